import PyProof.Rows.All
import Wide.All
import OpenK.AllK
import Wide.FinOn
import Lean
import PyProof.EqAt
import PyProof.EqKinds
import PyProof.TupleCall
import KE.KIsAll
import KE.KRevIter
import PyProof.P3In
import PyProof.P3Eq
import KE.KDictList
import KE.KDictSum
import KE.KDictLaws
import PyProof.ZipIter
import KE.KItemsList
import PySem.Challenge.RW_samebook_k05_equal_unlike_or_open
set_option maxHeartbeats 16000000
abbrev Gh:=@if_neg
abbrev Gm:=@if_pos
abbrev Gz:=@decide_eq_false
abbrev GX:=@decide_eq_true
abbrev TJ:=@of_decide_eq_true
abbrev Ds:=@if_false
abbrev Dz:=@beq_eq_false_iff_ne
abbrev Eb:=@or_false
abbrev Ey:=@beq_self_eq_true
abbrev Se:=@beq_iff_eq
abbrev Ss:=@if_true
abbrev FJ:=@and_true
open Option renaming some->Ga,none->Gg,map_some->TZ,isSome_map->DY,map_eq_some_iff->EK,ne_none_iff_exists'->Sk,isSome_iff_exists->Sz,isSome_some->LG,getD_none->Fk,none->Nr
open PySem renaming wpAny_bind->Gb,Addr->Gc,wpAny_pure->Ge,sizeLine->Gi,Shared->Gj,Program->Gk,World->Gv,boot_len->GO,sizeLine_eq->GQ,model->GY,Str->Ta,starEach->Td,FuncData->Tt,wpAny_call_entry->Tu,wpAny_newObj_type->Tv,wpAny_field->TF,PyData->TH,Around->TL,wpAny_callSpecial?_slot->TR,Expr->T1,wpAny_holding->T3,mainGlobals->T4,Stmt->T6,sysModules->T8,wpAny_Call_Name_kw->Db,wpAny_seqItems->Dc,mem_of_lookup->Dk,compareOp->Do,wpAny_dictEntries->Dy,wpAny_mono->DB,wpAny_setField_rec->DC,wpAny_typeNameOfWhole_keyiter->DF,IsPair->DG,wpAny_typeNameOfWhole_valiter->DI,wpAny_specialOf->DL,backTo->DN,cLine->DP,wpAny_passesOwn->DV,wpAny_truthy_bool->DX,wpAny_typeNameOf_keyiter->D2,wpAny_typeNameOf_valiter->D4,Obj->Ee,tupleKind_room_in1->Ei,wpAny_dictEpoch->Ej,DictEntry->Eo,builtinLookup_eq_fast->Es,wpAny_setField->Ev,wpAny_isInstance->Ez,wpAny_notOrdered_dict->EO,wpAny_isOneOf_valiter->ES,wpAny_rule->ET,wpAny_attempt->EW,NameKind->EY,ReadsAll->EZ,wpAny_pyIter_revIter->E1,wpAny_updateSeq_pair->E2,wpAny_execs_nil->E3,wpAny_updateSeq->E5,wpAny_ite_split->E6,typeLookup_type->E7,wpAny_pyIter_tuple->Sc,wpAny_fieldsOf->Sj,wpAny_letGo->Sw,wpAny_pyIter_slot->Sx,wpAny_comprehension_free->SD,wpAny_onRaise->SE,Scope->SG,wpAny_Call_method0_late->SH,wpAny_Dict_empty->SI,wpAny_pyNext_range_end->SN,wpAny_pyIter_rangeiter->SO,codeAny_mono->SR,wpAny_Call_method_late->SU,Pos->SW,IsZip->S0,wpAny_isTrue_Compare1->S9,wpAny_isOneOf_keyiter->La,wpAny_pyNext_rev_item->Lc,IsRangeIter->Lf,isSubtype_stop->Lj,wpAny_pyIter_keyiter->Ll,wpAny_pyNext_rev_end->Lm,evalArgs_none->Ls,wpAny_standAt->Lv,Reads->Lw,wpAny_handled->Lx,plainId_quiet->Ly,wpAny_pyIter_range->LA,IsPart->LD,call_meets->LF,wpAny_getItem_heap->LH,wpAny_setItem_heap->LI,call_reversed_list->LJ,Env->LL,Within->LM,wpAny_assign_Name->LN,BindsTo->LV,Keyword->LX,list_append->LY,call_meetsIn->L1,eqIsQuiet_byValue->L4,wpAny_pyIter_enum->L8,wpAny_pyHash_int->Fc,wpAny_pyHash_str->Fd,wpAny_execs_cons->Fe,wpAny_forIn_list->Fo,wpAny_of_eq->Fs,wpAny_throw->Ft,wpAny_ret_mkInt->Fw,codeAny_builtin->Fx,wpAny_Name->FC,call->FG,ZipApart->FL,wpAny_newTuple->FM,intBits_le_64->Mg,evalPart_none->Mv,call_list_seq->Mx,wpAny_in_heap->My,Result->MU,wpAny_typeOf->MX,seqIndex_neg->MY,seqIndex_of->Nq,HeapKind->Nu,wpAny_call->NK,typeIs_str->NM,PlainAttrs->NN,Params->NO,DefRec->RX,Sem->Bb,Tok->Bc
open PySem.W renaming Frag->Gd,findIn->GJ,kitOne->Te,isFn->Ti,keepIn->T9,kia_one->De,emptyDict->Dl,kia_tup->Dp,plainGet->Dq,hasDictIn->Dw,plainOver->DJ,instObj->DK,kitAny->DR,makesIn->DW,fnOf->Eg,mg_of->Ep,kitx_list->EG,kitx_dict->EH,nsIn->EM,methodCall_KW->EN,plainGet_of->E8,lookIn->Sd,callWith_K->Sg,codeIn->Sh,methodObj->Sq,cellsFrom_some->SS,takerIn->SX,OpenLaw->SY,callWith_K0->Lq,kitx_float->LB,kitx_tuple->LC,kitx_none->LP,kitx_bool->LQ,handedIn->Ff,kitx_int->Fg,kitx_str->Fh,kdl_call->Fp,KdlSrc->FI,WalkO->Mz,kdl_hint_values->MO,kdl_hint_dict->M8,hideAll_size->Nf,hideAll_none->Ng,truthy_bytes->Nm,looks_findIn->No,hideAll_get->Nx,findObj_own->Ny,looks_clsIn->Nz,kdu_collect->NB,of_hideAll->NE,codeRec_of->NL,pre_splitW->NP,mg_none_of->NR,len_bytes->NS,get_value->NT,method_fn->NU,set_plain->NV,make_core->NX,specialIn->NY,OpenLaw->NZ,kdx_alive->Rs,eq_bytes->RB,ne_bytes->RC,osa_open->RE,any_some->RF,InitBack->RG,makes_of->RH,kitx_own->RI,kdl_dict->RO,hideAll->RP,bind_fn->RQ,takesIn->RS,InstAt->RV,typeIn->RW,mroIn->RZ
open Bool renaming true->Gf,false->Gq,false_ne_true->Gw,and_eq_true->Tn,false_eq_true->TM,and_eq_true_iff->Eu,eq_iff_iff->ED,eq_false_iff->Su,or_false->Mw,not_true->MC,and_true->ME
open Nat renaming le_refl->Gn,zero_le->Gx,ne_of_lt->Tc,lt_of_lt_of_le->Tg,lt_or_ge->Tk,ne_of_gt->Ts,le_trans->TY,le_add_right->Di,lt_irrefl->DO,lt_succ_self->DQ,mul_le_mul_right->D0,add_lt_add_left->Ea,add_mul->Ef,le_succ->EF,min_eq_left->E4,lt_of_le_of_lt->Si,lt_add_of_pos_right->SJ,le_of_lt->SM,not_lt->LK,le_of_eq->LO,add_zero->L6,lt_succ_of_lt->L9,lt_trichotomy->Fa,min_le_right->Fj,le_of_not_lt->Fn,succ_ne_self->Fq,one_mul->Fv,mul_le_mul->FK,add_assoc->MA,lt_trans->M1
open Ne renaming symm->Gp
open PySem.Paired renaming length->Gr,snoc->DE
open PySem.F renaming plainAttrs_list->Gs,slot_list_append->GF,type_list_append->GV,plain_extend_loop->DA,slot_list_pop->DT,type_list_pop->DU,plainAttrs_dict->Ed,slot_dict_setdefault->Ek,type_dict_setdefault->El,slot_list_extend->EB,type_list_extend->EC,slot_dict_getitem->Sm,entry_extend_loop->So,slot_dict_values->SF,args_list_append_2->FH,args_dict_values_1->FN,entry_list_append->Mc,entry_dict_values->Me,args_list_init_2->MH,args_list_sort_1->MI,type_dict_values->MJ,typeCall_list_1->ML,entry_list_init->MM,entry_list_sort->MQ,slot_list_sort->M4,called_list->NA
open PySem.PyData renaming canLayAll0->Gu,depthAll->To,canLay0->Tp,eqvAll->Tw,eqv->TQ,strOk->TU,depth->Dg,int->Ew,list->Fu
open PySem.PassesOwn renaming never->Gy
open PyProof.Rows renaming boot_isinstance->Tb,boot_list->TD,boot_tuple->TX,callWith_type1->Du,slot_tuple_getitem->D9,subscriptTail_builtinR->EJ,boot_bool->EL,AllBare->Sr,IntsAre->SV,boot_str->Le,Constant_none->Lu,callWith_builtin1->Fi,wpAny_notIn_heap->Fl,isnot_none_gen->FD,slicePart_none->FE,Subscript_->FF,zipApart_new->Md,boot_reversed->MD,boot_sorted->MK,isTrue_plain->MR,boot_abs->M9,boot_int->Nb,boot_min->Nc,is_none_gen->Ni,isTrue_and->NF,boot_range->NG,Call_->RU
open Array renaming getElem?_eq_getElem->Tf,length_toList->Tz,getElem?_toList->T5,getElem?_eq_none->Dh,toArray_toList->DZ,forIn_toList->EE,append_assoc->Lz,size_push->Fy,toList->MT
open Option.some renaming inj->Tj,injEq->N9
open PySem.NameKind renaming free->Tq,cell->SA
open Int renaming emod_lt_of_pos->Tx,emod_nonneg->TV,toNat_natCast->Dm,toNat->DD,zero_add->EA,mul_le_mul_of_nonneg_right->EV,ediv_one->MV,le_of_lt->M7,pow_pos->Nw
open True renaming intro->TC
open Prod.mk renaming injEq->Df
open Or renaming inl->Dj,inr->Er
open PySem.Str renaming ofString->Dx,empty->Em
open ForInStep renaming yield->DM
open PySem.Obj renaming data_mapFields->DS,mapSeq->Et,isFreed_of_fields->ER,mapFields->EX,cls_mapFields->Sy,data_mapDictKeys->Lh
open PySem.Calls renaming callWith_builtin->Eh,spliced_nil->EI,Name_function_global->Sa,spliced_cons->Sf,call_function_entry->Sn,evalArgs_plain->Lg,call_len_list->Lp
open Classical renaming choose->EU,choose_spec->Lb,byContradiction->Mf
open Sum renaming inl->E9,inr->SK
open PyProof renaming noPylong_small->SQ
open PySem.Around renaming under_plainId->Lo,under->LR
open PySem.Code renaming isFrame->LU,frames->Np
open Prod renaming ext->LW
open PySem.AutoSeq1 renaming list_extend_list_list_0->LZ
open PySem.SeqAt renaming compareEq_reads->Fz,compareNe_reads->FA,eqAt_reads->M3
open PySem.EqNone renaming eq_none_none->FP,eq_none_bool->FQ,eq_bool_none->FR,ne_none_none->FU,ne_none_bool->FX,ne_bool_none->FZ,eq_none_int->Mh,eq_none_str->Mi,eq_int_none->Mj,eq_str_none->Mm,ne_none_int->Mo,ne_none_str->Mq,ne_int_none->Mr,ne_str_none->Mt
open PySem.EqMixed renaming eq_bool_str->FS,eq_str_bool->FT,ne_bool_str->Ma,ne_str_bool->Mb,eq_int_str->Ml,eq_str_int->Mn,ne_int_str->Ms,ne_str_int->Mu
open PySem.Shared renaming TypeIs->MF,heap->Nv
open PySem.MeetsSeq renaming list_pop_last->MZ
open PySem.CmpOp renaming NotIn->Nh,In->RT
open PySem.Data renaming fields->Nj,cell->RA,seq->RY
open PySem.Walks renaming range->Nk
open PySem.IsRange renaming new->Nl
open PySem.SeqAt.EqAt renaming int_str->NC,str_int->ND
open PySem.P renaming truthy_int->NH,truthy_str->NI,add_list->RL
open PySem.W.Looks renaming here->NJ
open PySem.W.WShape renaming has->NQ
open PySem.Within renaming cons->NW
open PySem.DictEntry renaming refKey->RD
open PyProof.Rows.IsTup renaming new->RJ
open PySem.IsL renaming update->RK
open PySem.W.WData renaming int->RM
open PySem.Expr renaming Call->RN
open Function renaming comp->Ba
open Sum.inl renaming inj->Bd
open Sum.inr renaming inj->Be
open PySem.W.OpenLaw renaming pre->Bf
abbrev Xb:=@rfl
set_option Elab.async false
set_option linter.all false
set_option maxRecDepth 100000
local macro_rules
 |`(tactic|eq_refl)=>`(tactic|first
  |exact⟨Xb,Xb,Xb,by decide+kernel,Xb,by decide+kernel,by decide+kernel⟩
  |exact⟨by rfl,by decide+kernel,by decide+kernel,by decide+kernel⟩
  |exactλ_ _ _ _ _ _ us hl=>match us,hl with|[_],_=>rfl
  |exactλ_ _ _ _ _ _ us hl=>match us,hl with|[_,_],_=>rfl
  |exactλ_ _ _ _ _ _ us hl=>match us,hl with|[_,_,_],_=>rfl
  |exactλ_ _ _ _ _ _ us hl=>match us,hl with|[_,_,_,_],_=>rfl
  |exactλ_ _ _ _ _ _ us hl=>match us,hl with|[_,_,_,_,_],_=>rfl)
namespace L2
open PySem PySem.Spec PyProof.Rows
variable{a b C:Gc}{P:Gk}{w:Gv}{o:Ee}{t' i k n:Nat}{N ps:List Ta}{x:Ta}{M:Model}{A:TL}{E Q:Value->Gj->Prop}{u:Value}{e c tg:T1}{s:Gj}{pins:List (Gc×Ee)}{pos:SW}{op:CmpOp}{K:Gd}{body:List T6}{fp:List Gc}{pl:Bb Bool}{f:Value->Value->Bb Value}{us:List Value}{kw:List (Ta×Value)}{mg:Ta->Option Value}
abbrev Xs:=Sum Int Ta
def Qc5:Xs->Value->Bool
 |.inl k,v=>Value.isInt k v
 |.inr x,v=>Value.isStrOf x v
def Q2f(w:Gv):Xs->Int
 |.inl k=>hashInt k
 |.inr x=>hashStr w x
theorem Yv:∀{k:Xs}{v:Value},Qc5 k v=Gf->(∃i t,k=E9 i/\v=Value.int i t)\/(∃x t,k=SK x/\v=Value.str x t)
 |.inl i,v,h=>by obtain⟨t,e⟩:=Value.isInt_shape (k:=i) (v:=v) h;exact .inl ⟨i,t,Xb,e⟩
 |.inr x,v,h=>by obtain⟨t,e⟩:=Value.isStrOf_shape (x:=x) (v:=v) h;exact .inr ⟨x,t,Xb,e⟩
theorem Qn5(i:Int)(t:Bc):Qc5 (.inl i) (.int i t)=Gf:=by simp[Qc5,Value.isInt]
theorem Qng(x:Ta)(t:Bc):Qc5 (.inr x) (.str x t)=Gf:=by simp[Qc5,Value.isStrOf]
theorem Qx3(a b:Int):decide ((E9 a:Xs)=E9 b)=(a==b):=by
 by_cases e:a=b
 ·subst e;simp
 ·have h:¬(E9 a:Xs)=E9 b:=λq=>e (Bd q);rw[Gz h];exact(Dz.mpr e).symm
theorem Qxj(a b:Ta):decide ((SK a:Xs)=SK b)=decide (a=b):=by
 by_cases e:a=b
 ·subst e;simp
 ·have h:¬(SK a:Xs)=SK b:=λq=>e (Be q);rw[Gz h,Gz e]
theorem Qyk(a:Int)(b:Ta):decide ((E9 a:Xs)=SK b)=Gq:=Gz (λq=>nomatch q)
theorem Qx0(a:Ta)(b:Int):decide ((SK a:Xs)=E9 b)=Gq:=Gz (λq=>nomatch q)
def Yk(prog:Gk)(w:Gv):PySem.KeyKind prog w Xs where
 is:=Qc5
 hash:=Q2f w
 inj:=λv a b f hb=>by
  rcases Yv f with⟨i,t,rfl,rfl⟩|⟨x,t,rfl,rfl⟩
  ·rcases Yv hb with⟨j,u,rfl,e⟩|⟨y,u,rfl,e⟩
   ·injection e with c _;rw[c]
   ·exact nomatch e
  ·rcases Yv hb with⟨j,u,rfl,e⟩|⟨y,u,rfl,e⟩
   ·exact nomatch e
   ·injection e with c _;rw[c]
 byValue:=λk v h=>by rcases Yv h with⟨i,t,rfl,rfl⟩|⟨x,t,rfl,rfl⟩<;>rfl
 pyHash:=λd h=>by
  rcases Yv d with⟨i,t,rfl,rfl⟩|⟨x,t,rfl,rfl⟩
  ·exact Fc h
  ·exact Fd h
 eqBool:=λg d h=>by
  rcases Yv g with⟨i,t,rfl,rfl⟩|⟨x,t,rfl,rfl⟩
  ·rcases Yv d with⟨j,u,rfl,rfl⟩|⟨y,u,rfl,rfl⟩
   ·rw[Qx3]at h;exact wpAny_eqBool_int h
   ·rw[Qyk]at h;exact NC i t y u _ _ _ _ h
  ·rcases Yv d with⟨j,u,rfl,rfl⟩|⟨y,u,rfl,rfl⟩
   ·rw[Qx0]at h;exact ND x t j u _ _ _ _ h
   ·rw[Qxj]at h;exact wpAny_eqBool_str h
 «strs»:=λk x t v h=>by
  rcases Yv h with⟨i,u,rfl,e⟩|⟨y,u,rfl,e⟩
  ·exact nomatch e
  ·injection e with c _;subst c;cases v<;>rfl
theorem Qi7(prog:Gk)(w:Gv)(i:Int)(t:Bc):(Yk prog w).is (.inl i) (.int i t)=Gf:=Qn5 i t
theorem Qim(prog:Gk)(w:Gv)(x:Ta)(t:Bc):(Yk prog w).is (.inr x) (.str x t)=Gf:=Qng x t
inductive V where
 |non|bl (b:Bool)|int (i:Int)|str (x:Ta)|byt (b:Array UInt8)|flt (b:UInt64)|ref (a:Gc)|ty (n:String)
 deriving DecidableEq
variable{v:V}{vs xs:List V}
def RelV:V->Value->Prop
 |.non,u=>u=Value.none
 |.bl b,u=>u=Value.bool b
 |.int i,u=>∃t,u=Value.int i t
 |.str x,u=>∃t,u=Value.str x t
 |.byt b,u=>∃t,u=Value.bytes b t
 |.flt b,u=>∃t,u=Value.float b t
 |.ref a,u=>u=Value.ref a
 |.ty n,u=>u=Value.type n
abbrev Zv:List V->List Value->Prop:=Paired RelV
theorem Zv.length{xs:List V}{us:List Value}(r:Zv xs us):xs.length=us.length:=Gr r
theorem Zv.get:∀{xs:List V}{us:List Value}{i:Nat}{x:V},Zv xs us->xs[i]?=Ga x->∃u,us[i]?=Ga u/\RelV x u
 |_,_,_,_,.nil,e=>by simp at e
 |_,_,0,_,.cons r _,e=>by simp at e;subst e;exact⟨_,Xb,r⟩
 |_,_,i+1,x,.cons _ t,e=>by obtain⟨u,h1,h2⟩:=Zv.get (i:=i) (x:=x) t (by simpa using e);exact⟨u,by simpa using h1,h2⟩
theorem Zv.append:∀{xs ys:List V}{us a:List Value},Zv xs us->Zv ys a->Zv (xs++ys) (us++a)
 |_,_,_,_,.nil,s=>s
 |_,_,_,_,.cons r t,s=>.cons r (Zv.append t s)
theorem Zv.take:∀{xs:List V}{us:List Value}(n:Nat),Zv xs us->Zv (xs.take n) (us.take n)
 |_,_,0,_=>.nil
 |_,_,_+1,.nil=>.nil
 |_,_,n+1,.cons r t=>.cons r (Zv.take n t)
theorem Zv.drop:∀{xs:List V}{us:List Value}(n:Nat),Zv xs us->Zv (xs.drop n) (us.drop n)
 |_,_,0,r=>r
 |_,_,_+1,.nil=>.nil
 |_,_,n+1,.cons _ t=>Zv.drop n t
def Jq:Option V->Option Value->Prop
 |some v,Ga u=>RelV v u
 |none,Gg=>True
 |_,_=>False
def KV{κ:Type}:List (κ×V)->List (κ×Value)->Prop:=Paired λ(p:κ×V)(q:κ×Value)=>p.1=q.1/\RelV p.2 q.2
def kV:Xs->V
 |.inl i=>.int i
 |.inr x=>.str x
inductive HO where
 |lst (xs:List V)
 |tup (xs:List V)
 |dK (kvs:List (Xs×V))|dT (kvs:List (List Xs×V))
 |set (S:Int->Bool) (n:Nat)
 |ins (C dx:Gc) (fs:List (Ta×V))
 |own (x:Gc)
 |xd (fs:List (Ta×V))
 |met (f x:Gc)
 |rng (lo hi:Int)
 |frz (o:Ee) (u:HO)
 |tbl (ps:Array Value)
 |ext (φ:Heap->Prop)
abbrev Hp:=Gc->Option HO
variable{H:Hp}
def upd(H:Hp)(a:Gc)(o:HO):Hp:=λb=>if b=a then Ga o else H b
theorem Qb{H:Hp}{a:Gc}{o:HO}:upd H a o a=Ga o:=by unfold upd;rw[Gm rfl]
theorem Qf{o:HO}(h:b≠a):upd H a o b=H b:=by unfold upd;rw[Gh h]
theorem U7{o u:HO}:upd (upd H a o) a u=upd H a u:=by
 funext b;unfold upd;split<;>rfl
theorem Zh{o u:HO}(h:H a=Ga o)(h':H b=Ga u)(d:o≠u):a≠b:=by intro e;subst e;rw[h]at h';exact d (Tj h')
theorem Qc{o:HO}(h:H a=Ga o)(h':H b=Gg):a≠b:=by intro e;subst e;rw[h]at h';cases h'
section
variable(P:Gk)(w:Gv)
def Z1(H:Hp)(h:Heap)(a:Gc):HO->Prop
 |.lst xs=>xs.length<=Gi/\∃(its:List Value)(n:Nat),Zv xs its/\h.get? a=Ga {cls:=.type "list",data:=.seq its.toArray n}
 |.tup xs=>xs.length<=Gi/\∃its:List Value,Zv xs its/\IsTup h a its.toArray
 |.dK kvs=>kvs.length<=Gi/\(a==T8)=Gq/\∃vs,KV kvs vs/\h.DictOf (Yk P w) a vs
 |.dT kvs=>kvs.length<=Gi/\(a==T8)=Gq/\∃xs:List (List Xs×Gc×Value),
   Paired (λ(p:List Xs×V)(q:List Xs×Gc×Value)=>p.1=q.1/\H q.2.1=Ga (.tup (p.1.map kV))/\RelV p.2 q.2.2) kvs xs/\
   ∃o es ep,h.get? a=Ga o/\o.ExactDict/\o.data=.dict es ep/\es.toList=xs.map (entryOfKey (tupleKind (Yk P w)))/\(xs.map (·.1)).Nodup
 |.set S n=>h.SetOf (intKind P w) a S n
 |.ins C dx fs=>H dx=Ga (.own a)/\fs.length<=1000/\dx≠a/\h.get? a=Ga (DK C dx)/\
   ∃mA,h.Ns1 dx mA/\(∀f,Jq (fs.lookup f) (mA f))/\LM mA (fs.map (·.1))
 |.own _=>∃o,h.get? a=Ga o
 |.xd fs=>∃mA,h.Ns1 a mA/\∀f,Jq (fs.lookup f) (mA f)
 |.rng lo hi=>∃t u v,h.get? a=Ga {cls:=.type "range",data:=.fields #[.int lo t,.int hi u,.int 1 v]}
 |.frz o u=>h.get? a=Ga o/\Z1 H h a u
 |.tbl ps=>h.get? a=Ga {cls:=.none,data:=.fields ps}
 |.met f x=>h.get? a=Ga (Sq (.ref f) (.ref x))
 |.ext φ=>φ h/\(∃o,h.get? a=Ga o)/\∀h1 h2:Heap,φ h1->(∀o,h1.get? a=Ga o->h2.get? a=Ga o)->φ h2
def Iy(H:Hp)(h:Heap):Prop:=∀a o,H a=Ga o->Z1 P w H h a o
end
section
variable{P:Gk}{w:Gv}{H H':Hp}{h h':Heap}{a:Gc}{o:HO}
theorem Z1.lt(x:Z1 P w H h a o):a<h.objs.size:=by
 cases o with
 |lst xs=>obtain⟨_,_,_,_,e⟩:=x;exact Heap.lt_size e
 |tup xs=>obtain⟨_,_,_,p⟩:=x;exact p.lt
 |dK kvs=>obtain⟨_,_,_,_,o,_,_,e,_⟩:=x;exact Heap.lt_size e
 |dT kvs=>obtain⟨_,_,_,_,o,_,_,e,_⟩:=x;exact Heap.lt_size e
 |set S n=>obtain⟨o,_,_,_,e,_⟩:=x;exact Heap.lt_size e
 |ins C dx fs=>obtain⟨_,_,_,e,_⟩:=x;exact Heap.lt_size e
 |own y=>obtain⟨_,e⟩:=x;exact Heap.lt_size e
 |xd fs=>obtain⟨_,⟨_,_,_,e,_⟩,_⟩:=x;exact Heap.lt_size e
 |rng lo hi=>obtain⟨_,_,_,e⟩:=x;exact Heap.lt_size e
 |frz ob u=>obtain⟨e,_⟩:=x;exact Heap.lt_size e
 |tbl ps=>exact Heap.lt_size (show h.get? a=Ga _ from x)
 |met f y=>exact Heap.lt_size (show h.get? a=Ga _ from x)
 |ext φ=>obtain⟨_,⟨_,e⟩,_⟩:=x;exact Heap.lt_size e
theorem Paired.Z7{α β:Type}{F G:α->β->Prop}:∀{c:List α}{l₂:List β},Paired F c l₂->(∀a b,F a b->G a b)->Paired G c l₂
 |_,_,.nil,_=>.nil
 |_,_,.cons r t,f=>.cons (f _ _ r) (Paired.Z7 t f)
theorem Z1.Qh9(x:Z1 P w H h a o)(k:∀b u,(b=a\/H b=Ga (.own a))->h.get? b=Ga u->h'.get? b=Ga u)
  (i:∀b,H b=Ga (.own a)->H' b=Ga (.own a))(j:∀b xs,H b=Ga (.tup xs)->H' b=Ga (.tup xs)):Z1 P w H' h' a o:=by
 induction o with
 |lst xs=>obtain⟨z,its,n,r,e⟩:=x;exact⟨z,its,n,r,k _ _ (.inl Xb) e⟩
 |tup xs=>obtain⟨z,its,r,ob,e,c⟩:=x;exact⟨z,its,r,ob,k _ _ (.inl Xb) e,c⟩
 |dK kvs=>obtain⟨z,y,vs,r,ob,es,ep,e,c⟩:=x;exact⟨z,y,vs,r,ob,es,ep,k _ _ (.inl Xb) e,c⟩
 |dT kvs=>obtain⟨z,y,xs,r,ob,es,ep,e,c⟩:=x;exact⟨z,y,xs,Paired.Z7 r λp q z=>⟨z.1,j _ _ z.2.1,z.2.2⟩,ob,es,ep,k _ _ (.inl Xb) e,c⟩
 |set S n=>obtain⟨ob,es,ep,t,e,c⟩:=x;exact⟨ob,es,ep,t,k _ _ (.inl Xb) e,c⟩
 |ins C dx fs=>obtain⟨d,z,ne,e,mA,⟨od,es,ep,g,c⟩,r⟩:=x;exact⟨i _ d,z,ne,k _ _ (.inl Xb) e,mA,⟨od,es,ep,k _ _ (.inr d) g,c⟩,r⟩
 |own y=>obtain⟨ob,e⟩:=x;exact⟨ob,k _ _ (.inl Xb) e⟩
 |xd fs=>obtain⟨mA,⟨od,es,ep,e,c⟩,r⟩:=x;exact⟨mA,⟨od,es,ep,k _ _ (.inl Xb) e,c⟩,r⟩
 |rng lo hi=>obtain⟨t,u,v,e⟩:=x;exact⟨t,u,v,k _ _ (.inl Xb) e⟩
 |frz ob u l=>obtain⟨e,q⟩:=x;exact⟨k _ _ (.inl Xb) e,l q⟩
 |tbl ps=>have e:h.get? a=Ga {cls:=.none,data:=.fields ps}:=x;show h'.get? a=Ga {cls:=.none,data:=.fields ps};exact k a _ (.inl Xb) e
 |met f y=>have e:h.get? a=Ga (Sq (.ref f) (.ref y)):=x;show h'.get? a=Ga (Sq (.ref f) (.ref y));exact k a _ (.inl Xb) e
 |ext φ=>obtain⟨p,⟨o,e⟩,st⟩:=x;exact⟨st _ _ p λo q=>k _ _ (.inl Xb) q,⟨o,k _ _ (.inl Xb) e⟩,st⟩
theorem Iy.lt(x:Iy P w H h)(e:H a=Ga o):a<h.objs.size:=(x a o e).lt
theorem Iy.fresh(x:Iy P w H h)(e:h.objs.size<=a):H a=Gg:=by
 cases q:H a with
 |none=>rfl
 |some u=>exact absurd (Tg (x.lt q) e) (DO _)
theorem Iy.kept(x:Iy P w H h)(k:∀b u,h.get? b=Ga u->h'.get? b=Ga u):Iy P w H h':=λa o e=>(x a o e).Qh9 (λb u _ q=>k b u q) (λ_ q=>q) λ_ _ q=>q
theorem Iy.laid(x:Iy P w H h)(k:∀b u,h.get? b=Ga u->h'.get? b=Ga u)(f:h.objs.size<=a)(new:Z1 P w (upd H a o) h' a o):Iy P w (upd H a o) h':=λb u e=>by
 have d:=x.fresh f;by_cases hb:b=a
 ·subst hb;rw[Qb]at e;cases e;exact new
 ·rw[Qf hb]at e;exact(x b u e).Qh9 (λc v _ q=>k c v q) (λc q=>by rw[Qf (Qc q d)];exact q) λc xs q=>by rw[Qf (Qc q d)];exact q
end
def Rd(H:Hp)(a:Gc)(u:HO):Prop:=H a=Ga u\/∃o,H a=Ga (.frz o u)
theorem Rd.ok{h:Heap}{u:HO}(r:Rd H a u)(x:Iy P w H h):Z1 P w H h a u:=by
 rcases r with r|⟨o,r⟩
 ·exact x a u r
 ·obtain⟨_,q⟩:=x a _ r;exact q
def Mut:Option HO->Prop
 |some (.lst _)=>True
 |some (.dK _)=>True
 |some (.dT _)=>True
 |some (.set _ _)=>True
 |some (.ins _ _ _)=>True
 |some (.ext _)=>True
 |_=>False
section
variable{P:Gk}{w:Gv}{H:Hp}{h h':Heap}{x e:Gc}{o':HO}
theorem Iy.write(ok:Iy P w H h)(mu:Mut (H x))(j:e=x\/H e=Ga (.own x))(k:∀b u,b≠e->h.get? b=Ga u->h'.get? b=Ga u)(i:∃u,h'.get? e=Ga u)
  (new:Z1 P w (upd H x o') h' x o'):Iy P w (upd H x o') h':=λb u q=>by
 have d:∀c y,H c=Ga (.own y)->c≠x:=λc y r z=>by subst z;rw[r]at mu;exact mu
 have f:∀c xs,H c=Ga (.tup xs)->c≠x:=λc xs r z=>by subst z;rw[r]at mu;exact mu
 by_cases hb:b=x
 ·subst hb;rw[Qb]at q;cases q;exact new
 ·rw[Qf hb]at q;by_cases a:b=e
  ·have l:H b=Ga (.own x):=by
    rcases j with z|z
    ·exact absurd (a.trans z) hb
    ·rw[a];exact z
   rw[q]at l;cases l;obtain⟨v,m⟩:=i;exact⟨v,by rw[a];exact m⟩
  ·refine(ok b u q).Qh9 (λc v g r=>k c v ?_ r) (λc r=>by rw[Qf (d c b r)];exact r) λc xs r=>by rw[Qf (f c xs r)];exact r
   rcases g with rfl|g
   ·exact a
   ·rintro rfl;rcases j with z|z
    ·exact d c b g z
    ·rw[g]at z;cases z;exact hb rfl
end
structure Un(fs ex:List Gc)(H H':Hp)(h h':Heap):Prop where
 keep:∀b o,h.get? b=Ga o->H b=Gg->b∉fs->b∉ex->h'.get? b=Ga o
 slot:∀b o,h.get? b=Ga o->H b=Gg->b∈fs->b∉ex->∃sl,h'.get? b=Ga {o with slots:=sl}
 free:∀b o,h.get? b=Ga o->H b=Gg->b∉ex->H' b=Gg
 there:∀b o,h.get? b=Ga o->b∉ex->∃o',h'.get? b=Ga o'
 Ql:∀b xs,H b=Ga (.tup xs)->H' b=Ga (.tup xs)
 Of:∀b o u,H b=Ga (.frz o u)->H' b=Ga (.frz o u)
 Qbf:∀b ps,H b=Ga (.tbl ps)->∃more,H' b=Ga (.tbl (ps++more))
section
variable{fs fs' ex ex':List Gc}{H H1 H2:Hp}{h h1 h2 h':Heap}{a x e:Gc}{o:HO}
theorem Un.any(u:Un fs ex H H1 h h1){ob:Ee}(q:h.get? b=Ga ob)(n:H b=Gg)(a:b∉ex):∃sl,h1.get? b=Ga {ob with slots:=sl}:=by
 by_cases hb:b∈fs
 ·exact u.slot b ob q n hb a
 ·exact⟨ob.slots,u.keep b ob q n hb a⟩
theorem Un.trans(a:Un fs ex H H1 h h1)(b:Un fs ex H1 H2 h1 h2):Un fs ex H H2 h h2 where
 keep:=λc ob q n f d=>b.keep c ob (a.keep c ob q n f d) (a.free c ob q n d) f d
 slot:=λc ob q n f d=>by obtain⟨sl,e⟩:=a.slot c ob q n f d;obtain⟨i,g⟩:=b.slot c _ e (a.free c ob q n d) f d;exact⟨i,g⟩
 free:=λc ob q n d=>by obtain⟨o',e⟩:=a.there c ob q d;exact b.free c o' e (a.free c ob q n d) d
 there:=λc ob q d=>by obtain⟨o',e⟩:=a.there c ob q d;exact b.there c o' e d
 Ql:=λc xs q=>b.Ql c xs (a.Ql c xs q)
 Of:=λc ob xs q=>b.Of c ob xs (a.Of c ob xs q)
 Qbf:=λc ps q=>by obtain⟨j,e⟩:=a.Qbf c ps q;obtain⟨k,g⟩:=b.Qbf c _ e;exact⟨j++k,by rw[g,Lz]⟩
theorem Un.kept(k:∀b u,h.get? b=Ga u->h'.get? b=Ga u):Un fs ex H H h h':=
 ⟨λb ob q _ _ _=>k b ob q,λb ob q _ _ _=>⟨ob.slots,k b ob q⟩,λ_ _ _ n _=>n,λb ob q _=>⟨ob,k b ob q⟩,λ_ _ q=>q,λ_ _ _ q=>q,λ_ ps q=>⟨#[],by rw[q];simp⟩⟩
theorem Un.refl:Un fs ex H H h h:=Un.kept λ_ _ q=>q
theorem Un.laid(k:∀b u,h.get? b=Ga u->h'.get? b=Ga u)(d:h.objs.size<=a)(c:H a=Gg):Un fs ex H (upd H a o) h h' where
 keep:=λb u q _ _ _=>k b u q
 slot:=λb u q _ _ _=>⟨u.slots,k b u q⟩
 free:=λb u q n _=>by rw[Qf (Tc (Tg (Heap.lt_size q) d))];exact n
 there:=λb u q _=>⟨u,k b u q⟩
 Ql:=λb xs q=>by rw[Qf (Qc q c)];exact q
 Of:=λb u xs q=>by rw[Qf (Qc q c)];exact q
 Qbf:=λb ps q=>⟨#[],by rw[Qf (Qc q c),q];simp⟩
theorem Un.write(mu:Mut (H x))(g:e=x\/H e=Ga (.own x))(k:∀b u,b≠e->h.get? b=Ga u->h'.get? b=Ga u)(c:∃u,h'.get? e=Ga u):Un fs ex H (upd H x o) h h':=by
 have f:∀b,H b=Gg->b≠x:=λb n z=>by subst z;rw[n]at mu;exact mu
 have hb:∀b,H b=Gg->b≠e:=λb n z=>by
  subst z;rcases g with r|r
  ·exact f b n r
  ·rw[n]at r;cases r
 have d:∀b u,H b=Ga u->¬Mut (Ga u)->b≠x:=λb u q i z=>by subst z;rw[q]at mu;exact i mu
 refine⟨λb u q n _ _=>k b u (hb b n) q,λb u q n _ _=>⟨u.slots,k b u (hb b n) q⟩,λb u q n _=>by rw[Qf (f b n)];exact n,λb u q _=>?_,
  λb xs q=>by rw[Qf (d b _ q λz=>z)];exact q,λb u xs q=>by rw[Qf (d b _ q λz=>z)];exact q,λb ps q=>⟨#[],by rw[Qf (d b _ q λz=>z),q];simp⟩⟩
 by_cases a:b=e
 ·subst a;exact c
 ·exact⟨u,k b u a q⟩
end
def trk(h:Heap)(H:Hp):List Gc:=(List.range h.objs.size).filter λa=>(H a).isSome
def Qfx(h:Heap)(H:Hp):Heap:=RP h (trk h H)
theorem Qow(h:Heap)(H:Hp):(Qfx h H).objs.size=h.objs.size:=Nf _ _
theorem Qpl{h:Heap}(e:h.get? b=Ga o)(n:H b=Gg):(Qfx h H).get? b=Ga o:=
 Nx _ e λa=>by have q:(H b).isSome=Gf:=(List.mem_filter.mp a).2;rw[n]at q;simp at q
theorem Qux{h:Heap}(e:(Qfx h H).get? b=Ga o):h.get? b=Ga o/\H b=Gg:=by
 have a:h.get? b=Ga o:=NE (trk h H) e;refine⟨a,?_⟩;cases q:H b with
 |none=>rfl
 |some x=>have c:b∈trk h H:=List.mem_filter.mpr ⟨List.mem_range.mpr (Heap.lt_size a),by simp[q]⟩;have z:(Qfx h H).get? b=Gg:=Ng (trk h H) c;rw[z]at e;cases e
def Qu6(g h:Heap)(L:Gc):List (Gc×Ee):=(List.range h.objs.size).filterMap λa=>if a=L\/(g.get? a).isSome=Gf then Gg else(h.get? a).map λo=>(a,o)
def Xy(g h:Heap)(L d:Gc):List (Gc×Ee):=(Qu6 g h L).filter λp=>decide (p.1≠d)
structure Mod(K:Gd)(mg:Ta->Option Value)(base:Heap):Prop where
 kin:K.In base
 glob:base.Ns T4 mg
 blt:∃mb,base.Ns builtinsNs mb/\∀x:Ta,x≠"__name__"->mb x=bootBuiltins x
 nolimit:base.NoLimit
structure Cx where
 prog:Gk
 w:Gv
 K:Gd
 mg:Ta->Option Value
 base:Heap
 A:TL
 N:List Ta
 s₀:Gj
 H₀:Hp
 env:LL
 outer:List LL
 stack:List LL
 ex:List Gc
 fn:Ta->Bool
 calm:Bool
 pn:List (Gc×Ee)
 xe:Value->Gj->Prop
variable{X:Cx}
def frs(l:List LL):List Gc:=l.filterMap (·.frame)
abbrev Cx.fs(X:Cx):List Gc:=frs X.outer
def Vis(a:SG)(x:Ta):Prop:=a.names.lookup x=Ga .local\/a.names.lookup x=Ga .cell\/a.names.lookup x=Ga .free
def Loc(a:SG)(x:Ta):Prop:=a.names.lookup x=Ga .local\/a.names.lookup x=Ga .cell
def Look(env:LL)(h:Heap)(m:Ta->Option Value)(x:Ta)(u:Value):Prop:=
 (env.kindOf x=Ga .local/\m x=Ga u)\/((env.kindOf x=Ga .cell\/env.kindOf x=Ga .free)/\∃c,env.cells.lookup x=Ga c/\h.IsCell c (Ga u))
structure Cx.Ok(X:Cx):Prop where
 mod:Mod X.K X.mg X.base
 kind:X.env.scope.kind=.function
 glob:X.env.globals=T4
 blt:X.env.builtins=builtinsNs
 above:X.s₀.heap.objs.size<=X.env.locals
 inj:∀x y c,X.env.cells.lookup x=Ga c->X.env.cells.lookup y=Ga c->x=y
 has:∀x,(X.env.kindOf x=Ga .cell\/X.env.kindOf x=Ga .free)->∃c,X.env.cells.lookup x=Ga c
 cab:∀x c,X.fn x=Gf->X.env.cells.lookup x=Ga c->X.s₀.heap.objs.size<=c
 hd:X.calm=Gf->X.A.handled=Gg
 frames:X.A.frames=Ga X.stack
 stk:X.stack=X.outer\/(X.stack=X.env::X.outer/\X.env.frame=Ga X.env.locals)
 exf:∀b∈X.ex,b≠X.env.locals/\∀x c,X.env.cells.lookup x=Ga c->c≠b
 bs:∀b o,X.base.get? b=Ga o->X.s₀.heap.get? b=Ga o/\X.H₀ b=Gg
 bsz:X.base.objs.size<=X.s₀.heap.objs.size
 Qqf:∀b o,X.base.get? b=Ga o->b∉X.ex
 Qvk:∀b∈X.ex,b∉X.fs
 Qbj:X.s₀.heap.FunFrames X.base X.outer
 frf:∀b∈X.fs,X.H₀ b=Gg
structure Inv(X:Cx)(pins:List (Gc×Ee))(σ:List (Option V))(H:Hp)(s:Gj):Prop where
 ok:X.Ok
 os:s.os=X.s₀.os
 bare:Sr s.gens
 base:Un X.fs X.ex X.H₀ H X.s₀.heap s.heap
 loc:∃m,s.heap.Ns X.env.locals m/\∀(i:Nat)(x:Ta)(v:V),X.N[i]?=Ga x->σ[i]?=Ga (Ga v)->Vis X.env.scope x->∃u,RelV v u/\Look X.env s.heap m x u
 cell:∀x c,X.env.cells.lookup x=Ga c->∃v,s.heap.IsCell c v
 free:H X.env.locals=Gg
 Jk:∀x c,X.env.cells.lookup x=Ga c->H c=Gg
 pin:∀p∈X.pn++pins,s.heap.get? p.1=Ga p.2/\H p.1=Gg/\p.1≠X.env.locals/\p.1∉X.fs/\∀v,p.2.data≠.cell v
 Zw:Iy X.prog X.w H s.heap
 len:σ.length=X.N.length
section
variable{X:Cx}{pins:List (Gc×Ee)}{σ:List (Option V)}{H H':Hp}{s:Gj}{h':Heap}
theorem Cx.Ok.Q19(ok:X.Ok)(e:X.base.get? b=Ga o):b∉X.fs:=λhb=>by have:=(ok.Qbj.mem hb).1;rw[e]at this;cases this
theorem Inv.bs(I:Inv X pins σ H s):∀b o,X.base.get? b=Ga o->s.heap.get? b=Ga o/\H b=Gg:=λb o e=>⟨I.base.keep b o (I.ok.bs b o e).1 (I.ok.bs b o e).2 (I.ok.Q19 e) (I.ok.Qqf b o e),I.base.free b o (I.ok.bs b o e).1 (I.ok.bs b o e).2 (I.ok.Qqf b o e)⟩
theorem Inv.bk(I:Inv X pins σ H s):∀b o,X.base.get? b=Ga o->s.heap.get? b=Ga o:=λb o e=>(I.bs b o e).1
theorem Inv.mod(I:Inv X pins σ H s):Mod X.K X.mg X.base:=I.ok.mod
theorem Inv.Jn(I:Inv X pins σ H s):X.K.In s.heap:=I.ok.mod.kin.keeps I.bk
theorem Inv.lt(I:Inv X pins σ H s):X.env.locals<s.heap.objs.size:=let⟨_,hn,_⟩:=I.loc;hn.lt
theorem Inv.sz(I:Inv X pins σ H s):X.s₀.heap.objs.size<=s.heap.objs.size:=TY I.ok.above (SM I.lt)
theorem Inv.Q1l(I:Inv X pins σ H s)(h:s.heap.objs.size<=a):a∉X.fs:=λhb=>by obtain⟨_,o,b,_⟩:=I.ok.Qbj.mem hb;exact absurd (Tg (Heap.lt_size b) (TY I.sz h)) (DO _)
theorem Inv.cne(I:Inv X pins σ H s):∀x c,X.env.cells.lookup x=Ga c->c≠X.env.locals:=λx c e z=>by obtain⟨v,o,d,hd⟩:=I.cell x c e;obtain⟨m,⟨o',es,ep,b,a,_⟩,_⟩:=I.loc;rw[z,b]at d;cases d;rw[a]at hd;cases hd
theorem Inv.Qbj(I:Inv X pins σ H s):s.heap.FunFrames X.base X.outer:=by
 have all:∀(l:List LL),(∀b∈frs l,b∈X.fs)->X.s₀.heap.FunFrames X.base l->s.heap.FunFrames X.base l:=by
  intro l;induction l with
  |nil=>intro _ _;trivial
  |cons env r k=>intro d g;obtain⟨f,⟨L,o,c,h,i,hd⟩,j⟩:=g;have a:L∈X.fs:=d L (by unfold frs;rw[List.filterMap_cons,c];exact List.mem_cons_self);obtain⟨sl,e⟩:=I.base.slot L o i (I.ok.frf L a) a λz=>I.ok.Qvk L z a;exact⟨f,⟨L,_,c,h,e,hd⟩,k (λb hb=>d b (by unfold frs;rw[List.filterMap_cons,c];exact List.mem_cons_of_mem _ hb)) j⟩
 exact all X.outer (λ_ hb=>hb) I.ok.Qbj
theorem Inv.stack(I:Inv X pins σ H s):s.heap.FunFrames X.base X.stack:=by
 rcases I.ok.stk with e|⟨e,a⟩
 ·rw[e];exact I.Qbj
 ·rw[e];obtain⟨m,b,_⟩:=I.loc;refine .cons (by rw[I.ok.kind];decide) a b ?_ I.Qbj;exact Heap.get?_none_of_le (TY I.ok.bsz I.ok.above)
theorem Inv.Qgu(I:Inv X pins σ H s):∀b∈frs X.stack,b∈X.env.locals::X.fs:=λb hb=>by
 rcases I.ok.stk with e|⟨e,a⟩
 ·rw[e]at hb;exact List.mem_cons_of_mem _ hb
 ·rw[e]at hb;unfold frs at hb;rw[List.filterMap_cons,a]at hb;exact hb
theorem Inv.Qlp(I:Inv X pins σ H s):∀b∈frs X.stack,H b=Gg:=λb hb=>by
 rcases List.mem_cons.mp (I.Qgu b hb)with e|hb
 ·rw[e];exact I.free
 ·obtain⟨_,o,a,_⟩:=I.ok.Qbj.mem hb;exact I.base.free b o a (I.ok.frf b hb) λz=>I.ok.Qvk b z hb
theorem Inv.step{g':Array GenState}{t':Nat}{d':Drawn}{ch:List Gc}(I:Inv X pins σ H s)
  (g:∀b∈ch,(b∈X.ex\/X.s₀.heap.objs.size<=b)/\b≠X.env.locals/\(∀x c,X.env.cells.lookup x=Ga c->c≠b)/\∀p∈X.pn++pins,p.1≠b)
  (keep:∀b o,b≠X.env.locals->b∉X.fs->b∉ch->s.heap.get? b=Ga o->H b=Gg->h'.get? b=Ga o)
  (slot:∀b o,b≠X.env.locals->b∈X.fs->b∉ch->s.heap.get? b=Ga o->H b=Gg->∃sl,h'.get? b=Ga {o with slots:=sl})(free:∀b o,b∉ch->s.heap.get? b=Ga o->H b=Gg->H' b=Gg)
  (there:∀b o,b∉ch->s.heap.get? b=Ga o->∃o',h'.get? b=Ga o')
  (Ql:∀b xs,H b=Ga (.tup xs)->H' b=Ga (.tup xs))(Of:∀b o u,H b=Ga (.frz o u)->H' b=Ga (.frz o u))(Qbf:∀b ps,H b=Ga (.tbl ps)->∃more,H' b=Ga (.tbl (ps++more)))
  (ns:∀m,s.heap.Ns X.env.locals m->h'.Ns X.env.locals m)(Zw:Iy X.prog X.w H' h')(J:Sr g'):
  Inv X pins σ H' {s with heap:=h',gens:=g',drawn:=d',toks:=t'}:=by
 have B:∀b o,X.s₀.heap.get? b=Ga o->b≠X.env.locals:=λb o e=>Tc (Tg (Heap.lt_size e) I.ok.above);have t:∀b o,X.s₀.heap.get? b=Ga o->b∉X.ex->b∉ch:=λb o e a hb=>by
  rcases(g b hb).1 with z|z
  ·exact a z
  ·exact absurd (Tg (Heap.lt_size e) z) (DO _)
 have f:∀x c,X.env.cells.lookup x=Ga c->∀v,s.heap.IsCell c v->h'.IsCell c v:=λx c e v⟨o,y,hd⟩=>by
  have h:c∉ch:=λz=>(g c z).2.2.1 x c e rfl;by_cases D:c∈X.fs
  ·obtain⟨sl,q⟩:=slot c o (I.cne x c e) D h y (I.Jk x c e);exact⟨_,q,hd⟩
  ·exact⟨o,keep c o (I.cne x c e) D h y (I.Jk x c e),hd⟩
 refine⟨I.ok,I.os,J,⟨λb o e n hb a=>?_,λb o e n hb a=>?_,λb o e n a=>?_,λb o e a=>?_,λb xs e=>Ql b xs (I.base.Ql b xs e),λb o xs e=>Of b o xs (I.base.Of b o xs e),λb ps e=>?_⟩,?_,λx c e=>?_,?_,λx c e=>?_,λp E=>?_,Zw,I.len⟩
 ·exact keep b o (B b o e) hb (t b o e a) (I.base.keep b o e n hb a) (I.base.free b o e n a)
 ·obtain⟨sl,j⟩:=I.base.slot b o e n hb a;obtain⟨C,A⟩:=slot b _ (B b o e) hb (t b o e a) j (I.base.free b o e n a);exact⟨C,A⟩
 ·obtain⟨o',j⟩:=I.base.there b o e a;exact free b o' (t b o e a) j (I.base.free b o e n a)
 ·obtain⟨o',j⟩:=I.base.there b o e a;exact there b o' (t b o e a) j
 ·obtain⟨M,j⟩:=I.base.Qbf b ps e;obtain⟨N,A⟩:=Qbf b _ j;exact⟨M++N,by rw[A,Lz]⟩
 ·obtain⟨m,L,K⟩:=I.loc;refine⟨m,ns m L,λi x v j A G=>?_⟩;obtain⟨u,r,l⟩:=K i x v j A G;refine⟨u,r,?_⟩;rcases l with l|⟨k,c,e,z⟩
  ·exact .inl l
  ·exact .inr ⟨k,c,e,f x c e _ z⟩
 ·obtain⟨v,z⟩:=I.cell x c e;exact⟨v,f x c e v z⟩
 ·obtain⟨m,⟨o,_,_,y,_⟩,_⟩:=I.loc;exact free _ o (λz=>(g _ z).2.1 Xb) y I.free
 ·obtain⟨v,o,y,hd⟩:=I.cell x c e;exact free c o (λz=>(g c z).2.2.1 x c e Xb) y (I.Jk x c e)
 ·obtain⟨e,n,ne,F,d⟩:=I.pin p E;have h:p.1∉ch:=λz=>(g p.1 z).2.2.2 p E rfl;exact⟨keep p.1 p.2 ne F h e n,free p.1 p.2 h e n,ne,F,d⟩
theorem Inv.un(I:Inv X pins σ H s)(u:Un X.fs [] H H' s.heap h')(Zw:Iy X.prog X.w H' h'):Inv X pins σ H' {s with heap:=h',toks:=t'}:=by obtain⟨m,⟨o,es,ep,f,r⟩,_⟩:=id I.loc;obtain⟨sl,g⟩:=u.any f I.free (by simp);exact I.step (g':=s.gens) (d':=s.drawn) (ch:=[]) (λ_ z=>nomatch z) (λb o _ hb _ e n=>u.keep b o e n hb (by simp)) (λb o _ hb _ e n=>u.slot b o e n hb (by simp)) (λb o _ e n=>u.free b o e n (by simp)) (λb o _ e=>u.there b o e (by simp)) u.Ql u.Of u.Qbf (λj h=>by obtain⟨o',d,c,a,i⟩:=h;rw[f]at a;cases a;exact⟨_,d,c,g,i⟩) Zw I.bare
theorem Inv.call{g':Array GenState}{d':Drawn}{ch:List Gc}(I:Inv X pins σ H s)(u:Un (frs X.stack) ch H H' s.heap h')(Zw:Iy X.prog X.w H' h')(k:Sr g')
  (d:∀b∈ch,(b∈X.ex\/X.s₀.heap.objs.size<=b)/\b≠X.env.locals/\(∀x c,X.env.cells.lookup x=Ga c->c≠b)/\∀p∈X.pn++pins,p.1≠b):
  Inv X pins σ H' {s with heap:=h',gens:=g',drawn:=d',toks:=t'}:=by
 obtain⟨m,⟨o,es,ep,j,r⟩,_⟩:=id I.loc;obtain⟨sl,i⟩:=u.any j I.free λz=>(d _ z).2.1 rfl;exact I.step (ch:=ch) d (λb o i hb a e n=>u.keep b o e n (λz=>(List.mem_cons.mp (I.Qgu b z)).elim i hb) a) (λb o _ _ a e n=>u.any e n a) (λb o a e n=>u.free b o e n a) (λb o a e=>u.there b o e a) u.Ql u.Of u.Qbf (λt l=>by obtain⟨o',h,g,f,q⟩:=l;rw[j]at f;cases f;exact⟨_,h,g,i,q⟩) Zw k
theorem Inv.turned{it:Gc}(I:Inv X pins σ H s)(k:∀b o,b≠it->s.heap.get? b=Ga o->h'.get? b=Ga o)(i:H it=Gg)(f:it≠X.env.locals)
  (h1:it∈X.ex\/X.s₀.heap.objs.size<=it)(h2:∀x c,X.env.cells.lookup x=Ga c->c≠it)(g:∀p∈X.pn++pins,p.1≠it):Inv X pins σ H {s with heap:=h',toks:=t'}:=by
 have d:∀b u,H b=Ga u->b≠it:=λb u e z=>by rw[z,i]at e;cases e
 refine I.step (g':=s.gens) (d':=s.drawn) (ch:=[it]) (λb hb=>?_) (λb o _ _ a e _=>k b o (λz=>a (by simp[z])) e) (λb o _ _ a e _=>⟨o.slots,k b o (λz=>a (by simp[z])) e⟩) (λ_ _ _ _ n=>n)
  (λb o a e=>⟨o,k b o (λz=>a (by simp[z])) e⟩) (λ_ _ e=>e) (λ_ _ _ e=>e) (λb ps e=>⟨#[],by rw[e];simp⟩) (λm h=>?_) (λb u e=>?_) I.bare
 ·have e:b=it:=by simpa using hb
  subst e;exact⟨h1,f,h2,g⟩
 ·obtain⟨o,es,ep,j,r⟩:=h;exact⟨o,es,ep,k _ o (Gp f) j,r⟩
 ·refine(I.Zw b u e).Qh9 (λc v a q=>k c v ?_ q) (λ_ q=>q) λ_ _ q=>q;rcases a with z|z
  ·rw[z];exact d b u e
  ·exact d c _ z
theorem Inv.tok(I:Inv X pins σ H s)(t:Nat):Inv X pins σ H {s with toks:=t}:=I.un (h':=s.heap) (t':=t) Un.refl I.Zw
theorem Inv.kept{t':Nat}(I:Inv X pins σ H s)(k:∀b u,s.heap.get? b=Ga u->h'.get? b=Ga u):Inv X pins σ H {s with heap:=h',toks:=t'}:=I.un (Un.kept k) (I.Zw.kept k)
theorem Inv.laid{a:Gc}{o:HO}{t':Nat}(I:Inv X pins σ H s)(k:∀b u,s.heap.get? b=Ga u->h'.get? b=Ga u)(c:s.heap.objs.size<=a)(new:Z1 X.prog X.w (upd H a o) h' a o):
  Inv X pins σ (upd H a o) {s with heap:=h',toks:=t'}:=I.un (Un.laid k c (I.Zw.fresh c)) (I.Zw.laid k c new)
theorem Inv.write{x e:Gc}{o:HO}{t':Nat}(I:Inv X pins σ H s)(mu:Mut (H x))(c:e=x\/H e=Ga (.own x))(k:∀b u,b≠e->s.heap.get? b=Ga u->h'.get? b=Ga u)(a:∃u,h'.get? e=Ga u)
  (new:Z1 X.prog X.w (upd H x o) h' x o):Inv X pins σ (upd H x o) {s with heap:=h',toks:=t'}:=I.un (Un.write mu c k a) (I.Zw.write mu c k a new)
theorem Inv.Qm6{a:List (Gc×Ee)}(I:Inv X pins σ H s)(h:∀p∈a,s.heap.get? p.1=Ga p.2/\H p.1=Gg/\p.1≠X.env.locals/\p.1∉X.fs/\∀v,p.2.data≠.cell v):Inv X a σ H s:=
 ⟨I.ok,I.os,I.bare,I.base,I.loc,I.cell,I.free,I.Jk,λp b=>(List.mem_append.mp b).elim (λz=>I.pin p (List.mem_append_left _ z)) (h p),I.Zw,I.len⟩
theorem Qhr(e:N.Nodup){j:Nat}(a:N[i]?=Ga x)(b:N[j]?=Ga x):i=j:=by obtain⟨h1,c⟩:=List.getElem?_eq_some_iff.mp a;obtain⟨h2,d⟩:=List.getElem?_eq_some_iff.mp b;exact(List.getElem_inj e).mp (c.trans d.symm)
theorem Qe5{Q:Unit->Gj->Prop}(I:Inv X pins σ H s)(hN:X.N.Nodup)(hi:X.N[i]?=Ga x)(B:Loc X.env.scope x)(r:RelV v u)
  (h:∀s',Inv X pins (σ.set i (Ga v)) H s'->(∃a,Heap.SameBut a s.heap s'.heap/\(a=X.env.locals\/X.env.cells.lookup x=Ga a))->Q () s')(hf:X.fn x=Gf\/X.env.scope.names.lookup x=Ga .local:=by first|exact .inl rfl|exact .inr rfl|assumption):wpAny M A (storeName X.env x u) Q E s:=by
 obtain⟨m,W,hl⟩:=id I.loc;have P:(X.env.scope.kind==.class||(X.env.scope.kind==.module&&X.env.locals !=X.env.globals))=Gq:=by rw[I.ok.kind];rfl
 have F:i<σ.length:=by rw[I.len];exact(List.getElem?_eq_some_iff.mp hi).1
 have cne:=I.cne;have l:∀{a:Gc}{h':Heap},(∃o,s.heap.get? a=Ga o/\H a=Gg)->Heap.SameBut a s.heap h'->Iy X.prog X.w H h':=λ{a h'}ha f b ob e=>by
  obtain⟨_,_,C⟩:=ha;refine(I.Zw b ob e).Qh9 (λc U t q=>(f.2 c ?_).trans q) (λ_ q=>q) λ_ _ q=>q;rintro rfl;rcases t with rfl|t
  ·rw[C]at e;cases e
  ·rw[C]at t;cases t
 rcases B with G|G
 ·refine wpAny_storeName_local G W (λh' Y f=>?_) P;obtain⟨oL,_,_,Z,_⟩:=id W;refine h _ ⟨I.ok,I.os,I.bare,⟨λb o e n hb B=>?_,λb o e n hb B=>?_,I.base.free,λb o e B=>?_,I.base.Ql,I.base.Of,I.base.Qbf⟩,⟨_,Y,λj y v' g D V=>?_⟩,λy c e=>?_,I.free,I.Jk,λp hp=>?_,l ⟨oL,Z,I.free⟩ f,by simpa using I.len⟩ ⟨_,f,.inl Xb⟩
  ·exact(f.2 b (Tc (Tg (Heap.lt_size e) I.ok.above))).trans (I.base.keep b o e n hb B)
  ·obtain⟨sl,g⟩:=I.base.slot b o e n hb B;exact⟨sl,(f.2 b (Tc (Tg (Heap.lt_size e) I.ok.above))).trans g⟩
  ·obtain⟨o',g⟩:=I.base.there b o e B;exact⟨o',(f.2 b (Tc (Tg (Heap.lt_size e) I.ok.above))).trans g⟩
  ·by_cases K:j=i
   ·subst K;rw[hi]at g;cases g;rw[List.getElem?_set_self F]at D;cases D;exact⟨u,r,.inl ⟨G,by simp⟩⟩
   ·rw[List.getElem?_set_ne (Gp K)]at D;obtain⟨u',r',q⟩:=hl j y v' g D V;refine⟨u',r',?_⟩;rcases q with⟨k,e⟩|⟨k,c,e,z⟩
    ·refine .inl ⟨k,?_⟩;have:y≠x:=λe=>K (Qhr hN g (e▸hi));simp[this,e]
    ·exact .inr ⟨k,c,e,z.sameBut f (cne y c e)⟩
  ·obtain⟨U,z⟩:=I.cell y c e;exact⟨U,z.sameBut f (cne y c e)⟩
  ·obtain⟨e,n,ne,nf,d⟩:=I.pin p hp;exact⟨(f.2 p.1 ne).trans e,n,ne,nf,d⟩
 ·have J:X.fn x=Gf:=by
   rcases hf with z|z
   ·exact z
   ·rw[z]at G;cases G
  obtain⟨c,t⟩:=I.ok.has x (.inl G);obtain⟨U,z⟩:=I.cell x c t;refine wpAny_storeName_cell I.ok.kind G t z (λh' L f=>?_);obtain⟨oc,R,S⟩:=id z;refine h {s with heap:=h'} ⟨I.ok,I.os,I.bare,⟨λb o e n hb B=>?_,λb o e n hb B=>?_,I.base.free,λb o e B=>?_,I.base.Ql,I.base.Of,I.base.Qbf⟩,⟨m,W.sameBut f (Gp (cne x c t)),λj y v' g D V=>?_⟩,λy T e=>?_,I.free,I.Jk,λp hp=>?_,l ⟨oc,R,I.Jk x c t⟩ f,by simpa using I.len⟩ ⟨c,f,.inr t⟩
  ·exact(f.2 b (Tc (Tg (Heap.lt_size e) (I.ok.cab x c J t)))).trans (I.base.keep b o e n hb B)
  ·obtain⟨sl,g⟩:=I.base.slot b o e n hb B;exact⟨sl,(f.2 b (Tc (Tg (Heap.lt_size e) (I.ok.cab x c J t)))).trans g⟩
  ·obtain⟨o',g⟩:=I.base.there b o e B;exact⟨o',(f.2 b (Tc (Tg (Heap.lt_size e) (I.ok.cab x c J t)))).trans g⟩
  ·by_cases K:j=i
   ·subst K;rw[hi]at g;cases g;rw[List.getElem?_set_self F]at D;cases D;exact⟨u,r,.inr ⟨.inl G,c,t,L⟩⟩
   ·rw[List.getElem?_set_ne (Gp K)]at D;obtain⟨u',r',q⟩:=hl j y v' g D V;refine⟨u',r',?_⟩;rcases q with q|⟨k,T,e,z'⟩
    ·exact .inl q
    ·refine .inr ⟨k,T,e,z'.sameBut f ?_⟩;rintro rfl;exact K (Qhr hN g (I.ok.inj _ _ _ e t▸hi))
  ·by_cases O:T=c
   ·subst O;exact⟨_,L⟩
   ·obtain⟨w2,z2⟩:=I.cell y T e;exact⟨w2,z2.sameBut f O⟩
  ·obtain⟨e,n,ne,nf,d⟩:=I.pin p hp;refine⟨(f.2 p.1 ?_).trans e,n,ne,nf,d⟩;intro q;rw[q,R]at e;have q':oc=p.2:=Tj e;exact d U (by rw[<-q'];exact S)
theorem Qif{Q:Unit->Gj->Prop}(I:Inv X pins σ H s)(b:X.N.Nodup)(hi:X.N[i]?=Ga x)(d:Loc X.env.scope x)(r:RelV v u)
  (h:∀s',Inv X pins (σ.set i (Ga v)) H s'->Q () s')(c:X.fn x=Gf\/X.env.scope.names.lookup x=Ga .local:=by first|exact .inl rfl|exact .inr rfl|assumption):wpAny M A (storeName X.env x u) Q E s:=
 Qe5 I b hi d r (λs' a _=>h s' a) c
theorem Inv.Q0q{s':Gj}{ch:List Gc}(I:Inv X pins σ H s)(f:s'.os=s.os)(u:Un (frs X.stack) ch H H' s.heap s'.heap)(Zw:Iy X.prog X.w H' s'.heap)(d:Sr s'.gens)
  (a:∀b∈ch,(b∈X.ex\/X.s₀.heap.objs.size<=b)/\b≠X.env.locals/\(∀x c,X.env.cells.lookup x=Ga c->c≠b)/\∀p∈X.pn++pins,p.1≠b):Inv X pins σ H' s':=by
 obtain⟨h',g',d',t',o'⟩:=s';have e:o'=s.os:=f;subst e;exact I.call (g':=g') (t':=t') (d':=d') u Zw d a
end
abbrev XK:=Value->Option Gc->Hp->Prop
abbrev St:=List (Option V)
variable{σ:St}
abbrev VK:=V->Hp->Prop
abbrev TE:=St->Hp->VK->Prop
variable{t te:TE}
abbrev TT:=St->Hp->(Bool->Hp->Prop)->Prop
abbrev TA:=St->Hp->(List V->Hp->Prop)->Prop
structure Ends where
 nx:St->Hp->Prop
 rt:VK
 bk:St->Hp->Prop:=λ_ _=>False
 ct:St->Hp->Prop:=λ_ _=>False
variable{D:Ends}
abbrev TS:=Ends->St->Hp->Prop
variable{tb:TS}
def EP(X:Cx)(pins:List (Gc×Ee))(σ:St)(Q:VK)(u:Value)(s':Gj):Prop:=∃v H',Inv X pins σ H' s'/\RelV v u/\Q v H'
def TP(X:Cx)(pins:List (Gc×Ee))(σ:St)(Q:Bool->Hp->Prop)(b:Bool)(s':Gj):Prop:=∃H',Inv X pins σ H' s'/\Q b H'
def AP(X:Cx)(pins:List (Gc×Ee))(σ:St)(Q:List V->Hp->Prop)(us:List Value)(s':Gj):Prop:=∃vs H',Inv X pins σ H' s'/\Zv vs us/\Q vs H'
def SP(X:Cx)(pins:List (Gc×Ee))(D:Ends)(f:Flow)(s':Gj):Prop:=
 match f with
 |.next=>∃a H',Inv X pins a H' s'/\D.nx a H'
 |.brk=>∃a H',Inv X pins a H' s'/\D.bk a H'
 |.cont=>∃a H',Inv X pins a H' s'/\D.ct a H'
 |.ret u=>∃v a H',Inv X pins a H' s'/\RelV v u/\D.rt v H'
def PE(X:Cx)(e:T1)(t:TE):Prop:=
 ∀(pins:List (Gc×Ee))(s:Gj)(σ:St)(H:Hp)(Q:VK),Inv X pins σ H s->t σ H Q->wpAny (GY X.prog X.w) X.A (eval e X.env) (EP X pins σ Q) X.xe s
def PT(X:Cx)(e:T1)(t:TT):Prop:=
 ∀(pins:List (Gc×Ee))(s:Gj)(σ:St)(H:Hp)(Q:Bool->Hp->Prop),Inv X pins σ H s->t σ H Q->wpAny (GY X.prog X.w) X.A (isTrue e X.env (eval e X.env)) (TP X pins σ Q) X.xe s
def PW(X:Cx)(e:T1)(t:TT):Prop:=
 ∀(a:Bb Value)(pins:List (Gc×Ee))(s:Gj)(σ:St)(H:Hp)(Q:Bool->Hp->Prop),Inv X pins σ H s->t σ H Q->wpAny (GY X.prog X.w) X.A (isTrue e X.env a) (TP X pins σ Q) X.xe s
theorem PW.pt{t:TT}(h:PW X e t):PT X e t:=h _
def PA(X:Cx)(es:List T1)(t:TA):Prop:=
 ∀(pos:SW)(pins:List (Gc×Ee))(s:Gj)(σ:St)(H:Hp)(Q:List V->Hp->Prop),Inv X pins σ H s->t σ H Q->wpAny (GY X.prog X.w) X.A (spliced (DN pos (Td es X.env))) (AP X pins σ Q) X.xe s
def PS(X:Cx)(st:T6)(t:TS):Prop:=
 ∀(pins:List (Gc×Ee))(s:Gj)(σ:St)(H:Hp)(D:Ends),Inv X pins σ H s->t D σ H->wpAny (GY X.prog X.w) X.A (exec st X.env) (SP X pins D) X.xe s
def PSs(X:Cx)(st:List T6)(t:TS):Prop:=
 ∀(pins:List (Gc×Ee))(s:Gj)(σ:St)(H:Hp)(D:Ends),Inv X pins σ H s->t D σ H->wpAny (GY X.prog X.w) X.A (execs st X.env) (SP X pins D) X.xe s
theorem Yp{α:Type}{t:Bb α}{Q b:α->Gj->Prop}(h:wpAny M A t Q E s)(c:∀a s,Q a s->b a s):wpAny M A t b E s:=DB h c λ_ _ x=>x
section
variable{X:Cx}
theorem bin{a b:T1}{ta tb:TE}(i:PE X a ta)(hb:PE X b tb){R:V->V->Hp->Prop}(I:Inv X pins σ H s)(h:ta σ H λx H1=>tb σ H1 λy H2=>R x y H2)
  {α:Type}{Q:α->Gj->Prop}{f:Value->Value->Bb α}
  (j:∀v u s2 x y H2,Inv X pins σ H2 s2->RelV x v->RelV y u->R x y H2->wpAny (GY X.prog X.w) X.A (f v u) Q X.xe s2):
  wpAny (GY X.prog X.w) X.A (eval a X.env) (λv c=>wpAny (GY X.prog X.w) X.A (eval b X.env) (λu d=>wpAny (GY X.prog X.w) X.A (f v u) Q X.xe d) X.xe c) X.xe s:=by
 refine Yp (i pins s σ H _ I h) λv s1⟨x,H1,e,m,k⟩=>?_;refine Yp (hb pins s1 σ H1 _ e k) λu s2⟨y,H2,g,n,l⟩=>?_;exact j v u s2 x y H2 g m n l
def V2(i:Nat):TE:=λσ H Q=>∃v,σ[i]?=Ga (Ga v)/\Q v H
def tC(v:V):TE:=λ_ H Q=>Q v H
theorem Qw5(g:X.N[i]?=Ga x)(o:Vis X.env.scope x)(hd:(x==("__debug__":Ta))=Gq:=by decide)(d:(x==("__classdict__":Ta))=Gq:=by decide):PE X (.Name x pos) (V2 i):=by
 intro pins s σ H Q I h;obtain⟨v,e,h⟩:=h;obtain⟨m,n,j⟩:=I.loc;obtain⟨u,r,l⟩:=j i x v g e o;have fin:EP X pins σ Q u s:=⟨v,H,I,r,h⟩;rcases l with⟨b,k⟩|⟨b,c,f,a⟩
 ·exact FC (wpAny_loadName_local I.ok.kind b n k fin) hd
 ·rcases b with b|b
  ·exact FC (wpAny_loadName_cell I.ok.kind b f a fin) hd
  ·exact FC (wpAny_loadName_free I.ok.kind b f a fin d) hd
theorem Qj{i j pos}:PE X (.Constant (.int i) j pos) (tC (.int i)):=λ_ _ _ H _ I h=>wpAny_Constant_int ⟨.int i,H,I.tok _,⟨_,Xb⟩,h⟩
theorem Vd{b j pos}:PE X (.Constant (.bool b) j pos) (tC (.bl b)):=λ_ _ _ H _ I h=>Constant_bool ⟨.bl b,H,I,Xb,h⟩
theorem Uh{j pos}:PE X (.Constant .none j pos) (tC .non):=λ_ _ _ H _ I h=>Lu ⟨.non,H,I,Xb,h⟩
theorem Zf{x j pos}:PE X (.Constant (.str x) j pos) (tC (.str x)):=λ_ _ _ H _ I h=>Calls.Constant_str ⟨.str x,H,I.tok _,⟨_,Xb⟩,h⟩
def Gl(X:Cx)(x:Ta):Prop:=X.env.kindOf x=Ga .globalImplicit
theorem Qb0(I:Inv X pins σ H s)(a:Gl X x)(b:X.mg x=Ga u)(h:Q u s)
  (hd:(x==("__debug__":Ta))=Gq:=by decide):wpAny (GY X.prog X.w) X.A (eval (.Name x pos) X.env) Q E s:=
 Sa I.ok.kind a (Calls.loadGlobal_global (by rw[I.ok.glob];exact I.mod.glob.keeps I.bk) b h) hd
theorem Vu(I:Inv X pins σ H s)(a:Gl X x)(b:X.mg x=Gg)(d:bootBuiltins x=Ga u)(h:Q u s)
  (c:x≠"__name__":=by decide)(hd:(x==("__debug__":Ta))=Gq:=by decide):wpAny (GY X.prog X.w) X.A (eval (.Name x pos) X.env) Q E s:=by
 obtain⟨e,h1,h2⟩:=I.mod.blt;exact Sa I.ok.kind a (Calls.loadGlobal_builtin (by rw[I.ok.glob];exact I.mod.glob.keeps I.bk) b (by rw[I.ok.blt];exact h1.keeps I.bk) ((h2 x c).trans d) h) hd
theorem Oi(a:Gl X x)(b:X.mg x=Ga u)(r:RelV v u)(hd:(x==("__debug__":Ta))=Gq:=by decide):PE X (.Name x pos) (tC v):=
 λ_ _ _ H _ I h=>Qb0 I a b ⟨v,H,I,r,h⟩ hd
theorem Xr(a:Gl X x)(b:X.mg x=Gg)(d:bootBuiltins x=Ga u)(r:RelV v u)(c:x≠"__name__":=by decide)(hd:(x==("__debug__":Ta))=Gq:=by decide):PE X (.Name x pos) (tC v):=
 λ_ _ _ H _ I h=>Vu I a b d ⟨v,H,I,r,h⟩ c hd
variable{a b:T1}{ta tb:TE}{pos:SW}
def PC(X:Cx)(e:CmpOp)(a b:T1)(t:TE):Prop:=
 ∀(pins:List (Gc×Ee))(s:Gj)(σ:St)(H:Hp)(Q:VK),Inv X pins σ H s->t σ H Q->
  wpAny (GY X.prog X.w) X.A (eval a X.env) (λv c=>wpAny (GY X.prog X.w) X.A (eval b X.env) (λu d=>wpAny (GY X.prog X.w) X.A (Do e v u) (EP X pins σ Q) X.xe d) X.xe c) X.xe s
theorem Qqa(b:T1)(h:op≠.In)(h2:op≠.NotIn):behindInMarks op b=Gq:=by
 have a:(op==RT)=Gq:=by cases op<;>first|rfl|exact absurd rfl h
 have c:(op==Nh)=Gq:=by cases op<;>first|rfl|exact absurd rfl h2
 cases b<;>simp[behindInMarks,a,c]
def Q18(ta:TE):TE:=λσ H Q=>ta σ H λx H1=>Q (.bl (decide (x=.non))) H1
def Q0s(ta:TE):TE:=λσ H Q=>ta σ H λx H1=>Q (.bl (!decide (x=.non))) H1
theorem RelV.Qiv{x:V}{v:Value}(r:RelV x v):(v==Value.none)=decide (x=.non):=by
 cases x with
 |non=>cases r;rfl
 |bl _=>cases r;rfl
 |int _=>obtain⟨t,rfl⟩:=r;rfl
 |str _=>obtain⟨t,rfl⟩:=r;rfl
 |byt _=>obtain⟨t,rfl⟩:=r;rfl
 |flt _=>obtain⟨t,rfl⟩:=r;rfl
 |ref _=>cases r;rfl
 |ty _=>cases r;rfl
theorem Qxu{j pos'}(c:PE X a ta):PC X .Is a (.Constant .none j pos') (Q18 ta):=by intro pins s σ H Q I h;refine Yp (c pins s σ H _ I h) λv s1⟨x,H1,b,e,d⟩=>?_;exact Lu (Ni ⟨.bl _,H1,b,by rw[e.Qiv];rfl,d⟩)
theorem Ql2{j pos'}(c:PE X a ta):PC X .IsNot a (.Constant .none j pos') (Q0s ta):=by intro pins s σ H Q I h;refine Yp (c pins s σ H _ I h) λv s1⟨x,H1,b,e,d⟩=>?_;exact Lu (FD ⟨.bl _,H1,b,by rw[e.Qiv];rfl,d⟩)
def tB(t:TE):TT:=λσ H Q=>t σ H λx H1=>∃c,x=.bl c/\Q c H1
theorem Rj(h:PC X op a b t)(h1:behindInMarks op b=Gq:=by first|exact Qqa _ (by decide) (by decide)|rfl):PT X (.Compare a [op] [b] pos) (tB t):=by intro pins s σ H Q I hw;refine S9 (Yp (h pins s σ H _ I hw) λv s1 h1=>Yp h1 λu s2 h2=>Yp h2 λc i⟨x,H1,e,g,f⟩=>?_) h1;obtain⟨d,rfl,q⟩:=f;cases g;exact DX ⟨H1,e,q⟩
theorem Xu(h:PE X e t)(c:∀a,isTrue e X.env a=(do let v<-a;standAt e.pos;holding [v] (truthy v)):=by intro _;rfl):PT X e (tB t):=by intro pins s σ H Q I hw;refine MR (Yp (h pins s σ H _ I hw) λv s1⟨x,H1,b,g,f⟩=>?_) (c _);obtain⟨d,rfl,q⟩:=f;cases g;exact DX ⟨H1,b,q⟩
variable{tA tB':TT}{Xy:List T1}
def Q1p(t u:TT):TT:=λσ H Q=>t σ H λc H1=>if c=Gf then u σ H1 Q else Q Gq H1
def tOr(t u:TT):TT:=λσ H Q=>t σ H λc H1=>if c=Gf then Q Gf H1 else u σ H1 Q
def Q1j(t:TT):TT:=λσ H Q=>t σ H λc H1=>Q (!c) H1
theorem Wj(b:PT X a tA):PW X (.BoolOp .And [a] pos) tA:=by
 intro d pins s σ H Q I h;refine NF (Yp (b pins s σ H Q I h) λc s1 e=>?_);cases c with
 |true=>exact isTrue_and_nil e
 |false=>exact e
theorem Rh(b:PT X a tA):PW X (.BoolOp .Or [a] pos) tA:=by
 intro d pins s σ H Q I h;refine isTrue_or (Yp (b pins s σ H Q I h) λc s1 e=>?_);cases c with
 |false=>exact isTrue_or_nil e
 |true=>exact e
theorem Vh(f:PT X a tA)(hb:PW X (.BoolOp .And (b::Xy) pos) tB'):PW X (.BoolOp .And (a::b::Xy) pos) (Q1p tA tB'):=by
 intro g pins s σ H Q I h;refine NF (Yp (f pins s σ H _ I h) λc s1⟨H1,d,e⟩=>?_);cases c with
 |true=>exact hb g pins s1 σ H1 Q d e
 |false=>exact⟨H1,d,e⟩
theorem R5(f:PT X a tA)(hb:PW X (.BoolOp .Or (b::Xy) pos) tB'):PW X (.BoolOp .Or (a::b::Xy) pos) (tOr tA tB'):=by
 intro g pins s σ H Q I h;refine isTrue_or (Yp (f pins s σ H _ I h) λc s1⟨H1,d,e⟩=>?_);cases c with
 |true=>exact⟨H1,d,e⟩
 |false=>exact hb g pins s1 σ H1 Q d e
theorem I9(b:PT X a tA):PT X (.UnaryOp .Not a pos) (Q1j tA):=by intro pins s σ H Q I h;exact isTrue_not (b pins s σ H (λc H1=>Q (!c) H1) I h)
theorem Qw0{b}(h:PE X a t):PE X (.BoolOp b [a] pos) t:=λpins s σ H Q I hw=>BoolOp_one (h pins s σ H Q I hw)
def tIf(t:TT)(ta tb:TE):TE:=λσ H Q=>t σ H λc H1=>if c=Gf then ta σ H1 Q else tb σ H1 Q
theorem Qrw(i:PT X c tA)(g:PE X a ta)(hb:PE X b tb):PE X (.IfExp c a b pos) (tIf tA ta tb):=by
 intro pins s σ H Q I h;refine wpAny_IfExp (Yp (i pins s σ H _ I h) λd s1⟨H1,e,f⟩=>?_);cases d with
 |true=>exact g pins s1 σ H1 Q e f
 |false=>exact hb pins s1 σ H1 Q e f
end
def Zc(K:Gd)(H:Hp)(a:Gc)(xs:List V):Prop:=
 Rd H a (.lst xs)\/
  ∃(o:Ee)(its:Array Value)(n:Nat),K.lookup a=Ga o/\o.cls=.type "list"/\o.dict=Gg/\o.data=.seq its n/\its.size<=Gi/\Zv xs its.toList
def Z2(K:Gd)(H:Hp)(a:Gc)(xs:List V):Prop:=
 Rd H a (.tup xs)\/
  ∃(o:Ee)(its:Array Value)(n:Nat),K.lookup a=Ga o/\o.cls=.type "tuple"/\o.data=.seq its n/\its.size<=Gi/\Zv xs its.toList
def Q16:Value->Option V
 |.none=>Ga .non
 |.bool b=>Ga (.bl b)
 |.int i _=>Ga (.int i)
 |.str x _=>Ga (.str x)
 |.bytes b _=>Ga (.byt b)
 |.float b _=>Ga (.flt b)
 |.ref a=>Ga (.ref a)
 |.type n=>Ga (.ty n)
 |_=>Gg
theorem RelV.abs{x:V}(r:RelV x u):Q16 u=Ga x:=by
 cases x with
 |non=>cases r;rfl
 |bl _=>cases r;rfl
 |int _=>obtain⟨t,rfl⟩:=r;rfl
 |str _=>obtain⟨t,rfl⟩:=r;rfl
 |byt _=>obtain⟨t,rfl⟩:=r;rfl
 |flt _=>obtain⟨t,rfl⟩:=r;rfl
 |ref _=>cases r;rfl
 |ty _=>cases r;rfl
theorem RelV.inj{x y:V}{u:Value}(r:RelV x u)(q:RelV y u):x=y:=Tj (r.abs.symm.trans q.abs)
theorem Zv.inj:∀{xs ys:List V}{us:List Value},Zv xs us->Zv ys us->xs=ys
 |_,_,_,.nil,.nil=>rfl
 |_,_,_,.cons r t,.cons a t'=>by rw[r.inj a,Zv.inj t t']
section
variable{X:Cx}{pins:List (Gc×Ee)}{σ:St}{H:Hp}{s:Gj}{a:Gc}{xs ys:List V}
theorem Zc.of(h:H a=Ga (.lst xs)):Zc K H a xs:=.inl (.inl h)
theorem Z2.of(h:H a=Ga (.tup xs)):Z2 K H a xs:=.inl (.inl h)
theorem Inv.list(I:Inv X pins σ H s)(h:Zc X.K H a xs):∃its:List Value,Zv xs its/\PlainL s.heap a its.toArray/\xs.length<=Gi:=by
 rcases h with h|⟨o,its,n,c,b,hd,d,hz,r⟩
 ·obtain⟨z,its,n,r,e⟩:=h.ok I.Zw;exact⟨its,r,⟨_,n,e,Xb,Xb,Xb⟩,z⟩
 ·refine⟨its.toList,r,⟨o,n,I.Jn a o c,b,hd,by simpa using d⟩,?_⟩;have e:=r.length;simp only[Tz]at e;omega
theorem Inv.tuple(I:Inv X pins σ H s)(h:Z2 X.K H a xs):∃its:List Value,Zv xs its/\IsTup s.heap a its.toArray/\xs.length<=Gi:=by
 rcases h with h|⟨o,its,n,c,b,d,hz,r⟩
 ·obtain⟨z,its,r,p⟩:=h.ok I.Zw;exact⟨its,r,p,z⟩
 ·refine⟨its.toList,r,⟨o,I.Jn a o c,b,n,by simpa using d⟩,?_⟩;have e:=r.length;simp only[Tz]at e;omega
theorem Inv.Qdf(I:Inv X pins σ H s)(h:Zc X.K H a xs)(h':Zc X.K H a ys):xs=ys:=by
 obtain⟨its,r,⟨o,n,e,_,_,d⟩,_⟩:=I.list h;obtain⟨its',f,⟨o',g,b,_,_,d'⟩,_⟩:=I.list h';rw[e]at b;cases b;rw[d]at d';injection d' with c _;have:its=its':=by simpa using congrArg MT c
 subst this;exact r.inj f
theorem Inv.Qnw(I:Inv X pins σ H s)(h:Z2 X.K H a xs)(h':Z2 X.K H a ys):xs=ys:=by
 obtain⟨its,r,⟨o,e,_,n,d⟩,_⟩:=I.tuple h;obtain⟨its',f,⟨o',b,_,g,d'⟩,_⟩:=I.tuple h';rw[e]at b;cases b;rw[d]at d';injection d' with c _;have:its=its':=by simpa using congrArg MT c
 subst this;exact r.inj f
end
abbrev Cx.Qec(X:Cx)(E:Value->Gj->Prop):Cx:={X with xe:=E}
abbrev Cx.nox(X:Cx):Cx:=X.Qec λ_ _=>False
theorem Cx.Ok.Qec{X:Cx}(ok:X.Ok)(E:Value->Gj->Prop):(X.Qec E).Ok:=
 ⟨ok.mod,ok.kind,ok.glob,ok.blt,ok.above,ok.inj,ok.has,ok.cab,ok.hd,ok.frames,ok.stk,ok.exf,ok.bs,ok.bsz,ok.Qqf,ok.Qvk,ok.Qbj,ok.frf⟩
theorem Cx.Ok.Jz(ok:(X.Qec E).Ok):X.Ok:=
 ⟨ok.mod,ok.kind,ok.glob,ok.blt,ok.above,ok.inj,ok.has,ok.cab,ok.hd,ok.frames,ok.stk,ok.exf,ok.bs,ok.bsz,ok.Qqf,ok.Qvk,ok.Qbj,ok.frf⟩
section
variable{X:Cx}{pins:List (Gc×Ee)}{σ:St}{H:Hp}{s:Gj}{E:Value->Gj->Prop}
theorem Inv.Qec(I:Inv X pins σ H s)(E:Value->Gj->Prop):Inv (X.Qec E) pins σ H s:=⟨I.ok.Qec E,I.os,I.bare,I.base,I.loc,I.cell,I.free,I.Jk,I.pin,I.Zw,I.len⟩
theorem Inv.Jz(I:Inv (X.Qec E) pins σ H s):Inv X pins σ H s:=⟨I.ok.Jz,I.os,I.bare,I.base,I.loc,I.cell,I.free,I.Jk,I.pin,I.Zw,I.len⟩
theorem SP.Jz{D:Ends}{f:Flow}{s':Gj}(h:SP (X.Qec E) pins D f s'):SP X pins D f s':=by
 cases f with
 |next=>obtain⟨a,H',I,q⟩:=h;exact⟨a,H',I.Jz,q⟩
 |brk=>obtain⟨a,H',I,q⟩:=h;exact⟨a,H',I.Jz,q⟩
 |cont=>obtain⟨a,H',I,q⟩:=h;exact⟨a,H',I.Jz,q⟩
 |ret u=>obtain⟨v,a,H',I,r,q⟩:=h;exact⟨v,a,H',I.Jz,r,q⟩
theorem PSs.nox{st:List T6}{t:TS}(h:PSs X.nox st t):PSs X st t:=λpins s σ H D I hw=>DB (h pins s σ H D (I.Qec _) hw) (λ_ _ q=>q.Jz) λ_ _ z=>False.elim z
end
section
variable{X:Cx}{st:T6}{Xy:List T6}{t u:TS}{e:T1}{te:TE}{pos:SW}
def Qy7:TS:=λD σ H=>D.nx σ H
def Q2k(t u:TS):TS:=λD σ H=>t {D with nx:=u D} σ H
theorem Q6:PSs X [] Qy7:=λ_ _ σ H _ I h=>E3 ⟨σ,H,I,h⟩
theorem Qd(h1:PS X st t)(h2:PSs X Xy u):PSs X (st::Xy) (Q2k t u):=by
 intro pins s σ H D I h;refine Fe (Yp (h1 pins s σ H {D with nx:=u D} I h) λf s1 q=>?_);cases f with
 |next=>obtain⟨a,H',b,q⟩:=q;exact h2 pins s1 a H' D b q
 |ret v=>exact q
 |brk=>exact q
 |cont=>exact q
theorem Qh(h1:PS X st t):PSs X [st] t:=by
 intro pins s σ H D I h;refine Fe (Yp (h1 pins s σ H D I h) λf s1 q=>?_);cases f with
 |next=>exact E3 q
 |ret v=>exact q
 |brk=>exact q
 |cont=>exact q
def Q0j:TS:=λD σ H=>D.ct σ H
theorem Qh7:PS X (.Continue pos) Q0j:=λ_ _ σ H _ I h=>wpAny_Continue ⟨σ,H,I,h⟩
theorem Inv.quiet(I:Inv X pins σ H s):interactive X.env=Gq:=by simp[interactive,I.ok.kind]
def Qz1(te:TE):TS:=λD σ H=>te σ H λ_ H1=>D.nx σ H1
theorem Ze(b:PE X e te)(c:swapsWith e Gg pos.line X.env=pure Gq:=by rfl):PS X (.Expr e pos) (Qz1 te):=by intro pins s σ H D I h;exact wpAny_Expr_any (Yp (b pins s σ H _ I h) λv s1⟨x,H1,a,f,d⟩=>⟨σ,H1,a,d⟩) I.quiet c
def Q2l(te:TE):TS:=λD σ H=>te σ H D.rt
theorem Qu(b:PE X e te):PS X (.Return (Ga e) pos) (Q2l te):=by intro pins s σ H D I h;exact wpAny_Return_some (Yp (b pins s σ H _ I h) λv s1⟨x,H1,a,d,c⟩=>⟨x,σ,H1,a,d,c⟩)
def Qy2:TS:=λD _ H=>D.rt .non H
theorem Qtt:PS X (.Return Gg pos) Qy2:=λ_ _ σ H _ I h=>wpAny_Return_none ⟨.non,σ,H,I,Xb,h⟩
def Q15(c:TT)(t u:TS):TS:=λD σ H=>c σ H λb H1=>if b=Gf then t D σ H1 else u D σ H1
theorem Zn{a b:List T6}{tc:TT}(i:PT X c tc)(g:PSs X a t)(hb:PSs X b u):PS X (.If c a b pos) (Q15 tc t u):=by
 intro pins s σ H D I h;refine wpAny_If (Yp (i pins s σ H _ I h) λd s1⟨H1,e,f⟩=>?_);cases d with
 |true=>exact g pins s1 σ H1 D e f
 |false=>exact hb pins s1 σ H1 D e f
end
abbrev TG:=V->St->Hp->(St->Hp->Prop)->Prop
variable{g:TG}
abbrev TGs:=List V->St->Hp->(St->Hp->Prop)->Prop
def PG(X:Cx)(a:T1)(t:TG):Prop:=
 ∀(pins:List (Gc×Ee))(s:Gj)(σ:St)(H:Hp)(v:V)(u:Value)(Q:St->Hp->Prop),Inv X pins σ H s->RelV v u->t v σ H Q->
  wpAny (GY X.prog X.w) X.A (assign a X.env u) (λ_ s'=>∃b H',Inv X pins b H' s'/\Q b H') X.xe s
def PGs(X:Cx)(ts:List T1)(t:TGs):Prop:=
 ∀(pins:List (Gc×Ee))(s:Gj)(σ:St)(H:Hp)(vs:List V)(us:List Value)(Q:St->Hp->Prop),Inv X pins σ H s->Zv vs us->t vs σ H Q->
  wpAny (GY X.prog X.w) X.A (assignInOrder ((assignEach ts X.env).map (·.2)) us) (λ_ s'=>∃a H',Inv X pins a H' s'/\Q a H') X.xe s
abbrev Qvl:=V->V->V->Hp->(Hp->Prop)->Prop
def Qyz(X:Cx)(t:Qvl):Prop:=
 ∀(pins:List (Gc×Ee))(s:Gj)(σ:St)(H:Hp)(o i v:V)(ov a u:Value)(Q:Hp->Prop),Inv X pins σ H s->RelV o ov->RelV i a->RelV v u->t o i v H Q->
  wpAny (GY X.prog X.w) X.A (setItem ov a u) (λ_ s'=>∃H',Inv X pins σ H' s'/\Q H') X.xe s
section
variable{X:Cx}{pos:SW}
def Vl(i:Nat):TG:=λv σ H Q=>Q (σ.set i (Ga v)) H
theorem Xc(b:X.N.Nodup)(hi:X.N[i]?=Ga x)(d:Loc X.env.scope x)(c:X.fn x=Gf\/X.env.scope.names.lookup x=Ga .local:=by first|exact .inl rfl|exact .inr rfl|assumption):PG X (.Name x pos) (Vl i):=by intro pins s σ H v u Q I r h;exact LN (Qif I b hi d r (λs' a=>⟨_,H,a,h⟩) c)
theorem Ya(i:Nat)(a:X.N.Nodup)(hi:X.N[i]?=Ga x:=by rfl)(c:Loc X.env.scope x:=by exact Dj Xb)(b:X.fn x=Gf\/X.env.scope.names.lookup x=Ga .local:=by first|exact .inl rfl|exact .inr rfl|assumption):PG X (.Name x pos) (Vl i):=Xc a hi c b
def Qx5:TGs:=λvs σ H Q=>vs=[]/\Q σ H
def Qib(t:TG)(u:TGs):TGs:=λvs σ H Q=>∃v r,vs=v::r/\t v σ H λa H'=>u r a H' Q
theorem X5:PGs X [] Qx5:=by intro pins s σ H vs us Q I r h;obtain⟨e,h⟩:=h;subst e;cases r;exact assignInOrder_nil ⟨σ,H,I,h⟩
theorem Zl{es:List T1}{t:TG}{u:TGs}(h1:PG X e t)(h2:PGs X es u)
  (d:(assignEach (e::es) X.env).map (·.2)=assign e X.env::(assignEach es X.env).map (·.2):=by rfl):PGs X (e::es) (Qib t u):=by
 intro pins s σ H vs us Q I r h;obtain⟨v,i,c,h⟩:=h;subst c;cases r with
 |cons r g=>rw[d];refine assignInOrder_cons (Yp (h1 pins s σ H _ _ _ I r h) λ_ s1⟨a,H1,b,f⟩=>?_);exact h2 pins s1 a H1 _ _ Q b g f
def Qw2(K:Gd)(n:Nat)(t:TGs):TG:=λv σ H Q=>∃a xs,v=.ref a/\Z2 K H a xs/\xs.length=n/\t xs σ H Q
theorem Vi{es:List T1}{t:TGs}(g:X.calm=Gf)(h:PGs X es t)
  (j:(assignEach es X.env).length=n:=by rfl)(c:(assignEach es X.env).findIdx? (·.1)=Gg:=by rfl):PG X (.Tuple es k pos) (Qw2 X.K n t):=by
 intro pins s σ H v u Q I r hw;obtain⟨a,xs,f,l,i,hw⟩:=hw;subst f;cases r;obtain⟨its,rv,m,hz⟩:=I.tuple l;refine assign_Tuple_tuple (I.ok.hd g) m (by simp[j,<-i,rv.length]) c λh' p=>?_;have d:Inv X pins σ H {s with heap:=h'}:=I.kept (t':=s.toks) λb o e=>p b o (Tc (Heap.lt_size e)) e;exact h pins _ σ H xs _ Q d (by simpa using rv) hw
def Q1r(to ti:TE)(t:Qvl):TG:=λv σ H Q=>to σ H λo H1=>ti σ H1 λi H2=>t o i v H2 λa=>Q σ a
theorem Qcc{o i:T1}{to ti:TE}{t:Qvl}(g:PE X o to)(hi:PE X i ti)(j:Qyz X t)
  (f:∀v,assign (.Subscript o i pos) X.env v=(do
   let ov<-holding [v] (eval o X.env)
   let a<-holding [v,ov] (eval i X.env)
   standAt pos
   holding [v,ov,a] (setItem ov a v)
   release [v,ov,a] []):=by intro _;rfl):PG X (.Subscript o i pos) (Q1r to ti t):=by
 intro pins s σ H v u Q I r h;rw[f];refine Gb (T3 (Yp (g pins s σ H _ I h) λov s1⟨x,H1,c,n,k⟩=>?_));refine Gb (T3 (Yp (hi pins s1 σ H1 _ c k) λa s2⟨y,H2,d,p,l⟩=>?_));refine Gb (Lv (Gb (T3 (Yp (j pins s2 σ H2 x y v ov a u _ d n p r l) λ_ q⟨b,e,m⟩=>?_))));exact wpAny_release ⟨σ,b,e,m⟩
def Qt6(te:TE)(g:TG):TS:=λD σ H=>te σ H λx H1=>g x σ H1 D.nx
theorem O0(b:PE X e te)(c:PG X tg g)(d:swapsWithSole [tg] e pos.line X.env=pure Gq:=by rfl)(hw:swappedStores [tg] e X.env=pure Gg:=by rfl)
  (h1:(assignEach [tg] X.env).map (·.2)=[assign tg X.env]:=by rfl):PS X (.Assign [tg] e pos) (Qt6 te g):=by
 intro pins s σ H D I h;refine wpAny_Assign_stores (Yp (b pins s σ H _ I h) λv s1⟨x,H1,a,i,f⟩=>?_) d hw;rw[h1];exact Yp (c pins s1 σ H1 x v _ a i f) λ_ s2 q=>q
theorem Ud{pos':SW}(c:X.N.Nodup)(hi:X.N[i]?=Ga x)(j:Loc X.env.scope x)(d:PE X e te)(g:swapsWith e (Ga (.Name x pos')) pos.line X.env=pure Gq:=by rfl)(f:X.fn x=Gf\/X.env.scope.names.lookup x=Ga .local:=by first|exact .inl rfl|exact .inr rfl|assumption):
  PS X (.Assign [.Name x pos'] e pos) (Qt6 te (Vl i)):=by
 intro pins s σ H D I h;refine wpAny_Assign_Name (Yp (d pins s σ H _ I h) λv s1⟨y,H1,a,l,k⟩=>?_) g;exact Qif a c hi j l (λs2 b=>⟨_,H1,b,k⟩) f
theorem Qs(i:Nat){pos':SW}(a:X.N.Nodup)(b:PE X e te)(hi:X.N[i]?=Ga x:=by rfl)(f:Loc X.env.scope x:=by exact Dj Xb)(d:swapsWith e (Ga (.Name x pos')) pos.line X.env=pure Gq:=by rfl)(c:X.fn x=Gf\/X.env.scope.names.lookup x=Ga .local:=by first|exact .inl rfl|exact .inr rfl|assumption):PS X (.Assign [.Name x pos'] e pos) (Qt6 te (Vl i)):=Ud a hi f b d c
end
section
variable{X:Cx}{pos:SW}
def Qqe(c:TT)(tb:TS):TS:=λD σ H=>∃W:Nat->St->Hp->Prop,(∃m,W m σ H)/\∀m σ H,W m σ H->
 c σ H λb H1=>if b=Gf then∃N:St->Hp->Prop,(∀a H',N a H'->∃d,d<m/\W d a H')/\tb {D with nx:=N,ct:=N,bk:=D.nx} σ H1 else D.nx σ H1
theorem Vb{tc:TT}(r:PassesOwn (GY X.prog X.w) X.A X.env X.xe)(u:PT X c tc)(hb:PSs X body tb):PS X (.While c body [] pos) (Qqe tc tb):=by
 intro pins s σ H D I h;obtain⟨W,⟨m0,x⟩,turn⟩:=h;refine wpAny_While (codeAny_whileLoop (λn s'=>∃g H',Inv X pins g H' s'/\W n g H') ?_ m0 ⟨σ,H,I,x⟩);rintro n s1 ⟨d,H1,t,y⟩;refine DV r (Yp (u pins s1 d H1 _ t (turn n d H1 y)) λb s2⟨H2,p,i⟩=>?_);cases b with
 |true=>
  obtain⟨N,q,i⟩:=i;rw[Gm rfl];refine DV r (Yp (hb pins s2 d H2 _ p i) λf z j=>?_);cases f with
  |next=>obtain⟨a,e,k,n3⟩:=j;obtain⟨m,l,o⟩:=q a e n3;exact⟨m,l,a,e,k,o⟩
  |cont=>obtain⟨a,e,k,n3⟩:=j;obtain⟨m,l,o⟩:=q a e n3;exact⟨m,l,a,e,k,o⟩
  |brk=>exact j
  |ret v=>exact j
 |false=>rw[Gh Gw];exact E3 ⟨d,H2,p,i⟩
end
structure It where
 go:Nat->Hp->Prop
 yld:Nat->Hp->V->Hp->Prop
 stop:Nat->Hp->Prop
def O9(X:Cx)(pins:List (Gc×Ee))(H:Hp)(b:Gc):Prop:=
 H b=Gg/\b≠X.env.locals/\b∉X.fs/\(b∈X.ex\/X.s₀.heap.objs.size<=b)/\(∀x c,X.env.cells.lookup x=Ga c->c≠b)/\∀p∈X.pn++pins,p.1≠b
theorem Inv.Qhg{H':Hp}(I:Inv X pins σ H s)(hb:s.heap.objs.size<=b)(a:H' b=Gg):O9 X pins H' b:=by
 refine⟨a,Ts (Tg I.lt hb),I.Q1l hb,.inr (TY I.sz hb),λx c e z=>?_,λp d z=>?_⟩
 ·obtain⟨v,q⟩:=I.cell x c e;exact absurd (Tg q.lt (by rw[z];exact hb)) (DO _)
 ·exact absurd (Tg (Heap.lt_size (I.pin p d).1) (by rw[z];exact hb)) (DO _)
structure Qg6(P:Gk)(w:Gv)(K:Gd)(tg:T1)(J:It)(fp:List Gc)(it:Gc)(tn:Nat->Heap->Prop):Prop where
 mem:it∈fp
 obj:∀i h,tn i h->∀b∈fp,∃o,h.get? b=Ga o/\∀v,o.data≠.cell v
 keep:∀i h h',tn i h->(∀b∈fp,∀o,h.get? b=Ga o->h'.get? b=Ga o)->tn i h'
 item:∀(X:Cx),X.prog=P->X.w=w->X.K=K->X.calm=Gf->∀(i:Nat)(pins:List (Gc×Ee))(s:Gj)(σ:St)(H:Hp)(E:Value->Gj->Prop),Inv X pins σ H s->(∀b∈fp,O9 X pins H b)->tn i s.heap->J.go i H->
  wpAny (GY P w) X.A (pyNext (.ref it)) (λr s1=>∃u,r=Ga u/\
   wpAny (GY P w) X.A (letOwnedTupleGo tg (.ref it) u) (λ_ s2=>∃x H',Inv X pins σ H' s2/\RelV x u/\J.yld i H x H'/\tn (i+1) s2.heap/\∀b∈fp,H' b=Gg) E s1) E s
 done:∀(X:Cx),X.prog=P->X.w=w->X.K=K->X.calm=Gf->∀(i:Nat)(pins:List (Gc×Ee))(s:Gj)(σ:St)(H:Hp)(E:Value->Gj->Prop),Inv X pins σ H s->(∀b∈fp,O9 X pins H b)->tn i s.heap->J.stop i H->
  wpAny (GY P w) X.A (pyNext (.ref it)) (λr s1=>r=Gg/\Inv X pins σ H s1) E s
 self:∀(A:TL)(i:Nat)(s:Gj)(Q:Value->Gj->Prop)(E:Value->Gj->Prop),tn i s.heap->Q (.ref it) s->wpAny (GY P w) A (pyIter (.ref it)) Q E s
abbrev TI:=St->Hp->(It->Hp->Prop)->Prop
def PIE(X:Cx)(pins:List (Gc×Ee))(σ:St)(tg:T1)(R:It->Hp->Prop)(a:Value)(s2:Gj):Prop:=
 ∃(it:Gc)(fp:List Gc)(tn:Nat->Heap->Prop)(J:It)(H':Hp),a=.ref it/\Inv X pins σ H' s2/\Qg6 X.prog X.w X.K tg J fp it tn/\tn 0 s2.heap/\(∀b∈fp,O9 X pins H' b)/\R J H'
def PI(X:Cx)(tg iter:T1)(wi:TI):Prop:=
 ∀(pins:List (Gc×Ee))(s:Gj)(σ:St)(H:Hp)(R:It->Hp->Prop),Inv X pins σ H s->wi σ H R->
  wpAny (GY X.prog X.w) X.A (eval iter X.env) (λv s1=>wpAny (GY X.prog X.w) X.A (pyIter v) (PIE X pins σ tg R) X.xe s1) X.xe s
theorem Qe4      {it : Gc}   {n : String} {vs : Array Value} {Q : Unit -> Gj -> Prop} (d : s.heap.get? it = Ga o) (b : o.cls = .type n) (hd : o.data = .fields vs)
    (c : ["enumerate", "zip", "dict_itemiterator", "dict_reverseitemiterator", "odict_iterator", "itertools.zip_longest", "itertools.pairwise"].contains n = Gq) (a : Q () s) : wpAny M A (letOwnedTupleGo tg (.ref it) u) Q E s := by
  unfold letOwnedTupleGo
  cases tg <;> first
    | exact Ge a
    | (cases u <;> first
        | exact Ge a
        | (refine Gb (wpAny_load d ?_)
           rw [b, hd]
           show wpAny M A (if (["enumerate", "zip", "dict_itemiterator", "dict_reverseitemiterator", "odict_iterator", "itertools.zip_longest", "itertools.pairwise"].contains n && vs[0]? == Ga (rawInt _)) = Gf then _ else _) Q E s
           rw [Gh (by intro h; rw [c, Bool.false_and] at h; cases h)]
           exact Ge a))
def Itl(K:Gd)(a:Gc):It:=
 ⟨λi H=>∃xs x,Zc K H a xs/\xs[i]?=Ga x,λi H x H'=>H'=H/\∀xs,Zc K H a xs->xs[i]?=Ga x,λi H=>∃xs,Zc K H a xs/\xs.length<=i⟩
def Itt(K:Gd)(a:Gc):It:=
 ⟨λi H=>∃xs x,Z2 K H a xs/\xs[i]?=Ga x,λi H x H'=>H'=H/\∀xs,Z2 K H a xs->xs[i]?=Ga x,λi H=>∃xs,Z2 K H a xs/\xs.length<=i⟩
def Itr(lo:Int)(n:Nat):It:=⟨λi _=>i<n,λi H x H'=>H'=H/\x=.int (lo+i),λi _=>n<=i⟩
theorem Qox(a it:Gc):Qg6 P w K tg (Itl K a) [it] it (λi h=>h.IsListIter it a i) where
 mem:=by simp
 obj:=λi h st b hb=>by
  have e:b=it:=by simpa using hb
  subst e;obtain⟨o,e,c,d⟩:=st;exact⟨o,e,λv z=>by rw[d]at z;cases z⟩
 keep:=λi h h' st k=>st.at λo e=>k it (by simp) o e
 item:=by intro X y hw t C i pins s σ H E I g st A;subst y hw t;obtain⟨xs,x,j,B⟩:=A;obtain⟨its,rv,p,hz⟩:=I.list j;obtain⟨u,J,M⟩:=rv.get B;obtain⟨l,m,G,n,q,r⟩:=g it (by simp);refine wpAny_pyNext_list_item st p.isList (x:=u) (by simpa using J) λh' f N=>?_;have D:Inv X pins σ H {s with heap:=h'}:=I.turned (t':=s.toks) (λb o hb e=>(N.2 b hb).trans e) l m n q r;obtain⟨o,e,c,d⟩:=id f;exact⟨u,Xb,Qe4 (s:={s with heap:=h'}) e c d (by decide) ⟨x,H,D,M,⟨Xb,λys L=>by rw[I.Qdf L j];exact B⟩,f,λb hb=>(g b hb).1⟩⟩
 done:=by intro X y hw t C i pins s σ H E I g st A;subst y hw t;obtain⟨xs,j,B⟩:=A;obtain⟨its,rv,p,hz⟩:=I.list j;obtain⟨l,m,G,n,q,r⟩:=g it (by simp);have O:=rv.length;exact wpAny_pyNext_list_end (I.ok.hd C) st p.isList (by simp;omega) λh' F=>⟨Xb,I.turned (t':=s.toks) (λb o hb e=>F b o hb e) l m n q r⟩
 self:=λ_ _ _ _ _ st h=>wpAny_pyIter_listiter st h
theorem Qkl(a it:Gc):Qg6 P w K tg (Itt K a) [it] it (λi h=>h.IsTupleIter it a i) where
 mem:=by simp
 obj:=λi h st b hb=>by
  have e:b=it:=by simpa using hb
  subst e;obtain⟨o,e,c,d⟩:=st;exact⟨o,e,λv z=>by rw[d]at z;cases z⟩
 keep:=λi h h' st k=>st.at λo e=>k it (by simp) o e
 item:=by intro X y hw t C i pins s σ H E I g st A;subst y hw t;obtain⟨xs,x,j,B⟩:=A;obtain⟨its,rv,p,hz⟩:=I.tuple j;obtain⟨u,J,M⟩:=rv.get B;obtain⟨l,m,G,n,q,r⟩:=g it (by simp);refine wpAny_pyNext_tuple_item st (show s.heap.IsTuple a its.toArray from p) (x:=u) (by simpa using J) λh' f N=>?_;have D:Inv X pins σ H {s with heap:=h'}:=I.turned (t':=s.toks) (λb o hb e=>(N.2 b hb).trans e) l m n q r;obtain⟨o,e,c,d⟩:=id f;exact⟨u,Xb,Qe4 (s:={s with heap:=h'}) e c d (by decide) ⟨x,H,D,M,⟨Xb,λys L=>by rw[I.Qnw L j];exact B⟩,f,λb hb=>(g b hb).1⟩⟩
 done:=by intro X y hw t C i pins s σ H E I g st A;subst y hw t;obtain⟨xs,j,B⟩:=A;obtain⟨its,rv,p,hz⟩:=I.tuple j;obtain⟨l,m,G,n,q,r⟩:=g it (by simp);have O:=rv.length;exact wpAny_pyNext_tuple_end (I.ok.hd C) st (show s.heap.IsTuple a its.toArray from p) (by simp;omega) λh' F=>⟨Xb,I.turned (t':=s.toks) (λb o hb e=>F b o hb e) l m n q r⟩
 self:=λ_ _ _ _ _ st h=>wpAny_pyIter_tupleiter st h
theorem Qlc(it:Gc)(lo:Int)(n:Nat):Qg6 P w K tg (Itr lo n) [it] it (λi h=>Lf h it (lo+(i:Nat)*1) ((n:Int) - (i:Nat)) 1) where
 mem:=by simp
 obj:=λi h st b hb=>by
  have e:b=it:=by simpa using hb
  subst e;exact⟨_,st,λv z=>by have C:Nj _=RA v:=z;cases C⟩
 keep:=λi h h' st k=>k it (by simp) _ st
 item:=by intro X p hw m q i pins s σ H E I c st r;subst p hw m;obtain⟨d,f,y,g,j,l⟩:=c it (by simp);have W:=Nk (prog:=X.prog) (w:=X.w) (I.ok.hd q) it lo 1 n;refine W.item i s _ _ r st λv h' tk A a B=>?_;obtain⟨t,rfl⟩:=A;have u:Inv X pins σ H {s with heap:=h',toks:=tk}:=I.turned (λb o hb e=>B b o (by simpa using hb) e) d f g j l;refine⟨_,Xb,Qe4 (s:={s with heap:=h',toks:=tk}) (n:="range_iterator") a rfl rfl (by decide) ⟨.int (lo+i),H,u,⟨t,?_⟩,⟨Xb,Xb⟩,a,λb hb=>(c b hb).1⟩⟩;rw[Int.mul_one]
 done:=by intro X p hw m q i pins s σ H E I c st r;subst p hw m;obtain⟨d,f,y,g,j,l⟩:=c it (by simp);exact SN (I.ok.hd q) st (by have:n<=i:=r;omega) λh' x=>⟨Xb,I.turned (t':=s.toks) (λb o hb e=>x b o hb e) d f g j l⟩
 self:=λ_ _ _ _ _ st h=>SO st h
section
variable{X:Cx}{tg:T1}
def Q0g(K:Gd)(tl:TE):TI:=λσ H R=>tl σ H λx H1=>∃a,x=.ref a/\(∃xs,Zc K H1 a xs)/\R (Itl K a) H1
def Q2a(K:Gd)(tl:TE):TI:=λσ H R=>tl σ H λx H1=>∃a,x=.ref a/\(∃xs,Z2 K H1 a xs)/\R (Itt K a) H1
theorem Y2{l:T1}{tl:TE}(d:PE X l tl):PI X tg l (Q0g X.K tl):=by
 intro pins s σ H R I h;refine Yp (d pins s σ H _ I h) λv s1⟨x,H1,c,i,g⟩=>?_;obtain⟨a,e,⟨xs,f⟩,q⟩:=g;subst e;cases i;obtain⟨its,rv,p,hz⟩:=c.list f;refine wpAny_pyIter_list p.isList ?_;refine⟨s1.heap.objs.size,[s1.heap.objs.size],_,_,H1,Xb,c.kept (t':=s1.toks) λb o e=>Heap.get?_push_of_some _ e,Qox a _,⟨_,Heap.get?_push_size _ Xb,Xb,Xb⟩,λb hb=>?_,q⟩;have e:b=s1.heap.objs.size:=by simpa using hb
 subst e;exact c.Qhg (Gn _) (c.Zw.fresh (Gn _))
theorem Ue{l:T1}{tl:TE}(d:PE X l tl):PI X tg l (Q2a X.K tl):=by
 intro pins s σ H R I h;refine Yp (d pins s σ H _ I h) λv s1⟨x,H1,c,i,g⟩=>?_;obtain⟨a,e,⟨xs,f⟩,q⟩:=g;subst e;cases i;obtain⟨its,rv,p,hz⟩:=c.tuple f;refine Sc (show s1.heap.IsTuple a its.toArray from p) ?_;refine⟨s1.heap.objs.size,[s1.heap.objs.size],_,_,H1,Xb,c.kept (t':=s1.toks) λb o e=>Heap.get?_push_of_some _ e,Qkl a _,⟨_,Heap.get?_push_size _ Xb,Xb,Xb⟩,λb hb=>?_,q⟩;have e:b=s1.heap.objs.size:=by simpa using hb
 subst e;exact c.Qhg (Gn _) (c.Zw.fresh (Gn _))
theorem Qpx{R:It->Hp->Prop}{lo hi:Int}{t u v:Bc}{tk:Nat}(I:Inv X pins σ H s)(h1: -(2^62)<=lo)(h2:lo<2^62)(f: -(2^62)<=hi)(g:hi<2^62)
  (q:R (Itr lo (hi - lo).toNat) H):wpAny (GY X.prog X.w) X.A (pyIter (.ref s.heap.objs.size)) (PIE X pins σ tg R) E {s with heap:=s.heap.push {cls:=.type "range",data:=.fields #[.int lo t,.int hi u,.int 1 v]},toks:=tk}:=by
 refine LA (Nl ..) (small_one h1 h2 f g) ?_;have a:Inv X pins σ H {s with heap:=s.heap.push {cls:=.type "range",data:=.fields #[.int lo t,.int hi u,.int 1 v]},toks:=tk}:=I.kept λb o e=>Heap.get?_push_of_some _ e;refine⟨(s.heap.push {cls:=.type "range",data:=.fields #[.int lo t,.int hi u,.int 1 v]}).objs.size,[(s.heap.push {cls:=.type "range",data:=.fields #[.int lo t,.int hi u,.int 1 v]}).objs.size],_,_,H,Xb,
  a.kept (t':=tk) λb o e=>Heap.get?_push_of_some _ e,Qlc _ lo (hi - lo).toNat,?_,λb hb=>?_,q⟩
 ·have c:lo+((0:Nat):Int)*1=lo:=by simp
  have d:(((hi - lo).toNat:Nat):Int) - ((0:Nat):Int)=Builtin.Range.rangeSize lo hi 1:=by rw[rangeSize_one];split<;>omega
  show Lf _ _ (lo+((0:Nat):Int)*1) ((((hi - lo).toNat:Nat):Int) - ((0:Nat):Int)) 1;rw[c,d];exact Heap.get?_push_size _ rfl
 ·have e:b=(s.heap.push {cls:=.type "range",data:=.fields #[.int lo t,.int hi u,.int 1 v]}).objs.size:=by simpa using hb
  subst e;exact a.Qhg (Gn _) (a.Zw.fresh (Gn _))
def Q0u(ta:TA):TI:=λσ H R=>ta σ H λvs H1=>∃j:Int,vs=[.int j]/\ -(2^62)<=j/\j<2^62/\R (Itr 0 j.toNat) H1
theorem Uv{a:T1}{ta:TA}{p:SW}(f:Gl X "range")(g:X.mg "range"=Gg)(d:PA X [a] ta)(i:Td [a] X.env=[(Gq,eval a X.env)]:=by rfl):PI X tg (.Call (.Name "range" p) [a] [] pos) (Q0u ta):=by
 intro pins s σ H R I h;refine RU (Vu I f g NG (Du (Yp (d pos pins s σ H _ I h) λus s1⟨vs,H1,c,l,b⟩=>?_) i Xb));obtain⟨j,e,b,k,q⟩:=b;subst e;cases l with
 |cons r m=>cases m;obtain⟨t,rfl⟩:=r;exact call_range_1 (Qpx c (by omega) (by omega) b k (by simpa using q))
def Q1o(wi:TI)(g:TG)(tb:TS):TS:=λD σ H=>wi σ H λJ H1=>∃W:Nat->Nat->St->Hp->Prop,(∃m,W 0 m σ H1)/\∀i m σ H,W i m σ H->
 (J.stop i H/\D.nx σ H)\/(J.go i H/\∃N:St->Hp->Prop,(∀a H',N a H'->∃c,c<m/\W (i+1) c a H')/\∀x H',J.yld i H x H'->g x σ H' λb H2=>tb {D with nx:=N,ct:=N,bk:=D.nx} b H2)
def Qcf(fp:List Gc)(h:Heap):List (Gc×Ee):=fp.filterMap λb=>(h.get? b).map λo=>(b,o)
theorem U5{h:Heap}(hb:b∈fp)(e:h.get? b=Ga o):(b,o)∈Qcf fp h:=List.mem_filterMap.mpr ⟨b,hb,by rw[e];rfl⟩
theorem Qoq{h:Heap}{p:Gc×Ee}(c:p∈Qcf fp h):p.1∈fp/\h.get? p.1=Ga p.2:=by
 obtain⟨b,hb,e⟩:=List.mem_filterMap.mp c;cases q:h.get? b with
 |none=>rw[q]at e;cases e
 |some o=>rw[q]at e;have a:(b,o)=p:=Tj e;subst a;exact⟨hb,q⟩
theorem Inv.pinned(I:Inv X pins σ H s)(h:∀b∈fp,O9 X pins H b)(i:∀b∈fp,∃o,s.heap.get? b=Ga o/\∀v,o.data≠.cell v):Inv X (pins++Qcf fp s.heap) σ H s:=
 I.Qm6 λp j=>(List.mem_append.mp j).elim (λz=>I.pin p (List.mem_append_right _ z)) λz=>by obtain⟨hb,e⟩:=Qoq z;obtain⟨c,f,g,_⟩:=h p.1 hb;obtain⟨o,a,d⟩:=i p.1 hb;rw[e]at a;cases a;exact⟨e,c,f,g,d⟩
theorem Inv.R8{pl:List (Gc×Ee)}(I:Inv X (pins++pl) σ H s):Inv X pins σ H s:=I.Qm6 λp a=>I.pin p (List.mem_append_right _ (List.mem_append_left _ a))
theorem Ye{iter:T1}{wi:TI}(z:PassesOwn (GY X.prog X.w) X.A X.env X.xe)(S:X.calm=Gf)(hi:PI X tg iter wi)(hg:PG X tg g)(hb:PSs X body tb)
  (hs:∀x,foldedSetIterable iter X.env x=pure x:=by intro _;rfl):PS X (.For tg iter body [] pos) (Q1o wi g tb):=by
 intro pins s σ H D I h;refine wpAny_For (Yp (hi pins s σ H _ I h) λv s1 h1=>Yp h1 λaa s2 h2=>?_) hs;obtain⟨it,fp,tn,J,H2,e,Z,T,M,R,W,⟨m0,w0⟩,turn⟩:=h2;subst e;have k:∀{H':Hp},(∀b∈fp,H' b=Gg)->∀b∈fp,O9 X pins H' b:=λhn b hb=>⟨hn b hb,(R b hb).2⟩;refine codeAny_forLoop_any (λn s'=>∃i l H',Inv X pins l H' s'/\tn i s'.heap/\(∀b∈fp,H' b=Gg)/\W i n l H') ?_ m0 ⟨0,σ,H2,Z,M,λb hb=>(R b hb).1,w0⟩;rintro n U ⟨i,p,E,Q,C,y,w3⟩;rcases turn i n p E w3 with⟨stop,qn⟩|⟨go,N,hN,step⟩
 ·refine DV z (Yp (T.done X rfl rfl rfl S i pins U p E X.xe Q (k y) C stop) λr s4⟨K,I4⟩=>?_);subst K;exact E3 ⟨p,E,I4,qn⟩
 ·refine DV z (Yp (T.item X rfl rfl rfl S i pins U p E X.xe Q (k y) C go) λr s4⟨u,K,h4⟩=>?_);subst K;refine DV z (Yp h4 λ_ V⟨x,P,I5,r5,y5,t,G⟩=>?_);have F:=I5.pinned (k G) (T.obj _ _ t);refine DV z (Yp (hg _ V p P x u _ F r5 (step x P y5)) λ_ s6⟨O,Y,I6,q6⟩=>?_);refine DV z (Yp (hb _ s6 O Y _ I6 q6) λf L q=>?_);have again:∀{a:St}{c:Hp},Inv X (pins++Qcf fp V.heap) a c L->N a c->∃m,m<n/\∃i l H',Inv X pins l H' L/\tn i L.heap/\(∀b∈fp,H' b=Gg)/\W i m l H':=λ{a c}j B=>by obtain⟨m',hm,w7⟩:=hN a c B;refine⟨m',hm,i+1,a,c,j.R8,T.keep _ _ _ t λb hb o e=>(j.pin (b,o) (List.mem_append_right _ (List.mem_append_right _ (U5 hb e)))).1,λb hb=>?_,w7⟩;obtain⟨o,e,d⟩:=T.obj _ _ t b hb;exact(j.pin (b,o) (List.mem_append_right _ (List.mem_append_right _ (U5 hb e)))).2.1
  cases f with
  |next=>obtain⟨a,c,j,B⟩:=q;exact again j B
  |cont=>obtain⟨a,c,j,B⟩:=q;exact again j B
  |brk=>obtain⟨a,c,j,q⟩:=q;exact⟨a,c,j.R8,q⟩
  |ret v=>obtain⟨x7,a,c,j,r7,q⟩:=q;exact⟨x7,a,c,j.R8,r7,q⟩
end
theorem Xh(Pv:Nat->St->Hp->Prop)(h:Pv 0 σ H)(j:∀i σ H,i<=xs.length->Pv i σ H->Zc K H a xs)
  (k:∀i x σ H,xs[i]?=Ga x->Pv i σ H->g x σ H λc H2=>tb {D with nx:=Pv (i+1),ct:=Pv (i+1),bk:=D.nx} c H2)(hd:∀σ H,Pv xs.length σ H->D.nx σ H):
  ∃W:Nat->Nat->St->Hp->Prop,(∃m,W 0 m σ H)/\∀i m σ H,W i m σ H->
   ((Itl K a).stop i H/\D.nx σ H)\/((Itl K a).go i H/\∃N:St->Hp->Prop,(∀b H',N b H'->∃f,f<m/\W (i+1) f b H')/\∀x H',(Itl K a).yld i H x H'->g x σ H' λc H2=>tb {D with nx:=N,ct:=N,bk:=D.nx} c H2):=by
 refine⟨λi m σ H=>m=xs.length - i/\i<=xs.length/\Pv i σ H,⟨xs.length,by simp,Gx _,h⟩,?_⟩;rintro i m σ H ⟨rfl,hi,p⟩;have q:=j i σ H hi p;by_cases d:i<xs.length
 ·refine .inr ⟨⟨xs,xs[i],q,by simp[d]⟩,Pv (i+1),λb H' l=>⟨xs.length - (i+1),by omega,Xb,d,l⟩,λx H' y=>?_⟩;obtain⟨e,y⟩:=y;subst e;exact k i x σ _ (y xs q) p
 ·have e:i=xs.length:=by omega
  subst e;exact .inl ⟨⟨xs,q,Gn _⟩,hd σ H p⟩
theorem Qft(Pv:Nat->St->Hp->Prop)(h:Pv 0 σ H)(j:∀i σ H,i<=xs.length->Pv i σ H->Z2 K H a xs)
  (k:∀i x σ H,xs[i]?=Ga x->Pv i σ H->g x σ H λc H2=>tb {D with nx:=Pv (i+1),ct:=Pv (i+1),bk:=D.nx} c H2)(hd:∀σ H,Pv xs.length σ H->D.nx σ H):
  ∃W:Nat->Nat->St->Hp->Prop,(∃m,W 0 m σ H)/\∀i m σ H,W i m σ H->
   ((Itt K a).stop i H/\D.nx σ H)\/((Itt K a).go i H/\∃N:St->Hp->Prop,(∀b H',N b H'->∃f,f<m/\W (i+1) f b H')/\∀x H',(Itt K a).yld i H x H'->g x σ H' λc H2=>tb {D with nx:=N,ct:=N,bk:=D.nx} c H2):=by
 refine⟨λi m σ H=>m=xs.length - i/\i<=xs.length/\Pv i σ H,⟨xs.length,by simp,Gx _,h⟩,?_⟩;rintro i m σ H ⟨rfl,hi,p⟩;have q:=j i σ H hi p;by_cases d:i<xs.length
 ·refine .inr ⟨⟨xs,xs[i],q,by simp[d]⟩,Pv (i+1),λb H' l=>⟨xs.length - (i+1),by omega,Xb,d,l⟩,λx H' y=>?_⟩;obtain⟨e,y⟩:=y;subst e;exact k i x σ _ (y xs q) p
 ·have e:i=xs.length:=by omega
  subst e;exact .inl ⟨⟨xs,q,Gn _⟩,hd σ H p⟩
theorem Uz{lo:Int}(Pv:Nat->St->Hp->Prop)(f:Pv 0 σ H)
  (h:∀i σ H,i<n->Pv i σ H->g (.int (lo+i)) σ H λc H2=>tb {D with nx:=Pv (i+1),ct:=Pv (i+1),bk:=D.nx} c H2)(hd:∀σ H,Pv n σ H->D.nx σ H):
  ∃W:Nat->Nat->St->Hp->Prop,(∃m,W 0 m σ H)/\∀i m σ H,W i m σ H->
   ((Itr lo n).stop i H/\D.nx σ H)\/((Itr lo n).go i H/\∃N:St->Hp->Prop,(∀b H',N b H'->∃d,d<m/\W (i+1) d b H')/\∀x H',(Itr lo n).yld i H x H'->g x σ H' λc H2=>tb {D with nx:=N,ct:=N,bk:=D.nx} c H2):=by
 refine⟨λi m σ H=>m=n - i/\i<=n/\Pv i σ H,⟨n,by simp,Gx _,f⟩,?_⟩;rintro i m σ H ⟨rfl,hi,p⟩;by_cases a:i<n
 ·refine .inr ⟨a,Pv (i+1),λb H' j=>⟨n - (i+1),by omega,Xb,a,j⟩,λx H' y=>?_⟩;obtain⟨e,y⟩:=y;subst e y;exact h i σ _ a p
 ·have e:i=n:=by omega
  subst e;exact .inl ⟨Gn _,hd σ H p⟩
abbrev R2:=V->V->Hp->VK->Prop
variable{r:R2}
def Oz(X:Cx)(f:Value->Value->Bb Value)(r:R2):Prop:=
 ∀(pins:List (Gc×Ee))(s:Gj)(σ:St)(H:Hp)(x y:V)(v u:Value)(Q:VK),Inv X pins σ H s->RelV x v->RelV y u->r x y H Q->
  wpAny (GY X.prog X.w) X.A (f v u) (EP X pins σ Q) X.xe s
def UnR(X:Cx)(f:Value->Bb Value)(r:V->Hp->VK->Prop):Prop:=
 ∀(pins:List (Gc×Ee))(s:Gj)(σ:St)(H:Hp)(x:V)(v:Value)(Q:VK),Inv X pins σ H s->RelV x v->r x H Q->
  wpAny (GY X.prog X.w) X.A (f v) (EP X pins σ Q) X.xe s
def V3(X:Cx)(f:Value)(r:List V->Hp->VK->Prop):Prop:=
 ∀(pins:List (Gc×Ee))(s:Gj)(σ:St)(H:Hp)(xs:List V)(us:List Value)(Q:VK),Inv X pins σ H s->Zv xs us->r xs H Q->
  wpAny (GY X.prog X.w) X.A (call f us) (EP X pins σ Q) X.xe s
def Q14(X:Cx)(r:V->Hp->(Bool->Hp->Prop)->Prop):Prop:=
 ∀(pins:List (Gc×Ee))(s:Gj)(σ:St)(H:Hp)(x:V)(v:Value)(Q:Bool->Hp->Prop),Inv X pins σ H s->RelV x v->r x H Q->
  wpAny (GY X.prog X.w) X.A (truthy v) (TP X pins σ Q) X.xe s
def tOp(r:R2)(ta tb:TE):TE:=λσ H Q=>ta σ H λx H1=>tb σ H1 λy H2=>r x y H2 Q
def tUn(r:V->Hp->VK->Prop)(ta:TE):TE:=λσ H Q=>ta σ H λx H1=>r x H1 Q
def rI(C:Int->Int->Prop)(g:Int->Int->V):R2:=λx y H Q=>∃i j,x=.int i/\y=.int j/\C i j/\Q (g i j) H
def rI0(g:Int->Int->V):R2:=λx y H Q=>∃i j,x=.int i/\y=.int j/\Q (g i j) H
def rU(g:Int->V):V->Hp->VK->Prop:=λx H Q=>∃i,x=.int i/\Q (g i) H
section
variable{X:Cx}{a b c:T1}{ta tb tc:TE}{pos:SW}
theorem Qya(i:PE X a ta)(hb:PE X b tb){R:V->V->Hp->Prop}(I:Inv X pins σ H s)
  (h:ta σ H λx H1=>tb σ H1 λy H2=>R x y H2)
  (j:∀v u s2 x y H2,Inv X pins σ H2 s2->RelV x v->RelV y u->R x y H2->wpAny (GY X.prog X.w) X.A (f v u) Q X.xe s2):
  wpAny (GY X.prog X.w) X.A (eval a X.env) (λv c=>wpAny (GY X.prog X.w) X.A (eval b X.env) (λu d=>wpAny (GY X.prog X.w) X.A (f v u) Q X.xe d) X.xe c) X.xe s:=by
 refine Yp (i pins s σ H _ I h) λv s1⟨x,H1,e,m,k⟩=>?_;refine Yp (hb pins s1 σ H1 _ e k) λu s2⟨y,H2,g,n,l⟩=>?_;exact j v u s2 x y H2 g m n l
theorem Zo{c:Operator}(f:Oz X (binaryOp c) r)(e:PE X a ta)(hb:PE X b tb):PE X (.BinOp a c b pos) (tOp r ta tb):=by intro pins s σ H Q I h;exact wpAny_BinOp (Qya e hb I h λv u s2 x y H2 d g i q=>f pins s2 σ H2 x y v u Q d g i q)
theorem Qa9{b:UnaryOp}{r:V->Hp->VK->Prop}(e:UnR X (unaryOp b) r)(d:PE X a ta):PE X (.UnaryOp b a pos) (tUn r ta):=by intro pins s σ H Q I h;exact UnaryOp_ (Yp (d pins s σ H _ I h) λv s1⟨x,H1,c,g,f⟩=>e pins s1 σ H1 x v Q c g f)
theorem opI{C:Int->Int->Prop}{g:Int->Int->Int}
  (rule:∀(i j:Int)(t u:Bc)(s:Gj)(Q:Value->Gj->Prop)(E:Value->Gj->Prop),C i j->Q (.int (g i j) s.toks) {s with toks:=s.toks+1}->wpAny (GY X.prog X.w) X.A (f (.int i t) (.int j u)) Q E s):
  Oz X f (rI C λi j=>.int (g i j)):=by
 intro pins s σ H x y v u Q I b c h;obtain⟨i,j,rfl,rfl,a,q⟩:=h;obtain⟨t,rfl⟩:=b;obtain⟨t',rfl⟩:=c;exact rule i j t t' s _ _ a ⟨.int (g i j),H,I.tok _,⟨_,Xb⟩,q⟩
theorem Qzr{g:Int->Int->Int}
  (rule:∀(i j:Int)(t u:Bc)(s:Gj)(Q:Value->Gj->Prop)(E:Value->Gj->Prop),Q (.int (g i j) s.toks) {s with toks:=s.toks+1}->wpAny (GY X.prog X.w) X.A (f (.int i t) (.int j u)) Q E s):
  Oz X f (rI0 λi j=>.int (g i j)):=by
 intro pins s σ H x y v u Q I a b h;obtain⟨i,j,rfl,rfl,q⟩:=h;obtain⟨t,rfl⟩:=a;obtain⟨t',rfl⟩:=b;exact rule i j t t' s _ _ ⟨.int (g i j),H,I.tok _,⟨_,Xb⟩,q⟩
theorem Qtw{g:Int->Int->Bool}
  (rule:∀(i j:Int)(t u:Bc)(s:Gj)(Q:Value->Gj->Prop)(E:Value->Gj->Prop),Q (.bool (g i j)) s->wpAny (GY X.prog X.w) X.A (f (.int i t) (.int j u)) Q E s):
  Oz X f (rI0 λi j=>.bl (g i j)):=by
 intro pins s σ H x y v u Q I a b h;obtain⟨i,j,rfl,rfl,q⟩:=h;obtain⟨t,rfl⟩:=a;obtain⟨t',rfl⟩:=b;exact rule i j t t' s _ _ ⟨.bl (g i j),H,I,Xb,q⟩
def Q0r(i j:Int):Prop:=0<j/\j<1073741824
def Q1w(i j:Int):Prop:=0<=j/\j<=1000000/\i.natAbs<2^64
def Qxt(i j:Int):Prop:=(-(2^64)<i/\i<2^64)\/(-(2^64)<j/\j<2^64)
theorem Qxt.ok{i j:Int}(h:Qxt i j):IntMulOk i j:=by
 rcases h with⟨h1,h2⟩|⟨h1,h2⟩
 ·exact .of_left (Mg h1 h2)
 ·exact .of_right (Mg h1 h2)
theorem Qav:Oz X (binaryOp .Add) (rI0 λi j=>.int (i+j)):=Qzr λ_ _ _ _ _ _ _ q=>add_int q
theorem Qc6:Oz X (binaryOp .Sub) (rI0 λi j=>.int (i - j)):=Qzr λ_ _ _ _ _ _ _ q=>sub_int q
theorem Qs0:Oz X (binaryOp .Mult) (rI Qxt λi j=>.int (i*j)):=opI λ_ _ _ _ _ _ _ a q=>mul_int q a.ok
theorem X6:Oz X (binaryOp .FloorDiv) (rI Q0r λi j=>.int (i / j)):=opI λi j _ _ _ _ _ a q=>by have h1:(0:Int)<j:=a.1;have h2:j<1073741824:=a.2;exact floordiv_int (by omega) (by rw[Int.fdiv_eq_ediv_of_nonneg i (by omega)];exact q) (.inl (SQ (by omega)))
theorem Xv:Oz X (binaryOp .Mod) (rI (λ_ j=>0<j) λi j=>.int (i % j)):=opI λi j _ _ _ _ _ a q=>by have h1:(0:Int)<j:=a;exact mod_int' (by omega) (by rw[Int.fmod_eq_emod_of_nonneg i (by omega)];exact q)
theorem Qs4:Oz X (binaryOp .Pow) (rI Q1w λi j=>.int (i^j.toNat)):=opI λ_ _ _ _ _ _ _ a q=>pow_int_small a.1 a.2.1 a.2.2 q
theorem unI{f:Value->Bb Value}{g:Int->Int}
  (rule:∀(i:Int)(t:Bc)(s:Gj)(Q:Value->Gj->Prop)(E:Value->Gj->Prop),Q (.int (g i) s.toks) {s with toks:=s.toks+1}->wpAny (GY X.prog X.w) X.A (f (.int i t)) Q E s):
  UnR X f (rU λi=>.int (g i)):=by
 intro pins s σ H x v Q I a h;obtain⟨i,rfl,q⟩:=h;obtain⟨t,rfl⟩:=a;exact rule i t s _ _ ⟨.int (g i),H,I.tok _,⟨_,Xb⟩,q⟩
theorem Jv:UnR X (unaryOp .USub) (rU λi=>.int (-i)):=unI λ_ _ _ _ _ q=>neg_int q
end
def Qz7:V->V->Bool
 |.non,.non=>Gf|.non,.int _=>Gf|.int _,.non=>Gf|.non,.bl _=>Gf|.bl _,.non=>Gf|.non,.str _=>Gf|.str _,.non=>Gf
 |.int _,.int _=>Gf|.bl _,.bl _=>Gf|.str _,.str _=>Gf|.byt _,.byt _=>Gf
 |.int _,.str _=>Gf|.str _,.int _=>Gf|.bl _,.str _=>Gf|.str _,.bl _=>Gf
 |_,_=>Gq
def rEq:R2:=λx y H Q=>Qz7 x y=Gf/\Q (.bl (decide (x=y))) H
def rNe:R2:=λx y H Q=>Qz7 x y=Gf/\Q (.bl (!decide (x=y))) H
theorem Vp{i j:Int}:decide (V.int i=V.int j)=(i==j):=by rw[ED];simp
theorem Qpe{i j:Bool}:decide (V.bl i=V.bl j)=(i==j):=by rw[ED];simp
theorem Yf{i j:Ta}:decide (V.str i=V.str j)=(i==j):=by rw[ED];simp
theorem Qlt{i j:Array UInt8}:decide (V.byt i=V.byt j)=(i.toList==j.toList):=by rw[ED];cases i;cases j;simp
section
variable{X:Cx}{a b c:T1}{ta tb tc:TE}{pos:SW}
theorem Z6{Q:VK}{k a:Bool}(I:Inv X pins σ H s)(q:Q (.bl k) H)(e:k=a):EP X pins σ Q (.bool a) s:=by subst e;exact⟨.bl k,H,I,Xb,q⟩
theorem Wi:Oz X (Do .Eq) rEq:=by
 intro pins s σ H x y v u Q I c a h;obtain⟨b,q⟩:=h;cases x with
 |non=>
  cases c;cases y with
  |non=>cases a;exact FP (Z6 I q (by simp))
  |bl j=>cases a;exact FQ (Z6 I q (by simp))
  |int j=>obtain⟨t',rfl⟩:=a;exact Mh (Z6 I q (by simp))
  |str j=>obtain⟨t',rfl⟩:=a;exact Mi (Z6 I q (by simp))
  |_=>exact absurd (show Gq=Gf from b) Gw
 |bl i=>
  cases c;cases y with
  |non=>cases a;exact FR (Z6 I q (by simp))
  |bl j=>cases a;exact eq_bool (Z6 I q Qpe)
  |str j=>obtain⟨t',rfl⟩:=a;exact FS (Z6 I q (by simp))
  |_=>exact absurd (show Gq=Gf from b) Gw
 |int i=>
  obtain⟨t,rfl⟩:=c;cases y with
  |non=>cases a;exact Mj (Z6 I q (by simp))
  |int j=>obtain⟨t',rfl⟩:=a;exact eq_int (Z6 I q Vp)
  |str j=>obtain⟨t',rfl⟩:=a;exact Ml (Z6 I q (by simp))
  |_=>exact absurd (show Gq=Gf from b) Gw
 |str i=>
  obtain⟨t,rfl⟩:=c;cases y with
  |non=>cases a;exact Mm (Z6 I q (by simp))
  |bl j=>cases a;exact FT (Z6 I q (by simp))
  |int j=>obtain⟨t',rfl⟩:=a;exact Mn (Z6 I q (by simp))
  |str j=>obtain⟨t',rfl⟩:=a;exact eq_str (Z6 I q Yf)
  |_=>exact absurd (show Gq=Gf from b) Gw
 |byt i=>
  obtain⟨t,rfl⟩:=c;cases y with
  |byt j=>obtain⟨t',rfl⟩:=a;exact RB (Z6 I q Qlt)
  |_=>exact absurd (show Gq=Gf from b) Gw
 |_=>cases y<;>exact absurd (show Gq=Gf from b) Gw
theorem J1:Oz X (Do .NotEq) rNe:=by
 intro pins s σ H x y v u Q I c a h;obtain⟨b,q⟩:=h;cases x with
 |non=>
  cases c;cases y with
  |non=>cases a;exact FU (Z6 I q (by simp))
  |bl j=>cases a;exact FX (Z6 I q (by simp))
  |int j=>obtain⟨t',rfl⟩:=a;exact Mo (Z6 I q (by simp))
  |str j=>obtain⟨t',rfl⟩:=a;exact Mq (Z6 I q (by simp))
  |_=>exact absurd (show Gq=Gf from b) Gw
 |bl i=>
  cases c;cases y with
  |non=>cases a;exact FZ (Z6 I q (by simp))
  |bl j=>cases a;exact ne_bool (Z6 I q (congrArg not Qpe))
  |str j=>obtain⟨t',rfl⟩:=a;exact Ma (Z6 I q (by simp))
  |_=>exact absurd (show Gq=Gf from b) Gw
 |int i=>
  obtain⟨t,rfl⟩:=c;cases y with
  |non=>cases a;exact Mr (Z6 I q (by simp))
  |int j=>obtain⟨t',rfl⟩:=a;exact ne_int (Z6 I q (congrArg not Vp))
  |str j=>obtain⟨t',rfl⟩:=a;exact Ms (Z6 I q (by simp))
  |_=>exact absurd (show Gq=Gf from b) Gw
 |str i=>
  obtain⟨t,rfl⟩:=c;cases y with
  |non=>cases a;exact Mt (Z6 I q (by simp))
  |bl j=>cases a;exact Mb (Z6 I q (by simp))
  |int j=>obtain⟨t',rfl⟩:=a;exact Mu (Z6 I q (by simp))
  |str j=>obtain⟨t',rfl⟩:=a;exact ne_str (Z6 I q (congrArg not Yf))
  |_=>exact absurd (show Gq=Gf from b) Gw
 |byt i=>
  obtain⟨t,rfl⟩:=c;cases y with
  |byt j=>obtain⟨t',rfl⟩:=a;exact RC (Z6 I q (congrArg not Qlt))
  |_=>exact absurd (show Gq=Gf from b) Gw
 |_=>cases y<;>exact absurd (show Gq=Gf from b) Gw
theorem Ob:Oz X (Do .Lt) (rI0 λi j=>.bl (decide (i<j))):=Qtw λ_ _ _ _ _ _ _ q=>lt_int q
theorem Ql7:Oz X (Do .LtE) (rI0 λi j=>.bl (decide (i<=j))):=Qtw λ_ _ _ _ _ _ _ q=>le_int q
theorem Qca:Oz X (Do .Gt) (rI0 λi j=>.bl (decide (j<i))):=Qtw λ_ _ _ _ _ _ _ q=>gt_int q
theorem Q0n:Oz X (Do .GtE) (rI0 λi j=>.bl (decide (j<=i))):=Qtw λ_ _ _ _ _ _ _ q=>ge_int q
theorem Qwz:Oz X (Do .Is) (λx y H Q=>y=.non/\Q (.bl (decide (x=.non))) H):=by
 intro pins s σ H x y v u Q I a b h;obtain⟨rfl,q⟩:=h;cases b;refine Ni (Z6 I q ?_);cases x<;>first
  |(cases a;rfl)
  |(obtain⟨t,rfl⟩:=a;rfl)
theorem Oc:Oz X (Do .IsNot) (λx y H Q=>y=.non/\Q (.bl (!decide (x=.non))) H):=by
 intro pins s σ H x y v u Q I a b h;obtain⟨rfl,q⟩:=h;cases b;refine FD (Z6 I q ?_);cases x<;>first
  |(cases a;rfl)
  |(obtain⟨t,rfl⟩:=a;rfl)
theorem Q3(b:T1)(h:op≠.In:=by decide)(h2:op≠.NotIn:=by decide):behindInMarks op b=Gq:=by
 have a:(op==RT)=Gq:=by cases op<;>first|rfl|exact absurd rfl h
 have c:(op==Nh)=Gq:=by cases op<;>first|rfl|exact absurd rfl h2
 cases b<;>simp[behindInMarks,a,c]
theorem Qu7(f:Oz X (Do op) r)(d:PE X a ta)(hb:PE X b tb)(e:behindInMarks op b=Gq):PE X (.Compare a [op] [b] pos) (tOp r ta tb):=by intro pins s σ H Q I h;exact wpAny_Compare1 (Qya d hb I h λv u s2 x y H2 c g i q=>f pins s2 σ H2 x y v u Q c g i q) e
def Qv4(t:TE):TT:=λσ H Q=>t σ H λx H'=>∃k,x=.bl k/\Q k H'
theorem Qp(m:Oz X (Do op) r)(j:PE X a ta)(hb:PE X b tb)(l:behindInMarks op b=Gq):PT X (.Compare a [op] [b] pos) (Qv4 (tOp r ta tb)):=by
 intro pins s σ H Q I h;refine S9 (Yp (j pins s σ H _ I h) λv s1⟨x,H1,f,q,n⟩=>Yp (hb pins s1 σ H1 _ f n) λu s2⟨y,H2,g,t,o⟩=>Yp (m pins s2 σ H2 x y v u _ g q t o) λc A⟨z,d,i,w,k,e,p⟩=>?_) l
 subst e;cases w;exact DX ⟨d,i,p⟩
def Qxb(r c:R2)(ta tb tc:TE):TE:=λσ H Q=>ta σ H λx H1=>tb σ H1 λy H2=>r x y H2 λz a=>∃k,z=.bl k/\
 (if k=Gf then tc σ a λd b=>c y d b Q else Q (.bl Gq) a)
theorem Qrl{f:CmpOp}{m:R2}(G:Oz X (Do op) r)(g:Oz X (Do f) m)(D:PE X a ta)(hb:PE X b tb)(E:PE X c tc)
  (F:lastMarks [op,f] [b,c]=Gq:=by with_unfolding_all rfl):PT X (.Compare a [op,f] [b,c] pos) (Qv4 (Qxb r m ta tb tc)):=by
 intro pins s σ H Q I h;refine isTrue_chain (Yp (D pins s σ H _ I h) λv s1⟨x,H1,q,O,K⟩=>test_link (Yp (hb pins s1 σ H1 _ q K) λu s2⟨y,H2,t,n,L⟩=>Yp (G pins s2 σ H2 x y v u _ t O n L) λd T⟨z,i,j,P,k,e,l⟩=>?_)) F
 subst e;cases P;refine DX ?_;cases k with
 |false=>obtain⟨W,B,J⟩:=l;cases B;exact ite_ff ⟨i,j,J⟩
 |true=>refine ite_tt (test_last (Yp (E pins T σ i _ j l) λU s4⟨V,o,w,R,M⟩=>Yp (g pins s4 σ o y V u U _ w n R M) λd' Z⟨z2,p,A,S,Y,C,N⟩=>?_));subst C;cases S;exact DX ⟨p,A,N⟩
def Qyy(K:Gd)(x:V)(H:Hp)(k:Bool):Prop:=
 match x with
 |.non=>k=Gq
 |.bl b=>k=b
 |.int i=>k=(i !=0)
 |.str y=>y.length<=Gi/\k=((y.length:Int) !=0)
 |.byt y=>y.size<=Gi/\k=((y.size:Int) !=0)
 |.ref p=>(∃xs,Zc K H p xs/\k= !xs.isEmpty)\/(∃xs,Z2 K H p xs/\k= !xs.isEmpty)\/∃kvs,H p=Ga (.dK kvs)/\k= !kvs.isEmpty
 |_=>False
theorem Qli{κ:Type}{kvs:List (κ×V)}{vs:List (κ×Value)}(r:KV kvs vs):(!vs.isEmpty)= !kvs.isEmpty:=by cases r<;>rfl
theorem Qck{its:List Value}(r:Zv xs its):(!its.toArray.isEmpty)= !xs.isEmpty:=by cases r<;>simp
theorem Rl:(Gi:Nat)<2^63:=by rw[GQ];decide
theorem Qpg:Q14 X (λx H Q=>∃k,Qyy X.K x H k/\Q k H):=by
 intro pins s σ H x v Q I d h;obtain⟨k,e,q⟩:=h;have j:=Rl;have l:Gi=16777216:=GQ;cases x with
 |non=>cases d;have a:k=Gq:=e;subst a;exact truthy_none ⟨H,I,q⟩
 |bl b=>cases d;have a:k=b:=e;subst a;exact DX ⟨H,I,q⟩
 |int i=>obtain⟨t,rfl⟩:=d;have a:k=(i !=0):=e;subst a;exact NH ⟨H,I,q⟩
 |str y=>obtain⟨t,rfl⟩:=d;obtain⟨g,a⟩:y.length<=Gi/\k=((y.length:Int) !=0):=e;subst a;exact NI (by omega) ⟨H,I.tok _,q⟩
 |byt y=>obtain⟨t,rfl⟩:=d;obtain⟨g,a⟩:y.size<=Gi/\k=((y.size:Int) !=0):=e;subst a;exact Nm (by omega) ⟨H,I.tok _,q⟩
 |ref p=>
  cases d;have a:(∃xs,Zc X.K H p xs/\k= !xs.isEmpty)\/(∃xs,Z2 X.K H p xs/\k= !xs.isEmpty)\/∃kvs,H p=Ga (.dK kvs)/\k= !kvs.isEmpty:=e;rcases a with⟨xs,f,a⟩|⟨xs,f,a⟩|⟨kvs,f,a⟩
  ·subst a;obtain⟨its,r,pl,hz⟩:=I.list f;have c:=r.length;exact wpAny_truthy_list pl.isList (by simp only[List.size_toArray];omega) ⟨H,I.tok _,by rw[Qck r];exact q⟩
  ·subst a;obtain⟨its,r,pl,hz⟩:=I.tuple f;have c:=r.length;exact truthy_tuple pl (by simp only[List.size_toArray];omega) ⟨H,I.tok _,by rw[Qck r];exact q⟩
  ·subst a;obtain⟨hz,hS,vs,r,m⟩:kvs.length<=Gi/\(p==T8)=Gq/\∃vs,KV kvs vs/\s.heap.DictOf (Yk X.prog X.w) p vs:=I.Zw p _ f;have c:kvs.length=vs.length:=Gr r;exact wpAny_truthy_dict hS m (by omega) ⟨H,I.tok _,by rw[Qli r];exact q⟩
 |_=>exact(show False from e).elim
theorem Qi4(d:PE X a ta)(e:∀b,isTrue a X.env b=(do let v<-b;standAt a.pos;holding [v] (truthy v))):
  PT X a (λσ H Q=>ta σ H λx H'=>∃k,Qyy X.K x H' k/\Q k H'):=by
 intro pins s σ H Q I h;exact MR (Yp (d pins s σ H _ I h) λv s1⟨x,H1,c,g,f⟩=>Qpg pins s1 σ H1 x v Q c g f) (e _)
theorem Qkd:Oz X (binaryOp .Add) (λx y H Q=>∃i j,x=.str i/\y=.str j/\i.length+j.length<=Gi/\Q (.str (i++j)) H):=by intro pins s σ H x y v u Q I a b h;obtain⟨i,j,rfl,rfl,hz,q⟩:=h;obtain⟨t,rfl⟩:=a;obtain⟨t',rfl⟩:=b;exact add_str (λt' tk=>⟨.str (i++j),H,I.tok _,⟨_,Xb⟩,q⟩) hz
theorem vals1{x:V}(r:Zv [x] us):∃u,us=[u]/\RelV x u:=by
 cases r with
 |cons a b=>cases b;exact⟨_,Xb,a⟩
theorem vals2{x y:V}(r:Zv [x,y] us):∃u a,us=[u,a]/\RelV x u/\RelV y a:=by
 cases r with
 |cons b c=>
  cases c with
  |cons d e=>cases e;exact⟨_,_,Xb,b,d⟩
theorem Qqv:V3 X (.builtin "abs") (λxs H Q=>∃i,xs=[.int i]/\Q (.int (if i<0 then -i else i)) H):=by intro pins s σ H xs us Q I r h;obtain⟨i,rfl,q⟩:=h;obtain⟨u,rfl,t,rfl⟩:=vals1 r;exact call_abs_int λu tk=>⟨.int (if i<0 then -i else i),H,I.tok _,⟨_,Xb⟩,q⟩
theorem Qo0(b:X.calm=Gf):V3 X (.builtin "min") (λxs H Q=>∃i j,xs=[.int i,.int j]/\Q (.int (if j<i then j else i)) H):=by
 intro pins s σ H xs us Q I r h;obtain⟨i,j,rfl,q⟩:=h;obtain⟨u,c,rfl,⟨t,rfl⟩,⟨t',rfl⟩⟩:=vals2 r;refine min_two_ints (I.ok.hd b) λh' tk k=>⟨_,H,I.kept k,?_,q⟩;by_cases a:j<i
 ·rw[Gm a,Gm a];exact⟨_,Xb⟩
 ·rw[Gh a,Gh a];exact⟨_,Xb⟩
def Q1n(K:Gd)(x:V)(H:Hp)(n:Nat):Prop:=
 match x with
 |.str y=>y.length<=Gi/\n=y.length
 |.byt y=>y.size<=Gi/\n=y.size
 |.ref p=>(∃xs,Zc K H p xs/\n=xs.length)\/∃xs,Z2 K H p xs/\n=xs.length
 |_=>False
theorem Yz:V3 X (.builtin "len") (λxs H Q=>∃x n,xs=[x]/\Q1n X.K x H n/\Q (.int n) H):=by
 intro pins s σ H xs us Q I r h;obtain⟨x,n,rfl,e,q⟩:=h;obtain⟨u,rfl,f⟩:=vals1 r;have i:=Rl;have j:Gi=16777216:=GQ;cases x with
 |str y=>obtain⟨t,rfl⟩:=f;obtain⟨g,b⟩:y.length<=Gi/\n=y.length:=e;subst b;exact len_str (by omega) ⟨.int _,H,I.tok _,⟨_,Xb⟩,q⟩
 |byt y=>obtain⟨t,rfl⟩:=f;obtain⟨g,b⟩:y.size<=Gi/\n=y.size:=e;subst b;exact NS (by omega) ⟨.int _,H,I.tok _,⟨_,Xb⟩,q⟩
 |ref p=>
  cases f;have b:(∃xs,Zc X.K H p xs/\n=xs.length)\/∃xs,Z2 X.K H p xs/\n=xs.length:=e;rcases b with⟨xs,c,b⟩|⟨xs,c,b⟩
  ·subst b;obtain⟨its,d,pl,hz⟩:=I.list c;have a:=d.length;exact Lp pl.isList (by simp only[List.size_toArray];omega) ⟨.int xs.length,H,I.tok _,⟨_,by simp only[List.size_toArray];rw[a]⟩,q⟩
  ·subst b;obtain⟨its,d,pl,hz⟩:=I.tuple c;have a:=d.length;exact len_tuple pl (by simp only[List.size_toArray];omega) ⟨.int xs.length,H,I.tok _,⟨_,by simp only[List.size_toArray];rw[a]⟩,q⟩
 |_=>exact(show False from e).elim
end
structure Qky(h:Heap)(x dx C:Gc)(mA:Ta->Option Value):Prop where
 obj:h.get? x=Ga (DK C dx)
 ns:h.Ns1 dx mA
 ne:dx≠x
theorem Qo7{h:Heap}{dx:Gc}{mA:Ta->Option Value}(n:h.Ns1 dx mA):∃od,h.get? dx=Ga od/\∀name,Sd name od=Ga (mA name):=by
 obtain⟨o,es,ep,g,hd,d,_,f⟩:=n;refine⟨o,g,λname=>?_⟩;have e:=f name;unfold nsFind findBy at e;rw[<-Array.find?_toList]at e;unfold Sd;rw[hd];dsimp only;split
 ·rename_i y q
  rw[q]at e;exact congrArg Ga e
 ·rename_i q
  rw[q]at e;have a:es.toList.any (·.refKey)=Gq:=by rw[List.any_eq_false];intro y i;obtain⟨z,t,b⟩:=d y (Array.mem_toList_iff.mp i);simp[RD,b]
  have c:¬es.toList.any (·.refKey)=Gf:=by rw[a];exact Gw
  rw[Gh c];exact congrArg Ga e
theorem Qky.look{h:Heap}{x dx:Gc}{mA:Ta->Option Value}(I:Qky h x dx C mA):∃od,RV h x (DK C dx) C (Ga od)/\∀name,Sd name od=Ga (mA name):=
 let⟨od,ho,hl⟩:=Qo7 I.ns
 ⟨od,⟨I.obj,Xb,Xb,ho⟩,hl⟩
section
variable{prog:Gk}{w:Gv}{A:TL}{E:Value->Gj->Prop}{s:Gj}{K:Gd}{x dx C f:Gc}{mA:Ta->Option Value}{name:Ta}{v:Value}
theorem Qtl{a:Bool}(X:K.In s.heap)(I:Qky s.heap x dx C mA)(d:Dq K C name=Gf)(e:Dw K C=Gf)
  (c:GJ K (.ref C) name=Ga Gg)(g:mA name=Ga v)(b:Ff v=Gf)(h:Q v {s with toks:=s.toks+1}):
  wpAny (GY prog w) A (getAttr (.ref x) name a) Q E s:=by
 obtain⟨od,J,f⟩:=I.look;exact NT X J (E8 d).1 (Ny e c rfl (by rw[f,g])) b h
theorem Qpn{Q:Value×List Value->Gj->Prop}(X:K.In s.heap)(I:Qky s.heap x dx C mA)(a:Dq K C name=Gf)
  (b:GJ K (.ref C) name=Ga (Ga (.ref f)))(d:Ti K (.ref f)=Gf)(e:mA name=Gg)(h:Q (.ref f,[.ref x]) s):
  wpAny (GY prog w) A (getMethod (.ref x) name pl) Q E s:=by
 obtain⟨od,J,c⟩:=I.look;exact NU X J (E8 a).1 (E8 a).2 b (Se.mp d) (by show(Sd name od).map (·.isSome)=Ga Gq;rw[c,e];rfl) h
theorem Qty{ns:List Ta}{Q:Unit->Gj->Prop}(X:K.In s.heap)(I:Qky s.heap x dx C mA)
  (o:GJ K (.ref C) "__setattr__"=Ga (Ga (.builtin "object.__setattr__")))(n:DJ K C=Gf)(p:SX K C name=Ga Gg)(m:Dw K C=Gf)
  (hw:LM mA ns)(hsz:ns.length<=Gi)
  (h:∀h',Qky h' x dx C (λy=>if y=name then Ga v else mA y)->Heap.SameBut dx s.heap h'->Q () {s with heap:=h',toks:=s.toks+2}):
  wpAny (GY prog w) A (setAttr (.ref x) name v) Q E s:=by
 obtain⟨od,J,u⟩:=I.look;refine NV X J o (RE (s:={s with toks:=s.toks+1}) (r:=Gg) X J n p λb=>?_);obtain⟨t,l,f⟩:=RF m;have q:s.heap.get? x=Ga ⟨.ref C,Ga dx,.plain,#[]⟩:=I.obj;refine Gb (Ge (Gb (Gb (wpAny_loadPart q (Gb (NJ (s:={s with toks:=s.toks+1}) (Nz X l) ?_))))));rw[f];refine Ge (a:=Ga dx) (Gb (Ge (Gb ?_)));refine wpAny_nsSet1 (s:={s with toks:=s.toks+1}) I.ns λh' c d=>?_;obtain⟨z,k,j,i,g,e⟩:=c.count (NW name v hw);refine Gb (wpAny_lookBehind i (by rw[g];exact pastItsLine_dict (TY e (by rw[List.length_cons];omega))) ?_);exact Ge (h _ ⟨(d.2 _ (Gp I.ne)).trans I.obj,c,I.ne⟩ d)
theorem Qrh{R:MU->Gj->Prop}{vs:List Value}(X:K.In s.heap)(b:DW K C=Gf)
  (hi:GJ K (.ref C) "__init__"=Ga (Ga (.ref f)))(a:RW K (.ref f)=Ga (.type "function"))
  (h:codeAny (GY prog w) (A.under (.builtin "type.__call__" ⟨.ref C::vs,kw⟩)) (.call (.ref f) ⟨.ref (s.heap.objs.size+1)::vs,kw⟩) (RG (s.heap.objs.size+1) R)
   {s with heap:=(s.heap.push Dl).push (DK C s.heap.objs.size)}):
  codeAny (GY prog w) A (.call (.ref C) ⟨vs,kw⟩) R s:=by
 obtain⟨c,g,d,t,os⟩:=s;exact NX (RH X b) (No X hi) (λself=>RQ X self a) (.inl Xb) h
end
def Yg(f:Ta)(v:V):List (Ta×V)->List (Ta×V)
 |[]=>[(f,v)]
 |(g,x)::r=>if g=f then(g,v)::r else(g,x)::Yg f v r
theorem Qa6(f g:Ta)(v:V):∀fs:List (Ta×V),(Yg f v fs).lookup g=if g=f then Ga v else fs.lookup g
 |[]=>by
  show List.lookup g [(f,v)]=_;by_cases h:g=f
  ·have hb:(g==f)=Gf:=Se.mpr h;simp only[List.lookup,hb,Gm h]
  ·have hb:(g==f)=Gq:=Dz.mpr h;simp only[List.lookup,hb,Gh h]
 |(k,x)::r=>by
  have b:=Qa6 f g v r;rw[show Yg f v ((k,x)::r)=(if k=f then(k,v)::r else(k,x)::Yg f v r)from rfl];by_cases a:k=f
  ·rw[Gm a];by_cases h:g=k
   ·have hb:(g==k)=Gf:=Se.mpr h;simp only[List.lookup,hb,Gm (h.trans a)]
   ·have hb:(g==k)=Gq:=Dz.mpr h;simp only[List.lookup,hb,Gh (λe:g=f=>h (e.trans a.symm))]
  ·rw[Gh a];by_cases h:g=k
   ·have hb:(g==k)=Gf:=Se.mpr h;simp only[List.lookup,hb,Gh (λe:g=f=>a (h.symm.trans e))]
   ·have hb:(g==k)=Gq:=Dz.mpr h;simp only[List.lookup,hb];exact b
theorem Qao(f:Ta)(v:V):∀fs:List (Ta×V),f∈(Yg f v fs).map (·.1)/\∀g,g∈fs.map (·.1)->g∈(Yg f v fs).map (·.1)
 |[]=>⟨by simp[Yg],λg h=>by simp at h⟩
 |(k,x)::r=>by
  obtain⟨i1,i2⟩:=Qao f v r;rw[show Yg f v ((k,x)::r)=(if k=f then(k,v)::r else(k,x)::Yg f v r)from rfl];by_cases a:k=f
  ·rw[Gm a];subst a;exact⟨by simp,λg h=>by simpa using h⟩
  ·rw[Gh a];refine⟨?_,λg h=>?_⟩
   ·rw[List.map_cons];exact List.mem_cons_of_mem _ i1
   ·rw[List.map_cons]at h⊢;rcases List.mem_cons.mp h with e|e
    ·exact List.mem_cons.mpr (.inl e)
    ·exact List.mem_cons_of_mem _ (i2 g e)
theorem Qbe(f:Ta)(v:V):∀fs:List (Ta×V),(Yg f v fs).length<=fs.length+1
 |[]=>by simp[Yg]
 |(k,x)::r=>by
  have b:=Qbe f v r;rw[show Yg f v ((k,x)::r)=(if k=f then(k,v)::r else(k,x)::Yg f v r)from rfl];by_cases a:k=f
  ·rw[Gm a,List.length_cons,List.length_cons];omega
  ·rw[Gh a,List.length_cons,List.length_cons];omega
theorem Jq.some_of{o:Option Value}(r:Jq (Ga v) o):∃u,o=Ga u/\RelV v u:=by
 cases o with
 |none=>exact(show False from r).elim
 |some u=>exact⟨u,Xb,r⟩
theorem Jq.none_of{o:Option Value}(r:Jq Gg o):o=Gg:=by
 cases o with
 |none=>rfl
 |some u=>exact(show False from r).elim
theorem Qne(r:RelV v u):Ff u=Gf:=by
 cases v with
 |non=>cases(show u=Value.none from r);rfl
 |bl b=>cases(show u=Value.bool b from r);rfl
 |int i=>obtain⟨t,e⟩:=(show∃t,u=Value.int i t from r);cases e;rfl
 |str x=>obtain⟨t,e⟩:=(show∃t,u=Value.str x t from r);cases e;rfl
 |byt b=>obtain⟨t,e⟩:=(show∃t,u=Value.bytes b t from r);cases e;rfl
 |flt b=>obtain⟨t,e⟩:=(show∃t,u=Value.float b t from r);cases e;rfl
 |ref a=>cases(show u=Value.ref a from r);rfl
 |ty n=>cases(show u=Value.type n from r);rfl
section
variable{P:Gk}{w:Gv}{H H':Hp}{h h':Heap}{a C dx:Gc}{fs fs':List (Ta×V)}
theorem Qbv(Zw:Iy P w H h)(e:H a=Ga (.ins C dx fs)):∃mA,Qky h a dx C mA/\(∀f,Jq (fs.lookup f) (mA f))/\LM mA (fs.map (·.1))/\fs.length<=1000/\H dx=Ga (.own a):=by obtain⟨d,z,ne,ob,mA,n,r,q⟩:=(show Z1 P w H h a (.ins C dx fs)from Zw a _ e);exact⟨mA,⟨ob,n,ne⟩,r,q,z,d⟩
end
structure Cls(K:Gd)(C:Gc):Prop where
 pg:Dq K C Em=Gf
 hd:Dw K C=Gf
 po:DJ K C=Gf
 sa:GJ K (.ref C) "__setattr__"=Ga (Ga (.builtin "object.__setattr__"))
theorem Cls.get(c:Cls K C)(f:Ta):Dq K C f=Gf:=c.pg
def Yn(K:Gd)(C:Gc)(f:Ta):Prop:=GJ K (.ref C) f=Ga Gg
theorem Yn.Qyw{f:Ta}(n:Yn K C f):SX K C f=Ga Gg:=by unfold SX;rw[show GJ K (.ref C) f=Ga Gg from n];rfl
structure Z8(K:Gd)(C:Gc)(m:Ta)(f:Gc):Prop where
 at_:GJ K (.ref C) m=Ga (Ga (.ref f))
 fn:Ti K (.ref f)=Gf
 kp:T9 K (.ref f)=Gf
section
variable{X:Cx}{pins:List (Gc×Ee)}{σ:St}{H:Hp}{s:Gj}{a C dx:Gc}{fs:List (Ta×V)}{f:Ta}{v:V}{A:TL}{E:Value->Gj->Prop}
theorem Qkk{b:Bool}(I:Inv X pins σ H s)(e:H a=Ga (.ins C dx fs))(c:Cls X.K C)(n:Yn X.K C f)(l:fs.lookup f=Ga v)
  (h:∀u s',Inv X pins σ H s'->RelV v u->Q u s'):wpAny (GY X.prog X.w) A (getAttr (.ref a) f b) Q E s:=by
 obtain⟨mA,O,r,_,_,_⟩:=Qbv I.Zw e;obtain⟨u,g,d⟩:=Jq.some_of (v:=v) (o:=mA f) (by rw[<-l];exact r f);exact Qtl I.Jn O (c.get f) c.hd n g (Qne d) (h u _ (I.tok _) d)
theorem Rn{m:Ta}{g:Gc}{Q:Value×List Value->Gj->Prop}(I:Inv X pins σ H s)(e:H a=Ga (.ins C dx fs))(c:Cls X.K C)(k:Z8 X.K C m g)(l:fs.lookup m=Gg)
  (h:Q (.ref g,[.ref a]) s):wpAny (GY X.prog X.w) A (getMethod (.ref a) m pl) Q E s:=by
 obtain⟨mA,O,r,_,_,_⟩:=Qbv I.Zw e;have b:mA m=Gg:=Jq.none_of (by rw[<-l];exact r m);exact Qpn I.Jn O (c.get m) k.at_ k.fn b h
theorem Qlj{y:V}{Q:Unit->Gj->Prop}(I:Inv X pins σ H s)(e:H a=Ga (.ins C dx fs))(c:Cls X.K C)(n:Yn X.K C f)(m:fs.length<1000)(k:RelV y u)
  (h:∀s',Inv X pins σ (upd H a (.ins C dx (Yg f y fs))) s'->Q () s'):wpAny (GY X.prog X.w) A (setAttr (.ref a) f u) Q E s:=by
 obtain⟨mA,O,r,wi,_,i⟩:=Qbv I.Zw e;have hz:(fs.map (·.1)).length<=Gi:=by rw[List.length_map,GQ];omega
 refine Qty I.Jn O c.sa c.po n.Qyw c.hd wi hz λh' d l=>h _ ?_;have hd:∃o,h'.get? dx=Ga o:=let⟨o,_,_,e',_⟩:=d.ns;⟨o,e'⟩;refine I.write (x:=a) (e:=dx) (by rw[e];exact TC) (.inr i) (λb q hb z=>(l.2 b hb).trans z) hd ?_;refine⟨by rw[Qf O.ne];exact i,?_,O.ne,d.obj,_,d.ns,λg=>?_,λg j=>?_⟩
 ·have:=Qbe f y fs;omega
 ·show Jq ((Yg f y fs).lookup g) (if g=f then Ga u else mA g);rw[Qa6];by_cases q:g=f
  ·rw[Gm q,Gm q];exact k
  ·rw[Gh q,Gh q];exact r g
 ·by_cases q:g=f
  ·rw[q];exact(Qao f y fs).1
  ·refine(Qao f y fs).2 g (wi g λz=>j ?_);show(if g=f then Ga u else mA g)=Gg;rw[Gh q];exact z
theorem Inv.made(I:Inv X pins σ H s):Inv X pins σ (upd (upd H s.heap.objs.size (.own (s.heap.objs.size+1))) (s.heap.objs.size+1) (.ins C s.heap.objs.size []))
  {s with heap:=(s.heap.push Dl).push (DK C s.heap.objs.size)}:=by
 have c:(s.heap.push Dl).get? s.heap.objs.size=Ga Dl:=Heap.get?_push_size s.heap rfl;have f:((s.heap.push Dl).push (DK C s.heap.objs.size)).get? (s.heap.objs.size+1)=Ga (DK C s.heap.objs.size):=by have:=Heap.get?_push_size (s.heap.push Dl) (o:=DK C s.heap.objs.size) rfl;rwa[Heap.size_push]at this
 have g:(s.heap.push Dl).Ns s.heap.objs.size (λ_=>Gg):=⟨Dl,#[],_,c,Xb,(λe h=>absurd h (by simp)),λ_=>rfl⟩;have d:=I.laid (a:=s.heap.objs.size) (o:=.own (s.heap.objs.size+1)) (h':=s.heap.push Dl) (t':=s.toks) (λb u q=>Heap.get?_push_of_some _ q) (Gn _) ⟨_,c⟩;refine d.laid (a:=s.heap.objs.size+1) (o:=.ins C s.heap.objs.size []) (t':=s.toks) (λb u q=>Heap.get?_push_of_some _ q) (LO (Heap.size_push _ _)) ?_;have ne:s.heap.objs.size≠s.heap.objs.size+1:=Tc (DQ _);refine⟨by rw[Qf ne,Qb],Gx _,ne,f,λ_=>Gg,(Heap.Ns1.of_empty g).at λo q=>Heap.get?_push_of_some _ q,λ_=>TC,λy i=>absurd rfl i⟩
theorem Qth{prog:Gk}{env:LL}{f:Ta}{s:Gj}(hb:attributeBase e f env (eval e env)=eval e env)
  (h:wpAny (GY prog w) A (eval e env) (λo a=>wpAny (GY prog w) A (getAttr o f Gf) Q E a) E s):wpAny (GY prog w) A (eval (.Attribute e f pos) env) Q E s:=
 Attribute_any_ h (by rw[arm_eval_Attribute,hb])
end
def Qvh(K:Gd)(ta:TE)(f:Ta):TE:=λσ H Q=>ta σ H λx H1=>∃a C dx fs v,x=.ref a/\H1 a=Ga (.ins C dx fs)/\Cls K C/\Yn K C f/\fs.lookup f=Ga v/\Q v H1
def Q1d(K:Gd)(ta tv:TE)(f:Ta):TS:=λD σ H=>tv σ H λy H1=>ta σ H1 λx H2=>∃a C dx fs,x=.ref a/\H2 a=Ga (.ins C dx fs)/\Cls K C/\Yn K C f/\fs.length<1000/\
 D.nx σ (upd H2 a (.ins C dx (Yg f y fs)))
section
variable{X:Cx}{o e value:T1}{f:Ta}{pos pos' tpos:SW}{ta tv:TE}
theorem Qm(g:PE X e ta)(hb:attributeBase e f X.env (eval e X.env)=eval e X.env):PE X (.Attribute e f pos) (Qvh X.K ta f):=by intro pins s σ H Q I h;refine Qth hb (Yp (g pins s σ H _ I h) λu s1⟨x,H1,b,j,a,C,dx,fs,v,ex,ea,c,n,l,q⟩=>?_);subst ex;obtain rfl:u=Value.ref a:=j;exact Qkk b ea c n l λk s2 d i=>⟨v,H1,d,i,q⟩
theorem Yu(g:PE X o ta)(j:PE X value tv)(i:swapsWith value (Ga (.Attribute o f pos')) pos.line X.env=pure Gq):PS X (.Assign [.Attribute o f pos'] value pos) (Q1d X.K ta tv f):=by intro pins s σ H D I h;refine plainObj_wpAny_Assign_Attribute (Yp (j pins s σ H _ I h) λu s1⟨y,H1,b,p,q⟩=>Yp (g pins s1 σ H1 _ b q) λov s2⟨x,H2,d,m,a,C,dx,fs,ex,ea,c,n,l,k⟩=>?_) i;subst ex;obtain rfl:ov=Value.ref a:=m;exact Qlj d ea c n l p λr e=>⟨σ,_,e,k⟩
theorem Qwn{m:Ta}{apos:SW}{args:List T1}(d:PE X e te)(I:Inv X pins σ H s)
  (h:te σ H λx H1=>∃a C dx fs g,x=.ref a/\H1 a=Ga (.ins C dx fs)/\Cls X.K C/\Z8 X.K C m g/\fs.lookup m=Gg/\
   ∀s1,Inv X pins σ H1 s1->wpAny (GY X.prog X.w) X.A (callWith pos (.ref g) [.ref a] (DN pos (Td args X.env)) (backToKw pos (keywordEach [] X.env))) Q X.xe s1)
  (i:eval (.Call (.Attribute e m apos) args [] pos) X.env=(do
   let ov<-eval e X.env
   standAt apos.atName
   let(f,first)<-holding [ov] (getMethod ov m pl)
   callWith pos f first (DN pos (Td args X.env)) (backToKw pos (keywordEach [] X.env)))):
  wpAny (GY X.prog X.w) X.A (eval (.Call (.Attribute e m apos) args [] pos) X.env) Q X.xe s:=by
 refine EN (pl:=pl) (Yp (d pins s σ H _ I h) λu s1⟨x,H1,b,j,a,C,dx,fs,g,ex,ea,c,k,l,q⟩=>?_) i;subst ex;obtain rfl:u=Value.ref a:=j;exact Rn b ea c k l (q s1 b)
end
section
variable{X:Cx}{pins:List (Gc×Ee)}{σ:St}{H:Hp}{s:Gj}{A:TL}{E:Value->Gj->Prop}{Q:Value->Gj->Prop}{c:Value}{b:Bool}
inductive Iu(K:Gd)(H:Hp):V->Value->Prop where
 |non:Iu K H .non (.type "NoneType")
 |bl (x:Bool):Iu K H (.bl x) (.type "bool")
 |int (i:Int):Iu K H (.int i) (.type "int")
 |str (x:Ta):Iu K H (.str x) (.type "str")
 |flt (x:UInt64):Iu K H (.flt x) (.type "float")
 |lst {a:Gc} {xs:List V} (e:H a=Ga (.lst xs)):Iu K H (.ref a) (.type "list")
 |frz {a:Gc} {o:Ee} {xs:List V} (e:H a=Ga (.frz o (.lst xs))):Iu K H (.ref a) (.type "list")
 |tup {a:Gc} {xs:List V} (e:H a=Ga (.tup xs)):Iu K H (.ref a) (.type "tuple")
 |dK {a:Gc} {kvs:List (Xs×V)} (e:H a=Ga (.dK kvs)):Iu K H (.ref a) (.type "dict")
 |dT {a:Gc} {kvs:List (List Xs×V)} (e:H a=Ga (.dT kvs)):Iu K H (.ref a) (.type "dict")
 |ins {a C dx:Gc} {fs:List (Ta×V)} (e:H a=Ga (.ins C dx fs)) (cl:Cls K C) (ha:GJ K (.ref C) "__class__"=Ga (Ga (.builtin "object.__class__")))
   (hn:NY K (.builtin "object.__class__") "__get__"=Ga (Ga (.builtin "getset_descriptor.__get__"))) (htk:RS K (.builtin "object.__class__")=Ga Gf)
   (hm:RZ K C (.type "object")=Ga Gf):Iu K H (.ref a) (.ref C)
theorem Qnd{x:V}{t:Value}(I:Inv X pins σ H s)(d:RelV x u)(ty:Iu X.K H x t)(e:Te X.K t c=Ga b)(h:∀tk,Q (.bool b) {s with toks:=tk}):
  wpAny (GY X.prog X.w) A (call (.builtin "isinstance") [u,c]) Q E s:=by
 cases ty with
 |non=>cases(show u=Value.none from d);exact De LP I.Jn TC e nofun h
 |bl y=>cases(show u=Value.bool y from d);exact De LQ I.Jn TC e nofun h
 |int i=>obtain⟨t,q⟩:=(show∃t,u=Value.int i t from d);cases q;exact De Fg I.Jn TC e nofun h
 |str y=>obtain⟨t,q⟩:=(show∃t,u=Value.str y t from d);cases q;exact De Fh I.Jn TC e nofun h
 |flt y=>obtain⟨t,q⟩:=(show∃t,u=Value.float y t from d);cases q;exact De LB I.Jn TC e nofun h
 |@lst a xs ea=>cases(show u=Value.ref a from d);obtain⟨_,_,n,_,h1⟩:=(show Z1 X.prog X.w H s.heap a (.lst xs)from I.Zw a _ ea);exact De EG I.Jn ⟨_,h1,Xb⟩ e nofun h
 |@frz a ob xs ea=>cases(show u=Value.ref a from d);obtain⟨_,_,_,n,_,h1⟩:=(show Z1 X.prog X.w H s.heap a (.frz ob (.lst xs))from I.Zw a _ ea);exact De EG I.Jn ⟨_,h1,Xb⟩ e nofun h
 |@tup a xs ea=>cases(show u=Value.ref a from d);obtain⟨_,_,_,p⟩:=(show Z1 X.prog X.w H s.heap a (.tup xs)from I.Zw a _ ea);obtain⟨o,h1,h2,_⟩:=p;exact De LC I.Jn ⟨o,h1,h2⟩ e nofun h
 |@dK a kvs ea=>cases(show u=Value.ref a from d);obtain⟨_,_,vs,_,p⟩:=(show Z1 X.prog X.w H s.heap a (.dK kvs)from I.Zw a _ ea);obtain⟨o,es,ep,h1,h2,_⟩:=p;exact De EH I.Jn ⟨o,h1,h2.1⟩ e nofun h
 |@dT a kvs ea=>cases(show u=Value.ref a from d);obtain⟨_,_,xs,_,o,es,ep,h1,h2,_⟩:=(show Z1 X.prog X.w H s.heap a (.dT kvs)from I.Zw a _ ea);exact De EH I.Jn ⟨o,h1,h2.1⟩ e nofun h
 |@ins a C dx fs ea cl g k f j=>cases(show u=Value.ref a from d);obtain⟨mA,O,_⟩:=Qbv I.Zw ea;obtain⟨od,J,_⟩:=O.look;exact De (RI (cl.get _) cl.hd g k f j) I.Jn J e nofun h
end
structure Z9(k:Nat)(A:TL):Prop where
 hd:A.handled=Gg
 dp:A.depth+3*k+5<recursionLimit
 un:A.units+16*k+200<DP
variable{Q:VK}
theorem Z9.mono{j:Nat}(r:Z9 k A)(h:j<=k):Z9 j A:=⟨r.hd,by have:=r.dp;omega,by have:=r.un;omega⟩
theorem Z9.deeper{k:Nat}{A:TL}(r:Z9 (k+1) A)(env:LL):Z9 k (A.deeper env):=
 ⟨r.hd,by have:=r.dp;show A.depth+1+3*k+5<_;omega,by have:=r.un;show A.units+3+16*k+200<_;omega⟩
theorem Qkj:(A.under (.builtin "type.__call__" ⟨.ref C::us,kw⟩)).depth=A.depth+1:=by first|rfl|simp[LR,Code.weight,Code.isCreation,Code.isGuard,Code.isCaller,Np,LU,guardIds]
theorem Qkn:(A.under (.builtin "type.__call__" ⟨.ref C::us,kw⟩)).units=A.units+1:=by first|rfl|simp[LR,Code.cUnits,Np,LU]
theorem Z9.make(r:Z9 (k+1) A)(C:Gc)(us:List Value)(a:List (Ta×Value)):Z9 k (A.under (.builtin "type.__call__" ⟨.ref C::us,a⟩)):=
 ⟨r.hd,by have:=r.dp;rw[Qkj];omega,by have:=r.un;rw[Qkn];omega⟩
theorem Z9.depth{k:Nat}{A:TL}(r:Z9 k A):A.depth<recursionLimit:=by have:=r.dp;omega
theorem Z9.units{k:Nat}{A:TL}(r:Z9 k A):A.units+64<DP:=by have:=r.un;omega
def Qnl:TA:=λ_ H Q=>Q [] H
def Qfd(ta:TE)(a:TA):TA:=λσ H Q=>ta σ H λx H1=>a σ H1 λxs H2=>Q (x::xs) H2
section
variable{X:Cx}{e:T1}{es:List T1}{te:TE}{t:TA}{pos:SW}
theorem Qe:PA X [] Qnl:=λ_ _ _ _ H Q I h=>EI ⟨[],H,I,.nil,h⟩
theorem Qa(c:PE X e te)(d:PA X es t)(f:Td (e::es) X.env=(Gq,eval e X.env)::Td es X.env:=by rfl):PA X (e::es) (Qfd te t):=by intro pos pins s σ H Q I h;rw[f];show wpAny _ _ (spliced ((Gq,eval e X.env)::DN pos (Td es X.env))) _ _ s;refine Sf (Yp (c pins s σ H _ I h) λu s1⟨x,H1,a,j,g⟩=>?_);exact Yp (d pos pins s1 σ H1 _ a g) λus s2⟨xs,H2,b,k,i⟩=>⟨x::xs,H2,b,.cons j k,i⟩
def Q2d(t:TA):TE:=λσ H Q=>t σ H λxs H1=>xs.length<=Gi/\∀p,H1 p=Gg->Q (.ref p) (upd H1 p (.tup xs))
def Q1c(t:TA):TE:=λσ H Q=>t σ H λxs H1=>xs.length<=Gi/\∀p,H1 p=Gg->Q (.ref p) (upd H1 p (.lst xs))
theorem Za{f}(h:PA X es t):PE X (.Tuple es f pos) (Q2d t):=by intro pins s σ H Q I d;refine wpAny_Tuple_spliced (Yp (h pos pins s σ H _ I d) λus s1⟨xs,H1,a,r,z,q⟩=>⟨by rw[<-r.length];exact z,?_⟩);have c:H1 s1.heap.objs.size=Gg:=a.Zw.fresh (Gn _);refine⟨.ref s1.heap.objs.size,upd H1 s1.heap.objs.size (.tup xs),a.laid (t':=s1.toks) (λb u e=>Heap.get?_push_of_some _ e) (Gn _) ?_,Xb,q _ c⟩;exact⟨z,us,r,⟨_,Heap.get?_push_size _ Xb,Xb,_,Xb⟩⟩
theorem Zt(h:PA X es t):PE X (.List es pos) (Q1c t):=by intro pins s σ H Q I d;refine wpAny_List_spliced (Yp (h pos pins s σ H _ I d) λus s1⟨xs,H1,a,r,z,q⟩=>⟨by rw[<-r.length];exact z,?_⟩);have c:H1 s1.heap.objs.size=Gg:=a.Zw.fresh (Gn _);refine⟨.ref s1.heap.objs.size,upd H1 s1.heap.objs.size (.lst xs),a.laid (t':=s1.toks) (λb u e=>Heap.get?_push_of_some _ e) (Gn _) ?_,Xb,q _ c⟩;exact⟨z,us,0,r,Heap.get?_push_size _ Xb⟩
end
abbrev Sp:=List V->Hp->VK->XK->Prop
abbrev CXT:=List LL->Hp->Gj->XK->Value->Gj->Prop
structure Qjx(P:Gk)(w:Gv)(K:Gd)(mg:Ta->Option Value)(base:Heap)(A:TL)(outer:List LL)(s:Gj)(H:Hp):Prop where
 frames:A.frames=Ga outer
 mod:Mod K mg base
 bs:∀b o,base.get? b=Ga o->s.heap.get? b=Ga o/\H b=Gg
 bsz:base.objs.size<=s.heap.objs.size
 Qbj:s.heap.FunFrames base outer
 frf:∀b∈frs outer,H b=Gg
 Zw:Iy P w H s.heap
 bare:Sr s.gens
def CE(outer:List LL)(P:Gk)(w:Gv)(H:Hp)(s:Gj)(Q:VK)(u:Value)(s':Gj):Prop:=
 ∃v H',s'.os=s.os/\Sr s'.gens/\Un (frs outer) [] H H' s.heap s'.heap/\Iy P w H' s'.heap/\RelV v u/\Q v H'
def CR(CX:CXT)(outer:List LL)(P:Gk)(w:Gv)(H:Hp)(s:Gj)(Q:VK)(E:XK)(r:MU)(s':Gj):Prop:=
 match r with
 |.ok (.ret u)=>CE outer P w H s Q u s'
 |.ok _=>False
 |.error e=>CX outer H s E e s'
structure Qr(P:Gk)(w:Gv)(K:Gd)(mg:Ta->Option Value)(base:Heap)(CX:CXT)(k:Nat)(f:Gc)(fd:Tt)(ps:List Ta)(sp:Sp):Prop where
 len:∀vs H Q E,sp vs H Q E->vs.length=ps.length
 run:∀(A:TL)(outer:List LL)(s:Gj)(H:Hp)(args:Args)(us:List Value)(vs:List V)(Q:VK)(E:XK),Z9 k A->Qjx P w K mg base A outer s H->LV s fd args (ps.zip us)->Zv vs us->sp vs H Q E->
  codeAny (GY P w) A (.call (.ref f) args) (CR CX outer P w H s Q E) s
theorem Qjx.make{base:Heap}{outer:List LL}(e:Qjx P w K mg base A outer s H)(C:Gc)(us:List Value)(a:List (Ta×Value)):
  Qjx P w K mg base (A.under (.builtin "type.__call__" ⟨.ref C::us,a⟩)) outer s H:=⟨by first|exact e.frames|(simpa[LR,Code.envs,LU,pushEnvs]using e.frames),e.mod,e.bs,e.bsz,e.Qbj,e.frf,e.Zw,e.bare⟩
section
variable{X:Cx}{pins:List (Gc×Ee)}{σ:St}{H:Hp}{s s':Gj}
theorem Inv.Qyx(I:Inv X pins σ H s):Qjx X.prog X.w X.K X.mg X.base X.A X.stack s H:=
 ⟨I.ok.frames,I.ok.mod,I.bs,TY I.ok.bsz I.sz,I.stack,I.Qlp,I.Zw,I.bare⟩
theorem Inv.after(I:Inv X pins σ H s)(h:CE X.stack X.prog X.w H s Q u s'):EP X pins σ Q u s':=by obtain⟨v,H',os,bare,un,Zw,r,q⟩:=h;obtain⟨c,g,d,t,a⟩:=s';obtain rfl:a=s.os:=os;exact⟨v,H',I.call (h':=c) (g':=g) (d':=d) (t':=t) (ch:=[]) un Zw bare (λb z=>absurd z (by simp)),r,q⟩
end
def Q0f(sp:Sp)(dvs:List V)(E:XK)(t:TA):TE:=λσ H Q=>t σ H λvs H1=>sp (vs++dvs) H1 Q E
def Qhq(C:Gc)(m:Ta)(sp:Sp)(dvs:List V)(E:XK)(ta:TE)(t:TA):TE:=λσ H Q=>ta σ H λx H1=>∃a dx fs,x=.ref a/\H1 a=Ga (.ins C dx fs)/\fs.lookup m=Gg/\
 t σ H1 λvs H2=>sp (x::(vs++dvs)) H2 Q E
def Qwf(C:Gc)(sp:Sp)(dvs:List V)(E:XK)(t:TA):TE:=λσ H Q=>t σ H λvs H1=>∀x dx,H1 x=Gg->H1 dx=Gg->dx≠x->
 sp (.ref x::(vs++dvs)) (upd (upd H1 dx (.own x)) x (.ins C dx [])) (λv H2=>v=.non/\Q (.ref x) H2) E
def Binds(K:Gd)(fd:Tt)(ps:List Ta)(ds:List Value):Prop:=
 ∀(s:Gj)(us:List Value),K.In s.heap->(us++ds).length=ps.length->LV s fd ⟨us,[]⟩ (ps.zip (us++ds))
theorem Binds.all{fd:Tt}(h:∀us:List Value,us.length=ps.length->bindArgs fd ⟨us,[]⟩=pure (ps.zip us)):Binds K fd ps []:=λs us _ a=>by rw[List.append_nil]at a⊢;exact .of_eq (h us a)
def Jt(CX:CXT)(X:Cx)(E:XK):Prop:=∀(pins:List (Gc×Ee))(σ:St)(H:Hp)(s:Gj)(e:Value)(s':Gj),Inv X pins σ H s->CX X.stack H s E e s'->X.xe e s'
section
variable{X:Cx}{CX:CXT}{k:Nat}{f C:Gc}{fd:Tt}{ps:List Ta}{sp:Sp}{dvs:List V}{ds:List Value}{E:XK}{x m:Ta}{p pos apos:SW}{e o:T1}{es:List T1}{ta:TE}{t:TA}
theorem Qkc(F:Qr X.prog X.w X.K X.mg X.base CX k f fd ps sp)(g:Z9 k X.A)(hb:Binds X.K fd ps ds)(hd:Zv dvs ds)(i:Jt CX X E)
  (I:Inv X pins σ H s)(r:Zv vs us)(h:sp (vs++dvs) H Q E):wpAny (GY X.prog X.w) X.A (call (.ref f) us) (EP X pins σ Q) X.xe s:=by
 have b:Zv (vs++dvs) (us++ds):=r.append hd;have d:(us++ds).length=ps.length:=by rw[<-b.length];exact F.len _ _ _ _ h
 refine NK (SR (F.run X.A X.stack s H ⟨us,[]⟩ (us++ds) (vs++dvs) Q E g I.Qyx (hb s us I.Jn d) b h) λr s' a=>?_);cases r with
 |error e=>exact i pins σ H s e s' I a
 |ok c=>
  cases c with
  |ret u=>exact I.after a
  |next=>exact False.elim a
  |brk=>exact False.elim a
  |cont=>exact False.elim a
theorem Zy(F:Qr X.prog X.w X.K X.mg X.base CX k f fd ps sp)(m:Z9 k X.A)(i:Gl X x)(l:X.mg x=Ga (.ref f))(j:T9 X.K (.ref f)=Gf)(hb:Binds X.K fd ps ds)(hd:Zv dvs ds)(n:Jt CX X E)
  (d:PA X (e::es) t)(a:(x==("__debug__":Ta))=Gq:=by decide)(g:Td (e::es) X.env=(Gq,eval e X.env)::Td es X.env:=by rfl)(b:(DN pos (Td es X.env)).any (·.1)=Gq:=by rfl):
  PE X (.Call (.Name x p) (e::es) [] pos) (Q0f sp dvs E t):=by
 intro pins s σ H Q I h;refine Db (Qb0 I i l ?_ a);refine Sg (h₀:=X.base) I.ok.mod.kin j (Yp (d pos pins s σ H _ I h) λus s1⟨vs,H1,c,r,q⟩=>⟨c.Jn,?_⟩) g b;exact Qkc F m hb hd n c r q
theorem Q9(p:PE X o ta)(c:Cls X.K C)(j:Z8 X.K C m f)(F:Qr X.prog X.w X.K X.mg X.base CX k f fd ps sp)(v:Z9 k X.A)(hb:Binds X.K fd ps ds)(hd:Zv dvs ds)(z:Jt CX X E)(n:PA X (e::es) t)
  (d:Td (e::es) X.env=(Gq,eval e X.env)::Td es X.env:=by rfl)(b:(DN pos (Td es X.env)).any (·.1)=Gq:=by rfl)
  (y:eval (.Call (.Attribute o m apos) (e::es) [] pos) X.env=(do
   let ov<-eval o X.env
   standAt apos.atName
   let(f,first)<-holding [ov] (getMethod ov m pl)
   callWith pos f first (DN pos (Td (e::es) X.env)) (backToKw pos (keywordEach [] X.env))):=by rfl):
  PE X (.Call (.Attribute o m apos) (e::es) [] pos) (Qhq C m sp dvs E ta t):=by
 intro pins s σ H Q I h;refine EN (pl:=pl) (Yp (p pins s σ H _ I h) λu s1⟨x,H1,g,D,a,dx,fs,ex,ea,l,q⟩=>?_) y;subst ex;obtain rfl:u=Value.ref a:=D;refine Rn g ea c j l ?_;refine Sg (first:=[.ref a]) (h₀:=X.base) I.ok.mod.kin j.kp (Yp (n pos pins s1 σ H1 _ g q) λus s2⟨vs,H2,i,r,B⟩=>⟨i.Jn,?_⟩) d b;exact Qkc (us:=.ref a::us) (vs:=.ref a::vs) F v hb hd z i (.cons rfl r) B
theorem Qhx(e:PE X o ta)(c:Cls X.K C)(d:Z8 X.K C m f)(F:Qr X.prog X.w X.K X.mg X.base CX k f fd ps sp)(g:Z9 k X.A)(hb:Binds X.K fd ps ds)(hd:Zv dvs ds)(j:Jt CX X E)
  (i:eval (.Call (.Attribute o m apos) [] [] pos) X.env=(do
   let ov<-eval o X.env
   standAt apos.atName
   let(f,first)<-holding [ov] (getMethod ov m pl)
   callWith pos f first (DN pos (Td [] X.env)) (backToKw pos (keywordEach [] X.env))):=by rfl):
  PE X (.Call (.Attribute o m apos) [] [] pos) (Qhq C m sp dvs E ta Qnl):=by
 intro pins s σ H Q I h;refine EN (pl:=pl) (Yp (e pins s σ H _ I h) λu s1⟨x,H1,b,n,a,dx,fs,ex,ea,l,q⟩=>?_) i;subst ex;obtain rfl:u=Value.ref a:=n;refine Rn b ea c d l ?_;exact Lq (first:=[.ref a]) b.Jn d.kp (Qkc (us:=[.ref a]) (vs:=[.ref a]) F g hb hd j b (.cons rfl .nil) q)
structure Mk(K:Gd)(C f:Gc):Prop where
 makes:DW K C=Gf
 init:GJ K (.ref C) "__init__"=Ga (Ga (.ref f))
 fn:Ti K (.ref f)=Gf
 kp:T9 K (.ref C)=Gf
theorem Qh2(M:Mk X.K C f)(F:Qr X.prog X.w X.K X.mg X.base CX k f fd ps sp)(l:Z9 (k+1) X.A)(hb:Binds X.K fd ps ds)(hd:Zv dvs ds)
  (m:Jt CX X E)(I:Inv X pins σ H s)(r:Zv vs us)
  (h:∀x dx,H x=Gg->H dx=Gg->dx≠x->sp (.ref x::(vs++dvs)) (upd (upd H dx (.own x)) x (.ins C dx [])) (λv H2=>v=.non/\Q (.ref x) H2) E):
  wpAny (GY X.prog X.w) X.A (call (.ref C) us) (EP X pins σ Q) X.xe s:=by
 have c:=h (s.heap.objs.size+1) s.heap.objs.size (I.Zw.fresh (EF _)) (I.Zw.fresh (Gn _)) (Tc (DQ _));have b:=Inv.made (C:=C) I;have d:Zv (V.ref (s.heap.objs.size+1)::(vs++dvs)) (Value.ref (s.heap.objs.size+1)::(us++ds)):=.cons rfl (r.append hd);have j:(Value.ref (s.heap.objs.size+1)::us++ds).length=ps.length:=by have e:=d.length;rw[F.len _ _ _ _ c]at e;exact e.symm
 refine NK (Qrh (f:=f) I.Jn M.makes M.init (Se.mp M.fn) (SR (F.run _ X.stack _ _ ⟨Value.ref (s.heap.objs.size+1)::us,[]⟩ (Value.ref (s.heap.objs.size+1)::(us++ds)) _ _ E (l.make C us [])
  (b.Qyx.make C us []) (hb _ (Value.ref (s.heap.objs.size+1)::us) b.Jn j) d c) λr s' a=>?_))
 cases r with
 |error e=>exact m pins σ _ _ e s' b a
 |ok i=>
  cases i with
  |ret u=>obtain⟨v,H',g,rv,ev,n⟩:=b.after a;subst ev;exact⟨rv,⟨V.ref (s.heap.objs.size+1),H',g,Xb,n⟩⟩
  |next=>exact False.elim a
  |brk=>exact False.elim a
  |cont=>exact False.elim a
theorem Qg8(M:Mk X.K C f)(F:Qr X.prog X.w X.K X.mg X.base CX k f fd ps sp)(l:Z9 (k+1) X.A)(i:Gl X x)(j:X.mg x=Ga (.ref C))(hb:Binds X.K fd ps ds)(hd:Zv dvs ds)(m:Jt CX X E)
  (d:PA X (e::es) t)(a:(x==("__debug__":Ta))=Gq:=by decide)(g:Td (e::es) X.env=(Gq,eval e X.env)::Td es X.env:=by rfl)(b:(DN pos (Td es X.env)).any (·.1)=Gq:=by rfl):
  PE X (.Call (.Name x p) (e::es) [] pos) (Qwf C sp dvs E t):=by
 intro pins s σ H Q I h;refine Db (Qb0 I i j ?_ a);refine Sg (h₀:=X.base) I.ok.mod.kin M.kp (Yp (d pos pins s σ H _ I h) λus s1⟨vs,H1,c,r,q⟩=>⟨c.Jn,?_⟩) g b;exact Qh2 M F l hb hd m c r q
theorem Qd6(M:Mk X.K C f)(F:Qr X.prog X.w X.K X.mg X.base CX k f fd ps sp)(d:Z9 (k+1) X.A)(b:Gl X x)(c:X.mg x=Ga (.ref C))(hb:Binds X.K fd ps ds)(hd:Zv dvs ds)(e:Jt CX X E)
  (a:(x==("__debug__":Ta))=Gq:=by decide):PE X (.Call (.Name x p) [] [] pos) (Qwf C sp dvs E Qnl):=by
 intro pins s σ H Q I h;refine Db (Qb0 I b c ?_ a);exact Lq I.Jn M.kp (Qh2 (us:=[]) M F d hb hd e I .nil h)
end
structure Qv(N P:List Ta)(sc:SG):Prop where
 kind:sc.kind=.function
 co:sc.isCoroutine=Gq
 gen:sc.isGenerator=Gq
 nd:N.Nodup
 pre:N.take P.length=P
 par:∀x∈P,sc.names.lookup x=Ga .local\/sc.names.lookup x=Ga .cell
 Qw6:∀y∈sc.names,y.2≠.free
theorem Qep{kindOf:Ta->Option EY}{x:Ta}:∀{binds:List (Ta×Value)}{m:Ta->Option Value},(∀v,(x,v)∉binds)->bindL kindOf binds m x=m x
 |[],_,_=>rfl
 |(n,v)::r,m,h=>by
  unfold bindL;rw[Qep λw hw=>h w (List.mem_cons_of_mem _ hw)];split
  ·have:x≠n:=by rintro rfl;exact h v List.mem_cons_self
   simp[this]
  ·rfl
theorem Qfg{kindOf:Ta->Option EY}{x:Ta}:∀{binds:List (Ta×Value)}{m:Ta->Option Value},(∀v,(x,v)∉binds)->bindC kindOf binds m x=m x
 |[],_,_=>rfl
 |(n,v)::r,m,h=>by
  unfold bindC;rw[Qfg λw hw=>h w (List.mem_cons_of_mem _ hw)];split
  ·rfl
  ·have:x≠n:=by rintro rfl;exact h v List.mem_cons_self
   simp[this]
theorem Qff{kindOf:Ta->Option EY}{x:Ta}{v:Value}:∀{P:List Ta}{vs:List Value}{i:Nat}{m:Ta->Option Value},P.Nodup->P[i]?=Ga x->vs[i]?=Ga v->kindOf x=Ga .local->
  bindL kindOf (P.zip vs) m x=Ga v
 |[],_,_,_,_,h,_,_=>by simp at h
 |_::_,[],_,_,_,_,h,_=>by simp at h
 |p::P,w::vs,0,m,nd,h1,h2,a=>by simp at h1 h2;subst h1;subst h2;show bindL kindOf ((p,w)::P.zip vs) m p=_;unfold bindL;rw[Qep λv b=>(List.nodup_cons.mp nd).1 (List.of_mem_zip b).1,Gm a];simp
 |p::P,w::vs,i+1,m,nd,h1,h2,a=>by show bindL kindOf ((p,w)::P.zip vs) m x=_;unfold bindL;exact Qff (i:=i) (List.nodup_cons.mp nd).2 (by simpa using h1) (by simpa using h2) a
theorem Qfr{kindOf:Ta->Option EY}{x:Ta}{v:Value}:∀{P:List Ta}{vs:List Value}{i:Nat}{m:Ta->Option Value},P.Nodup->P[i]?=Ga x->vs[i]?=Ga v->kindOf x≠Ga .local->
  bindC kindOf (P.zip vs) m x=Ga v
 |[],_,_,_,_,h,_,_=>by simp at h
 |_::_,[],_,_,_,_,h,_=>by simp at h
 |p::P,w::vs,0,m,nd,h1,h2,a=>by simp at h1 h2;subst h1;subst h2;show bindC kindOf ((p,w)::P.zip vs) m p=_;unfold bindC;rw[Qfg λv b=>(List.nodup_cons.mp nd).1 (List.of_mem_zip b).1,Gh a];simp
 |p::P,w::vs,i+1,m,nd,h1,h2,a=>by show bindC kindOf ((p,w)::P.zip vs) m x=_;unfold bindC;exact Qfr (i:=i) (List.nodup_cons.mp nd).2 (by simpa using h1) (by simpa using h2) a
def start(N:List Ta)(vs:List V):St:=vs.map Ga++List.replicate (N.length - vs.length) Gg
def Qhl(CX:CXT)(P:Gk)(w:Gv)(K:Gd)(mg:Ta->Option Value)(base:Heap)(N:List Ta)(qual:Ta)(scope:SG)(f:Gc)(b:Value)(A:TL)(outer:List LL)(s:Gj)(H:Hp)(E:XK):Cx where
 prog:=P
 w:=w
 K:=K
 mg:=mg
 base:=base
 A:=A.deeper (envOfC qual scope s.heap.objs.size f b)
 N:=N
 s₀:=s
 H₀:=H
 env:=envOfC qual scope s.heap.objs.size f b
 outer:=outer
 stack:=envOfC qual scope s.heap.objs.size f b::outer
 ex:=[]
 calm:=Gf
 fn:=λ_=>Gf
 pn:=[]
 xe:=λe s'=>wpAny (GY P w) (A.deeper (envOfC qual scope s.heap.objs.size f b)) (leaving (envOfC qual scope s.heap.objs.size f b) e) (λ_ a=>CX outer H s E e a) (λc a=>CX outer H s E c a) s'
theorem Qi5{a:SG}(h:a.names.lookup x=Ga .cell):∃c,(cellsFrom n a.names []).lookup x=Ga c:=by have q:=SS a.names n [] (.inl h);exact Sz.mp q
theorem Qnz{CX:CXT}{base:Heap}{qual:Ta}{scope:SG}{f:Gc}{o:Value}{outer:List LL}{s1:Gj}{E:XK}
  (S:Qv N ps scope)(hd:A.handled=Gg)(d:Qjx P w K mg base A outer s H)(G:vs.length=ps.length)(r:Zv vs us)
  (x:InCallC s s.heap.objs.size (bindL (envOfC qual scope s.heap.objs.size f o).kindOf (ps.zip us) λ_=>Gg) (cellsFrom (s.heap.objs.size+1) scope.names []) (bindC (envOfC qual scope s.heap.objs.size f o).kindOf (ps.zip us) λ_=>Gg) s1):
  Inv (Qhl CX P w K mg base N qual scope f o A outer s H E) [] (start N vs) H s1:=by
 have D:ps.length<=N.length:=by have:=congrArg List.length S.pre;rw[List.length_take]at this;omega
 obtain⟨h1,tk,rfl,t⟩:=x.done;have j:∀b:Gc,b∉(Qhl CX P w K mg base N qual scope f o A outer s H E).ex:=λb z=>absurd (show b∈([]:List Gc)from z) (by simp);refine⟨⟨d.mod,S.kind,Xb,Xb,Gn _,λy z c h1 h2=>?_,λy g=>?_,λy c _ h=>?_,λ_=>hd,Around.frames_deeper d.frames,.inr ⟨Xb,Xb⟩,λb z=>absurd z (j b),d.bs,d.bsz,λb _ _=>j b,λb z=>absurd z (j b),d.Qbj,d.frf⟩,
  Xb,d.bare,Un.kept t,⟨_,x.toInCall.ns,λi y v h1 h2 F=>?_⟩,λy c h=>⟨_,x.cell y c h⟩,d.Zw.fresh (Gn _),λy c h=>?_,λp l=>absurd (show p∈([]:List (Gc×Ee))from l) (by simp),d.Zw.kept t,?_⟩
 ·exact name_of_addr x.apart (Dk h1) (Dk h2)
 ·have g:scope.names.lookup y=Ga .cell\/scope.names.lookup y=Ga .free:=g;rcases g with g|g
  ·exact Qi5 g
  ·exact absurd rfl (S.Qw6 _ (Dk g))
 ·exact SM (x.above y c (Dk h))
 ·have hi:i<vs.length:=by
   unfold start at h2;by_cases hi:i<vs.length
   ·exact hi
   ·rw[List.getElem?_append_right (by simpa using hi)]at h2;rw[List.getElem?_replicate]at h2;split at h2<;>cases h2
  have C:vs[i]?=Ga v:=by
   unfold start at h2;rw[List.getElem?_append_left (by simpa using hi),List.getElem?_map]at h2;cases e:vs[i]? with
   |none=>rw[e]at h2;cases h2
   |some a=>rw[e]at h2;cases h2;rfl
  obtain⟨u,B,rv⟩:=r.get C;have l:ps[i]?=Ga y:=by rw[<-S.pre,List.getElem?_take_of_lt (by omega)];exact h1
  have m:ps.Nodup:=by rw[<-S.pre];exact S.nd.sublist (List.take_sublist _ _)
  refine⟨u,rv,?_⟩;rcases S.par y (List.mem_of_getElem? l)with k|k
  ·exact .inl ⟨k,Qff m l B k⟩
  ·obtain⟨c,e⟩:=Qi5 (n:=s.heap.objs.size+1) k;refine .inr ⟨.inl k,c,e,?_⟩;have q:=x.cell y c e;rw[Qfr m l B (by show scope.names.lookup y≠_;rw[k];decide)]at q;exact q
 ·exact d.Zw.fresh (SM (x.above y c (Dk h)))
 ·unfold start;show _=N.length;rw[List.length_append,List.length_map,List.length_replicate];omega
theorem Qzz{CX:CXT}{base:Heap}{f:Gc}{name qual:Ta}{a:Arguments}{scope:SG}{z kV doc pm cdv ct oc:Value}{an od:Option Gc}
  {osl:Array (Option Value)}{sp:Sp}(lk:K.lookup f=Ga ⟨oc,od,.func (Eg name qual a body scope z kV doc pm an cdv ct),osl⟩)(l:Sh K cdv qual=Gf)(S:Qv N ps scope)
  (len:∀vs H Q E,sp vs H Q E->vs.length=ps.length)
  (d:∀(A:TL)(outer:List LL)(s:Gj)(H:Hp)(vs:List V)(Q:VK)(E:XK),Z9 k (A.deeper (envOfC qual scope s.heap.objs.size f cdv))->sp vs H Q E->
   ∃t,PSs (Qhl CX P w K mg base N qual scope f cdv A outer s H E) body t/\t {nx:=λ_ H'=>Q .non H',rt:=Q} (start N vs) H):
  Qr P w K mg base CX (k+1) f (Eg name qual a body scope z kV doc pm an cdv ct) ps sp:=by
 refine⟨len,λA outer s H args us vs Q E m i hb r j=>?_⟩;have D:=len _ _ _ _ j;have KX:K.In s.heap:=i.mod.kin.keeps λb o e=>(i.bs b o e).1;have p:s.heap.NoLimit:=i.mod.nolimit.keeps λb o e=>(i.bs b o e).1;have g:∀y∈ps.zip us,scope.names.lookup y.1=Ga .local\/(scope.names.lookup y.1=Ga .cell/\((cellsFrom (s.heap.objs.size+1) scope.names []).lookup y.1).isSome=Gf):=λ⟨n,v⟩L=>by
  rcases S.par n (List.of_mem_zip L).1 with q|q
  ·exact .inl q
  ·exact .inr ⟨q,SS _ _ _ (.inl q)⟩
 refine codeAny_call_function m.depth (KX _ _ lk) rfl S.co S.gen rfl (NL KX l) (hb _ _ _ _ ?_);refine wpAny_newFunctionEnv_cells S.kind g λenv C s1 x=>?_;subst C;refine⟨p.keeps x.toInCall.keep,codeAny_func ?_⟩;obtain⟨t,G,F⟩:=d A outer s H vs Q E (m.deeper _) j;have I:Inv (Qhl CX P w K mg base N qual scope f cdv A outer s H E) [] (start N vs) H s1:=Qnz S m.hd i D r x;refine DB (G [] s1 (start N vs) H _ I F) (λB s' h=>?_) λe s' h=>h;have fin:∀{c:St}{H':Hp}{v:V}{u:Value},Inv (Qhl CX P w K mg base N qual scope f cdv A outer s H E) [] c H' s'->RelV v u->Q v H'->CE outer P w H s Q u s':=
  λ{c H' v u}J rv q=>⟨v,H',J.os,J.bare,J.base,J.Zw,rv,q⟩
 cases B with
 |ret u=>obtain⟨v,c,H',J,rv,q⟩:=h;exact fin J rv q
 |next=>obtain⟨c,H',J,q⟩:=h;exact fin (v:=V.non) (u:=Value.none) J rfl q
 |brk=>obtain⟨_,_,_,q⟩:=h;exact False.elim q
 |cont=>obtain⟨_,_,_,q⟩:=h;exact False.elim q
section
variable{X:Cx}{x:Ta}{p pos:SW}{e:T1}{es:List T1}{t:TA}{id T:String}{r:List V->Hp->VK->Prop}
def tCB(r:List V->Hp->VK->Prop)(t:TA):TE:=λσ H Q=>t σ H λvs H1=>r vs H1 Q
theorem Qo(f:V3 X (.builtin id) r)(i:Gl X x)(j:X.mg x=Gg)(l:bootBuiltins x=Ga (.builtin id))(d:PA X (e::es) t)(k:x≠"__name__":=by decide)(a:(x==("__debug__":Ta))=Gq:=by decide)
  (g:Td (e::es) X.env=(Gq,eval e X.env)::Td es X.env:=by rfl)(b:(DN pos (Td es X.env)).any (·.1)=Gq:=by rfl):PE X (.Call (.Name x p) (e::es) [] pos) (tCB r t):=by
 intro pins s σ H Q I h;refine Db (Vu I i j l ?_ k a);exact Fi (Yp (d pos pins s σ H _ I h) λus s1⟨vs,H1,c,n,m⟩=>f pins s1 σ H1 vs us Q c n m) g b
theorem Xn(f:V3 X (.type T) r)(i:Gl X x)(j:X.mg x=Gg)(l:bootBuiltins x=Ga (.type T))(d:PA X (e::es) t)(k:x≠"__name__":=by decide)(a:(x==("__debug__":Ta))=Gq:=by decide)
  (g:Td (e::es) X.env=(Gq,eval e X.env)::Td es X.env:=by rfl)(b:(DN pos (Td es X.env)).any (·.1)=Gq:=by rfl):PE X (.Call (.Name x p) (e::es) [] pos) (tCB r t):=by
 intro pins s σ H Q I h;refine Db (Vu I i j l ?_ k a);exact Du (Yp (d pos pins s σ H _ I h) λus s1⟨vs,H1,c,n,m⟩=>f pins s1 σ H1 vs us Q c n m) g b
end
end L2
namespace HT
open PySem PyProof.Rows
section
variable{prog:Gk}{w:Gv}{A:TL}{E:Value->Gj->Prop}{s:Gj}
def Wg(n d:Nat):Option Int->Nat
 |none=>d
 |some v=>if v<0 then(v+(n:Int)).toNat else min v.toNat n
theorem Og(n d:Nat):Wg n d Gg=d:=rfl
theorem Ot(n d k:Nat):Wg n d (Ga (k:Int))=min k n:=by show(if(k:Int)<0 then((k:Int)+(n:Int)).toNat else min (k:Int).toNat n)=min k n;rw[Gh (by omega),Dm]
theorem Qwx(n d:Nat)(hd:d<=n)(o:Option Int):Wg n d o<=n:=by
 cases o with
 |none=>exact hd
 |some v=>
  show(if v<0 then(v+(n:Int)).toNat else min v.toNat n)<=n;by_cases a:v<0
  ·rw[Gm a];omega
  ·rw[Gh a];exact Fj _ _
theorem Qmb(v:Int)(n d:Nat):(if v<0 then max (v+(n:Int)) 0 else min v (n:Int))=((Wg n d (Ga v):Nat):Int):=by
 show(if v<0 then max (v+(n:Int)) 0 else min v (n:Int))=(((if v<0 then(v+(n:Int)).toNat else min v.toNat n):Nat):Int);by_cases a:v<0
 ·simp only[Gm a];omega
 ·simp only[Gh a];omega
theorem Qkt(lo hi:Option Int)(n:Nat):Builtin.Slice.sliceAdjust lo hi 1 (n:Int)=(((Wg n 0 lo:Nat):Int),((Wg n n hi:Nat):Int)):=by
 have h1:¬((1:Int)<0):=by omega
 unfold Builtin.Slice.sliceAdjust;simp only[h1,Ds];refine LW ?_ ?_
 ·cases lo with
  |none=>rfl
  |some v=>exact Qmb v n 0
 ·cases hi with
  |none=>rfl
  |some v=>exact Qmb v n n
theorem Qkv(i j:Nat):Builtin.Slice.slicePlaces (i:Int) (j:Int) 1=j - i:=by
 unfold Builtin.Slice.slicePlaces;have h1:(1:Int)>0:=by omega
 simp only[h1,Ss,MV];split<;>omega
theorem Qdo{v:Value}{o:Option Int}{Q:Option Int->Gj->Prop}(p:LD v o)(h:Q o s):wpAny (GY prog w) A (Builtin.Slice.slicePartIndex v) Q E s:=by
 cases p with
 |none=>exact FE h
 |int i t=>exact slicePart_int h
theorem Qac{sl:Gc}{c d:Value}{lo hi:Option Int}{n:Nat}{Q:Int×Int×Nat->Gj->Prop}(f:s.heap.IsSliceOf sl c d .none)(pl:LD c lo)(g:LD d hi)
  (h:Q (((Wg n 0 lo:Nat):Int),1,Wg n n hi - Wg n 0 lo) s):wpAny (GY prog w) A (Builtin.Slice.sliceApplied (.ref sl) (pure (n:Int))) Q E s:=by
 obtain⟨os,b,e,a⟩:=id f;unfold Builtin.Slice.sliceApplied Builtin.Slice.sliceFields;refine Gb (Gb (TF b a (x:=c) rfl (Gb (TF b a (x:=d) rfl (Gb (TF b a (x:=.none) rfl (Ge ?_)))))));refine Gb (FE ?_);show wpAny _ _ (if((1:Int)==0)=Gf then _ else _) _ _ s;rw[Gh (by decide)];refine Gb (Qdo pl (Gb (Qdo g (Gb (Ge ?_)))));show wpAny _ _ (match Builtin.Slice.sliceAdjust lo hi 1 (n:Int)with|(lo,hi)=>pure (lo,(1:Int),Builtin.Slice.slicePlaces lo hi 1)) _ _ s;rw[Qkt lo hi n];show wpAny _ _ (pure (((Wg n 0 lo:Nat):Int),(1:Int),Builtin.Slice.slicePlaces ((Wg n 0 lo:Nat):Int) ((Wg n n hi:Nat):Int) 1)) _ _ s;rw[Qkv];exact Ge h
theorem Qq5(xs:Array Value)(i k:Nat):((List.range k).filterMap λ(m:Nat)=>xs[((i:Int)+(m:Int)*1).toNat]?).toArray=((xs.toList.drop i).take k).toArray:=by
 have e:(λ(m:Nat)=>xs[((i:Int)+(m:Int)*1).toNat]?)=λm=>xs[i+m]?:=by
  funext m
  have:((i:Int)+(m:Int)*1).toNat=i+m:=by omega
  rw[this]
 rw[e];have:=pick_run xs i k;rw[List.filterMap_map]at this;have a:((λx=>xs[x]?)∘λx=>i+x)=λm=>xs[i+m]?:=rfl;rw[a]at this;rw[this]
theorem Ou{t sl:Gc}{a:Array Value}{j k:Value}{lo hi:Option Int}{Q:Value->Gj->Prop}(c:IsTup s.heap t a)(i:s.heap.IsSliceOf sl j k .none)(pl:LD j lo)(n:LD k hi)
  (hw:¬(Wg a.size 0 lo=0/\Wg a.size a.size hi=a.size))
  (h:Q (.ref s.heap.objs.size) {s with heap:=s.heap.push {cls:=.type "tuple",data:=.seq ((a.toList.drop (Wg a.size 0 lo)).take (Wg a.size a.size hi - Wg a.size 0 lo)).toArray}})
  (hsz:a.size<=Gi):wpAny (GY prog w) A (getItem (.ref t) (.ref sl)) Q E s:=by
 have b:sizeOk (.seq ((a.toList.drop (Wg a.size 0 lo)).take (Wg a.size a.size hi - Wg a.size 0 lo)).toArray):=by show((a.toList.drop (Wg a.size 0 lo)).take (Wg a.size a.size hi - Wg a.size 0 lo)).toArray.size<=Gi;rw[List.size_toArray,List.length_take,List.length_drop,Tz];omega
 have o:Wg a.size a.size hi<=a.size:=Qwx _ _ (Gn _) hi;obtain⟨os,g,e,l⟩:=id i;have d:s.TypeIs (.ref sl) "slice":=⟨os,g,e⟩;unfold getItem;try with_reducible refine T3 ?_
 first|refine Gb (Ge ?_)|skip
 refine Gb (wpAny_sequenceKey c.typeIs (by decide) ?_);refine Gb (TR (name:=Dx "__getitem__") c.typeIs D9
  (Tu D9 c.typeIs entry_tuple_getitem ?_ (args_tuple_getitem _ _)))
 show wpAny _ _ (Builtin.Tuple.tupleItemsOf (.ref t)>>=_) _ _ s;refine Gb (tupleItemsOf_ c ?_);refine Gb (MX d ?_);rw[Gm (by decide)];refine Gb (Qac i pl n ?_);have f:¬((((Wg a.size 0 lo:Nat):Int)==0&&(1:Int)==1&&(Wg a.size a.size hi - Wg a.size 0 lo)==a.size)=Gf):=by intro q;rw[Tn,Tn]at q;have p:((Wg a.size 0 lo:Nat):Int)=0:=eq_of_beq q.1.1;have r:Wg a.size a.size hi - Wg a.size 0 lo=a.size:=eq_of_beq q.2;exact hw ⟨by omega,by omega⟩
 show wpAny _ _ (if(((Wg a.size 0 lo:Nat):Int)==0&&(1:Int)==1&&(Wg a.size a.size hi - Wg a.size 0 lo)==a.size)=Gf then _ else _) _ _ s;rw[Gh f,Qq5];first
  |exact Gb (m:=Builtin.Tuple.tupleExact _) (Tv (Ge ⟨_,Xb,Ge h⟩) b)
  |exact Gb (m:=Builtin.Tuple.tupleExact _) (Tv (Gb (Ge (Ge ⟨_,Xb,Ge h⟩))) b)
  |exact Gb (Gb (m:=Builtin.Tuple.tupleExact _) (Tv (Ge (Ge ⟨_,Xb,Ge h⟩)) b))
  |exact Gb (Gb (m:=Builtin.Tuple.tupleExact _) (Tv (Ge ⟨_,Xb,Ge h⟩) b))
end
end HT
namespace L2
open PySem PySem.Spec PyProof.Rows
variable{n t':Nat}{α:Type}{H H':Hp}{s:Gj}{u:Value}{y:V}{P:Gk}{w:Gv}{kvs:List (List Xs×V)}{xs:List (List Xs×Gc×Value)}{b a:Gc}{Q:Value->Gj->Prop}
abbrev TO:=St->Hp->(Option Int->Hp->Prop)->Prop
def PO(X:Cx)(e:Option T1)(t:TO):Prop:=
 ∀(pins:List (Gc×Ee))(s:Gj)(σ:St)(H:Hp)(Q:Option Int->Hp->Prop),Inv X pins σ H s->t σ H Q->
  wpAny (GY X.prog X.w) X.A (evalPart e X.env) (λu s'=>∃o H',Inv X pins σ H' s'/\LD u o/\Q o H') X.xe s
def Qu9:TO:=λ_ H Q=>Q Gg H
def Q0k(t:TE):TO:=λσ H Q=>t σ H λx H1=>∃i,x=.int i/\Q (Ga i) H1
section
variable{X:Cx}{e:T1}{te:TE}{lo hi:Option T1}{tl th:TO}{pos p2:SW}
theorem Xt:PO X Gg Qu9:=by intro pins s σ H Q I h;rw[Mv];exact Ge ⟨Gg,H,I,.none,h⟩
theorem Yt(h:PE X e te):PO X (Ga e) (Q0k te):=by intro pins s σ H Q I hw;rw[evalPart_some];refine Yp (h pins s σ H _ I hw) λu s1⟨x,H1,a,c,b⟩=>?_;obtain⟨i,rfl,q⟩:=b;obtain⟨t,rfl⟩:=c;exact⟨Ga i,H1,a,.int i t,q⟩
def SlR(X:Cx)(r:V->Option Int->Option Int->Hp->VK->Prop):Prop:=
 ∀(pins:List (Gc×Ee))(s:Gj)(σ:St)(H:Hp)(x:V)(v a b:Value)(lo hi:Option Int)(sl:Gc)(Q:VK),Inv X pins σ H s->RelV x v->s.heap.IsSliceOf sl a b .none->LD a lo->LD b hi->r x lo hi H Q->
  ∃T id,typeLookup (.type T) "__getitem__"=pure (Ga (.builtin id))/\s.TypeIs v T/\wpAny (GY X.prog X.w) X.A (getItem v (.ref sl)) (EP X pins σ Q) X.xe s
def tSl(r:V->Option Int->Option Int->Hp->VK->Prop)(te:TE)(tl th:TO):TE:=λσ H Q=>te σ H λx H1=>tl σ H1 λl H2=>th σ H2 λu a=>r x l u a Q
theorem Ys{r:V->Option Int->Option Int->Hp->VK->Prop}(t:SlR X r)(n:PE X e te)(p:PO X lo tl)(z:PO X hi th):PE X (.Subscript e (.Slice lo hi Gg p2) pos) (tSl r te tl th):=by intro pins s σ H Q I h;refine FF (Yp (n pins s σ H _ I h) λv s1⟨x,H1,g,F,C⟩=>?_);refine wpAny_Slice (Yp (p pins s1 σ H1 _ g C) λc s2⟨l,H2,i,pl,D⟩=>Yp (z pins s2 σ H2 _ i D) λd a⟨u,f,j,B,E⟩=>?_);rw[Mv];refine Ge ?_;have k:Inv X pins σ f {a with heap:=a.heap.push {cls:=.type "slice",data:=.fields #[c,d,.none]}}:=j.kept (t':=a.toks) λb ob q=>Heap.get?_push_of_some _ q;obtain⟨T,id,m,y,o⟩:=t pins {a with heap:=a.heap.push {cls:=.type "slice",data:=.fields #[c,d,.none]}} σ f x v c d l u a.heap.objs.size Q k F (Heap.IsSliceOf.new ..) pl B E;show wpAny (GY X.prog X.w) X.A (subscriptTail e (.Slice lo hi Gg p2) v (.ref a.heap.objs.size)) (EP X pins σ Q) X.xe {a with heap:=a.heap.push {cls:=.type "slice",data:=.fields #[c,d,.none]}};exact tail_any (ops:=[.ref a.heap.objs.size,v]) y m o (by with_unfolding_all rfl)
def Uw(xs:List V)(lo hi:Option Int):List V:=(xs.drop (HT.Wg xs.length 0 lo)).take (HT.Wg xs.length xs.length hi - HT.Wg xs.length 0 lo)
theorem Qa4(xs:List V)(lo hi:Option Int):(Uw xs lo hi).length<=xs.length:=by unfold Uw;rw[List.length_take,List.length_drop];omega
def Qzd(K:Gd):V->Option Int->Option Int->Hp->VK->Prop:=λx lo hi H Q=>∃a xs,x=.ref a/\Z2 K H a xs/\
 ¬(HT.Wg xs.length 0 lo=0/\HT.Wg xs.length xs.length hi=xs.length)/\∀p,H p=Gg->Q (.ref p) (upd H p (.tup (Uw xs lo hi)))
theorem Rq:SlR X (Qzd X.K):=by
 intro pins s σ H x v j k lo hi sl Q I i e pl g h;obtain⟨a,xs,rfl,f,hw,q⟩:=h;cases i;obtain⟨its,r,d,hz⟩:=I.tuple f;have c:its.toArray.size=xs.length:=by rw[List.size_toArray];exact r.length.symm
 refine⟨"tuple",_,D9.lookup,d.typeIs,?_⟩;refine HT.Ou d e pl g (by rw[c];exact hw) ?_ (by rw[c];exact hz);rw[c];refine⟨.ref s.heap.objs.size,_,I.laid (t':=s.toks) (o:=.tup (Uw xs lo hi)) (λb ob q=>Heap.get?_push_of_some _ q) (Gn _) ?_,Xb,q _ (I.Zw.fresh (Gn _))⟩;exact⟨TY (Qa4 xs lo hi) hz,_,(r.drop (HT.Wg xs.length 0 lo)).take (HT.Wg xs.length xs.length hi - HT.Wg xs.length 0 lo),RJ _ _⟩
end
def ixN(n:Nat)(i:Int):Option Nat:=if 0<=i then(if i<n then Ga i.toNat else Gg)else if -(n:Int)<=i then Ga (i+n).toNat else Gg
def atI{α:Type}(xs:List α)(i:Int):Option α:=(ixN xs.length i).bind λj=>xs[j]?
theorem Qvv{i:Int}{j:Nat}(h:ixN n i=Ga j):seqIndex? i n=Ga j/\j<n/\ -(n:Int)<=i/\i<n:=by
 unfold ixN at h;by_cases a:0<=i
 ·rw[Gm a]at h;by_cases h1:i<n
  ·rw[Gm h1]at h;have e:i.toNat=j:=Tj h;exact⟨by rw[Nq a h1,e],by omega,by omega,h1⟩
  ·rw[Gh h1]at h;cases h
 ·rw[Gh a]at h;by_cases h1: -(n:Int)<=i
  ·rw[Gm h1]at h;have e:(i+n).toNat=j:=Tj h;exact⟨by rw[MY (by omega) h1,e],by omega,h1,by omega⟩
  ·rw[Gh h1]at h;cases h
theorem Qgo{xs:List α}{i:Int}{v:α}(h:atI xs i=Ga v):∃j,seqIndex? i xs.length=Ga j/\xs[j]?=Ga v/\j<xs.length/\ -(xs.length:Int)<=i/\i<xs.length:=by
 unfold atI at h;cases e:ixN xs.length i with
 |none=>rw[e]at h;cases h
 |some j=>rw[e]at h;obtain⟨h1,h2,a,b⟩:=Qvv e;exact⟨j,h1,h,h2,a,b⟩
theorem Qy{xs:List α}{j:Nat}{v:α}(h:xs[j]?=Ga v):atI xs (j:Int)=Ga v:=by
 have a:j<xs.length:=(List.getElem?_eq_some_iff.mp h).1;have e:ixN xs.length (j:Int)=Ga j:=by unfold ixN;rw[Gm (by omega),Gm (by omega)];simp
 unfold atI;rw[e];exact h
def Qvx(b:T1):Prop:=∀o i,subscripted b Gq o i=operate [o,i] (getItem o i)
def IxR(X:Cx)(r:R2):Prop:=
 ∀(value a:T1)(pins:List (Gc×Ee))(s:Gj)(σ:St)(H:Hp)(x y:V)(v u:Value)(Q:VK),Inv X pins σ H s->RelV x v->RelV y u->r x y H Q->
  subscripted a Gq v u=operate [v,u] (getItem v u)->wpAny (GY X.prog X.w) X.A (subscriptTail value a v u) (EP X pins σ Q) X.xe s
def MtR(X:Cx)(id:String)(r:V->List V->Hp->VK->Prop):Prop:=
 ∀(pins:List (Gc×Ee))(s:Gj)(σ:St)(H:Hp)(x:V)(xs:List V)(v:Value)(us:List Value)(Q:VK),Inv X pins σ H s->RelV x v->Zv xs us->r x xs H Q->
  wpAny (GY X.prog X.w) X.A (call (.builtin id) (v::us)) (EP X pins σ Q) X.xe s
section
variable{X:Cx}{a b:T1}{ta tb:TE}{pos:SW}
theorem IxR.or{r c:R2}(h:IxR X r)(h':IxR X c):IxR X (λx y H Q=>r x y H Q\/c x y H Q):=by
 intro value a pins s σ H x y v u Q I d e q b;rcases q with q|q
 ·exact h value a pins s σ H x y v u Q I d e q b
 ·exact h' value a pins s σ H x y v u Q I d e q b
theorem Qn{r:R2}(e:IxR X r)(d:PE X a ta)(hb:PE X b tb)(f:Qvx b:=by exactλ_ _=>rfl):PE X (.Subscript a b pos) (tOp r ta tb):=by intro pins s σ H Q I h;exact FF (Qya d hb I h λv u s2 x y H2 c g i q=>e a b pins s2 σ H2 x y v u Q c g i q (f _ _))
def Qy0(K:Gd):R2:=λx y H Q=>∃p xs i v,x=.ref p/\y=.int i/\Zc K H p xs/\atI xs i=Ga v/\Q v H
def Quv(K:Gd):R2:=λx y H Q=>∃p xs i v,x=.ref p/\y=.int i/\Z2 K H p xs/\atI xs i=Ga v/\Q v H
def Qys:R2:=λx y H Q=>∃z i c,x=.str z/\y=.int i/\z.length<=Gi/\atI z.cps.toList i=Ga c/\Q (.str ⟨#[c]⟩) H
theorem Zi:IxR X (Qy0 X.K):=by
 intro value c pins s σ H x y v u Q I o A h f;obtain⟨p,xs,i,z,rfl,rfl,n,l,q⟩:=h;cases o;obtain⟨t,rfl⟩:=A;obtain⟨its,r,pl,hz⟩:=I.list n;obtain⟨j,h1,h2,B,g,k⟩:=Qgo l;obtain⟨w,d,b⟩:=r.get h2;have m:=r.length;have C:=Rl;have fin:EP X pins σ Q w s:=⟨z,H,I,b,q⟩;by_cases e:0<=i
 ·have a:i.toNat=j:=by rw[Nq e k]at h1;exact Tj h1
  exact item_listR pl.isList e (by omega) (by rw[a];simpa using d) fin f
 ·have a:(i+(its.toArray.size:Int)).toNat=j:=by rw[MY (by omega) g]at h1;rw[List.size_toArray,<-m];exact Tj h1
  exact EJ (x:=w) pl.isList.typeIs slot_list_getitem.lookup
   (wpAny_getItem_list_neg (Q:=λr s'=>r=w/\EP X pins σ Q r s') pl.isList (by omega) (by rw[List.size_toArray]<;>omega) (by omega) (by rw[a];simpa using d) ⟨Xb,fin⟩) f
theorem Q5:IxR X (Quv X.K):=by
 intro value b pins s σ H x y v u Q I k l h g;obtain⟨p,xs,i,z,rfl,rfl,f,d,q⟩:=h;cases k;obtain⟨t,rfl⟩:=l;obtain⟨its,r,pl,hz⟩:=I.tuple f;obtain⟨j,h1,h2,m,n,o⟩:=Qgo d;obtain⟨w,c,a⟩:=r.get h2;have e:=r.length;have A:=Rl;have fin:EP X pins σ Q w s:=⟨z,H,I,a,q⟩;exact EJ (x:=w) pl.typeIs slot_tuple_getitem.lookup
  (getItem_tuple (j:=j) (Q:=λr s'=>r=w/\EP X pins σ Q r s') pl (by omega) (by omega) (by rw[List.size_toArray,<-e];exact h1) (by simpa using c) ⟨Xb,fin⟩) g
theorem Qra:IxR X Qys:=by
 intro value a pins s σ H x y v u Q I m n h l;obtain⟨z,i,c,rfl,rfl,hz,g,q⟩:=h;obtain⟨t,rfl⟩:=m;obtain⟨t',rfl⟩:=n;obtain⟨j,h1,h2,o,e,f⟩:=Qgo g;have k:z.cps.toList.length=z.length:=by simp[Str.length]
 rw[k]at h1 e f;have p:=Rl;exact tail_any (NM s z t) slot_str_getitem.lookup (getItem_str (c:=c) (by have b:decide (i< -(2^63:Int))=Gq:=Gz (by omega);have d:decide (i>=2^63)=Gq:=Gz (by omega);rw[b,d,Mw]) (by rw[h1];simpa using h2) ⟨.str ⟨#[c]⟩,H,I.tok _,⟨_,Xb⟩,q⟩) l
def rIx(K:Gd):R2:=λx y H Q=>Qy0 K x y H Q\/Quv K x y H Q\/Qys x y H Q
theorem Qsi:IxR X (rIx X.K):=Zi.or (Q5.or Qra)
theorem Qgt(lo hi:Option Int)(n:Nat):(sliceBounds lo hi Gg n).1=((HT.Wg n 0 lo:Nat):Int)/\(sliceBounds lo hi Gg n).2.1=((HT.Wg n n hi:Nat):Int)/\(sliceBounds lo hi Gg n).2.2=1:=by
 refine⟨?_,?_,Xb⟩
 ·cases lo with
  |none=>simp[sliceBounds,HT.Wg]
  |some i=>
   simp only[sliceBounds,HT.Wg,Fk,show(1:Int)>0 by decide,Ss];by_cases h:i<0
   ·simp only[h,Ss]<;>omega
   ·simp only[h,Ds]<;>omega
 ·cases hi with
  |none=>simp[sliceBounds,HT.Wg]
  |some i=>
   simp only[sliceBounds,HT.Wg,Fk,show(1:Int)>0 by decide,Ss];by_cases h:i<0
   ·simp only[h,Ss]<;>omega
   ·simp only[h,Ds]<;>omega
theorem Qei(its:List Value)(lo hi:Option Int):slicePick its.toArray lo hi Gg=((its.drop (HT.Wg its.length 0 lo)).take (HT.Wg its.length its.length hi - HT.Wg its.length 0 lo)).toArray:=by obtain⟨h1,h2,a⟩:=Qgt lo hi its.toArray.size;unfold slicePick;rw[h1,h2,a];simp only[sliceRange_one,pick_run,List.size_toArray]<;>rfl
def Q2e(K:Gd):V->Option Int->Option Int->Hp->VK->Prop:=λx lo hi H Q=>∃a xs,x=.ref a/\Zc K H a xs/\∀p,H p=Gg->Q (.ref p) (upd H p (.lst (Uw xs lo hi)))
theorem Vq:SlR X (Q2e X.K):=by intro pins s σ H x v j k lo hi sl Q I i e pl g h;obtain⟨a,xs,rfl,f,q⟩:=h;cases i;obtain⟨its,r,d,hz⟩:=I.list f;have c:=r.length;refine⟨"list",_,slot_list_getitem.lookup,d.isList.typeIs,?_⟩;refine wpAny_getItem_list_slice d.isList e pl g .none (by simp) ?_ (by rw[List.size_toArray]<;>omega);rw[Qei,<-c];refine⟨.ref s.heap.objs.size,_,I.laid (t':=s.toks) (o:=.lst (Uw xs lo hi)) (λb ob q=>Heap.get?_push_of_some _ q) (Gn _) ?_,Xb,q _ (I.Zw.fresh (Gn _))⟩;exact⟨TY (Qa4 xs lo hi) hz,_,0,(r.drop (HT.Wg xs.length 0 lo)).take (HT.Wg xs.length xs.length hi - HT.Wg xs.length 0 lo),Heap.get?_push_size _ Xb⟩
theorem Zb:V3 X (.builtin "len") (λxs H Q=>∃p ys,xs=[.ref p]/\(Zc X.K H p ys\/Z2 X.K H p ys)/\Q (.int ys.length) H):=by
 intro pins s σ H xs us Q I r h;obtain⟨p,ys,rfl,b,q⟩:=h;obtain⟨u,rfl,d⟩:=vals1 r;cases d;have e:=Rl;rcases b with b|b
 ·obtain⟨its,c,pl,hz⟩:=I.list b;have a:=c.length;exact Lp pl.isList (by simp only[List.size_toArray]<;>omega) ⟨.int ys.length,H,I.tok _,⟨s.toks+1,by rw[List.size_toArray,a]⟩,q⟩
 ·obtain⟨its,c,pl,hz⟩:=I.tuple b;have a:=c.length;exact len_tuple pl (by simp only[List.size_toArray]<;>omega) ⟨.int ys.length,H,I.tok _,⟨s.toks+1,by rw[List.size_toArray,a]⟩,q⟩
theorem Vn:V3 X (.type "list") (λxs H Q=>∃p ys,xs=[.ref p]/\(Zc X.K H p ys\/Z2 X.K H p ys)/\∀l,H l=Gg->Q (.ref l) (upd H l (.lst ys))):=by
 intro pins s σ H xs us Q I r h;obtain⟨p,ys,rfl,f,q⟩:=h;obtain⟨u,rfl,j⟩:=vals1 r;cases j;have fin:∀(its:List Value),Zv ys its->ys.length<=Gi->∀(h':Heap)(a:Nat),(∀b o',s.heap.get? b=Ga o'->h'.get? b=Ga o')->
   h'.get? s.heap.objs.size=Ga {cls:=.type "list",dict:=Gg,data:=.seq its.toArray a,slots:=#[]}->EP X pins σ Q (.ref s.heap.objs.size) {s with heap:=h'}:=λits c hz h' a kp e=>
  ⟨.ref s.heap.objs.size,_,I.laid (t':=s.toks) kp (Gn _) (show Z1 X.prog X.w _ h' _ (.lst ys)from⟨hz,its,a,c,e⟩),Xb,q _ (I.Zw.fresh (Gn _))⟩
 rcases f with f|f
 ·obtain⟨its,c,pl,hz⟩:=I.list f;have d:=c.length;obtain⟨o,i,g,n,hd⟩:=pl.isList;exact Mx p (.inl Xb) i g hd (λh' a kp e=>fin its c hz h' a kp e) (by simp only[List.size_toArray]<;>omega)
 ·obtain⟨its,c,pl,hz⟩:=I.tuple f;have d:=c.length;obtain⟨o,i,g,n,hd⟩:=pl;exact Mx p (.inr Xb) i g hd (λh' a kp e=>fin its c hz h' a kp e) (by simp only[List.size_toArray]<;>omega)
theorem W8:V3 X (.type "tuple") (λxs H Q=>∃p ys,xs=[.ref p]/\((Zc X.K H p ys/\∀l,H l=Gg->Q (.ref l) (upd H l (.tup ys)))\/(Z2 X.K H p ys/\Q (.ref p) H))):=by
 intro pins s σ H xs us Q I r h;obtain⟨p,ys,rfl,h⟩:=h;obtain⟨u,rfl,i⟩:=vals1 r;cases i;rcases h with⟨a,q⟩|⟨a,q⟩
 ·obtain⟨its,c,pl,hz⟩:=I.list a;have f:=c.length;refine call_tuple_list pl.isList (λh' kp=>?_) (by simp only[List.size_toArray]<;>omega);have d:Inv X pins σ H {s with heap:=h'}:=I.kept (t':=s.toks) kp;have g:Inv X pins σ (upd H h'.objs.size (.tup ys)) {s with heap:=h'.push {cls:=.type "tuple",data:=.seq its.toArray}}:=
   d.laid (t':=s.toks) (λb o e=>Heap.get?_push_of_some _ e) (Gn _) (show Z1 X.prog X.w _ _ _ (.tup ys)from⟨hz,its,c,RJ _ _⟩)
  exact⟨.ref h'.objs.size,_,g,Xb,q _ (d.Zw.fresh (Gn _))⟩
 ·obtain⟨its,c,pl,hz⟩:=I.tuple a;exact call_tuple_same pl ⟨.ref p,H,I,Xb,q⟩
def tyV(K:Gd)(T:String)(x:V)(H:Hp):Prop:=match x with
 |.str _=>T="str"
 |.int _=>T="int"
 |.ref p=>(T="list"/\∃xs,Zc K H p xs)\/(T="tuple"/\∃o,K.lookup p=Ga o/\o.cls=.type "tuple"/\o.dict=Gg)\/
   (T="dict"/\((∃kvs,H p=Ga (.dK kvs))\/∃kvs,H p=Ga (.dT kvs)))\/(T="set"/\∃S n,H p=Ga (.set S n))
 |_=>False
theorem Qp6{pins:List (Gc×Ee)}{σ:St}{T:String}{x:V}{v:Value}(I:Inv X pins σ H s)(r:RelV x v)(ty:tyV X.K T x H):
  s.TypeIs v T/\∀a,v=.ref a->∃ob,s.heap.get? a=Ga ob/\ob.dict=Gg:=by
 cases x with
 |str z=>obtain⟨t,rfl⟩:=r;cases(show T="str"from ty);exact⟨NM s z t,λ_ e=>nomatch e⟩
 |int i=>obtain⟨t,rfl⟩:=r;cases(show T="int"from ty);exact⟨typeIs_int s i t,λ_ e=>nomatch e⟩
 |ref p=>
  cases r;rcases ty with⟨rfl,xs,g⟩|⟨rfl,o,b,f,hd⟩|⟨rfl,b⟩|⟨rfl,S,n,b⟩
  ·obtain⟨its,_,pl,_⟩:=I.list g;refine⟨pl.isList.typeIs,λa e=>?_⟩;cases e;obtain⟨o,n,e,c,hd,_⟩:=pl;exact⟨o,e,hd⟩
  ·refine⟨⟨o,I.Jn p o b,f⟩,λa e=>?_⟩;cases e;exact⟨o,I.Jn _ o b,hd⟩
  ·have z:∃o,s.heap.get? p=Ga o/\o.ExactDict:=by
    rcases b with⟨kvs,b⟩|⟨kvs,b⟩
    ·obtain⟨_,_,_,_,o,_,_,e,ex,_⟩:=I.Zw p _ b;exact⟨o,e,ex⟩
    ·obtain⟨_,_,_,_,o,_,_,e,ex,_⟩:=I.Zw p _ b;exact⟨o,e,ex⟩
   obtain⟨o,e,ex⟩:=z;refine⟨⟨o,e,ex.1⟩,λa d=>?_⟩;cases d;exact⟨o,e,ex.2.1⟩
  ·obtain⟨o,_,_,_,e,ex,_⟩:=I.Zw p _ b;refine⟨⟨o,e,ex.1⟩,λa d=>?_⟩;cases d;exact⟨o,e,ex.2.1⟩
 |_=>exact False.elim ty
def Q1b(K:Gd)(T:String)(r:V->List V->Hp->VK->Prop)(to:TE):TE:=λσ H Q=>to σ H λx H1=>tyV K T x H1/\r x [] H1 Q
def tBM(K:Gd)(T:String)(r:V->List V->Hp->VK->Prop)(to:TE)(t:TA):TE:=λσ H Q=>to σ H λx H1=>tyV K T x H1/\t σ H1 λxs H2=>r x xs H2 Q
variable{o e:T1}{es:List T1}{to:TE}{t:TA}{name:Ta}{apos cpos:SW}{T id:String}{r:V->List V->Hp->VK->Prop}
theorem Qd5(i:NN T)(slot:Slot T name id)(c:typeOf (.builtin id)=pure (.type "method_descriptor"))(f:MtR X id r)(g:PE X o to)
  (a:attributeBase o name X.env (eval o X.env)=eval o X.env:=by rfl)(b:(apos.endLine==cpos.line)=Gf:=by rfl):PE X (.Call (.Attribute o name apos) [] [] cpos) (Q1b X.K T r to):=by
 intro pins s σ H Q I h;refine SH a b (Yp (g pins s σ H _ I h) λv s1⟨x,H1,d,e,ty,j⟩=>?_);obtain⟨h1,h2⟩:=Qp6 d e ty;exact⟨T,id,i,slot,c,h1,h2,Eh rfl (Ls (f pins s1 σ H1 x [] v [] Q d e .nil j))⟩
theorem Xq(q:NN T)(slot:Slot T name id)(f:typeOf (.builtin id)=pure (.type "method_descriptor"))(m:MtR X id r)(n:PE X o to)(l:PA X (e::es) t)
  (b:attributeBase o name X.env (eval o X.env)=eval o X.env:=by rfl)
  (d:((DN cpos (Td (e::es) X.env)).all (λx=>!x.1)&&(backToKw cpos (keywordEach [] X.env)).all (λx=>x.1.isSome)
   &&decide ((e::es).length+([]:List LX).length+(if([]:List LX).isEmpty then 0 else 1)<30))=Gf:=by rfl)
  (c:(apos.endLine==cpos.line)=Gf:=by rfl)(p:Td (e::es) X.env=(Gq,eval e X.env)::Td es X.env:=by rfl)(a:(DN cpos (Td es X.env)).any (·.1)=Gq:=by rfl):
  PE X (.Call (.Attribute o name apos) (e::es) [] cpos) (tBM X.K T r to t):=by
 intro pins s σ H Q I h;refine SU b d c rfl (Yp (n pins s σ H _ I h) λv s1⟨x,H1,g,j,ty,u⟩=>?_);obtain⟨h1,h2⟩:=Qp6 g j ty;refine⟨T,id,q,slot,f,h1,h2,?_⟩;have i:=l cpos pins s1 σ H1 _ g u;rw[p]at i⊢;refine Eh (by show(Gq||(DN cpos (Td es X.env)).any (·.1))=Gq;rw[a]<;>rfl) (Lg ?_);exact Yp i λus s2⟨vs,H2,k,y,w⟩=>m pins s2 σ H2 x vs v us Q k j y w
end
def MtM(X:Cx)(id:String)(r:V->List V->Hp->VK->Prop):Prop:=
 ∀(pins:List (Gc×Ee))(s:Gj)(σ:St)(H:Hp)(x:V)(xs:List V)(v:Value)(us:List Value)(Q:VK),Inv X pins σ H s->RelV x v->Zv xs us->r x xs H Q->
  wpAny (GY X.prog X.w) X.A (call (.builtin id) (v::us)) (EP X pins σ Q) X.xe s
theorem Zv.one:∀{x:V}{us:List Value},Zv [x] us->∃u,us=[u]/\RelV x u
 |_,_,.cons r .nil=>⟨_,Xb,r⟩
theorem Zv.zero:∀{us:List Value},Zv [] us->us=[]
 |_,.nil=>rfl
theorem Zv.dropLast{xs:List V}{us:List Value}(h:Zv xs us):Zv xs.dropLast us.dropLast:=by
 induction h with
 |nil=>exact .nil
 |cons r t a=>
  cases t with
  |nil=>exact .nil
  |cons q t'=>exact .cons r a
theorem Qk1(l:List α):l.eraseIdx (l.length - 1)=l.dropLast:=by
 induction l with
 |nil=>rfl
 |cons a r c=>
  cases r with
  |nil=>rfl
  |cons b r=>
   have e:(a::b::r).length - 1=((b::r).length - 1)+1:=by have h1:(a::b::r).length=r.length+2:=rfl;have h2:(b::r).length=r.length+1:=rfl;omega
   rw[e,List.eraseIdx_cons_succ,c];all_goals rfl
section
variable{X:Cx}{pins:List (Gc×Ee)}{σ:St}{H:Hp}{s:Gj}{l b:Gc}{xs ys zs:List V}
theorem Inv.Qvd{its its':List Value}{f:Array Value->Array Value}(I:Inv X pins σ H s)(a:H l=Ga (.lst xs))
  (e:s.heap.get? l=Ga {cls:=.type "list",data:=.seq its.toArray n})(b:f its.toArray=its'.toArray)(d:Zv ys its')(hz:ys.length<=Gi):
  Inv X pins σ (upd H l (.lst ys)) {s with heap:=s.heap.update l (Et f),toks:=t'}:=by
 have q:=RK e f;rw[b]at q;refine I.write (x:=l) (e:=l) (by rw[a];exact trivial) (.inl Xb) (λg u hb c=>(Heap.get?_update_other s.heap (Et f) (Gp hb)).trans c) ⟨_,q⟩ ?_;exact⟨hz,its',_,d,q⟩
theorem Inv.Q0l{its:List Value}(I:Inv X pins σ H s)(a:Zv ys its)(hz:ys.length<=Gi):
  Inv X pins σ (upd H s.heap.objs.size (.lst ys)) {s with heap:=s.heap.push {cls:=.type "list",data:=.seq its.toArray},toks:=t'}:=
 I.laid (λ_ _ q=>Heap.get?_push_of_some _ q) (Gn _) ⟨hz,its,0,a,Heap.get?_push_size _ Xb⟩
theorem Inv.fresh(I:Inv X pins σ H s):H s.heap.objs.size=Gg:=I.Zw.fresh (Gn _)
theorem Inv.Qlb(I:Inv X pins σ H s)(a:H l=Ga (.lst xs)):xs.length<=Gi/\∃(its:List Value)(n:Nat),Zv xs its/\xs.length=its.length/\s.heap.get? l=Ga {cls:=.type "list",data:=.seq its.toArray n}:=by obtain⟨z,its,n,r,e⟩:=I.Zw l _ a;exact⟨z,its,n,r,r.length,e⟩
theorem Qq0(h:n<=Gi):Builtin.List.listTooLong n=Gq:=by unfold Builtin.List.listTooLong;exact Gz (by omega)
end
section
variable{X:Cx}
def Quw:V->List V->Hp->VK->Prop:=λx vs H Q=>∃l xs y,x=.ref l/\vs=[y]/\H l=Ga (.lst xs)/\xs.length<Gi/\Q .non (upd H l (.lst (xs++[y])))
theorem Z0:MtM X "list.append" Quw:=by intro pins s σ H x vs v us Q I c rv h;obtain⟨l,xs,y,rfl,rfl,a,hz,q⟩:=h;cases c;obtain⟨u,rfl,b⟩:=rv.one;obtain⟨z,its,n,r,d,e⟩:=I.Qlb a;refine LF F.slot_list_append ⟨_,e,Xb⟩ F.entry_list_append (F.args_list_append_2 _ _) (LY l its.toArray n u (by rw[List.size_toArray];omega)) ⟨e,?_⟩;refine⟨.non,_,I.Qvd (its':=its++[u]) a e (by simp) (r.append (.cons b .nil)) ?_,Xb,q⟩;rw[List.length_append,List.length_singleton];omega
def Qup:V->List V->Hp->VK->Prop:=λx vs H Q=>∃l b xs zs,x=.ref l/\vs=[.ref b]/\H l=Ga (.lst xs)/\H b=Ga (.lst zs)/\xs.length+zs.length<=Gi/\Q .non (upd H l (.lst (xs++zs)))
theorem O8:MtM X "list.extend" Qup:=by
 intro pins s σ H x vs v us Q I m rv h;obtain⟨l,b,xs,zs,rfl,rfl,d,g,hz,q⟩:=h;cases m;obtain⟨u,rfl,k⟩:=rv.one;cases k;obtain⟨z,its,n,r,o,e⟩:=I.Qlb d;obtain⟨p,a,n2,j,i,f⟩:=I.Qlb g;have hsz:its.toArray.size+a.toArray.size<=Gi:=by rw[List.size_toArray,List.size_toArray];omega
 have c:¬(!its.toArray.isEmpty&&Builtin.List.listTooLong (its.toArray.size+a.toArray.size))=Gf:=by rw[Qq0 hsz,Bool.and_false];exact Gw
 refine LF F.slot_list_extend ⟨_,e,Xb⟩ F.entry_list_extend (F.args_list_extend_2 _ _)
  (LZ l its.toArray n b a.toArray n2 c (by rw[List.size_toArray];omega) (by omega)) ⟨e,f,?_⟩
 refine⟨.non,_,I.Qvd (its':=its++a) d e (by simp) (r.append j) ?_,Xb,q⟩;rw[List.length_append];omega
def Q1x:V->List V->Hp->VK->Prop:=λx vs H Q=>∃l xs y,x=.ref l/\vs=[]/\H l=Ga (.lst xs)/\xs[xs.length - 1]?=Ga y/\Q y (upd H l (.lst xs.dropLast))
theorem Qb8:MtM X "list.pop" Q1x:=by
 intro pins s σ H x vs v us Q I j rv h;obtain⟨l,xs,y,rfl,rfl,c,g,q⟩:=h;cases j;have a:=rv.zero;subst a;obtain⟨z,its,n,r,d,e⟩:=I.Qlb c;obtain⟨u,f,i⟩:=r.get g;have b:its.toArray[its.toArray.size - 1]?=Ga u:=by show its.toArray[its.length - 1]?=Ga u;rw[<-T5,<-d];exact f
 refine LF F.slot_list_pop ⟨_,e,Xb⟩ F.entry_list_pop (F.args_list_pop_1 _) (MZ l its.toArray n u b (by rw[List.size_toArray];omega)) ⟨e,?_⟩;refine⟨y,_,I.Qvd (its':=its.dropLast) c e ?_ r.dropLast ?_,i,q⟩
 ·show its.toArray.eraseIdxIfInBounds (its.toArray.size - 1)=its.dropLast.toArray;rw[List.size_toArray,List.eraseIdxIfInBounds_toArray,Qk1]
 ·rw[List.length_dropLast];omega
def Q1z:R2:=λx y H Q=>∃l b xs zs,x=.ref l/\y=.ref b/\H l=Ga (.lst xs)/\H b=Ga (.lst zs)/\xs.length+zs.length<=Gi/\∀p,H p=Gg->Q (.ref p) (upd H p (.lst (xs++zs)))
theorem Uc:Oz X (binaryOp .Add) Q1z:=by
 intro pins s σ H x y v u Q I j k h;obtain⟨l,b,xs,zs,rfl,rfl,f,d,hz,q⟩:=h;cases j;cases k;obtain⟨z,its,n,r,m,e⟩:=I.Qlb f;obtain⟨o,a,n2,i,g,c⟩:=I.Qlb d;refine RL e c ?_ (by rw[List.size_toArray,List.size_toArray];omega);have ea:its.toArray++a.toArray=(its++a).toArray:=by simp
 rw[ea];exact⟨.ref _,_,I.Q0l (t':=s.toks) (r.append i) (by rw[List.length_append];omega),Xb,q _ I.fresh⟩
end
section
variable{κ:Type}[DecidableEq κ]
def Yy(kvs:List (κ×V))(k:κ):Option V:=(kvs.find? λa=>decide (a.1=k)).map (·.2)
def Ww(kvs:List (κ×V))(k:κ)(v:V):List (κ×V):=
 if(kvs.any λa=>decide (a.1=k))=Gf then kvs.map (λa=>if a.1=k then(a.1,v)else a)else kvs++[(k,v)]
theorem Qb7{k:κ}:Yy ([]:List (κ×V)) k=Gg:=rfl
theorem Xm{p:κ×V}{r:List (κ×V)}{k:κ}(e:p.1=k):Yy (p::r) k=Ga p.2:=by simp[Yy,List.find?_cons,e]
theorem Xe{p:κ×V}{r:List (κ×V)}{k:κ}(e:¬p.1=k):Yy (p::r) k=Yy r k:=by simp[Yy,List.find?_cons,e]
theorem Ux(k:κ):∀kvs:List (κ×V),(kvs.any λa=>decide (a.1=k))=(Yy kvs k).isSome
 |[]=>rfl
 |p::r=>by
  rw[List.any_cons];by_cases e:p.1=k
  ·simp only[Xm e,GX e,Bool.true_or,LG]
  ·rw[Xe e,Gz e,Bool.false_or];exact Ux k r
theorem Qil(k j:κ)(y:V):∀kvs:List (κ×V),Yy (kvs.map λa=>if a.1=k then(a.1,y)else a) j=(Yy kvs j).map λx=>if j=k then y else x
 |[]=>rfl
 |p::r=>by
  have b:=Qil k j y r;rw[List.map_cons];by_cases h:p.1=k
  ·rw[Gm h];by_cases e:p.1=j
   ·rw[Xm (p:=(p.1,y)) e,Xm e,TZ,Gm (e.symm.trans h)]
   ·rw[Xe (p:=(p.1,y)) e,Xe e,b]
  ·rw[Gh h];by_cases e:p.1=j
   ·rw[Xm (p:=p) e,Xm e,TZ,Gh (λz=>h (e.trans z))]
   ·rw[Xe (p:=p) e,Xe e,b]
theorem Qah(k j:κ)(y:V):∀kvs:List (κ×V),Yy kvs k=Gg->Yy (kvs++[(k,y)]) j=if j=k then Ga y else Yy kvs j
 |[],_=>by
  by_cases e:k=j
  ·rw[Gm e.symm];exact Xm (p:=(k,y)) e
  ·rw[Gh (λz=>e z.symm)];exact Xe (p:=(k,y)) e
 |p::r,a=>by
  rw[List.cons_append];have b:¬p.1=k:=λz=>by rw[Xm z]at a;cases a
  rw[Xe b]at a;have c:=Qah k j y r a;by_cases e:p.1=j
  ·rw[Xm e,Xm e,Gh (λz=>b (e.trans z))]
  ·rw[Xe e,Xe e,c]
theorem Qc1(kvs:List (κ×V))(k j:κ)(y:V):Yy (Ww kvs k y) j=if j=k then Ga y else Yy kvs j:=by
 unfold Ww;by_cases a:(kvs.any λc=>decide (c.1=k))=Gf
 ·rw[Gm a,Qil];rw[Ux]at a;by_cases e:j=k
  ·obtain⟨x,b⟩:=Sz.mp a;rw[Gm e,e,b,TZ,Gm rfl]
  ·rw[Gh e];cases Yy kvs j with
   |none=>rfl
   |some x=>rw[TZ,Gh e]
 ·rw[Gh a];refine Qah k j y kvs ?_;rw[Ux]at a;cases q:Yy kvs k with
  |none=>rfl
  |some x=>rw[q]at a;exact(a Xb).elim
theorem Wd(kvs:List (κ×V))(k:κ)(v:V):(Ww kvs k v).length<=kvs.length+1:=by
 unfold Ww;split
 ·rw[List.length_map];omega
 ·rw[List.length_append,List.length_cons,List.length_nil];omega
theorem Qru{kvs:List (κ×V)}{k:κ}(v:V)(h:Yy kvs k=Gg):Ww kvs k v=kvs++[(k,v)]:=by unfold Ww;rw[Ux,h];exact Gh (by decide)
theorem Jq.Wb{o:Option V}{u:Option Value}(r:Jq o u):o.isSome=u.isSome:=by
 cases o with
 |none=>cases u with
  |none=>rfl
  |some _=>exact(show False from r).elim
 |some _=>cases u with
  |none=>exact(show False from r).elim
  |some _=>rfl
theorem KV.val{kvs:List (κ×V)}{vs:List (κ×Value)}(r:KV kvs vs)(k:κ):Jq (Yy kvs k) (valueAt vs k):=by
 unfold KV at r;induction r with
 |nil=>exact TC
 |@cons p q ps c h t d=>
  obtain⟨h1,h2⟩:=h;by_cases e:p.1=k
  ·have a:q.1=k:=h1.symm.trans e;have b:valueAt (q::c) k=Ga q.2:=by simp[valueAt,List.find?_cons,a]
   rw[Xm e,b];exact h2
  ·have a:¬q.1=k:=λz=>e (h1.trans z);have b:valueAt (q::c) k=valueAt c k:=by simp[valueAt,List.find?_cons,a]
   rw[Xe e,b];exact d
theorem KV.any{kvs:List (κ×V)}{vs:List (κ×Value)}(r:KV kvs vs)(k:κ):(kvs.any λa=>decide (a.1=k))=vs.any λa=>decide (a.1=k):=by
 unfold KV at r;induction r with
 |nil=>rfl
 |cons h t b=>rw[List.any_cons,List.any_cons,b,h.1]
theorem KV.Qyd{kvs:List (κ×V)}{vs:List (κ×Value)}(r:KV kvs vs)(k:κ)(c:RelV y u):
  KV (kvs.map λa=>if a.1=k then(a.1,y)else a) (vs.map λa=>if a.1=k then(a.1,u)else a):=by
 unfold KV at r⊢;induction r with
 |nil=>exact .nil
 |@cons p q ps d h t b=>
  rw[List.map_cons,List.map_cons];refine .cons ?_ b;obtain⟨h1,h2⟩:=h;by_cases e:p.1=k
  ·rw[Gm e,Gm (h1.symm.trans e)];exact⟨h1,c⟩
  ·rw[Gh e,Gh (λz=>e (h1.trans z))];exact⟨h1,h2⟩
theorem KV.put{kvs:List (κ×V)}{vs:List (κ×Value)}(r:KV kvs vs)(k:κ)(a:RelV y u):KV (Ww kvs k y) (stored vs k u):=by
 unfold Ww stored;rw[r.any k];by_cases e:(vs.any λb=>decide (b.1=k))=Gf
 ·rw[Gm e,Gm e];exact r.Qyd k a
 ·rw[Gh e,Gh e];exact DE r ⟨Xb,a⟩
theorem KV.length{kvs:List (κ×V)}{vs:List (κ×Value)}(r:KV kvs vs):kvs.length=vs.length:=Gr r
end
theorem Qet{k:Xs}(r:RelV (kV k) u):(Yk P w).is k u=Gf:=by
 cases k with
 |inl i=>obtain⟨t,e⟩:=(show∃t,u=Value.int i t from r);subst e;exact Qi7 P w i t
 |inr x=>obtain⟨t,e⟩:=(show∃t,u=Value.str x t from r);subst e;exact Qim P w x t
theorem Qfl{P:Gk}{w:Gv}:∀{a:List Xs}{us:List Value},Zv (a.map kV) us->ItemsAre (Yk P w) a us
 |[],_,r=>by rw[List.map_nil]at r;cases r;exact .nil
 |k::a,_,r=>by
  rw[List.map_cons]at r;cases r with
  |cons h t=>exact .cons (Qet h) (Qfl t)
abbrev KT(H:Hp):List (List Xs×V)->List (List Xs×Gc×Value)->Prop:=Paired λp q=>p.1=q.1/\H q.2.1=Ga (.tup (p.1.map kV))/\RelV p.2 q.2.2
theorem KT.val(r:KT H kvs xs)(k:List Xs):Jq (Yy kvs k) ((atKey xs k).map (·.2)):=by
 induction r with
 |nil=>exact TC
 |@cons p q ps c h t d=>
  obtain⟨h1,_,h2⟩:=h;by_cases e:p.1=k
  ·have a:q.1=k:=h1.symm.trans e;have b:atKey (q::c) k=Ga q.2:=by simp[atKey,List.find?_cons,a]
   rw[Xm e,b];exact h2
  ·have a:¬q.1=k:=λz=>e (h1.trans z);have b:atKey (q::c) k=atKey c k:=by simp[atKey,List.find?_cons,a]
   rw[Xe e,b];exact d
theorem KT.Qyd(r:KT H kvs xs)(k:List Xs)(d:RelV y u):
  KT H (kvs.map λa=>if a.1=k then(a.1,y)else a) (xs.map (putAt k u)):=by
 induction r with
 |nil=>exact .nil
 |@cons p q ps f h t c=>
  rw[List.map_cons,List.map_cons];refine .cons ?_ c;obtain⟨h1,h2,b⟩:=h;unfold putAt;by_cases e:p.1=k
  ·rw[Gm e,Gm (h1.symm.trans e)];exact⟨h1,h2,d⟩
  ·rw[Gh e,Gh (λz=>e (h1.trans z))];exact⟨h1,h2,b⟩
theorem KT.put(r:KT H kvs xs)(k:List Xs)(hb:H b=Ga (.tup (k.map kV)))(a:RelV y u):
  KT H (Ww kvs k y) (storedH xs k b u):=by
 have e:(kvs.any λc=>decide (c.1=k))=(atKey xs k).isSome:=by rw[Ux,(r.val k).Wb,DY]
 unfold Ww storedH;rw[e];by_cases q:(atKey xs k).isSome=Gf
 ·rw[Gm q,Gm q];exact r.Qyd k a
 ·rw[Gh q,Gh q];exact DE r ⟨Xb,hb,a⟩
theorem KT.keeps(r:KT H kvs xs)(a:∀b ys,H b=Ga (.tup ys)->H' b=Ga (.tup ys)):KT H' kvs xs:=
 Paired.Z7 r λ_ _ z=>⟨z.1,a _ _ z.2.1,z.2.2⟩
section
variable{P:Gk}{w:Gv}{H:Hp}{h:Heap}{a:Gc}
theorem Qwg{u:HO}(ok:Iy P w H h)(e:Rd H a u):Z1 P w H h a u:=e.ok ok
theorem Qfm{kvs:List (Xs×V)}(ok:Iy P w H h)(e:Rd H a (.dK kvs)):kvs.length<=Gi/\(a==T8)=Gq/\∃vs,KV kvs vs/\h.DictOf (Yk P w) a vs:=
 show Z1 P w H h a (.dK kvs)from Qwg ok e
theorem Qmf{kvs:List (Xs×V)}(ok:Iy P w H h)(e:H a=Ga (.dK kvs)):kvs.length<=Gi/\(a==T8)=Gq/\∃vs,KV kvs vs/\h.DictOf (Yk P w) a vs:=Qfm ok (.inl e)
theorem Qam{b:List Xs}(ok:Iy P w H h)(e:H a=Ga (.tup (b.map kV))):(tupleKind (Yk P w)).is h b a:=by obtain⟨_,its,r,o,h1,h2,n,c⟩:=(show Z1 P w H h a (.tup (b.map kV))from ok a _ e);exact⟨o,its.toArray,n,h1,h2,c,by simpa using Qfl r⟩
theorem Qhv(ok:Iy P w H h)(e:Rd H a (.dT kvs)):kvs.length<=Gi/\(a==T8)=Gq/\
  ∃xs,KT H kvs xs/\h.DictOfH (tupleKind (Yk P w)) a xs:=by
 obtain⟨z,y,xs,r,o,es,ep,h1,h2,d,f,g⟩:=(show Z1 P w H h a (.dT kvs)from Qwg ok e);refine⟨z,y,xs,r,o,es,ep,h1,h2,d,f,λx b=>?_,g⟩;have all:∀{l:List (List Xs×V)}{m:List (List Xs×Gc×Value)},KT H l m->∀x∈m,(tupleKind (Yk P w)).is h x.1 x.2.1:=by
  intro l m q;induction q with
  |nil=>intro x b;exact nomatch b
  |@cons p q ps j c t i=>
   intro x b;rcases List.mem_cons.mp b with e|b
   ·subst e;exact Qam ok (by rw[<-c.1];exact c.2.1)
   ·exact i x b
 exact all r x b
theorem Qws(ok:Iy P w H h)(e:H a=Ga (.dT kvs)):kvs.length<=Gi/\(a==T8)=Gq/\
  ∃xs,KT H kvs xs/\h.DictOfH (tupleKind (Yk P w)) a xs:=Qhv ok (.inl e)
end
def Wr(H:Hp)(a:Gc)(y:V)(r:Option V):Prop:=
 (∃kvs k,Rd H a (.dK kvs)/\y=kV k/\r=Yy kvs k)\/∃kvs k b,Rd H a (.dT kvs)/\y=.ref b/\H b=Ga (.tup (k.map kV))/\r=Yy kvs k
def Iv(H:Hp)(a:Gc)(y v:V)(H':Hp):Prop:=
 (∃kvs k,H a=Ga (.dK kvs)/\y=kV k/\kvs.length<Gi/\H'=upd H a (.dK (Ww kvs k v)))\/
 ∃kvs k b,H a=Ga (.dT kvs)/\y=.ref b/\H b=Ga (.tup (k.map kV))/\kvs.length<Gi/\H'=upd H a (.dT (Ww kvs k v))
theorem Wr.k{H:Hp}{a:Gc}{kvs:List (Xs×V)}{k:Xs}(e:H a=Ga (.dK kvs)):Wr H a (kV k) (Yy kvs k):=.inl ⟨kvs,k,.inl e,Xb,Xb⟩
theorem Wr.t{k:List Xs}(e:H a=Ga (.dT kvs))(c:H b=Ga (.tup (k.map kV))):Wr H a (.ref b) (Yy kvs k):=.inr ⟨kvs,k,b,.inl e,Xb,c,Xb⟩
theorem Iv.k{H:Hp}{a:Gc}{kvs:List (Xs×V)}{k:Xs}{v:V}(e:H a=Ga (.dK kvs))(b:kvs.length<Gi):Iv H a (kV k) v (upd H a (.dK (Ww kvs k v))):=.inl ⟨kvs,k,e,Xb,b,Xb⟩
theorem Iv.t{k:List Xs}{v:V}(e:H a=Ga (.dT kvs))(c:H b=Ga (.tup (k.map kV)))(d:kvs.length<Gi):
  Iv H a (.ref b) v (upd H a (.dT (Ww kvs k v))):=.inr ⟨kvs,k,b,e,Xb,c,d,Xb⟩
section
variable{X:Cx}{pins:List (Gc×Ee)}{σ:St}{H:Hp}{s:Gj}{a:Gc}{y v:V}{u r:Value}{o:Option V}{A:TL}{E:Value->Gj->Prop}
theorem Inv.big(I:Inv X pins σ H s):T8<s.heap.objs.size:=by have h:T4<s.heap.objs.size:=(I.mod.glob.keeps I.bk).lt;exact M1 (by decide) h
theorem Qnq(r:A.units+1<DP)(I:Inv X pins σ H s)(g:Wr H a y (Ga v))(m:RelV y u)(h:∀d s',Inv X pins σ H s'->RelV v d->Q d s'):
  wpAny (GY X.prog X.w) A (getItem (.ref a) u) Q E s:=by
 rcases g with⟨kvs,k,e,i,l⟩|⟨kvs,k,b,e,i,n,l⟩
 ·subst i;obtain⟨z,hd,vs,rel,f⟩:=Qfm I.Zw e;obtain⟨d,hw,c⟩:=Jq.some_of (v:=v) (o:=valueAt vs k) (by rw[l];exact rel.val k);exact wpAny_getItem_of (Qet m) f.mapOf hw (h d _ (I.tok _) c)
 ·subst i;cases(show u=Value.ref b from m);obtain⟨z,hd,xs,rel,f⟩:=Qhv I.Zw e;obtain⟨d,hw,c⟩:=Jq.some_of (v:=v) (o:=(atKey xs k).map (·.2)) (by rw[l];exact rel.val k);obtain⟨p,q,j⟩:=EK.mp hw;refine LH (Ei r) (Qam I.Zw n) f q ?_;rw[j];exact h d _ (I.tok _) c
theorem Q1v(j:A.units+1<DP)(I:Inv X pins σ H s)(g:Wr H a y o)(f:RelV y u)(h:∀s',Inv X pins σ H s'->Q (.bool o.isSome) s'):
  wpAny (GY X.prog X.w) A (Do .In u (.ref a)) Q E s:=by
 rcases g with⟨kvs,k,e,d,l⟩|⟨kvs,k,b,e,d,i,l⟩
 ·subst d;obtain⟨z,hd,vs,rel,c⟩:=Qfm I.Zw e;refine wpAny_in_of (Qet f) hd c.mapOf ?_;rw[<-(rel.val k).Wb,<-l];exact h _ (I.tok _)
 ·subst d;cases(show u=Value.ref b from f);obtain⟨z,hd,xs,rel,c⟩:=Qhv I.Zw e;refine My (Ei j) (Qam I.Zw i) hd c ?_;have q:=(rel.val k).Wb;rw[DY]at q;rw[<-q,<-l];exact h _ (I.tok _)
theorem Qvb(j:A.units+1<DP)(I:Inv X pins σ H s)(g:Wr H a y o)(f:RelV y u)(h:∀s',Inv X pins σ H s'->Q (.bool (!o.isSome)) s'):
  wpAny (GY X.prog X.w) A (Do .NotIn u (.ref a)) Q E s:=by
 rcases g with⟨kvs,k,e,d,l⟩|⟨kvs,k,b,e,d,i,l⟩
 ·subst d;obtain⟨z,hd,vs,rel,c⟩:=Qfm I.Zw e;refine wpAny_notIn_of (Qet f) hd c.mapOf ?_;rw[<-(rel.val k).Wb,<-l];exact h _ (I.tok _)
 ·subst d;cases(show u=Value.ref b from f);obtain⟨z,hd,xs,rel,c⟩:=Qhv I.Zw e;refine Fl (Ei j) (Qam I.Zw i) hd c ?_;have q:=(rel.val k).Wb;rw[DY]at q;rw[<-q,<-l];exact h _ (I.tok _)
theorem Ip{h':Heap}{ob:HO}(I:Inv X pins σ H s)(mu:Mut (H a))(d:Heap.SameBut a s.heap h')(c:∃q,h'.get? a=Ga q)(new:Z1 X.prog X.w (upd H a ob) h' a ob):
  Inv X pins σ (upd H a ob) {s with heap:=h',toks:=t'}:=
 I.write (x:=a) (e:=a) mu (.inl Xb) (λb q hb z=>(d.2 b hb).trans z) c new
theorem Qpm{h':Heap}{kvs:List (Xs×V)}{vs:List (Xs×Value)}(z:kvs.length<=Gi)(hd:(a==T8)=Gq)(rel:KV kvs vs)(b:h'.DictOf (Yk P w) a vs):
  Z1 P w H' h' a (.dK kvs):=⟨z,hd,vs,rel,b⟩
theorem Qo8{Q:Unit->Gj->Prop}(G:A.units+1<DP)(I:Inv X pins σ H s)(g:Iv H a y v H')(x:RelV y u)(rv:RelV v r)(h:∀s',Inv X pins σ H' s'->Q () s'):
  wpAny (GY X.prog X.w) A (setItem (.ref a) u r) Q E s:=by
 rcases g with⟨kvs,k,e,m,l,j⟩|⟨kvs,k,b,e,m,p,l,j⟩
 ·subst m j;obtain⟨z,hd,vs,rel,i⟩:=Qmf I.Zw e;have hz:vs.length<=Gi:=by rw[<-rel.length];exact z
  have n:(Ww kvs k v).length<=Gi:=by have:=Wd kvs k v;omega
  refine wpAny_setItem_pairs (hsz:=hz) (Qet x) i λh' d o=>h _ ?_;have F:∃q,h'.get? a=Ga q:=let⟨q,_,_,f,_⟩:=d;⟨q,f⟩;exact Ip I (by rw[e];exact TC) o F (Qpm n hd (rel.put k rv) d)
 ·subst m j;cases(show u=Value.ref b from x);obtain⟨z,hd,xs,rel,i⟩:=Qws I.Zw e;have hz:xs.length<=Gi:=by rw[<-Gr rel];exact z
  have n:(Ww kvs k v).length<=Gi:=by have:=Wd kvs k v;omega
  refine LI (hsz:=hz) (Ei G) (Qam I.Zw p) i λh' d o=>h _ ?_;obtain⟨q,es,ep,f,h2,B,C,_,D⟩:=d;refine Ip I (by rw[e];exact TC) o ⟨q,f⟩ ⟨n,hd,_,(rel.put k p rv).keeps λc ys t=>?_,q,es,ep,f,h2,B,C,D⟩;rw[Qf (Zh t e nofun)];exact t
end
section
variable{X:Cx}{pins:List (Gc×Ee)}{σ:St}{H:Hp}{s:Gj}{a:Gc}{kvs:List (Xs×V)}{k:Xs}{u:Value}{A:TL}{E:Value->Gj->Prop}
theorem Qzp(I:Inv X pins σ H s)(e:Rd H a (.dK kvs))(h:∀t s',Inv X pins σ H s'->Q (.int kvs.length t) s'):wpAny (GY X.prog X.w) A (call (.builtin "len") [.ref a]) Q E s:=by obtain⟨z,hd,vs,rel,b⟩:=Qfm I.Zw e;refine call_len_dict hd b (by rw[<-rel.length];rw[GQ]at z;omega) ?_;rw[<-rel.length];exact h _ _ (I.tok _)
end
def Q0p(i:T1):Prop:=∀ov a,subscripted i Gq ov a=operate [ov,a] (getItem ov a)
theorem Qtr{prog:Gk}{A:TL}{E:Value->Gj->Prop}{env:LL}{value a:T1}{pos:SW}{T id:String}
  (j:typeLookup (.type T) "__getitem__"=pure (Ga (.builtin id)))(k:Q0p a)
  (h:wpAny (GY prog w) A (eval value env) (λo d=>wpAny (GY prog w) A (eval a env) (λi b=>b.TypeIs o T/\wpAny (GY prog w) A (getItem o i) Q E b) E d) E s):
  wpAny (GY prog w) A (eval (.Subscript value a pos) env) Q E s:=by
 refine FF (DB h (λo d h₁=>DB h₁ (λi b c=>?_) λ_ _ x=>x) λ_ _ x=>x);obtain⟨g,c⟩:=c;unfold subscriptTail;refine Gb ?_;rw[getitemInPython_of_ne g.not_modules];refine Gb (DL g j ?_);have fin:wpAny (GY prog w) A (subscripted a Gq o i) (λr e=>wpAny (GY prog w) A (letTemporaryGo value o r>>=λ_=>pure r) Q E e) E b:=by rw[k o i];exact wpAny_operating (DB c (λr e f=>Gb (wpAny_letTemporaryGo (Ge f))) λ_ _ x=>x)
 first
  |exact Ge (Gb fin)
  |exact Gb (Ge (Gb fin))
  |exact Gb fin
theorem Qix{X:Cx}{pins:List (Gc×Ee)}{σ:St}{o:Option V}(I:Inv X pins σ H s)(g:Wr H a y o):s.TypeIs (.ref a) "dict":=by
 rcases g with⟨kvs,k,e,_,_⟩|⟨kvs,k,b,e,_,_,_⟩
 ·obtain⟨_,_,vs,_,c⟩:=Qfm I.Zw e;exact c.typeIs
 ·obtain⟨_,_,xs,_,c⟩:=Qhv I.Zw e;exact c.typeIs
def Qh8(td ty:TE):TE:=λσ H Q=>td σ H λx H1=>ty σ H1 λy H2=>∃a v,x=.ref a/\Wr H2 a y (Ga v)/\Q v H2
def Q10(ty td:TE):TE:=λσ H Q=>ty σ H λy H1=>td σ H1 λx H2=>∃a o,x=.ref a/\Wr H2 a y o/\Q (.bl o.isSome) H2
def Qvg(ty td:TE):TE:=λσ H Q=>ty σ H λy H1=>td σ H1 λx H2=>∃a o,x=.ref a/\Wr H2 a y o/\Q (.bl (!o.isSome)) H2
def Qwd(td ty tv:TE):TS:=λD σ H=>tv σ H λv H1=>td σ H1 λx H2=>ty σ H2 λy c=>∃a b,x=.ref a/\Iv c a y v b/\D.nx σ b
section
variable{X:Cx}{o i e value:T1}{pos pos' tpos:SW}{td ty tv:TE}
theorem Zr(k:X.A.units+1<DP)(f:PE X o td)(hi:PE X i ty)(j:Q0p i):PE X (.Subscript o i pos) (Qh8 td ty):=by intro pins s σ H Q I h;refine Qtr Sm.lookup j (Yp (f pins s σ H _ I h) λu s1⟨x,H1,d,n,l⟩=>Yp (hi pins s1 σ H1 _ d l) λq s2⟨y,H2,c,p,a,v,ex,g,m⟩=>?_);subst ex;obtain rfl:u=Value.ref a:=n;exact⟨Qix c g,Qnq k c g p λt r e b=>⟨v,H2,e,b,m⟩⟩
theorem Qj6(f:X.A.units+1<DP)(hi:PE X i ty)(e:PE X o td):PC X .In i o (Q10 ty td):=by intro pins s σ H Q I h;refine Yp (hi pins s σ H _ I h) λn s1⟨y,H1,b,m,j⟩=>Yp (e pins s1 σ H1 _ b j) λu s2⟨x,H2,c,l,a,ov,ex,g,k⟩=>?_;subst ex;obtain rfl:u=Value.ref a:=l;exact Q1v f c g m λp d=>⟨.bl ov.isSome,H2,d,Xb,k⟩
theorem Qo5(f:X.A.units+1<DP)(hi:PE X i ty)(e:PE X o td):PC X .NotIn i o (Qvg ty td):=by intro pins s σ H Q I h;refine Yp (hi pins s σ H _ I h) λn s1⟨y,H1,b,m,j⟩=>Yp (e pins s1 σ H1 _ b j) λu s2⟨x,H2,c,l,a,ov,ex,g,k⟩=>?_;subst ex;obtain rfl:u=Value.ref a:=l;exact Qvb f c g m λp d=>⟨.bl (!ov.isSome),H2,d,Xb,k⟩
theorem Wm(l:X.A.units+1<DP)(j:PE X o td)(hi:PE X i ty)(m:PE X value tv)(k:swapsWith value (Ga (.Subscript o i pos')) pos.line X.env=pure Gq):
  PS X (.Assign [.Subscript o i pos'] value pos) (Qwd td ty tv):=by
 intro pins s σ H D I h;refine wpAny_Assign_Subscript (Yp (m pins s σ H _ I h) λr s1⟨v,H1,c,rv,n⟩=>Yp (j pins s1 σ H1 _ c n) λu s2⟨x,H2,d,t,p⟩=>Yp (hi pins s2 σ H2 _ d p) λB C⟨y,z,e,w,a,b,ex,g,q⟩=>?_) k;subst ex;obtain rfl:u=Value.ref a:=t;exact Qo8 l e g w rv λs4 f=>⟨σ,b,f,q⟩
end
theorem Qqd(h:Heap)(hb:T8<h.objs.size):Z1 P w H (h.push {cls:=.type "dict",data:=.dict #[]}) h.objs.size (.dK []):=
 ⟨Gx _,Dz.mpr (Gp (Tc hb)),[],.nil,Heap.DictOf.new h⟩
theorem Qsl(h:Heap)(hb:T8<h.objs.size):Z1 P w H (h.push {cls:=.type "dict",data:=.dict #[]}) h.objs.size (.dT []):=
 ⟨Gx _,Dz.mpr (Gp (Tc hb)),[],.nil,_,#[],0,Heap.get?_push_size _ Xb,⟨Xb,Xb,Xb⟩,Xb,Xb,List.nodup_nil⟩
def Qyj:TE:=λ_ H Q=>∀p,H p=Gg->Q (.ref p) (upd H p (.dK []))
def Qyg:TE:=λ_ H Q=>∀p,H p=Gg->Q (.ref p) (upd H p (.dT []))
section
variable{X:Cx}{pos:SW}
theorem Uo:PE X (.Dict [] [] pos) Qyj:=λpins s σ H Q I h=>SI ⟨.ref s.heap.objs.size,_,I.laid (a:=s.heap.objs.size) (o:=.dK []) (t':=s.toks) (λ_ _ q=>Heap.get?_push_of_some _ q) (Gn _) (Qqd s.heap I.big),Xb,h _ (I.Zw.fresh (Gn _))⟩
theorem Ov:PE X (.Dict [] [] pos) Qyg:=λpins s σ H Q I h=>SI ⟨.ref s.heap.objs.size,_,I.laid (a:=s.heap.objs.size) (o:=.dT []) (t':=s.toks) (λ_ _ q=>Heap.get?_push_of_some _ q) (Gn _) (Qsl s.heap I.big),Xb,h _ (I.Zw.fresh (Gn _))⟩
end
structure M2(X:Cx)(o:T1)(m:Ta)(apos:SW)(e f:T1)(cpos:SW):Prop where
 base:attributeBase o m X.env (eval o X.env)=eval o X.env
 few:((DN cpos (Td [e,f] X.env)).all (λx=>!x.1)&&(backToKw cpos (keywordEach [] X.env)).all (λx=>x.1.isSome)
  &&decide (([e,f]:List T1).length+([]:List LX).length+(if([]:List LX).isEmpty then 0 else 1)<30))=Gf
 line:(apos.endLine==cpos.line)=Gf
 trees:DN cpos (Td [e,f] X.env)=[(Gq,eval e X.env),(Gq,eval f X.env)]
end L2
namespace Att
open PySem PySem.W PySem.Calls PyProof.Rows
theorem Qbg{P:NO}{h:Heap}:∀(ns:List Int)(vs:List Value),WellAll P h vs (ns.map RM)->SV vs ns:=by
 intro ns;induction ns with
 |nil=>intro vs w;rw[List.map_nil]at w;cases w;exact .nil
 |cons n ns c=>
  intro vs w;rw[List.map_cons]at w;cases w with
  |cons a b=>cases a;exact .cons _ _ (c _ b)
theorem Qn9{l:NZ}{n:Nat}(p:l.most=Ga n){P:NO}{h:Heap}{args:List WData}{c:List Value}
  (b:l.row.toRowW.claim.pre args=Gf)(k:WellAll P h c args):
  ∃a vs ns,c=[Value.ref a]/\args=[WData.list (ns.map RM)]/\h.get? a=Ga {cls:=.type "list",data:=.seq vs.toArray}/\SV vs ns/\ns.length<=n:=by
 have j:WShape.hasAll [] args [.list .int]=Gf:=(NP b).1;have m:l.pre.holds [] {args:=args}=Gf:=(NP b).2;obtain⟨d,r,rfl,h1,h2⟩:=hasAllW_cons j;obtain rfl:=hasAllW_nil h2;obtain⟨xs,rfl,o⟩:=hasW_list h1;obtain⟨ns,rfl⟩:=items_int o;have f:ns.length<=n:=by
  unfold Bf at m;have g:(WTm.not (.lt (.lit (.int (n:Int))) (.len (.arg 0)))).holds [] {args:=[.list (ns.map .int)]}=Gf:=by have g:=(holds_andW m).1;rw[p]at g;exact g
  have i:=condW_of g (w_not (w_lt w_lit (w_len_list (w_arg Xb))));rw[List.length_map]at i;refine Fn λq=>?_;have t:(n:Int)<((ns.length:Nat):Int):=by omega
  first
   |(rw[GX t]at i;exact absurd i (by decide))
   |(simp at i;omega)
 cases k with
 |cons u v=>
  cases v;cases u with
  |list s e=>exact⟨_,_,ns,Xb,Xb,s,Qbg ns _ e,f⟩
theorem Qoh(l:NZ)(args:List WData):l.row.toRowW.claim.post args (.bool Gf) args=Gf:=
 postW_of (r:=l.row.toRowW) (X:=(Gf==Gf))
  (show NQ [] (.bool Gf) .bool=Gf by first|rfl|decide|simp[NQ,WShape.arms,WShape.armsAll])
  (show(WTm.eq .res (.lit (.bool Gf))).value [] {args:=args,res:=Ga (.bool Gf),after:=args}=Ga (.bool (Gf==Gf))from w_eq_bool (w_res Xb) w_lit) rfl
theorem Qhi{l:NZ}{n:Nat}{q:Gk}{c:List Ta}{v:(Ta->Option Value)->Heap->Prop}{x:Gv->Heap->Prop}{d:RX}
  (I:l.most=Ga n)(p:d.params.defaults=[])
  (call:∀(w:Gv)(s₀ b:Gj)(mg u:Ta->Option Value)(g:Gc)(o:Ee)(pm k doc:Value)(a:Gc)(vs:List Value)(ns:List Int),
   Ground q c [] v w s₀ mg u b.heap->x w b.heap->
   b.heap.get? g=Ga o->o.data=.func (docDef d.name d.params d.body d.scope pm k doc)->b.heap.CodeRec k d.name->mg d.name=Ga (.ref g)->
   b.heap.get? a=Ga {cls:=.type "list",data:=.seq vs.toArray}->SV vs ns->ns.length<=n->b.gens=#[]->
   codeAny (GY l.prog w) callerA (.call (.ref g) ⟨[.ref a],[]⟩) (λr s'=>r=.ok (.ret (.bool Gf))/\OldK b.heap s'.heap/\s'.os=b.os/\Sr s'.gens) b):
  WalkO q c v x l.row.toRowW d [] (λf vs=>FG f vs):=by
 intro w s₀ b mg u G Y g o pm k doc B kV J hd m y s E args A M j z L t F;obtain rfl:B=.none:=Dflts.none y p;obtain rfl:kV=.none:=Dflts.noKw y;obtain⟨a,vs,ns,rfl,rfl,i,e,h⟩:=Qn9 I j t;refine enter_call (SR (call w s₀ b mg u g o pm k doc a vs ns G Y J (fd_plain hd) m s i e h E) λr s' K=>?_);obtain⟨rfl,h2,C,D⟩:=K;exact⟨.inl ⟨.bool Gf,.bool Gf,[],Xb,λ_=>rfl,.bool Gf,Qoh l _,λ_=>⟨List.Pairwise.nil,λ_ H=>(nomatch H)⟩⟩,h2,C,D⟩
end Att
namespace L2
open PySem PySem.Spec PyProof.Rows
variable{K:Gd}{k:Nat}{a f:Gc}{fd:Tt}{x qual:Ta}{X:Cx}{st:T6}{A B:Prop}{H:Hp}{xs:List V}{scope:SG}{pins:List (Gc×Ee)}{σ:St}{own:List Ta}{fv:List (Nat×Ta)}
theorem Qew:∀{vs:List Value}{ns:List Int},SV vs ns->Zv (ns.map V.int) vs
 |_,_,.nil=>.nil
 |_,_,.cons n t h=>.cons ⟨t,Xb⟩ (Qew h)
def Qxm(H:Hp):Prop:=∀b,H b=Gg\/∃o xs,H b=Ga (.frz o (.lst xs))
theorem Qsa{P:Gk}{w:Gv}{mg M:Ta->Option Value}{CX:CXT}{E:Gc}{sp:Sp}{c:Gj}{vs:List Value}{ns:List Int}
  (KX:K.In c.heap)(t:c.heap.Ns T4 mg)(hb:c.heap.Ns builtinsNs M)(I:∀x:Ta,x≠"__name__"->M x=bootBuiltins x)(p:c.heap.NoLimit)(Z:c.gens=#[])
  (C:c.heap.get? a=Ga {cls:=.type "list",data:=.seq vs.toArray})(hi:SV vs ns)(S:ns.length<=Gi)(hr:Z9 k callerA)
  (F:∀base:Heap,K.In base->base.Ns T4 mg->Qr P w K mg base CX k E fd [x] sp)(j:∀(s:Gj)(u:Value),LV s fd ⟨[u],[]⟩ [(x,u)])
  (L:∀H:Hp,Qxm H->Zc K H a (ns.map V.int)->sp [.ref a] H (λv _=>v=.bl Gf) λ_ _ _=>False)
  (G:∀H e s',CX [] H c (λ_ _ _=>False) e s'->False):
  codeAny (GY P w) callerA (.call (.ref E) ⟨[.ref a],[]⟩) (λr s'=>r=.ok (.ret (.bool Gf))/\OldK c.heap s'.heap/\s'.os=c.os/\Sr s'.gens) c:=by
 have rv:=Qew hi;have A:=hi.length;have i:∀H:Hp,Qxm H->Zc K H a (ns.map V.int)->Iy P w H c.heap->(∀b,H b≠Gg->b=a)->(H a≠Gg->K.lookup a=Gg)->
   codeAny (GY P w) callerA (.call (.ref E) ⟨[.ref a],[]⟩) (λr s'=>r=.ok (.ret (.bool Gf))/\OldK c.heap s'.heap/\s'.os=c.os/\Sr s'.gens) c:=by
  intro H R hS Zw Q X;have f:∀{b:Gc}{o:Ee},c.heap.get? b=Ga o->H b=Gg->(Qfx c.heap H).get? b=Ga o:=λe n=>Qpl e n;have N:∀{b:Gc}{o:Ee}{es:Array Eo}{ep:Nat},c.heap.get? b=Ga o->o.data=.dict es ep->H b=Gg:=λ{b o es ep}e d=>by
   cases q:H b with
   |none=>rfl
   |some u=>have D:b=a:=Q b (by rw[q];simp);subst D;rw[C]at e;cases e;have d':RY vs.toArray _=Data.dict es ep:=d;cases d'
  have g:∀{b:Gc}{m:Ta->Option Value},c.heap.Ns b m->(Qfx c.heap H).Ns b m:=λ{b m}⟨o,es,ep,e,d,r⟩=>⟨o,es,ep,f e (N e d),d,r⟩;have l:K.In (Qfx c.heap H):=λb o e=>f (KX b o e) (by
   cases q:H b with
   |none=>rfl
   |some u=>have D:b=a:=Q b (by rw[q];simp);subst D;rw[X (by rw[q];simp)]at e;cases e)
  have Y:Mod K mg (Qfx c.heap H):=⟨l,g t,⟨M,g hb,I⟩,let⟨mc,h1,h2⟩:=p;⟨mc,g h1,h2⟩⟩;have T:Qjx P w K mg (Qfx c.heap H) callerA [] c H:=⟨Xb,Y,λb o e=>Qux e,LO (Qow _ _),trivial,λb hb=>absurd (show b∈([]:List Gc)from hb) (by simp),Zw,.of_eq Z⟩;refine SR ((F _ l (g t)).run callerA [] c H ⟨[.ref a],[]⟩ [.ref a] [.ref a] _ _ hr T (j c (.ref a)) (.cons rfl .nil) (L H R hS)) λr s' h=>?_;cases r with
  |error e=>exact(G H e s' h).elim
  |ok W=>
   cases W with
   |next=>exact False.elim h
   |brk=>exact False.elim h
   |cont=>exact False.elim h
   |ret u=>
    obtain⟨v,H',os,bare,un,y,r',q⟩:=h;have q':v=.bl Gf:=q;subst q';obtain rfl:u=Value.bool Gf:=r';refine⟨Xb,OldK.of_keep λb o e=>?_,os,bare⟩;cases q:H b with
    |none=>exact un.keep b o e q (by intro z;exact absurd (show b∈([]:List Gc)from z) (by simp)) (by simp)
    |some u=>
     rcases R b with z|⟨ob,xs,z⟩
     ·rw[q]at z;cases z
     ·have z2:=un.Of b ob _ z;obtain⟨O,_⟩:=Zw b _ z;obtain⟨U,_⟩:=y b _ z2;rw[e]at O;cases O;exact U
 cases J:K.lookup a with
 |some o=>have e:=KX a o J;rw[C]at e;cases e;refine i (λ_=>Gg) (λ_=>.inl Xb) (.inr ⟨_,vs.toArray,_,J,Xb,Xb,Xb,by rw[List.size_toArray,A];exact S,by simpa using rv⟩) (λb u z=>by have B:(Gg:Option HO)=Ga u:=z;cases B) (λb z=>absurd rfl z) λz=>absurd rfl z
 |none=>
  refine i (λb=>if b=a then Ga (.frz {cls:=.type "list",data:=.seq vs.toArray} (.lst (ns.map V.int)))else Gg) (λb=>?_) (.inl (.inr ⟨{cls:=.type "list",data:=.seq vs.toArray},Gm Xb⟩)) (λb u z=>?_) (λb z=>?_) λ_=>J
  ·by_cases hb:b=a
   ·exact .inr ⟨_,_,Gm hb⟩
   ·exact .inl (Gh hb)
  ·by_cases hb:b=a
   ·have B:=(Gm hb).symm.trans z;cases B;subst hb;exact⟨C,by rw[List.length_map];exact S,vs,_,rv,C⟩
   ·have B:=(Gh hb).symm.trans z;cases B
  ·by_cases hb:b=a
   ·exact hb
   ·exact absurd (Gh hb) z
theorem Quq{l:SY}{n:Nat}{q:Gk}{j:List Ta}{D:(Ta->Option Value)->Heap->Prop}{C:Gv->Heap->Prop}{d:RX}{K:NO->Gd}{CX:Gv->CXT}{sp:Gv->Sp}
  (N:l.most=Ga n)(A:n<=Gi)(y:d.params.defaults=[])(O:Z9 k callerA)
  (J:∀(w:Gv)(h:Heap),C w h->(K w.params).In h)
  (F:∀(w:Gv)(mg:Ta->Option Value)(r:Gc)(h:Heap),(K w.params).In h->h.Ns T4 mg->mg d.name=Ga (.ref r)->
   ∃fd:Tt,(∀(s:Gj)(u:Value),LV s fd ⟨[u],[]⟩ [(x,u)])/\
    ∀base:Heap,(K w.params).In base->base.Ns T4 mg->Qr l.prog w (K w.params) mg base (CX w) k r fd [x] (sp w))
  (B:∀(w:Gv)(H:Hp)(a:Gc)(ns:List Int),ns.length<=n->Qxm H->Zc (K w.params) H a (ns.map V.int)->sp w [.ref a] H (λv _=>v=.bl Gf) λ_ _ _=>False)
  (t:∀(w:Gv)(H:Hp)(s:Gj)(e:Value)(s':Gj),CX w [] H s (λ_ _ _=>False) e s'->False):
  Mz q j D C l.row.toRowW d [] (λf vs=>FG f vs):=by
 refine Att.Qhi N y λw s₀ p mg R r o pm P doc a vs ns G Y Q hd L z m i c M=>?_;have KX:=J w _ Y;obtain⟨fd,hb,E⟩:=F w mg r _ KX G.T.g z;exact Qsa KX G.T.g G.T.b G.T.builtins G.T.nolimit M m i (TY c A) O E hb (λH I hS=>B w H a ns c I hS) λH e s'=>t w H p e s'
def Z4(s:T6)(j:Nat):T6:=match s with
 |.ClassDef _ _ _ a _ _ _ _ _ _ _=>a.getD j (.Pass ⟨0,0,0,0⟩)
 |_=>.Pass ⟨0,0,0,0⟩
def Iq(s:T6):Arguments:=match s with
 |.FunctionDef _ a _ _ _ _ _ _ _ _=>a
 |_=>{posonlyargs:=[],args:=[],vararg:=Gg,kwonlyargs:=[],kw_defaults:=[],kwarg:=Gg,defaults:=[]}
def Vo(s:T6):List T6:=match s with
 |.FunctionDef _ _ b _ _ _ _ _ _ _=>b
 |_=>[]
def Qk(s:T6):SG:=match s with
 |.FunctionDef _ _ _ _ _ _ a _ _ _=>a
 |_=>{kind:=.function,names:=[],isGenerator:=Gq,isCoroutine:=Gq}
abbrev Z3:CXT:=λ_ _ _ _ _ _=>False
abbrev E0:XK:=λ_ _ _=>False
theorem Q4:Jt Z3 X E0:=λ_ _ _ _ _ _ _ h=>h.elim
structure Wu(K:Gd)(x qual:Ta)(st:T6)(f:Gc)(fd:Tt):Prop where
 ex:∃(oc:Value)(od:Option Gc)(kV doc pm:Value)(an:Option Gc)(cdv ct:Value)(osl:Array (Option Value)),
  fd=Eg x qual (Iq st) (Vo st) (Qk st) .none kV doc pm an cdv ct/\K.lookup f=Ga ⟨oc,od,.func fd,osl⟩/\Sh K cdv qual=Gf
 kp:T9 K (.ref f)=Gf
section
variable{P:Gk}{w:Gv}{K:Gd}{mg:Ta->Option Value}{base:Heap}
theorem Wu.ok{N ps:List Ta}{sp:Sp}(F:Wu K x qual st f fd)(S:Qv N ps (Qk st))(len:∀vs H Q E,sp vs H Q E->vs.length=ps.length)
  (a:∀(cdv:Value)(A:TL)(outer:List LL)(s:Gj)(H:Hp)(vs:List V)(Q:VK)(E:XK),Z9 k (A.deeper (envOfC qual (Qk st) s.heap.objs.size f cdv))->sp vs H Q E->
   ∃t,PSs (Qhl Z3 P w K mg base N qual (Qk st) f cdv A outer s H E).nox (Vo st) t/\t {nx:=λ_ H'=>Q .non H',rt:=Q} (start N vs) H):Qr P w K mg base Z3 (k+1) f fd ps sp:=by
 obtain⟨oc,od,kV,doc,pm,an,cdv,ct,osl,rfl,lk,b⟩:=F.ex;refine Qzz lk b S len λA outer s H vs Q E d c=>?_;obtain⟨t,h,q⟩:=a cdv A outer s H vs Q E d c;exact⟨t,h.nox,q⟩
theorem Wu.binds{ps:List Ta}(F:Wu K x qual st f fd)
  (h:∀(kV doc pm:Value)(an:Option Gc)(cdv ct:Value)(us:List Value),us.length=ps.length->bindArgs (Eg x qual (Iq st) (Vo st) (Qk st) .none kV doc pm an cdv ct) ⟨us,[]⟩=pure (ps.zip us)):Binds K fd ps []:=by
 obtain⟨oc,od,kV,doc,pm,an,cdv,ct,osl,rfl,lk,a⟩:=F.ex;exact .all (h kV doc pm an cdv ct)
theorem Zd{oc:Value}{od an:Option Gc}{osl:Array (Option Value)}{kV doc pm cdv ct:Value}(l:K.lookup f=Ga ⟨oc,od,.func (Eg x qual (Iq st) (Vo st) (Qk st) .none kV doc pm an cdv ct),osl⟩)
  (c:Sh K cdv qual=Gf)(k:T9 K (.ref f)=Gf):Wu K x qual st f (Eg x qual (Iq st) (Vo st) (Qk st) .none kV doc pm an cdv ct):=⟨⟨oc,od,kV,doc,pm,an,cdv,ct,osl,Xb,l,c⟩,k⟩
end
theorem Ul{A:TL}(a:Z9 k A):A.units+1<DP:=Si (Nat.add_le_add_left (by decide:1<=64) _) a.units
section
variable{X:Cx}
theorem pv(i:Nat){pos:SW}(b:X.N[i]?=Ga x:=by rfl)(c:Vis X.env.scope x:=by first|exact Dj rfl|exact Er (Dj Xb)|exact Er (Er Xb))(hd:(x==("__debug__":Ta))=Gq:=by decide)
  (a:(x==("__classdict__":Ta))=Gq:=by decide):PE X (.Name x pos) (V2 i):=Qw5 b c hd a
end
theorem Zp(h:B):if Gq=Gf then A else B:=by rw[Gh Gw];exact h
theorem Yr(h:A):if Gf=Gf then A else B:=by rw[Gm rfl];exact h
theorem Va{c:Prop}[Decidable c](h1:c->A)(h2:¬c->B):if c then A else B:=by
 by_cases h:c
 ·rw[Gm h];exact h1 h
 ·rw[Gh h];exact h2 h
theorem Qez{c:Prop}[Decidable c](a:c)(h:B):if(!decide c)=Gf then A else B:=by rw[GX a];exact Zp h
def Qz(H H':Hp):Prop:=∀b o,H b=Ga o->H' b=Ga o
theorem Qz.trans{H1 H2:Hp}(a:Qz H H1)(b:Qz H1 H2):Qz H H2:=λc o h=>b c o (a c o h)
theorem Qz.free{H':Hp}(e:Qz H H'){l:Gc}(h:H' l=Nr):H l=Nr:=by
 cases q:H l with
 |none=>rfl
 |some o=>rw[e l o q]at h;cases h
theorem Qz.seq{H':Hp}(e:Qz H H')(h:Zc K H a xs):Zc K H' a xs:=by
 rcases h with(h|⟨o,h⟩)|h
 ·exact .inl (.inl (e _ _ h))
 ·exact .inl (.inr ⟨o,e _ _ h⟩)
 ·exact .inr h
section
variable{X:Cx}
theorem Qnx:V3 X (.builtin "len") (λxs H Q=>∃a kvs,xs=[V.ref a]/\H a=Ga (.dK kvs)/\Q (.int kvs.length) H):=by intro pins s σ H xs us Q I r h;obtain⟨a,kvs,rfl,c,q⟩:=h;obtain⟨u,rfl,d⟩:=vals1 r;cases d;exact Qzp I (.inl c) λt s' b=>⟨.int kvs.length,H,b,⟨t,Xb⟩,q⟩
end
def ccx(X:Cx)(N:List Ta)(scope:SG)(cl:List (Ta×Gc))(C:Gc)(fp:List Gc)(s:Gj)(H:Hp):Cx where
 prog:=X.prog
 w:=X.w
 K:=X.K
 mg:=X.mg
 base:=X.base
 A:=X.A
 N:=N
 s₀:=s
 H₀:=H
 env:=compEnvC scope cl C X.env
 outer:=X.stack
 stack:=X.stack
 ex:=fp
 calm:=X.calm
 fn:=λ_=>Gq
 pn:=[]
 xe:=λ_ _=>False
inductive FV(X:Cx)(scope:SG):List (Nat×Ta)->Prop
 |nil:FV X scope []
 |cons {j:Nat} {x:Ta} {r:List (Nat×Ta)}:X.N[j]?=Ga x->(X.env.scope.names.lookup x=Ga .cell\/X.env.scope.names.lookup x=Ga .free)->scope.names.lookup x=Ga .free->FV X scope r->FV X scope ((j,x)::r)
theorem FV.get{X:Cx}{scope:SG}:∀{fv:List (Nat×Ta)}{k j:Nat}{x:Ta},FV X scope fv->fv[k]?=Ga (j,x)->
  X.N[j]?=Ga x/\(X.env.scope.names.lookup x=Ga .cell\/X.env.scope.names.lookup x=Ga .free)/\scope.names.lookup x=Ga .free
 |_,_,_,_,.nil,e=>by simp at e
 |_,0,_,_,.cons a b c _,e=>by simp at e;obtain⟨rfl,rfl⟩:=e;exact⟨a,b,c⟩
 |_,k+1,_,_,.cons _ _ _ r,e=>FV.get (k:=k) r (by simpa using e)
theorem Vk{env:LL}:∀{names:List (Ta×EY)}{x:Ta},names.lookup x=Ga .free->
  (names.map λ(n,k)=>if(k==Tq&&env.scope.kind==.function&&env.kindOf n==Ga .cell)then(n,SA)else(n,k)).lookup x=Ga .cell\/
  (names.map λ(n,k)=>if(k==Tq&&env.scope.kind==.function&&env.kindOf n==Ga .cell)then(n,SA)else(n,k)).lookup x=Ga .free
 |[],_,h=>by simp at h
 |(n,k)::r,x,h=>by
  have b:=@Vk env r x;rw[List.map_cons];dsimp only;cases hx:x==n with
  |true=>
   simp only[List.lookup_cons,hx]at h;cases h;by_cases a:(Tq==Tq&&env.scope.kind==.function&&env.kindOf n==Ga .cell)=Gf
   ·left;rw[Gm a];simp only[List.lookup_cons,hx]
   ·right;rw[Gh a];simp only[List.lookup_cons,hx]
  |false=>
   simp only[List.lookup_cons,hx]at h;by_cases a:(k==Tq&&env.scope.kind==.function&&env.kindOf n==Ga .cell)=Gf
   ·rw[Gm a];simp only[List.lookup_cons,hx];exact b h
   ·rw[Gh a];simp only[List.lookup_cons,hx];exact b h
theorem V6{env:LL}:∀{names:List (Ta×EY)}{x:Ta},
  ((names.map λ(n,k)=>if(k==Tq&&env.scope.kind==.function&&env.kindOf n==Ga .cell)then(n,SA)else(n,k)).lookup x=Ga .cell\/
  (names.map λ(n,k)=>if(k==Tq&&env.scope.kind==.function&&env.kindOf n==Ga .cell)then(n,SA)else(n,k)).lookup x=Ga .free)->
  names.lookup x=Ga .cell\/names.lookup x=Ga .free
 |[],_,h=>by simp at h
 |(n,k)::r,x,h=>by
  have c:=@V6 env r x;rw[List.map_cons]at h;dsimp only at h;cases hx:x==n with
  |true=>
   by_cases a:(k==Tq&&env.scope.kind==.function&&env.kindOf n==Ga .cell)=Gf
   ·right;have d:(k==Tq)=Gf:=(Eu.mp (Eu.mp a).1).1;have b:k=.free:=by simpa using d
    simp only[List.lookup_cons,hx,b]
   ·rw[Gh a]at h;simp only[List.lookup_cons,hx]at h⊢;exact h
  |false=>
   by_cases a:(k==Tq&&env.scope.kind==.function&&env.kindOf n==Ga .cell)=Gf
   ·rw[Gm a]at h;simp only[List.lookup_cons,hx]at h⊢;exact c h
   ·rw[Gh a]at h;simp only[List.lookup_cons,hx]at h⊢;exact c h
theorem Ra{env:LL}:∀(names:List (Ta×EY))(b:List (Ta×Gc)),(∀x,(x,Tq)∈names->∃c,env.cells.lookup x=Ga c)->(∀x c,b.lookup x=Ga c->env.cells.lookup x=Ga c)->
  ∃cl:List (Ta×Gc),(forIn names b (λ(x:Ta×EY)(b:List (Ta×Gc))=>if x.2==Tq then(cellOf env x.1>>=λc=>pure (DM ((x.1,c)::b)))else pure (DM b)):Bb (List (Ta×Gc)))=pure cl/\
   (∀x c,cl.lookup x=Ga c->env.cells.lookup x=Ga c)/\(∀x,(∃c,b.lookup x=Ga c)\/(x,Tq)∈names->∃c,cl.lookup x=Ga c)
 |[],b,_,h2=>⟨b,Xb,h2,λx h=>h.elim id λz=>nomatch z⟩
 |(n,k)::r,b,h1,h2=>by
  rw[List.forIn_cons];by_cases j:k=.free
  ·subst j;obtain⟨c,l⟩:=h1 n List.mem_cons_self;have e:cellOf env n=pure c:=by unfold cellOf;rw[l]
   obtain⟨cl,f,g,i⟩:=Ra r ((n,c)::b) (λx a=>h1 x (List.mem_cons_of_mem _ a)) (λx d a=>by
    rw[List.lookup_cons]at a;cases q:x==n with
    |true=>
     rw[q]at a;have m:x=n:=by simpa using q
     rw[m,l];exact a
    |false=>rw[q]at a;exact h2 x d a)
   refine⟨cl,?_,g,λx a=>i x ?_⟩
   ·simp only[Ey,Ss,e,pure_bind];exact f
   ·rcases a with⟨d,hd⟩|a
    ·left;rw[List.lookup_cons];cases q:x==n with
     |true=>exact⟨_,Xb⟩
     |false=>exact⟨d,hd⟩
    ·rcases List.mem_cons.mp a with z|z
     ·left;have:x=n:=congrArg Prod.fst z;subst this;exact⟨c,by simp[List.lookup_cons]⟩
     ·exact .inr z
  ·have hb:(k==Tq)=Gq:=by simpa using j
   obtain⟨cl,f,g,i⟩:=Ra r b (λx a=>h1 x (List.mem_cons_of_mem _ a)) h2;refine⟨cl,?_,g,λx a=>i x ?_⟩
   ·simp only[hb,TM,Ds,pure_bind];exact f
   ·rcases a with z|z
    ·exact .inl z
    ·rcases List.mem_cons.mp z with z|z
     ·exact absurd (congrArg Prod.snd z).symm j
     ·exact .inr z
theorem Qeg{env:LL}(h1:∀x,(x,Tq)∈scope.names->∃c,env.cells.lookup x=Ga c):
  ∃cl:List (Ta×Gc),closureFor scope env=pure cl/\(∀x c,cl.lookup x=Ga c->env.cells.lookup x=Ga c)/\(∀x,(x,Tq)∈scope.names->∃c,cl.lookup x=Ga c):=by
 obtain⟨cl,b,d,f⟩:=Ra (env:=env) scope.names [] h1 (λx c h=>by simp at h);refine⟨cl,?_,d,λx g=>f x (.inr g)⟩;have e:closureFor scope env=((forIn scope.names ([]:List (Ta×Gc)) (λ(x:Ta×EY)(a:List (Ta×Gc))=>if x.2==Tq then(cellOf env x.1>>=λc=>pure (DM ((x.1,c)::a)))else pure (DM a)):Bb (List (Ta×Gc)))>>=λa=>pure a):=rfl;rw[e,b];rfl
def U6(n:Nat)(fv:List (Nat×Ta))(σ:St):St:=List.replicate n Gg++fv.map λq=>(σ[q.1]?).join
theorem Qqs{s:Gj}{cl:List (Ta×Gc)}{fp:List Gc}{h1:Heap}{ob:Ee}{m:Ta->Option Value}{t':Nat}
  (I:Inv X pins σ H s)(N:scope.kind=.function)(F:FV X scope fv)(k:∀x c,cl.lookup x=Ga c->X.env.cells.lookup x=Ga c)(E:∀x,(x,Tq)∈scope.names->∃c,cl.lookup x=Ga c)
  (B:∀y∈scope.names,y.2≠.cell)(g:∀b∈fp,O9 X pins H b)(A:∀b∈fp,b<s.heap.objs.size)
  (O:h1.Ns s.heap.objs.size m)(D:Heap.SameBut s.heap.objs.size (s.heap.push ob) h1):
  Inv (ccx X (own++fv.map (·.2)) scope cl s.heap.objs.size fp s H) [] (U6 own.length fv σ) H {s with heap:=h1,toks:=t'}:=by
 have keep:∀b u,s.heap.get? b=Ga u->h1.get? b=Ga u:=λb u e=>(D.2 b (Tc (Heap.lt_size e))).trans (Heap.get?_push_of_some _ e);have f:∀x,(scope.names.lookup x=Ga .cell\/scope.names.lookup x=Ga .free)->(x,Tq)∈scope.names:=λx h=>by
  rcases h with h|h
  ·exact absurd rfl (B _ (Dk h))
  ·exact Dk h
 refine⟨⟨I.ok.mod,N,I.ok.glob,I.ok.blt,Gn _,λx y c d a=>I.ok.inj x y c (k x c d) (k y c a),λx h=>E x (f x (V6 (env:=X.env) h)),λ_ _ h _=>(Gw h).elim,
   I.ok.hd,I.ok.frames,.inl Xb,λb hb=>⟨Tc (A b hb),λx c e=>(g b hb).2.2.2.2.1 x c (k x c e)⟩,I.bs,TY I.ok.bsz I.sz,λb o e hb=>?_,λb hb M=>?_,I.stack,I.Qlp⟩,
  Xb,I.bare,Un.kept keep,⟨m,O,λi x v d a U=>?_⟩,λx c e=>?_,I.Zw.fresh (Gn _),λx c e=>I.Jk x c (k x c e),λp Q=>absurd (show p∈([]:List (Gc×Ee))from Q) (by simp),I.Zw.kept keep,?_⟩
 ·rcases(g b hb).2.2.2.1 with z|z
  ·exact I.ok.Qqf b o e z
  ·exact absurd (Tg (Heap.lt_size e) (TY I.ok.bsz z)) (DO _)
 ·rcases List.mem_cons.mp (I.Qgu b M)with z|z
  ·exact(g b hb).2.1 z
  ·exact(g b hb).2.2.1 z
 ·have d:(own++fv.map (·.2))[i]?=Ga x:=d;by_cases hi:i<own.length
  ·have a:(U6 own.length fv σ)[i]?=Ga (Ga v):=a;unfold U6 at a;rw[List.getElem?_append_left (by simpa using hi),List.getElem?_replicate]at a;split at a<;>cases a
  ·have a:(U6 own.length fv σ)[i]?=Ga (Ga v):=a;unfold U6 at a;rw[List.getElem?_append_right (by simpa using hi),List.length_replicate,List.getElem?_map]at a;rw[List.getElem?_append_right (by omega),List.getElem?_map]at d;cases q:fv[i - own.length]? with
   |none=>rw[q]at d;cases d
   |some p=>
    obtain⟨j,y⟩:=p;rw[q]at d a;have d:Ga y=Ga x:=d;cases d;have a:Ga (σ[j]?).join=Ga (Ga v):=a;have a:=Tj a;obtain⟨L,l,G⟩:=F.get q;have K:σ[j]?=Ga (Ga v):=by
     cases r:σ[j]? with
     |none=>rw[r]at a;cases a
     |some z=>rw[r]at a;exact congrArg Ga a
    obtain⟨m0,P,w⟩:=I.loc;obtain⟨u,T,lk⟩:=w j x v L K (.inr l);refine⟨u,T,?_⟩;rcases lk with⟨t,_⟩|⟨t,c,R,S⟩
    ·exfalso;have t:X.env.scope.names.lookup x=Ga .local:=t;rcases l with l|l<;>(rw[t]at l;cases l)
    ·obtain⟨J,n⟩:=E x (Dk G);have:=k x J n;rw[R]at this;cases this;refine .inr ⟨Vk (env:=X.env) G,c,n,?_⟩;obtain⟨o,C,hd⟩:=S;exact⟨o,keep _ _ C,hd⟩
 ·obtain⟨v,o,C,hd⟩:=I.cell x c (k x c e);exact⟨v,o,keep _ _ C,hd⟩
 ·show(U6 own.length fv σ).length=(own++fv.map (·.2)).length;unfold U6;simp
def Qk0(X:Cx)(ifs:List T1)(t:TT):Prop:=
 ∀(pins:List (Gc×Ee))(s:Gj)(σ:St)(H:Hp)(Q:Bool->Hp->Prop),Inv X pins σ H s->t σ H Q->
  wpAny (GY X.prog X.w) X.A (forIn ifs Gf λc r=>if r=Gf then do let ok<-isTrue c X.env (eval c X.env);pure (DM ok)else pure (DM r)) (TP X pins σ Q) X.xe s
def Qum:TT:=λ_ H Q=>Q Gf H
theorem Wh:Qk0 X [] Qum:=λpins s σ H Q I h=>wpAny_tests_nil ⟨H,I,h⟩
theorem Qic{c:T1}{t:TT}(h:PT X c t):Qk0 X [c] t:=λpins s σ H Q I hw=>wpAny_tests_one (h pins s σ H Q I hw)
section
variable{prog:Gk}{w:Gv}{A:TL}{R:MU->Gj->Prop}{s:Gj}
theorem Qgg{elt a iter:T1}{ifs:List T1}{pos:SW}{it acc:Value}{env:LL}(I:Nat->Gj->Prop)
  (turn:∀n s,I n s->wpAny (GY prog w) A (pyNext it) (λr b=>match r with
   |none=>R (.ok .next) b
   |some v=>wpAny (GY prog w) A (letOwnedTupleGo a it v) (λ_ b=>wpAny (GY prog w) A (assign a env v) (λ_ f=>
     wpAny (GY prog w) A (forIn ifs Gf λc r=>if r=Gf then do let ok<-isTrue c env (eval c env);pure (DM ok)else pure (DM r)) (λok d=>
      if ok=Gf then wpAny (GY prog w) A (eval elt env) (λx g=>wpAny (GY prog w) A (call (.builtin "list.append") [acc,x]) (λ_ i=>∃m,m<n/\I m i) (λ_ _=>False) g) (λ_ _=>False) d
      else∃m,m<n/\I m d) (λ_ _=>False) f) (λ_ _=>False) b) (λ_ _=>False) b) (λ_ _=>False) s)
  (n:Nat)(h:I n s):
  codeAny (GY prog w) A (.compLoop (.ListComp elt [⟨a,iter,ifs,0⟩] scope pos) 0 it acc env) R s:=by
 refine codeAny_loop rfl I (λn s o=>?_) n h;show wpAny _ A ((compTurn (.ListComp elt [⟨a,iter,ifs,0⟩] scope pos) 0 it acc env).onRaise (λx=>do noteFrame x env;theTreesLotGoes x)) _ _ s;refine wpAny_noted ?_;rw[compTurn_list];refine Gb (Lv (Gb (DB (turn n s o) (λr b h₁=>?_) λ_ _ h'=>h'.elim)));cases r with
 |none=>exact Ge h₁
 |some v=>
  refine Gb (DB h₁ (λ_ b h₁=>?_) λ_ _ h'=>h'.elim);refine Gb (DB h₁ (λ_ f j=>Gb (DB j (λok d e=>?_) λ_ _ h'=>h'.elim)) λ_ _ h'=>h'.elim);cases ok with
  |false=>exact Ge ⟨Xb,e⟩
  |true=>exact Gb (Gb (DB e (λx g k=>Gb (DB k (λ_ i l=>Ge (Ge ⟨Xb,l⟩)) λ_ _ h'=>h'.elim)) λ_ _ h'=>h'.elim))
end
def Qci(p:Gc)(J:It)(g:TG)(tt:TT)(te:TE)(Q:Hp->Prop)(e:St)(H0:Hp):Prop:=
 ∃W:Nat->Nat->St->Hp->Prop,(∃m,W 0 m e H0)/\∀i m σ H,W i m σ H->
  (J.stop i H/\Q H)\/(J.go i H/\∃(N:V->St->Hp->Prop)(h:St->Hp->Prop),(∀v a H',N v a H'->∃ys,H' p=Ga (.lst ys)/\ys.length<Gi/\∃d,d<m/\W (i+1) d a (upd H' p (.lst (ys++[v]))))/\
   (∀a H',h a H'->∃d,d<m/\W (i+1) d a H')/\
   ∀x H',J.yld i H x H'->g x σ H' λc H2=>tt c H2 λb f=>if b=Gf then te c f λv j=>N v c j else h c f)
def Qv5(n:Nat)(fv:List (Nat×Ta))(wi:TI)(g:TG)(tt:TT)(te:TE):TE:=λσ H Q=>wi σ H λJ H1=>∀p,H1 p=Gg->Qci p J g tt te (λH'=>Q (.ref p) H') (U6 n fv σ) (upd H1 p (.lst []))
section
variable{X:Cx}{elt tg iter:T1}{ifs:List T1}{scope:SG}{pos:SW}{wi:TI}{g:TG}{tt:TT}{te:TE}
structure X8(esc scope:SG):Prop where
 kind:scope.kind=.function
 Qr2:∀y∈scope.names,y.2≠.cell
 loc:∀x∈scope.names,x.2=.local->scope.names.lookup x.1=Ga .local
 fre:∀y∈scope.names,y.2=.free->esc.names.lookup y.1=Ga .cell\/esc.names.lookup y.1=Ga .free
theorem Qd2{H2:Hp}{s2:Gj}{it:Gc}{fp:List Gc}{tn:Nat->Heap->Prop}{J:It}{cl:List (Ta×Gc)}{Q:VK}{RR:Value->Gc->MU->Gj->Prop}{E:Value->Gj->Prop}
  (hc:X.calm=Gf)(S:X8 X.env.scope scope)(F:FV X scope fv)(c1:∀x c,cl.lookup x=Ga c->X.env.cells.lookup x=Ga c)(c2:∀x,(x,Tq)∈scope.names->∃c,cl.lookup x=Ga c)
  (hg:∀cl C fp s H,PG (ccx X (own++fv.map (·.2)) scope cl C fp s H) tg g)(ht:∀cl C fp s H,Qk0 (ccx X (own++fv.map (·.2)) scope cl C fp s H) ifs tt)(he:∀cl C fp s H,PE (ccx X (own++fv.map (·.2)) scope cl C fp s H) elt te)
  (I2:Inv X pins σ H2 s2)(T:Qg6 X.prog X.w X.K tg J fp it tn)(P:tn 0 s2.heap)(f2:∀b∈fp,O9 X pins H2 b)
  (q:∀p,H2 p=Gg->Qci p J g tt te (λH'=>Q (.ref p) H') (U6 own.length fv σ) (upd H2 p (.lst [])))
  (ai:∀(p C:Gc)(H':Hp)(s':Gj),Inv X pins σ H' s'->(∃m,s'.heap.Ns C m)->O9 X pins H' C->Q (.ref p) H'->RR (.ref p) C (.ok .next) s'):
  wpAny (GY X.prog X.w) X.A (newList []) (λacc ad=>wpAny (GY X.prog X.w) X.A (newFunctionEnv scope X.env.globals cl [] X.env.qual Gg .none (Ga X.env)) (λD ae=>codeAny (GY X.prog X.w) X.A (.compStart (.ListComp elt [⟨tg,iter,ifs,0⟩] scope pos) 0 (.ref it) acc {D with scope:=relabel scope X.env}) (RR acc D.locals) ae) E ad) E s2:=by
 have q:=q s2.heap.objs.size (I2.Zw.fresh (Gn _));have I3:=I2.Q0l (ys:=[]) (its:=[]) (t':=s2.toks) .nil (Gx _);have aj:H2 s2.heap.objs.size=Gg:=I2.Zw.fresh (Gn _);refine Tv (wpAny_newFunctionEnv S.Qr2 (by intro y hy;simp at hy) (λh₁ t a=>?_) S.kind);have l:∀b∈fp,O9 X pins (upd H2 s2.heap.objs.size (.lst [])) b:=λb hb=>by obtain⟨o,e,_⟩:=T.obj 0 _ P b hb;exact⟨by rw[Qf (Tc (Heap.lt_size e))];exact(f2 b hb).1,(f2 b hb).2⟩
 have O:∀b∈fp,b<(s2.heap.push {cls:=.type "list",data:=.seq ([]:List Value).toArray}).objs.size:=λb hb=>by obtain⟨o,e,_⟩:=T.obj 0 _ P b hb;exact Heap.lt_size (Heap.get?_push_of_some _ e)
 have ac:tn 0 h₁:=T.keep 0 _ _ P λb hb o e=>(a.2 b (Tc (O b hb))).trans (Heap.get?_push_of_some _ (Heap.get?_push_of_some _ e));have I4:=Qqs (own:=own) (fv:=fv) (t':=s2.toks+([]:List (Ta×Value)).length) I3 S.kind F c1 c2 S.Qr2 l O t a;obtain⟨W,⟨m0,w0⟩,turn⟩:=q;generalize hC:(s2.heap.push {cls:=.type "list",data:=.seq ([]:List Value).toArray}).objs.size=C at*;have G:codeAny (GY X.prog X.w) X.A (.compLoop (.ListComp elt [⟨tg,iter,ifs,0⟩] scope pos) 0 (.ref it) (.ref s2.heap.objs.size) (compEnvC scope cl C X.env)) (RR (.ref s2.heap.objs.size) C)
   {s2 with heap:=h₁,toks:=s2.toks+([]:List (Ta×Value)).length}:=by
  generalize f:ccx X (own++fv.map (·.2)) scope cl C fp {s2 with heap:=s2.heap.push {cls:=.type "list",data:=.seq ([]:List Value).toArray}} (upd H2 s2.heap.objs.size (.lst []))=Y at I4;have h:∀{H':Hp},(∀b∈fp,H' b=Gg)->∀b∈fp,O9 Y [] H' b:=λ{H'}hn b hb=>by
   subst f;refine⟨hn b hb,Tc (O b hb),λz=>?_,.inl hb,λx c e=>(l b hb).2.2.2.2.1 x c (c1 x c e),λp hp=>absurd (show p∈([]:List (Gc×Ee))from hp) (by simp)⟩;rcases List.mem_cons.mp (I3.Qgu b z)with z|z
   ·exact(l b hb).2.1 z
   ·exact(l b hb).2.2.1 z
  have eP:Y.prog=X.prog:=by subst f;rfl
  have ew:Y.w=X.w:=by subst f;rfl
  have eK:Y.K=X.K:=by subst f;rfl
  have eA:Y.A=X.A:=by subst f;rfl
  have eC:Y.calm=Gf:=by subst f;exact hc
  have eE:Y.env=compEnvC scope cl C X.env:=by subst f;rfl
  have ex:Y.xe=λ_ _=>False:=by subst f;rfl
  have L:PG Y tg g:=by subst f;exact hg _ _ _ _ _
  have M:Qk0 Y ifs tt:=by subst f;exact ht _ _ _ _ _
  have I:PE Y elt te:=by subst f;exact he _ _ _ _ _
  unfold PG at L;unfold Qk0 at M;unfold PE at I;rw[eP,ew,eA,eE,ex]at L M I;refine Qgg (λn s'=>∃i j H',Inv Y [] j H' s'/\tn i s'.heap/\(∀b∈fp,H' b=Gg)/\W i n j H') ?_ m0 ⟨0,_,_,I4,ac,λb hb=>(l b hb).1,w0⟩;rintro n s3 ⟨i,B,U,J3,ab,aa,w3⟩;rcases turn i n B U w3 with⟨stop,qn⟩|⟨go,N,N',hN,ah,step⟩
  ·have d:=T.done Y eP ew eK eC i [] s3 B U (λ_ _=>False) J3 (h aa) ab stop;rw[eA]at d;refine Yp d λr s4⟨hr,V⟩=>?_;subst hr;show RR _ C (.ok .next) s4;have u:=V.base;have Zw:=V.Zw;have os:=V.os;have bare:=V.bare;obtain⟨m4,n4,_⟩:=V.loc;have fC:=V.free;subst f;have I5:Inv X pins σ U s4:=I3.Q0q (ch:=fp) os u Zw bare λb hb=>⟨(l b hb).2.2.2.1,(l b hb).2.1,(l b hb).2.2.2.2.1,(l b hb).2.2.2.2.2⟩;refine ai _ C U s4 I5 ⟨m4,n4⟩ ?_ qn;rw[<-hC];exact I3.Qhg (Gn _) (by show U _=Gg;rw[hC];exact fC)
  ·have d:=T.item Y eP ew eK eC i [] s3 B U (λ_ _=>False) J3 (h aa) ab go;rw[eA]at d;refine Yp d λr s4⟨u,hr,h4⟩=>?_;subst hr;refine Yp h4 λ_ s5⟨x,H5,J5,r5,y5,R,ag⟩=>?_;have af:=J5.pinned (h ag) (T.obj _ _ R);refine Yp (L _ s5 B H5 x u _ af r5 (step x H5 y5)) λ_ s6⟨k,H6,J6,q6⟩=>?_;refine Yp (M _ s6 k H6 _ J6 q6) λok s7⟨H7,J7,q7⟩=>?_;have again:∀{s8:Gj}{H8:Hp},Inv Y ([]++Qcf fp s5.heap) k H8 s8->(∃m',m'<n/\W (i+1) m' k H8)->∃m,m<n/\∃i j H',Inv Y [] j H' s8/\tn i s8.heap/\(∀b∈fp,H' b=Gg)/\W i m j H':=λ{s8 H8}Z⟨m',hm,w8⟩=>by refine⟨m',hm,i+1,k,H8,Z.R8,T.keep _ _ _ R λb hb o e=>(Z.pin (b,o) (List.mem_append_right _ (List.mem_append_right _ (U5 hb e)))).1,λb hb=>?_,w8⟩;obtain⟨o,e,d⟩:=T.obj _ _ R b hb;exact(Z.pin (b,o) (List.mem_append_right _ (List.mem_append_right _ (U5 hb e)))).2.1
   cases ok with
   |false=>rw[Gh Gw]at q7⊢;exact again J7 (ah _ _ q7)
   |true=>rw[Gm rfl]at q7⊢;refine Yp (I _ s7 k H7 _ J7 q7) λxv s8⟨v,H8,Z,r8,q8⟩=>?_;obtain⟨ys,hy,hz,q8⟩:=hN _ _ _ q8;obtain⟨z,its,n',r,hl,e⟩:=Z.Qlb hy;refine LF GF ⟨_,e,Xb⟩ Mc (FH _ _) (LY s2.heap.objs.size its.toArray n' xv (by rw[List.size_toArray];omega)) ⟨e,?_⟩;refine again (Z.Qvd (its':=its++[xv]) (t':=s8.toks) hy e (by simp) (r.append (.cons r8 .nil)) ?_) q8;rw[List.length_append,List.length_singleton];omega
 exact codeAny_compStart_list G (T.self X.A 0 _ _ _ ac G)
theorem Oa{s:Gj}(S:X8 X.env.scope scope)(I:Inv X pins σ H s):
  ∃cl:List (Ta×Gc),closureFor scope X.env=pure cl/\(∀x c,cl.lookup x=Ga c->X.env.cells.lookup x=Ga c)/\(∀x,(x,Tq)∈scope.names->∃c,cl.lookup x=Ga c):=
 Qeg λx a=>I.ok.has x (S.fre (x,.free) a Xb)
theorem Vm(t:X.calm=Gf)(S:X8 X.env.scope scope)(F:FV X scope fv)(hi:PI X tg iter wi)
  (y:∀cl C fp s H,PG (ccx X (own++fv.map (·.2)) scope cl C fp s H) tg g)(D:∀cl C fp s H,Qk0 (ccx X (own++fv.map (·.2)) scope cl C fp s H) ifs tt)(u:∀cl C fp s H,PE (ccx X (own++fv.map (·.2)) scope cl C fp s H) elt te)
  (B:∀x,foldedSetIterable iter X.env x=pure x:=by intro _;rfl):PE X (.ListComp elt [⟨tg,iter,ifs,0⟩] scope pos) (Qv5 own.length fv wi g tt te):=by
 intro pins s σ H Q I h;rw[eval_ListComp];obtain⟨cl,c,l,n⟩:=Oa S I;refine SD (use:=Gg) rfl B c S.kind S.loc (Yp (hi pins s σ H _ I h) λv s1 h1=>Yp h1 λE s2 h2=>?_);obtain⟨it,fp,tn,J,H2,e,k,T,i,r,q⟩:=h2;subst e;refine Qd2 (Q:=Q) (RR:=λacc C=>compPost (GY X.prog X.w) X.A X.xe Gg (EP X pins σ Q) acc C) t S F l n y D u k T i r q λp C H' s' j d a z=>?_;obtain⟨m,d⟩:=d;refine⟨m,d,λh' f=>⟨.ref p,H',?_,Xb,z⟩⟩;exact j.turned (t':=s'.toks) (λb o hb e=>(f.2 b hb).trans e) a.1 a.2.1 a.2.2.2.1 a.2.2.2.2.1 a.2.2.2.2.2
theorem Qcz{i:Nat}{y:Ta}{f c:SW}(W:X.N.Nodup)(r:X.N[i]?=Ga y)(M:X.env.scope.names.lookup y=Ga .local)(Y:X.calm=Gf)(S:X8 X.env.scope scope)(F:FV X scope fv)(hi:PI X tg iter wi)
  (hg:∀cl C fp s H,PG (ccx X (own++fv.map (·.2)) scope cl C fp s H) tg g)(ht:∀cl C fp s H,Qk0 (ccx X (own++fv.map (·.2)) scope cl C fp s H) ifs tt)(Z:∀cl C fp s H,PE (ccx X (own++fv.map (·.2)) scope cl C fp s H) elt te)
  (E:swapsWith (.ListComp elt [⟨tg,iter,ifs,0⟩] scope pos) (Ga (.Name y f)) c.line X.env=pure Gf:=by rfl)
  (hs:∀x,foldedSetIterable iter X.env x=pure x:=by intro _;rfl):PS X (.Assign [.Name y f] (.ListComp elt [⟨tg,iter,ifs,0⟩] scope pos) c) (Qt6 (Qv5 own.length fv wi g tt te) (Vl i)):=by
 intro pins s σ H D I h;rw[exec_Assign_Name_used _ _ _ _ E];obtain⟨cl,n,R,U⟩:=Oa S I;refine Gb (Lv (Gb ?_));show wpAny _ X.A (do let _<-comprehension (.ListComp elt [⟨tg,iter,ifs,0⟩] scope pos) scope X.env _ (newList []) Gq (eval iter X.env) (Ga (assign (.Name y f) X.env))) _ _ s;refine Gb (DB (SD (use:=Ga (assign (.Name y f) X.env)) (Q:=λ_ s'=>SP X pins D .next s') rfl hs n S.kind S.loc (Yp (hi pins s σ H _ I h) λv s1 h1=>Yp h1 λaa s2 h2=>?_)) (λ_ s' u=>Ge (Ge u)) λ_ _ e=>e);obtain⟨it,fp,tn,J,H2,e,P,T,L,V,q⟩:=h2;subst e;refine Qd2 (Q:=λx H1=>Vl i x σ H1 D.nx) (RR:=λacc C=>compPost (GY X.prog X.w) X.A X.xe (Ga (assign (.Name y f) X.env)) (λ_ s'=>SP X pins D .next s') acc C) Y S F R U hg ht Z P T L V q λp C H' s' O t d u=>?_;obtain⟨m,t⟩:=t;show wpAny _ X.A (assign (.Name y f) X.env (.ref p)) _ _ _;refine LN (Qe5 O W r (.inl M) (v:=.ref p) rfl (λG k K=>?_) (.inr M));obtain⟨a,K,j⟩:=K;have l:C≠a:=by
  rcases j with j|j
  ·rw[j];exact d.2.1
  ·exactλz=>d.2.2.2.2.1 y a j z.symm
 refine⟨m,t.sameBut K l,λh' B=>⟨_,H',?_,u⟩⟩;exact k.turned (t':=G.toks) (λb o hb e=>(B.2 b hb).trans e) d.1 d.2.1 d.2.2.2.1 d.2.2.2.2.1 d.2.2.2.2.2
end
theorem Ia{p:Gc}{g:TG}{te:TE}{Q:Hp->Prop}{d:St}{H0:Hp}(t:xs.length<=Gi)(Pv:Nat->List V->St->Hp->Prop)(o:Pv 0 [] d (upd H0 p (.lst [])))
  (r:∀i ys σ H,i<=xs.length->Pv i ys σ H->Z2 K H a xs)
  (s:∀i x ys σ H,xs[i]?=Ga x->ys.length=i->Pv i ys σ H->H p=Ga (.lst ys)->g x σ H λf H2=>te f H2 λv j=>j p=Ga (.lst ys)/\Pv (i+1) (ys++[v]) f (upd j p (.lst (ys++[v]))))
  (hd:∀ys σ H,ys.length=xs.length->Pv xs.length ys σ H->H p=Ga (.lst ys)->Q H):Qci p (Itt K a) g Qum te Q d (upd H0 p (.lst [])):=by
 refine⟨λi m σ H=>m=xs.length - i/\i<=xs.length/\∃ys,ys.length=i/\Pv i ys σ H/\H p=Ga (.lst ys),⟨xs.length,by simp,Gx _,[],Xb,o,Qb⟩,?_⟩;rintro i m σ H ⟨rfl,hi,ys,h,pv,k⟩;have q:=r i ys σ H hi pv;by_cases b:i<xs.length
 ·refine .inr ⟨⟨xs,xs[i],q,by simp[b]⟩,λv c H'=>H' p=Ga (.lst ys)/\Pv (i+1) (ys++[v]) c (upd H' p (.lst (ys++[v]))),λ_ _=>False,λv c H'⟨l,n⟩=>⟨ys,l,by omega,xs.length - (i+1),by omega,Xb,b,ys++[v],by simp[h],n,Qb⟩,λ_ _ z=>z.elim,λx H' y=>?_⟩;obtain⟨e,y⟩:=y;subst e;exact s i x ys σ _ (y xs q) h pv k
 ·have e:i=xs.length:=by omega
  subst e;exact .inl ⟨⟨xs,q,Gn _⟩,hd ys σ H h pv k⟩
theorem O6{p:Gc}{g:TG}{te:TE}{Q:Hp->Prop}{d:St}{H0:Hp}(t:xs.length<=Gi)(Pv:Nat->List V->St->Hp->Prop)(o:Pv 0 [] d (upd H0 p (.lst [])))
  (r:∀i ys σ H,i<=xs.length->Pv i ys σ H->Zc K H a xs)
  (s:∀i x ys σ H,xs[i]?=Ga x->ys.length=i->Pv i ys σ H->H p=Ga (.lst ys)->g x σ H λf H2=>te f H2 λv j=>j p=Ga (.lst ys)/\Pv (i+1) (ys++[v]) f (upd j p (.lst (ys++[v]))))
  (hd:∀ys σ H,ys.length=xs.length->Pv xs.length ys σ H->H p=Ga (.lst ys)->Q H):Qci p (Itl K a) g Qum te Q d (upd H0 p (.lst [])):=by
 refine⟨λi m σ H=>m=xs.length - i/\i<=xs.length/\∃ys,ys.length=i/\Pv i ys σ H/\H p=Ga (.lst ys),⟨xs.length,by simp,Gx _,[],Xb,o,Qb⟩,?_⟩;rintro i m σ H ⟨rfl,hi,ys,h,pv,k⟩;have q:=r i ys σ H hi pv;by_cases b:i<xs.length
 ·refine .inr ⟨⟨xs,xs[i],q,by simp[b]⟩,λv c H'=>H' p=Ga (.lst ys)/\Pv (i+1) (ys++[v]) c (upd H' p (.lst (ys++[v]))),λ_ _=>False,λv c H'⟨l,n⟩=>⟨ys,l,by omega,xs.length - (i+1),by omega,Xb,b,ys++[v],by simp[h],n,Qb⟩,λ_ _ z=>z.elim,λx H' y=>?_⟩;obtain⟨e,y⟩:=y;subst e;exact s i x ys σ _ (y xs q) h pv k
 ·have e:i=xs.length:=by omega
  subst e;exact .inl ⟨⟨xs,q,Gn _⟩,hd ys σ H h pv k⟩
mutual
inductive Dt(H:Hp):V->TH->Prop
 |non:Dt H .non .none
 |bl (b:Bool):Dt H (.bl b) (.bool b)
 |int (i:Int):Dt H (.int i) (.int i)
 |str (x:Ta):Dt H (.str x) (.str x)
 |lst {a:Gc} {xs:List V} {ds:List TH}:H a=Ga (.lst xs)->Re H xs ds->Dt H (.ref a) (.list ds)
 |tup {a:Gc} {xs:List V} {ds:List TH}:H a=Ga (.tup xs)->Re H xs ds->Dt H (.ref a) (.tuple ds)
inductive Re(H:Hp):List V->List TH->Prop
 |nil:Re H [] []
 |cons {x:V} {xs:List V} {d:TH} {ds:List TH}:Dt H x d->Re H xs ds->Re H (x::xs) (d::ds)
end
mutual
theorem Dt.same{H H':Hp}(e:Qz H H'):∀{v:V}{d:TH},Dt H v d->Dt H' v d
 |_,_,.non=>.non
 |_,_,.bl b=>.bl b
 |_,_,.int i=>.int i
 |_,_,.str x=>.str x
 |_,_,.lst h t=>.lst (e _ _ h) (Re.same e t)
 |_,_,.tup h t=>.tup (e _ _ h) (Re.same e t)
theorem Re.same{H H':Hp}(e:Qz H H'):∀{xs:List V}{ds:List TH},Re H xs ds->Re H' xs ds
 |_,_,.nil=>.nil
 |_,_,.cons h t=>.cons (Dt.same e h) (Re.same e t)
end
theorem Re.length{H:Hp}:∀{xs:List V}{ds:List TH},Re H xs ds->xs.length=ds.length
 |_,_,.nil=>rfl
 |_,_,.cons _ t=>by rw[List.length_cons,List.length_cons,t.length]
theorem Re.get{H:Hp}:∀{xs:List V}{ds:List TH}{i:Nat}{x:V},Re H xs ds->xs[i]?=Ga x->∃d,ds[i]?=Ga d/\Dt H x d
 |_,_,_,_,.nil,e=>by simp at e
 |_,_,0,_,.cons h _,e=>by simp at e;subst e;exact⟨_,Xb,h⟩
 |_,_,i+1,_,.cons _ t,e=>by obtain⟨d,h1,h2⟩:=Re.get (i:=i) t (by simpa using e);exact⟨d,by simpa using h1,h2⟩
mutual
theorem Dt.reads{P:Gk}{w:Gv}{H:Hp}{h:Heap}(ok:Iy P w H h):∀{v:V}{d:TH}{u:Value},Dt H v d->RelV v u->∃c,Lw h u d c
 |_,_,u,.non,r=>⟨[],by cases(show u=Value.none from r);exact .none⟩
 |_,_,u,.bl b,r=>⟨[],by cases(show u=Value.bool b from r);exact .bool b⟩
 |_,_,u,.int i,r=>⟨[],by obtain⟨t,e⟩:=(show∃t,u=Value.int i t from r);cases e;exact .int i t⟩
 |_,_,u,.str x,r=>⟨[],by obtain⟨t,e⟩:=(show∃t,u=Value.str x t from r);cases e;exact .str x t⟩
 |_,_,u,.lst (a:=a) (xs:=xs) e t,r=>by obtain⟨_,its,n,rv,f⟩:=(show Z1 P w H h a (.lst xs)from ok a _ e);obtain⟨c,g⟩:=Re.reads ok t rv;cases(show u=Value.ref a from r);exact⟨a::c,.list f rfl rfl (by simpa using g)⟩
 |_,_,u,.tup (a:=a) (xs:=xs) e t,r=>by obtain⟨_,its,rv,o,f,j,n,hd⟩:=(show Z1 P w H h a (.tup xs)from ok a _ e);obtain⟨c,g⟩:=Re.reads ok t rv;cases(show u=Value.ref a from r);exact⟨c,.tuple f j hd (by simpa using g)⟩
theorem Re.reads{P:Gk}{w:Gv}{H:Hp}{h:Heap}(ok:Iy P w H h):∀{xs:List V}{ds:List TH}{us:List Value},Re H xs ds->Zv xs us->∃a,EZ h us ds a
 |_,_,_,.nil,.nil=>⟨[],.nil⟩
 |_,_,_,.cons d t,.cons r e=>by obtain⟨a,b⟩:=Dt.reads ok d r;obtain⟨bs,c⟩:=Re.reads ok t e;exact⟨a++bs,.cons b c⟩
end
def Q0a(f:Bool->Bool):R2:=λx y H Q=>∃dx a,Dt H x dx/\Dt H y a/\dx.canLay0=Gf/\a.canLay0=Gf/\min dx.depth a.depth<=64/\Q (.bl (f (TQ dx a))) H
section
variable{X:Cx}
theorem Qj2(l:X.A.units+64<DP):Oz X (Do .Eq) (Q0a λb=>b):=by intro pins s σ H x y v u Q I f g h;obtain⟨dx,j,h1,h2,a,c,k,q⟩:=h;obtain⟨i,d⟩:=h1.reads I.Zw f;obtain⟨bs,e⟩:=h2.reads I.Zw g;exact Fz d e a c (by omega) ⟨.bl _,H,I,Xb,q⟩
theorem Qr7(l:X.A.units+64<DP):Oz X (Do .NotEq) (Q0a λb=>!b):=by intro pins s σ H x y v u Q I f g h;obtain⟨dx,j,h1,h2,a,c,k,q⟩:=h;obtain⟨i,d⟩:=h1.reads I.Zw f;obtain⟨bs,e⟩:=h2.reads I.Zw g;exact FA d e a c (by omega) ⟨.bl _,H,I,Xb,q⟩
def Q11(K:Gd):List V->Hp->VK->Prop:=λxs H Q=>∃x n t b,xs=[x,.ty n]/\Iu K H x t/\Te K t (.type n)=Ga b/\Q (.bl b) H
theorem Xk:V3 X (.builtin "isinstance") (Q11 X.K):=by intro pins s σ H xs us Q I r h;obtain⟨x,n,t,b,rfl,ty,e,q⟩:=h;obtain⟨u,d,rfl,a,c⟩:=vals2 r;cases(show d=Value.type n from c);exact Qnd I a ty e λtk=>⟨.bl b,H,I.tok tk,Xb,q⟩
def Qy1(K:Gd):List V->Hp->VK->Prop:=λxs H Q=>∃x p n m t b,xs=[x,.ref p]/\H p=Ga (.tup [.ty n,.ty m])/\Iu K H x (.type t)/\DR K (.type t) [.type n,.type m]=Ga b/\Q (.bl b) H
theorem Qo6:V3 X (.builtin "isinstance") (Qy1 X.K):=by
 intro pins s σ H xs us Q I r h;obtain⟨x,p,n,m,t,b,rfl,l,ty,e,q⟩:=h;obtain⟨u,D,rfl,d,A⟩:=vals2 r;cases(show D=Value.ref p from A);obtain⟨_,its,rv,o,c,j,k,hd⟩:=(show Z1 X.prog X.w H s.heap p (.tup [.ty n,.ty m])from I.Zw p _ l);obtain⟨B,C,g,v,z⟩:=vals2 rv;subst g;cases(show B=Value.type n from v);cases(show C=Value.type m from z);obtain⟨oc,od,f,os⟩:=o;cases(show oc=Value.type "tuple"from j);cases(show f=RY _ k from hd);have fin:∀tk,EP X pins σ Q (.bool b) {s with toks:=tk}:=λtk=>⟨.bl b,H,I.tok tk,Xb,q⟩;cases ty with
 |non=>cases(show u=Value.none from d);exact Dp LP I.Jn TC c e nofun fin
 |bl y=>cases(show u=Value.bool y from d);exact Dp LQ I.Jn TC c e nofun fin
 |int i=>obtain⟨t,q⟩:=(show∃t,u=Value.int i t from d);cases q;exact Dp Fg I.Jn TC c e nofun fin
 |str y=>obtain⟨t,q⟩:=(show∃t,u=Value.str y t from d);cases q;exact Dp Fh I.Jn TC c e nofun fin
 |flt y=>obtain⟨t,q⟩:=(show∃t,u=Value.float y t from d);cases q;exact Dp LB I.Jn TC c e nofun fin
 |@lst a xs ea=>cases(show u=Value.ref a from d);obtain⟨_,_,n,_,h1⟩:=(show Z1 X.prog X.w H s.heap a (.lst xs)from I.Zw a _ ea);exact Dp EG I.Jn ⟨_,h1,Xb⟩ c e nofun fin
 |@frz a ob xs ea=>cases(show u=Value.ref a from d);obtain⟨_,_,_,n,_,h1⟩:=(show Z1 X.prog X.w H s.heap a (.frz ob (.lst xs))from I.Zw a _ ea);exact Dp EG I.Jn ⟨_,h1,Xb⟩ c e nofun fin
 |@tup a xs ea=>cases(show u=Value.ref a from d);obtain⟨_,_,_,p⟩:=(show Z1 X.prog X.w H s.heap a (.tup xs)from I.Zw a _ ea);obtain⟨o,h1,h2,_⟩:=p;exact Dp LC I.Jn ⟨o,h1,h2⟩ c e nofun fin
 |@dK a kvs ea=>cases(show u=Value.ref a from d);obtain⟨_,_,vs,_,p⟩:=(show Z1 X.prog X.w H s.heap a (.dK kvs)from I.Zw a _ ea);obtain⟨o,es,ep,h1,h2,_⟩:=p;exact Dp EH I.Jn ⟨o,h1,h2.1⟩ c e nofun fin
 |@dT a kvs ea=>cases(show u=Value.ref a from d);obtain⟨_,_,xs,_,o,es,ep,h1,h2,_⟩:=(show Z1 X.prog X.w H s.heap a (.dT kvs)from I.Zw a _ ea);exact Dp EH I.Jn ⟨o,h1,h2.1⟩ c e nofun fin
end
theorem Qrr:Te K (.type "list") (.type "list")=Ga Gf:=by rfl
theorem Qqw:Te K (.type "tuple") (.type "tuple")=Ga Gf:=by rfl
theorem Qxx:Te K (.type "list") (.type "tuple")=Ga Gq:=by kernel_rfl
theorem Qsf:Te K (.type "tuple") (.type "list")=Ga Gq:=by kernel_rfl
theorem Qpf:Te K (.type "str") (.type "str")=Ga Gf:=by rfl
theorem Qw1:Te K (.type "bool") (.type "str")=Ga Gq:=by kernel_rfl
theorem Qxr:Te K (.type "int") (.type "str")=Ga Gq:=by kernel_rfl
theorem Qxs:Te K (.type "NoneType") (.type "str")=Ga Gq:=by kernel_rfl
theorem Qq1:Te K (.type "bool") (.type "bool")=Ga Gf:=by rfl
theorem Qpp:Te K (.type "int") (.type "bool")=Ga Gq:=by kernel_rfl
theorem Qxi:Te K (.type "NoneType") (.type "bool")=Ga Gq:=by kernel_rfl
theorem Qw7:Te K (.type "int") (.type "int")=Ga Gf:=by rfl
theorem Qxl:DR K (.type "list") [.type "list",.type "tuple"]=Ga Gf:=by rfl
theorem Qxc:DR K (.type "tuple") [.type "list",.type "tuple"]=Ga Gf:=by unfold DR;rw[Qsf];rfl
theorem Qbq{t:String}(h1:Te K (.type t) (.type "list")=Ga Gq)(h2:Te K (.type t) (.type "tuple")=Ga Gq):DR K (.type t) [.type "list",.type "tuple"]=Ga Gq:=by unfold DR;rw[h1];unfold DR;rw[h2];rfl
theorem Qw8:Te K (.type "str") (.type "list")=Ga Gq:=by kernel_rfl
theorem Qpq:Te K (.type "str") (.type "tuple")=Ga Gq:=by kernel_rfl
theorem Qx8:Te K (.type "int") (.type "list")=Ga Gq:=by kernel_rfl
theorem Qs5:Te K (.type "int") (.type "tuple")=Ga Gq:=by kernel_rfl
theorem Qxk:Te K (.type "bool") (.type "list")=Ga Gq:=by kernel_rfl
theorem Qwy:Te K (.type "bool") (.type "tuple")=Ga Gq:=by kernel_rfl
theorem Qx9:Te K (.type "NoneType") (.type "list")=Ga Gq:=by kernel_rfl
theorem Qxv:Te K (.type "NoneType") (.type "tuple")=Ga Gq:=by kernel_rfl
end L2
namespace PySem
section
variable{prog:Gk}{w:Gv}{A:TL}{E:Value->Gj->Prop}{s:Gj}
open PyProof.Rows
def Heap.Qkx(h:Heap)(a l:Gc)(i:Int):Prop:=∃o,h.get? a=Ga o/\o.cls=.type "reversed"/\o.data=.fields #[.ref l,rawInt i]
theorem Heap.Qkx.at{h h':Heap}{a l:Gc}{i:Int}(x:h.Qkx a l i)(e:∀o,h.get? a=Ga o->h'.get? a=Ga o):h'.Qkx a l i:=let⟨o,ho,r⟩:=x;⟨o,e _ ho,r⟩
end
section
variable{prog:Gk}{w:Gv}{K:Type}[DecidableEq K]{knd:Nu prog w K}{A:TL}{E:Value->Gj->Prop}{s:Gj}
theorem V4{d a:Gc}{xs:List (K×Gc×Value)}{k:K}{dflt:Value}{Q:Value->Gj->Prop}(u:knd.room A)(b:knd.is s.heap k a)(B:s.heap.DictOfH knd d xs)
  (c:∀p,atKey xs k=Ga p->Q p.2 {s with toks:=s.toks+knd.draws k})
  (l:atKey xs k=Gg->∀h',h'.DictOfH knd d (xs++[(k,a,dflt)])->Heap.SameBut d s.heap h'->Q dflt {s with heap:=h',toks:=s.toks+knd.draws k})
  (hsz:xs.length<=Gi):
  wpAny (GY prog w) A (dictSetDefault d (.ref a) dflt) Q E s:=by
 obtain⟨o,es,ep,h,z,hd,q,i,r⟩:=B;unfold dictSetDefault;try with_reducible refine T3 ?_
 refine Gb (knd.pyHash u b ?_);refine Gb (wpAny_dictFind_heap (s:={s with toks:=s.toks+knd.draws k}) u b h hd q i r ?_ ?_)
 ·intro m;have n:k∉xs.map (·.1):=not_mem_keys_of_get m;have g:=atKey_none_of_get m;refine Gb (ET (Gb (wpAny_updateDictKeys (hz:=by have e:=size_of_entries q;omega) (s:={s with toks:=s.toks+knd.draws k}) h hd (Ge (l g _ ⟨_,_,ep+1,Heap.get?_update_self _ h (Obj.isFreed_of_dict (Lh hd _)),
   z.mapDictKeys _,Lh hd _,?_,?_,?_⟩ (Heap.SameBut.update ..))))))
  ·simp[q,entryOfKey]
  ·intro x f;rcases List.mem_append.mp f with f|f
   ·exact knd.keeps (i x f) h hd (Heap.SameBut.update ..)
   ·simp only[List.mem_singleton]at f;subst f;exact knd.keeps b h hd (Heap.SameBut.update ..)
  ·rw[List.map_append,List.nodup_append];refine⟨r,by simp,?_⟩;intro x f y v;simp only[List.map_cons,List.map_nil,List.mem_singleton]at v;subst v;exactλe=>n (e▸f)
 ·intro j p t;have g:=atKey_of_get r t;refine Gb (Dy (s:={s with toks:=s.toks+knd.draws k}) h hd ?_);rw[entry_at q j,t];exact Gb (ET (Ge (c p g)))
theorem Wp(knd:Nu prog w K)(d a:Gc)(hd:(d==T8)=Gq)(dflt:Value):
  MeetsIn prog w (Builtin.«dict.setdefault» ⟨[.ref d,.ref a,dflt],[]⟩) (λA R s=>knd.room A.in1/\∃k xs,knd.is s.heap k a/\s.heap.DictOfH knd d xs/\xs.length<=Gi/\
   (∀p,atKey xs k=Ga p->R (.ok (.ret p.2)) {s with toks:=s.toks+knd.draws k})/\
   (atKey xs k=Gg->∀h',h'.DictOfH knd d (xs++[(k,a,dflt)])->Heap.SameBut d s.heap h'->R (.ok (.ret dflt)) {s with heap:=h',toks:=s.toks+knd.draws k})):=
 .of_wp λA R s⟨h,k,xs,b,f,hz,h1,h2⟩=>by unfold Builtin.«dict.setdefault»;refine Gb ?_;unfold Builtin.Dict.keyAndDefault;refine Gb (EO f.typeIs ?_);show wpAny _ _ (pure (d,Value.ref a,Ga dflt)) _ _ s;refine Ge ?_;show wpAny _ _ (if(d==T8)=Gf then _ else(dictSetDefault d (.ref a) dflt>>=_)) _ _ s;rw[Gh (by rw[hd];exact Gw)];exact Gb (V4 h b f (λp i=>Ge ⟨p.2,Xb,h1 p i⟩) (λg h' c e=>Ge ⟨dflt,Xb,h2 g h' c e⟩) hz)
end
end PySem
namespace L2
open PySem PySem.Spec PyProof.Rows
section
variable{X:Cx}{tg:T1}
def Qtm:V->List V->Hp->VK->Prop:=λx vs H Q=>∃d b a kvs k,x=.ref d/\vs=[.ref b,a]/\H d=Ga (.dT kvs)/\H b=Ga (.tup (k.map kV))/\kvs.length<Gi/\
 (∀v,Yy kvs k=Ga v->Q v H)/\(Yy kvs k=Gg->Q a (upd H d (.dT (kvs++[(k,a)]))))
theorem Qog(G:X.A.units+1<DP):MtR X "dict.setdefault" Qtm:=by
 intro pins s σ H x vs v us Q I N rv h;obtain⟨d,b,i,kvs,k,rfl,rfl,e,l,hz,K,L⟩:=h;cases(show v=Value.ref d from N);obtain⟨O,r,rfl,M,o⟩:=vals2 rv;cases(show O=Value.ref b from M);obtain⟨z,hd,xs,rel,j⟩:=Qws I.Zw e;have J:kvs.length=xs.length:=Gr rel;refine L1 F.slot_dict_setdefault j.typeIs F.entry_dict_setdefault (F.args_dict_setdefault_3 _ _ _) (Wp (tupleKind (Yk X.prog X.w)) d b hd r) ⟨Ei G,k,xs,Qam I.Zw l,j,by omega,λp D=>?_,λC h' g E=>?_⟩
 ·have a:=rel.val k;rw[D]at a;cases q:Yy kvs k with
  |none=>rw[q]at a;exact(show False from a).elim
  |some y=>rw[q]at a;exact⟨y,H,I.tok _,a,K y q⟩
 ·have a:=rel.val k;rw[C]at a;cases q:Yy kvs k with
  |some y=>rw[q]at a;exact(show False from a).elim
  |none=>obtain⟨ob,es,ep,n,h2,t,u,_,B⟩:=g;have f:KT H (kvs++[(k,i)]) (xs++[(k,b,r)]):=DE rel ⟨Xb,l,o⟩;refine⟨i,_,Ip (ob:=.dT (kvs++[(k,i)])) I (by rw[e];exact TC) E ⟨ob,n⟩ ⟨by rw[List.length_append,List.length_singleton];omega,hd,_,f.keeps λc ys m=>?_,ob,es,ep,n,h2,t,u,B⟩,o,L q⟩;rw[Qf (Zh m e nofun)];exact m
end
theorem Qg{H:Hp}{p:Gc}(h:H p=Gg)(o:HO):Qz H (upd H p o):=λb u q=>by rw[Qf (Qc q h)];exact q
theorem nd1(x:Ta):[x].Nodup:=by simp
theorem small{n:Nat}(h:n<=16000000):n<=Gi:=by rw[GQ];omega
end L2
namespace Sb
open PySem
inductive Th where
 |mk (w:Ta) (ps:List Th)
mutual
def Th.size:Th->Nat
 |.mk _ ps=>Qw ps+1
def Qw:List Th->Nat
 |[]=>0
 |p::r=>p.size+Qw r
end
mutual
def Th.depth:Th->Nat
 |.mk _ ps=>Wa ps+1
def Wa:List Th->Nat
 |[]=>0
 |p::r=>max p.depth (Wa r)
end
mutual
def Th.inside:Th->List Th
 |.mk w ps=>Q8 ps++[.mk w ps]
def Q8:List Th->List Th
 |[]=>[]
 |p::r=>p.inside++Q8 r
end
mutual
def Th.toD:Th->TH
 |.mk w ps=>.tuple (.str w::X7 ps)
def X7:List Th->List TH
 |[]=>[]
 |p::r=>p.toD::X7 r
end
mutual
def Th.ok:Th->Bool
 |.mk w ps=>TU w&&okL ps
def okL:List Th->Bool
 |[]=>Gf
 |p::r=>p.ok&&okL r
end
def Iz(w:Ta):Bool:=TU w&&decide (w.length<=200)
theorem Iz.str{w:Ta}(h:Iz w=Gf):TU w=Gf:=(Eu.mp h).1
theorem Iz.len{w:Ta}(h:Iz w=Gf):w.length<=200:=TJ (Eu.mp h).2
mutual
def Th.short:Th->Bool
 |.mk w ps=>decide (w.length<=200)&&Qax ps
def Qax:List Th->Bool
 |[]=>Gf
 |p::r=>p.short&&Qax r
end
def Th.word:Th->Ta
 |.mk w _=>w
def Th.parts:Th->List Th
 |.mk _ ps=>ps
theorem Ii:∀ts:List Th,okL ts=ts.all Th.ok
 |[]=>by simp[okL]
 |t::r=>by simp[okL,Ii r]
mutual
theorem Qjw:∀t:Th,t.inside.length=t.size
 |.mk w ps=>by simp[Th.inside,Th.size,V8 ps]
theorem V8:∀ts:List Th,(Q8 ts).length=Qw ts
 |[]=>by simp[Q8,Qw]
 |p::r=>by simp[Q8,Qw,Qjw p,V8 r]
end
theorem Qct(t:Th):1<=t.size:=by cases t;simp[Th.size]
theorem Qaw(t:Th):1<=t.depth:=by cases t;simp[Th.depth]
theorem X9:∀{ts:List Th}{t:Th},t∈ts->t.depth<=Wa ts
 |p::r,t,h=>by
  rcases List.mem_cons.mp h with rfl|h
  ·simp only[Wa];omega
  ·have:=X9 h;simp only[Wa];omega
theorem Zx:∀ts:List Th,ts.length<=Qw ts
 |[]=>by simp[Qw]
 |p::r=>by have:=Qct p;have:=Zx r;simp only[Qw,List.length_cons];omega
mutual
theorem Qhz:∀(t:Th){s:Th},s∈t.inside->s.size<=t.size
 |.mk w ps,s,h=>by
  simp only[Th.inside,List.mem_append,List.mem_singleton]at h;rcases h with h|rfl
  ·have:=R7 ps h;simp only[Th.size];omega
  ·exact Gn _
theorem R7:∀(ts:List Th){s:Th},s∈Q8 ts->s.size<=Qw ts
 |p::r,s,h=>by
  simp only[Q8,List.mem_append]at h;rcases h with h|h
  ·have:=Qhz p h;simp only[Qw];omega
  ·have:=R7 r h;simp only[Qw];omega
 |[],s,h=>by simp[Q8]at h
end
theorem Ql1(t:Th):t∈t.inside:=by cases t;simp[Th.inside]
theorem Xj:∀ts:List Th,Q8 ts=ts.flatMap Th.inside
 |[]=>by simp[Q8]
 |p::r=>by simp[Q8,Xj r]
theorem Qve{x y:Ta}:(x==y)=decide (x=y):=by
 by_cases h:x=y
 ·subst h;simp
 ·simp[h]
mutual
theorem Ja:∀s t:Th,TQ s.toD t.toD=Gf↔s=t
 |.mk w ps,.mk v a=>by simp only[Th.toD,TQ,Tw,Tn,Th.mk.injEq];rw[Qi9 ps a,Qve,decide_eq_true_iff]
theorem Qi9:∀a ts:List Th,Tw (X7 a) (X7 ts)=Gf↔a=ts
 |[],[]=>by simp[X7,Tw]
 |[],t::r=>by simp[X7,Tw]
 |s::r,[]=>by simp[X7,Tw]
 |s::r,t::q=>by simp only[X7,Tw,Tn,List.cons.injEq];rw[Ja s t,Qi9 r q]
end
instance:DecidableEq Th:=λs t=>if h:TQ s.toD t.toD=Gf then .isTrue ((Ja s t).mp h)else .isFalse λe=>h ((Ja s t).mpr e)
theorem Qlw(s t:Th):TQ s.toD t.toD=decide (s=t):=by
 by_cases h:s=t
 ·rw[GX h];exact(Ja s t).mpr h
 ·rw[Gz h];exact Su.mpr λe=>h ((Ja s t).mp e)
mutual
theorem Jw:∀t:Th,t.ok=Gf->t.toD.canLay0=Gf
 |.mk w ps,h=>by simp only[Th.ok,Tn]at h;simp only[Th.toD,Tp,Gu,Tn];exact⟨h.1,Qgn ps h.2⟩
theorem Qgn:∀ts:List Th,okL ts=Gf->Gu (X7 ts)=Gf
 |[],_=>by simp[X7,Gu]
 |t::r,h=>by simp only[okL,Tn]at h;simp only[X7,Gu,Tn];exact⟨Jw t h.1,Qgn r h.2⟩
end
mutual
theorem Wc:∀t:Th,t.toD.depth=t.depth
 |.mk w ps=>by simp only[Th.toD,Dg,To,Th.depth,Qc8 ps];omega
theorem Qc8:∀ts:List Th,To (X7 ts)=Wa ts
 |[]=>by simp[X7,To,Wa]
 |t::r=>by simp[X7,To,Wa,Wc t,Qc8 r]
end
def Yo(acc:List Th)(xs:List Th):List Th:=xs.foldl (λacc x=>if x∈acc then acc else acc++[x]) acc
theorem Ic(acc:List Th):Yo acc []=acc:=rfl
theorem Io(acc:List Th)(x:Th)(r:List Th):Yo acc (x::r)=Yo (if x∈acc then acc else acc++[x]) r:=rfl
theorem V7(acc xs ys:List Th):Yo acc (xs++ys)=Yo (Yo acc xs) ys:=by unfold Yo;rw[List.foldl_append]
theorem Qnc(acc xs:List Th)(y:Th):Yo acc (xs++[y])=if y∈Yo acc xs then Yo acc xs else Yo acc xs++[y]:=by rw[V7];rfl
theorem Qd3:∀(xs acc:List Th)(y:Th),y∈Yo acc xs↔y∈acc\/y∈xs
 |[],acc,y=>by simp[Ic]
 |x::r,acc,y=>by
  rw[Io,Qd3 r];by_cases h:x∈acc
  ·rw[Gm h];constructor
   ·rintro(h1|h1)
    ·exact .inl h1
    ·exact .inr (List.mem_cons_of_mem _ h1)
   ·rintro(h1|h1)
    ·exact .inl h1
    ·rcases List.mem_cons.mp h1 with rfl|h1
     ·exact .inl h
     ·exact .inr h1
  ·rw[Gh h];simp only[List.mem_append,List.mem_cons,List.not_mem_nil,Eb];constructor
   ·rintro((h1|h1)|h1)
    ·exact .inl h1
    ·exact .inr (.inl h1)
    ·exact .inr (.inr h1)
   ·rintro(h1|h1|h1)
    ·exact .inl (.inl h1)
    ·exact .inl (.inr h1)
    ·exact .inr h1
theorem Qes:∀(xs acc:List Th),(∀x∈xs,x∈acc)->Yo acc xs=acc
 |[],_,_=>rfl
 |x::r,acc,h=>by rw[Io,Gm (h x List.mem_cons_self)];exact Qes r acc λy a=>h y (List.mem_cons_of_mem _ a)
theorem Qc2:∀(xs acc:List Th),(Yo acc xs).length<=acc.length+xs.length
 |[],acc=>by simp[Ic]
 |x::r,acc=>by
  rw[Io];have:=Qc2 r (if x∈acc then acc else acc++[x]);split at this
  ·rename_i h
   rw[Gm h];simp only[List.length_cons];omega
  ·rename_i h
   rw[Gh h];simp only[List.length_append,List.length_cons,List.length_nil]at this⊢;omega
def Vx(ts:List Th):Prop:=∀t∈ts,∀s∈t.inside,s∈ts
theorem Qku:Vx []:=λ_ h=>by simp at h
theorem Qna{ts:List Th}{t:Th}(h:Vx ts)(a:t∈ts):Yo ts t.inside=ts:=Qes _ _ λx b=>h t a x b
theorem Vc:∀(xs acc:List Th),∃m,Yo acc xs=acc++m
 |[],acc=>⟨[],by simp[Ic]⟩
 |x::r,acc=>by
  rw[Io];split
  ·exact Vc r acc
  ·obtain⟨m,e⟩:=Vc r (acc++[x]);exact⟨x::m,by rw[e];simp⟩
def Qd1(t:Th):List Ta:=t.word::t.parts.map Th.word
end Sb
namespace L2
open PySem PySem.Spec PyProof.Rows
theorem Qhh(x:V)(vs:List V):Uw (x::vs) (Ga 1) Gg=vs:=by
 have e:HT.Wg (x::vs).length 0 (Ga 1)=1:=by have q:=HT.Ot (x::vs).length 0 1;rw[List.length_cons]at q⊢;refine q.trans ?_;omega
 unfold Uw;rw[e,HT.Og];simp
theorem V1(x:V)(vs:List V):¬(HT.Wg (x::vs).length 0 (Ga 1)=0/\HT.Wg (x::vs).length (x::vs).length Gg=(x::vs).length):=by
 have e:HT.Wg (x::vs).length 0 (Ga 1)=1:=by have q:=HT.Ot (x::vs).length 0 1;rw[List.length_cons]at q⊢;refine q.trans ?_;omega
 rw[e];rintro⟨h,_⟩;exact absurd h (by decide)
end L2
namespace Sb
open PySem PySem.Spec PyProof.Rows L2
variable{H H':Hp}{v:V}{t:Th}
mutual
inductive Yj(H:Hp):V->Th->Prop
 |mk {a:Gc} {w:Ta} {vs:List V} {ps:List Th}:H a=Ga (.tup (.str w::vs))->Zq H vs ps->Yj H (.ref a) (.mk w ps)
inductive Zq(H:Hp):List V->List Th->Prop
 |nil:Zq H [] []
 |cons {v:V} {vs:List V} {t:Th} {ts:List Th}:Yj H v t->Zq H vs ts->Zq H (v::vs) (t::ts)
end
def Qt(H H':Hp):Prop:=∀b xs,H b=Ga (.tup xs)->H' b=Ga (.tup xs)
theorem Qt.of(e:Qz H H'):Qt H H':=λb xs h=>e b _ h
theorem Qt.trans{H1 H2:Hp}(a:Qt H H1)(b:Qt H1 H2):Qt H H2:=λc xs h=>b c xs (a c xs h)
theorem Zs{a:Gc}{o:HO}(h:∀xs,H a≠Ga (.tup xs)):Qt H (upd H a o):=λb xs e=>by
 by_cases hb:b=a
 ·subst hb;exact absurd e (h xs)
 ·rw[Qf hb];exact e
mutual
theorem Yj.Ql{H H':Hp}(e:Qt H H'):∀{v:V}{t:Th},Yj H v t->Yj H' v t
 |_,_,.mk h r=>.mk (e _ _ h) (Zq.Ql e r)
theorem Zq.Ql{H H':Hp}(e:Qt H H'):∀{vs:List V}{ts:List Th},Zq H vs ts->Zq H' vs ts
 |_,_,.nil=>.nil
 |_,_,.cons h r=>.cons (Yj.Ql e h) (Zq.Ql e r)
end
theorem Yj.same(e:Qz H H')(h:Yj H v t):Yj H' v t:=h.Ql (Qt.of e)
theorem Zq.same(e:Qz H H'){vs:List V}{ts:List Th}(h:Zq H vs ts):Zq H' vs ts:=h.Ql (Qt.of e)
mutual
theorem Yj.dt{H:Hp}:∀{v:V}{t:Th},Yj H v t->Dt H v t.toD
 |_,_,.mk (w:=w) (ps:=ps) h r=>by
  have e:(Th.mk w ps).toD=.tuple (.str w::X7 ps):=by simp[Th.toD]
  rw[e];exact .tup h (.cons (.str w) (Zq.dts r))
theorem Zq.dts{H:Hp}:∀{vs:List V}{ts:List Th},Zq H vs ts->Re H vs (X7 ts)
 |_,_,.nil=>by simp only[X7];exact .nil
 |_,_,.cons h r=>by simp only[X7];exact .cons (Yj.dt h) (Zq.dts r)
end
theorem Yj.inv(h:Yj H v t):∃a w vs ps,v=.ref a/\t=.mk w ps/\H a=Ga (.tup (.str w::vs))/\Zq H vs ps:=by
 cases h with
 |mk h r=>exact⟨_,_,_,_,Xb,Xb,h,r⟩
theorem Zq.length{H:Hp}:∀{vs:List V}{ts:List Th},Zq H vs ts->vs.length=ts.length
 |_,_,.nil=>rfl
 |_,_,.cons _ t=>by rw[List.length_cons,List.length_cons,t.length]
theorem Zq.append{H:Hp}:∀{vs us:List V}{ts a:List Th},Zq H vs ts->Zq H us a->Zq H (vs++us) (ts++a)
 |_,_,_,_,.nil,t=>t
 |_,_,_,_,.cons h r,t=>.cons h (r.append t)
theorem Zq.one(h:Yj H v t):Zq H [v] [t]:=.cons h .nil
theorem Zq.get{H:Hp}:∀{vs:List V}{ts:List Th}{i:Nat}{v:V},Zq H vs ts->vs[i]?=Ga v->∃t,ts[i]?=Ga t/\Yj H v t
 |_,_,_,_,.nil,e=>by simp at e
 |_,_,0,_,.cons h _,e=>by simp at e;subst e;exact⟨_,Xb,h⟩
 |_,_,i+1,_,.cons _ t,e=>by obtain⟨d,h1,h2⟩:=Zq.get (i:=i) t (by simpa using e);exact⟨d,by simpa using h1,h2⟩
theorem Zq.at{H:Hp}{vs:List V}{ts:List Th}{i:Nat}{t:Th}(h:Zq H vs ts)(e:ts[i]?=Ga t):∃v,vs[i]?=Ga v/\Yj H v t:=by
 have hi:i<ts.length:=(List.getElem?_eq_some_iff.mp e).1;have a:i<vs.length:=by rw[h.length];exact hi
 obtain⟨t',h1,h2⟩:=h.get (List.getElem?_eq_getElem a);rw[e]at h1;cases h1;exact⟨_,List.getElem?_eq_getElem a,h2⟩
mutual
def Wt:TH->Nat
 |.none=>1|.bool _=>1|.int _=>1|.str _=>1
 |.list xs=>Zm xs+1
 |.tuple xs=>Zm xs+1
 |.dict _=>1
def Zm:List TH->Nat
 |[]=>0
 |x::r=>Wt x+Zm r
end
theorem Qfs(d:TH):1<=Wt d:=by cases d<;>simp[Wt]
theorem Xx:∀xs ys:List TH,Zm (xs++ys)=Zm xs+Zm ys
 |[],ys=>by simp[Zm]
 |x::r,ys=>by simp only[List.cons_append,Zm,Xx r ys];omega
theorem Ua:∀xs:List TH,xs.length<=Zm xs
 |[]=>by simp[Zm]
 |x::r=>by have:=Qfs x;have:=Ua r;simp only[Zm,List.length_cons];omega
mutual
theorem Qcq:∀t:Th,Wt t.toD=2*t.size
 |.mk w ps=>by simp only[Th.toD,Wt,Zm,Th.size,Qfc ps];omega
theorem Qfc:∀ts:List Th,Zm (X7 ts)=2*Qw ts
 |[]=>by simp[X7,Zm,Qw]
 |t::r=>by simp only[X7,Zm,Qw,Qcq t,Qfc r];omega
end
theorem Ie:∀(ts:List Th)(n:Nat),(∀t∈ts,t.size<=n)->Qw ts<=ts.length*n
 |[],n,_=>by simp[Qw]
 |t::r,n,h=>by have h1:=h t List.mem_cons_self;have h2:=Ie r n λs a=>h s (List.mem_cons_of_mem _ a);simp only[Qw,List.length_cons];rw[Ef];omega
structure Drawn(ts:List Th)(m:Nat):Prop where
 len:ts.length=3+m
 ok:∀t∈ts,t.ok=Gf
 dep:∀(j:Nat)t,ts[j]?=Ga t->t.depth<=j+1
 one:∀(j:Nat)t,ts[j]?=Ga t->j<=2->t.size<=1
 two:∀(j:Nat)t,ts[j]?=Ga t->j<=3->t.size<=4
 tri:∀(j:Nat)t,ts[j]?=Ga t->j<=4->t.size<=10
 any:∀(j:Nat)t,ts[j]?=Ga t->t.size<=12*j+1
 sh:∀t∈ts,t.short=Gf
 tab:ts[1]?=Ga (.mk "tab" [])
 cl:∀t∈ts,∀p∈t.parts,p∈ts
def Qmy(K:Gd):Sp:=λvs H Q _=>∃(a:Gc)(ns:List Int),vs=[.ref a]/\Zc K H a (ns.map V.int)/\ns.length<=63/\
 ∀(r:Gc)(us:List V)(ts:List Th)(H':Hp),Qz H H'->H r=Gg->H' r=Ga (.lst us)->Zq H' us ts->Drawn ts ns.length->Q (.ref r) H'
def Qrj:Sp:=λvs H Q _=>∃(n:Int),vs=[.int n]/\∀(x:Ta),Iz x=Gf->Q (.str x) H
def Qzk:Sp:=λvs H Q _=>∃(x y:V)(d:TH),vs=[x,y]/\Dt H x d/\Dt H y d/\d.canLay0=Gf/\Wt d<=1000000/\d.depth<=60/\
 ∀(H':Hp),Qz H H'->Q (.bl Gf) H'
def Ql4(K:Gd):Sp:=λvs H Q _=>∃(a:Gc)(ns:List Int),vs=[.ref a]/\Zc K H a (ns.map V.int)/\ns.length<=63/\∀H',Q (.bl Gf) H'
end Sb
namespace L2
open PySem PySem.Spec PyProof.Rows
inductive KD where
 |int (i:Int)
 |str (x:Ta)
 |tup (xs:List KD)
mutual
def KD.toD:KD->TH
 |.int i=>.int i
 |.str x=>.str x
 |.tup xs=>.tuple (Ug xs)
def Ug:List KD->List TH
 |[]=>[]
 |x::r=>x.toD::Ug r
end
mutual
def KD.depth:KD->Nat
 |.int _=>0
 |.str _=>0
 |.tup xs=>Jo xs+1
def Jo:List KD->Nat
 |[]=>0
 |x::r=>max x.depth (Jo r)
end
mutual
def KD.hash(w:Gv):KD->Int
 |.int i=>hashInt i
 |.str x=>hashStr w x
 |.tup xs=>reduceHash (Builtin.Tuple.tupleHashOf (V0 w xs))
def V0(w:Gv):List KD->List Int
 |[]=>[]
 |x::r=>x.hash w::V0 w r
end
mutual
def KD.draws:KD->Nat
 |.int _=>1
 |.str _=>1
 |.tup xs=>Xp xs+1
def Xp:List KD->Nat
 |[]=>0
 |x::r=>x.draws+Xp r
end
theorem Quj:∀xs:List KD,Ug xs=xs.map KD.toD
 |[]=>by simp[Ug]
 |x::r=>by simp[Ug,Quj r]
theorem Qcj(w:Gv):∀xs:List KD,V0 w xs=xs.map (KD.hash w)
 |[]=>by simp[V0]
 |x::r=>by simp[V0,Qcj w r]
theorem Ib:∀xs ys:List KD,Xp (xs++ys)=Xp xs+Xp ys
 |[],ys=>by simp[Xp]
 |x::r,ys=>by simp only[List.cons_append,Xp,Ib r ys];omega
theorem O5:∀{xs:List KD}{x:KD},x∈xs->x.depth<=Jo xs
 |y::r,x,h=>by
  simp only[Jo];rcases List.mem_cons.mp h with rfl|h
  ·omega
  ·have:=O5 h;omega
mutual
theorem Qco:∀a b:KD,TQ a.toD b.toD=Gf↔a=b
 |.int i,.int j=>by simp[KD.toD,TQ]
 |.int i,.str y=>by simp[KD.toD,TQ]
 |.int i,.tup ys=>by simp[KD.toD,TQ]
 |.str x,.int j=>by simp[KD.toD,TQ]
 |.str x,.str y=>by simp[KD.toD,TQ]
 |.str x,.tup ys=>by simp[KD.toD,TQ]
 |.tup xs,.int j=>by simp[KD.toD,TQ]
 |.tup xs,.str y=>by simp[KD.toD,TQ]
 |.tup xs,.tup ys=>by simp only[KD.toD,TQ,KD.tup.injEq];exact Qm5 xs ys
theorem Qm5:∀xs ys:List KD,Tw (Ug xs) (Ug ys)=Gf↔xs=ys
 |[],[]=>by simp[Ug,Tw]
 |[],_::_=>by simp[Ug,Tw]
 |_::_,[]=>by simp[Ug,Tw]
 |x::r,y::q=>by simp only[Ug,Tw,Tn,List.cons.injEq];rw[Qco x y,Qm5 r q]
end
instance:DecidableEq KD:=λa b=>if h:TQ a.toD b.toD=Gf then .isTrue ((Qco a b).mp h)else .isFalse λe=>h ((Qco a b).mpr e)
theorem Qkq(a b:KD):TQ a.toD b.toD=decide (a=b):=by
 by_cases h:a=b
 ·rw[GX h];exact(Qco a b).mpr h
 ·rw[Gz h];exact Su.mpr λe=>h ((Qco a b).mp e)
mutual
theorem Om:∀a:KD,a.toD.depth=a.depth
 |.int _=>by simp[KD.toD,Dg,KD.depth]
 |.str _=>by simp[KD.toD,Dg,KD.depth]
 |.tup xs=>by simp only[KD.toD,Dg,KD.depth,Qe8 xs]
theorem Qe8:∀xs:List KD,To (Ug xs)=Jo xs
 |[]=>by simp[Ug,To,Jo]
 |x::r=>by simp only[Ug,To,Jo,Om x,Qe8 r]
end
theorem Il{h:Heap}{v:Value}{xs:List TH}{b:List Gc}(r:Lw h v (.tuple xs) b):∃a o vs n,v=.ref a/\h.get? a=Ga o/\o.cls=.type "tuple"/\o.data=.seq vs n/\EZ h vs.toList xs b:=by
 cases r with
 |tuple h1 h2 c d=>exact⟨_,_,_,_,Xb,h1,h2,c,d⟩
mutual
theorem Qfa{h h':Heap}{d:Gc}{o:Ee}{es:Array Eo}{ep:Nat}(f:h.get? d=Ga o)(hd:o.data=.dict es ep)(g:Heap.SameBut d h h'):∀{v:Value}{x:TH}{k:List Gc},Lw h v x k->x.canLay0=Gf->Lw h' v x k
 |_,_,_,.none,_=>.none
 |_,_,_,.bool b,_=>.bool b
 |_,_,_,.int i t,_=>.int i t
 |_,_,_,.str x t,_=>.str x t
 |_,_,_,.list (a:=a) h1 h2 c j,e=>by simp only[Tp]at e;refine .list ((g.2 a ?_).trans h1) h2 c (Je f hd g j e);rintro rfl;rw[f]at h1;cases h1;rw[hd]at c;cases c
 |_,_,_,.tuple (a:=a) h1 h2 c j,e=>by simp only[Tp]at e;refine .tuple ((g.2 a ?_).trans h1) h2 c (Je f hd g j e);rintro rfl;rw[f]at h1;cases h1;rw[hd]at c;cases c
 |_,_,_,.dict _ _ _ _ _,e=>by simp[Tp]at e
theorem Je{h h':Heap}{d:Gc}{o:Ee}{es:Array Eo}{ep:Nat}(c:h.get? d=Ga o)(hd:o.data=.dict es ep)(e:Heap.SameBut d h h'):∀{vs:List Value}{xs:List TH}{b:List Gc},EZ h vs xs b->Gu xs=Gf->EZ h' vs xs b
 |_,_,_,.nil,_=>.nil
 |_,_,_,.cons h1 h2,a=>by simp only[Gu,Tn]at a;exact .cons (Qfa c hd e h1 a.1) (Je c hd e h2 a.2)
end
mutual
theorem Qe2{h:Heap}:∀(a b:KD){v:Value}{f bs:List Gc},Lw h v a.toD f->Lw h v b.toD bs->a=b
 |.int i,.int j,_,_,_,r,q=>by simp only[KD.toD]at r q;cases r;cases q;rfl
 |.int i,.str y,_,_,_,r,q=>by simp only[KD.toD]at r q;cases r;cases q
 |.int i,.tup ys,_,_,_,r,q=>by simp only[KD.toD]at r q;cases r;cases q
 |.str x,.int j,_,_,_,r,q=>by simp only[KD.toD]at r q;cases r;cases q
 |.str x,.str y,_,_,_,r,q=>by simp only[KD.toD]at r q;cases r;cases q;rfl
 |.str x,.tup ys,_,_,_,r,q=>by simp only[KD.toD]at r q;cases r;cases q
 |.tup xs,.int j,_,_,_,r,q=>by simp only[KD.toD]at r q;cases q;cases r
 |.tup xs,.str y,_,_,_,r,q=>by simp only[KD.toD]at r q;cases q;cases r
 |.tup xs,.tup ys,_,_,_,r,q=>by simp only[KD.toD]at r q;obtain⟨a,o,vs,n,rfl,h1,h2,g,k⟩:=Il r;obtain⟨p,o',m,t,e,c,s,d,l⟩:=Il q;cases e;rw[h1]at c;cases c;rw[g]at d;cases d;rw[Oo xs ys k l]
theorem Oo{h:Heap}:∀(xs ys:List KD){vs:List Value}{b bs:List Gc},EZ h vs (Ug xs) b->EZ h vs (Ug ys) bs->xs=ys
 |[],[],_,_,_,_,_=>rfl
 |[],y::q,_,_,_,r,t=>by simp only[Ug]at r t;cases r;cases t
 |x::a,[],_,_,_,r,t=>by simp only[Ug]at r t;cases t;cases r
 |x::a,y::q,_,_,_,r,t=>by
  simp only[Ug]at r t;cases r with
  |cons h1 h2=>
   cases t with
   |cons c d=>rw[Qe2 x y h1 c,Oo a q h2 d]
end
section
variable{prog:Gk}{w:Gv}
mutual
theorem Qex:∀(k:KD){A:TL}{E:Value->Gj->Prop}{s:Gj}{v:Value}{j:List Gc}{Q:Int->Gj->Prop},A.units+k.depth<DP->Lw s.heap v k.toD j->Q (k.hash w) {s with toks:=s.toks+k.draws}->
  wpAny (GY prog w) A (pyHash v) Q E s
 |.int i,A,E,s,v,j,Q,_,r,h=>by simp only[KD.toD]at r;cases r;simp only[KD.hash,KD.draws]at h;exact Fc h
 |.str x,A,E,s,v,j,Q,_,r,h=>by simp only[KD.toD]at r;cases r;simp only[KD.hash,KD.draws]at h;exact Fd h
 |.tup xs,A,E,s,v,j,Q,D,r,h=>by
  simp only[KD.toD]at r;simp only[KD.depth]at D;simp only[KD.hash,KD.draws]at h;obtain⟨a,o,u,n,rfl,z,C,hd,hi⟩:=Il r;have p:s.TypeIs (.ref a) "tuple":=⟨o,z,C⟩;have m:=λ(k:KD)(y:k∈xs)=>@Qdu xs k y;unfold pyHash;first|unfold pyHashByItsType|skip
  first|refine Gb (wpAny_cRoomFor_or (.inr (by omega)) ?_)|skip
  refine Gb (DL p F.slot_tuple_hash.lookup ?_);show wpAny _ _ (if(Ga (Value.builtin "tuple.__hash__")==Ga Value.none)=Gf then _ else _) Q E s;rw[Gh (by rw[beq_builtin_none];exact Gw)];refine Gb (DL p F.slot_tuple_hash.lookup ?_);show wpAny _ _ (callSpecialIfBoundUnlessNone? (.ref a) "__hash__" _>>=_) Q E s;refine Gb (wpAny_callSpecialIfBoundUnlessNone?_slot p F.slot_tuple_hash (Tu F.slot_tuple_hash p F.entry_tuple_hash ?_ (F.args_tuple_hash_1 _)));show wpAny _ _ (Builtin.Tuple.tupleItemsOf (.ref a)>>=_) _ _ s;refine Gb (wpAny_tupleItemsOf z hd ?_);refine Gb ?_;rw[<-EE];refine Fo _
   (λXy(b:Array Int)s'=>∃done left f,xs=done++left/\EZ s.heap Xy (Ug left) f/\b.toList=V0 w done/\s'={s with toks:=s.toks+Xp done})
   _ ?_ ?_ _ _ ⟨[],xs,j,Xb,hi,Xb,Xb⟩
  ·rintro x Xy b s' ⟨done,left,f,rfl,g,hb,rfl⟩;cases left with
   |nil=>simp only[Ug]at g;cases g
   |cons k e=>
    simp only[Ug]at g;cases g with
    |cons h1 t=>
     have y:=O5 (xs:=done++k::e) (x:=k) (by simp);refine Gb (m k (by simp) (A:=A.in1) (s:={s with toks:=s.toks+Xp done}) (by show A.units+1+k.depth<DP;omega) h1 ?_);have B:s.toks+Xp done+k.draws=s.toks+Xp (done++[k]):=by rw[Ib];simp only[Xp];omega
     have fin:∃c d l,done++k::e=c++d/\EZ s.heap Xy (Ug d) l/\(b.push (k.hash w)).toList=V0 w c/\({s with toks:=s.toks+Xp done+k.draws}:Gj)={s with toks:=s.toks+Xp c}:=
      ⟨done++[k],e,_,by simp,t,by simp[hb,Qcj],by rw[B]⟩
     first
      |exact Ge fin
      |exact Gb (Ge (Ge fin))
  ·rintro b s' ⟨done,left,f,rfl,g,hb,rfl⟩;cases left with
   |cons k e=>simp only[Ug]at g;cases g
   |nil=>
    rw[List.append_nil]at h;show wpAny _ _ (retInt (Builtin.Tuple.tupleHashOf b.toList)) _ _ _;rw[hb];refine Fw ?_;show wpAny _ _ (if(decide (-(2:Int)^63<=Builtin.Tuple.tupleHashOf (V0 w done))&&decide (Builtin.Tuple.tupleHashOf (V0 w done)<2^63))=Gf then _ else _) Q E _;unfold reduceHash at h;by_cases q:(decide (-(2:Int)^63<=Builtin.Tuple.tupleHashOf (V0 w done))&&decide (Builtin.Tuple.tupleHashOf (V0 w done)<2^63))=Gf
    ·rw[Gm q];rw[Gm q]at h;exact Ge (by simpa[MA]using h)
    ·rw[Gh q];rw[Gh q]at h;exact Gb (ET (Ge (by simpa[MA]using h)))
theorem Qdu:∀(xs:List KD)(k:KD),k∈xs->∀{A:TL}{E:Value->Gj->Prop}{s:Gj}{v:Value}{b:List Gc}{Q:Int->Gj->Prop},A.units+k.depth<DP->Lw s.heap v k.toD b->Q (k.hash w) {s with toks:=s.toks+k.draws}->
  wpAny (GY prog w) A (pyHash v) Q E s
 |[],_,h=>by simp at h
 |x::r,k,h=>by
  intro h1 h2 a;by_cases e:k=x
  ·rw[e]at h1 h2 a;exact Qex x h1 h2 a
  ·exact Qdu r k ((List.mem_cons.mp h).resolve_left e) h1 h2 a
end
mutual
theorem Qiz:∀(k:KD)(n:Nat){A:TL}{E:Value->Gj->Prop}{s:Gj}{v:Value}{d:List Gc}{Q:Bool->Gj->Prop},k.depth<=n->Lw s.heap v k.toD d->Q Gf s->wpAny (GY prog w) A (eqIsQuiet n v) Q E s
 |.int i,n,A,E,s,v,d,Q,_,r,h=>by simp only[KD.toD]at r;cases r;rw[L4 n rfl];exact Ge h
 |.str x,n,A,E,s,v,d,Q,_,r,h=>by simp only[KD.toD]at r;cases r;rw[L4 n rfl];exact Ge h
 |.tup xs,0,A,E,s,v,d,Q,l,r,h=>by simp[KD.depth]at l
 |.tup xs,n+1,A,E,s,v,d,Q,l,r,h=>by
  simp only[KD.toD]at r;simp only[KD.depth]at l;obtain⟨a,o,c,m,rfl,y,B,hd,hi⟩:=Il r;have t:s.TypeIs (.ref a) "tuple":=⟨o,y,B⟩;have f:=λ(k:KD)(u:k∈xs)(n:Nat)=>@Qe6 xs k u n;unfold eqIsQuiet;refine Gb (DL t F.slot_tuple_eq.lookup ?_);show wpAny _ _ (isInstance (.ref a) (.type "tuple")>>=_) _ _ s;refine Gb (Ez t isSubtype_tuple_tuple ?_);simp only[MC,TM,Ds];refine Gb (Dc y hd ?_);refine Gb ?_;show wpAny _ _ (forIn c _ _) _ _ s;rw[<-EE];refine Fo _ (λXy r s'=>r.1=Gg/\s'=s/\∃left e,(∀k∈left,k∈xs)/\EZ s.heap Xy (Ug left) e) _ ?_ ?_ _ _ ⟨Xb,Xb,xs,d,λ_ z=>z,hi⟩
  ·rintro v Xy r s' ⟨p,rfl,left,e,b,g⟩;cases left with
   |nil=>simp only[Ug]at g;cases g
   |cons k q=>
    simp only[Ug]at g;cases g with
    |cons h1 j=>have u:=O5 (b k (by simp));refine Gb (f k (b k (by simp)) n (by omega) h1 ?_);simp only[MC,TM,Ds];exact Ge ⟨Xb,Xb,q,_,λz hz=>b z (List.mem_cons_of_mem _ hz),j⟩
  ·rintro⟨C,D⟩ s' ⟨p,rfl,_⟩;simp only at p;subst p;exact Ge h
theorem Qe6:∀(xs:List KD)(k:KD),k∈xs->∀(n:Nat){A:TL}{E:Value->Gj->Prop}{s:Gj}{v:Value}{b:List Gc}{Q:Bool->Gj->Prop},k.depth<=n->Lw s.heap v k.toD b->Q Gf s->wpAny (GY prog w) A (eqIsQuiet n v) Q E s
 |[],_,h=>by simp at h
 |x::r,k,h=>by
  intro n _ _ _ _ _ _ h1 h2 a;by_cases e:k=x
  ·rw[e]at h1 h2;exact Qiz x n h1 h2 a
  ·exact Qe6 r k ((List.mem_cons.mp h).resolve_left e) n h1 h2 a
end
def Vg(prog:Gk)(w:Gv):Nu prog w KD where
 is:=λh k a=>(∃c,Lw h (.ref a) k.toD c)/\k.toD.canLay0=Gf/\k.depth<=8
 hash:=KD.hash w
 draws:=KD.draws
 room:=λA=>A.units+10<DP
 inj:=λ⟨⟨_,h1⟩,_⟩⟨⟨_,h2⟩,_⟩=>Qe2 _ _ h1 h2
 keeps:=λ⟨⟨c,h1⟩,h2,d⟩e hd f=>⟨⟨c,Qfa e hd f h1 h2⟩,h2,d⟩
 pyHash:=λ{A E s k a Q}g⟨⟨c,h1⟩,_,d⟩h=>Qex k (by omega) h1 h
 eqBool:=λ{A E s x y a b Q}g⟨⟨c,h1⟩,h2,d⟩⟨⟨bs,i⟩,j,l⟩h=>M3 x.toD y.toD A s _ _ _ _ h1 i h2 j (by rw[Om,Om];omega) prog w E Q (by rw[Qkq];exact h)
 quiet:=λ{A E s k a Q}⟨⟨c,h1⟩,_,d⟩h=>Qiz k 8 d h1 h
end
end L2
namespace PySem
def Heap.Jm(h:Heap)(d:Gc)(es:Array Eo)(ep:Nat):Prop:=∃o,h.get? d=Ga o/\o.ExactDict/\o.data=.dict es ep
section
variable{prog:Gk}{w:Gv}{A:TL}{E:Value->Gj->Prop}{s:Gj}{d:Gc}{es:Array Eo}{ep:Nat}
theorem Heap.Jm.typeIs(x:s.heap.Jm d es ep):s.TypeIs (.ref d) "dict":=let⟨o,ho,hc,_⟩:=x;⟨o,ho,hc.1⟩
theorem Heap.Jm.at{h h':Heap}(x:h.Jm d es ep)(e:∀o,h.get? d=Ga o->h'.get? d=Ga o):h'.Jm d es ep:=let⟨o,ho,r⟩:=x;⟨o,e _ ho,r⟩
theorem Heap.Jm.lt{h:Heap}(x:h.Jm d es ep):d<h.objs.size:=let⟨_,ho,_⟩:=x;Heap.lt_size ho
theorem Qqq{Q:Value->Gj->Prop}(hd:(d==T8)=Gq)(b:s.heap.Jm d es ep)(c:(es.size:Int)<2^63)
  (h:Q (.int es.size (s.toks+1)) {s with toks:=s.toks+1+1}):wpAny (GY prog w) A (call (.builtin "len") [.ref d]) Q E s:=by
 obtain⟨o,e,f,a⟩:=id b;refine Sn kind_len plain_len entry_len (args_len1 _) ?_;unfold Builtin.«len»;refine Gb (m:=oneArg "len" _) (Ge ?_);refine Gb (m:=callSpecial? (.ref d) (Dx "__len__")) (TR (name:=Dx "__len__") b.typeIs F.slot_dict_len
  (Tu F.slot_dict_len b.typeIs F.entry_dict_len ?_ (F.args_dict_len_1 _)))
 show wpAny _ _ (dictSize d>>=_) _ _ s;unfold dictSize;refine Gb (Gb (Dy e a (Ge ?_)));show wpAny _ _ (Builtin.Dict.pendingCount d>>=_) _ _ s;refine Gb (wpAny_pendingCount_other hd ?_);refine Fw ?_;rw[L6];show wpAny _ _ _ _ _ {s with toks:=s.toks+1};refine Gb (T3 (Ge ?_));refine Gb (Sw ?_);show wpAny _ _ (if((es.size:Nat):Int)<0 then _ else _) _ _ _;rw[Gh (by omega)];show wpAny _ _ (if((es.size:Nat):Int)>=2^63 then _ else _) _ _ _;rw[Gh (by omega)];exact Gb (wpAny_mkInt (Ge ⟨_,Xb,h⟩))
theorem Qnj{Q:Value->Gj->Prop}(hd:(d==T8)=Gq)(c:s.heap.Jm d es ep)
  (f:Q (.ref s.heap.objs.size) {s with heap:=s.heap.push {cls:=.type "dict_keyiterator",data:=.fields #[.ref d,.int 0 0,.int es.size 0,.int ep 0]}}):
  wpAny (GY prog w) A (pyIter (.ref d)) Q E s:=by
 obtain⟨o,e,g,a⟩:=id c;have b:=c.typeIs;refine Sx b F.slot_dict_iter (Tu F.slot_dict_iter b F.entry_dict_iter ?_ (F.args_dict_iter_1 _));unfold Builtin.«dict.__iter__»;refine Gb ?_;unfold Builtin.Dict.dictSlotNone;refine Gb (EO b ?_);show wpAny _ _ (pure (Value.ref d)) _ _ s;refine Ge ?_;show wpAny _ _ (Builtin.Dict.showsAll d>>=_) _ _ s;unfold Builtin.Dict.showsAll;rw[Gh (by rw[hd];exact Gw)];refine Gb (Ge ?_);refine Gb (Dy e a ?_);refine Gb (Ej e a ?_);refine Gb (Tv (Ge ⟨_,Xb,"dict_keyiterator",_,⟨_,Heap.get?_push_size _ Xb,Xb⟩,F.slot_dict_keyiterator_next.lookup,?_⟩));simpa[rawInt]using f
theorem Qor{it:Gc}{i:Nat}{e:Eo}{Q:Option Value->Gj->Prop}(a:s.heap.IsKeyIter it d i es.size ep)(r:s.heap.Jm d es ep)(k:es[i]?=Ga e)
  (m:∀h',h'.IsKeyIter it d (i+1) es.size ep->Heap.SameBut it s.heap h'->Q (Ga e.key) {s with heap:=h'}):
  wpAny (GY prog w) A (pyNext (.ref it)) Q E s:=by
 obtain⟨o,l,n,hd⟩:=id a;obtain⟨od,g,p,f⟩:=id r;unfold pyNext;refine Gb (EW (TR (name:=Dx "__next__") a.typeIs F.slot_dict_keyiterator_next
  (Tu F.slot_dict_keyiterator_next a.typeIs F.entry_dict_keyiterator_next ?_ (F.args_dict_keyiterator_next_1 _))))
 refine Gb (Ge ?_);refine Gb ?_;refine Gb ?_;first|refine Gb (DF a.typeIs (Ge ?_))|refine Gb (D2 a.typeIs (Ge ?_))
 refine Gb (Sj l hd ?_);have j:Builtin.Dict_items.ownsTuple "dict_keyiterator"=Gq:=by decide
 simp only[j,TM,Ds];show wpAny _ _ (if(Value.ref d==Value.none)=Gf then _ else _) _ _ s;rw[Gh (show¬((Value.ref d==Value.none)=Gf)from Gw)];refine Gb (Ge ?_);refine Gb (Dy g f ?_);rw[Gh (by simp)];refine Gb (Ge ?_);refine Gb (Ej g f ?_);rw[Gh (by simp)];refine Ge ?_;have c:i<es.size:=by
  rcases Tk i es.size with h|h
  ·exact h
  ·rw[Dh h]at k;cases k
 have q:es[i]=e:=by rw[Tf c]at k;exact Tj k
 simp only[show¬((i:Int)<0)from by omega,Ds,Dm,Tf c];refine Gb ?_;first|refine Gb (DF a.typeIs (Ge ?_))|refine Gb (D2 a.typeIs (Ge ?_))
 refine Gb (La a.typeIs ?_);show wpAny _ _ (setField (.ref it) 1 (rawInt ((i:Int)+1))>>=_) _ _ s;refine Gb (Ev l hd (by simp) ?_);have b:(s.heap.update it (EX (·.setIfInBounds 1 (rawInt ((i:Int)+1))))).IsKeyIter it d (i+1) es.size ep:=
  ⟨_,Heap.get?_update_self _ l (ER (DS hd _)),(Sy ..).trans n,by rw[DS hd];simp[rawInt]⟩
 refine Gb (T3 ?_);refine Gb (La (s:={s with heap:=s.heap.update it (EX (·.setIfInBounds 1 (rawInt ((i:Int)+1))))}) b.typeIs ?_);show wpAny _ _ (pure es[i].key) _ _ _;rw[q];exact Ge (Ge ⟨_,Xb,Ge (m _ b (Heap.SameBut.update ..))⟩)
theorem Qrq{it:Gc}{i:Nat}{Q:Option Value->Gj->Prop}(n:A.handled=Gg)(c:s.heap.IsKeyIter it d i es.size ep)(p:s.heap.Jm d es ep)(h:es.size<=i)
  (k:∀h',Heap.ExtBut it s.heap h'->Q Gg {s with heap:=h'}):wpAny (GY prog w) A (pyNext (.ref it)) Q E s:=by
 obtain⟨o,j,q,hd⟩:=id c;obtain⟨od,f,l,e⟩:=id p;unfold pyNext;refine Gb (EW (TR (name:=Dx "__next__") c.typeIs F.slot_dict_keyiterator_next
  (Tu F.slot_dict_keyiterator_next c.typeIs F.entry_dict_keyiterator_next ?_ (F.args_dict_keyiterator_next_1 _))))
 refine Gb (Ge ?_);refine Gb ?_;refine Gb ?_;first|refine Gb (DF c.typeIs (Ge ?_))|refine Gb (D2 c.typeIs (Ge ?_))
 refine Gb (Sj j hd ?_);have g:Builtin.Dict_items.ownsTuple "dict_keyiterator"=Gq:=by decide
 simp only[g,TM,Ds];show wpAny _ _ (if(Value.ref d==Value.none)=Gf then _ else _) _ _ s;rw[Gh (show¬((Value.ref d==Value.none)=Gf)from Gw)];refine Gb (Ge ?_);refine Gb (Dy f e ?_);rw[Gh (by simp)];refine Gb (Ge ?_);refine Gb (Ej f e ?_);rw[Gh (by simp)];refine Ge ?_;simp only[show¬((i:Int)<0)from by omega,Ds,Dm,Dh h];refine Gb ?_;first|refine Gb (DF c.typeIs (Ge ?_))|refine Gb (D2 c.typeIs (Ge ?_))
 show wpAny _ _ (setField (.ref it) 0 .none>>=_) _ _ s;refine Gb (Ev j hd (by simp) ?_);show wpAny _ _ (newExc (.type "StopIteration") []>>=_) _ _ _;refine Gb ?_;simp only[newExc,newTuple];refine Gb (Tv ?_ (by size_fits));refine Gb (m:=firstArgMember _ _) (Fs (a:=Value.none) (by first|rfl|(simp only[firstArgMember];rfl)) ?_);refine Tv ?_ (by size_fits);simp only[raiseNew];refine Gb (Lx ?_);rw[show A.in1.handled=Gg from n];refine Gb (Ge (Ft ?_));refine Gb (Ez (T:="StopIteration") (b:=Gf) ⟨_,Heap.get?_push_size _ Xb,Xb⟩ Lj ?_);exact Ge (k _ (((Heap.SameBut.update ..).extBut.push _).push _))
theorem Walks.Qun(m:A.handled=Gg)(I d:Gc)(j:d≠I)(es:Array Eo)(ep:Nat):
  Walks prog w A I [I,d] [I] es.size (λi v=>∃e,es[i]?=Ga e/\v=e.key) (λi h=>h.IsKeyIter I d i es.size ep/\h.Jm d es ep) where
 sub:=λb hb=>by simp at hb;simp[hb]
 frame:=λ_ _ _ st k=>⟨st.1.at λo e=>k I (by simp) o e,st.2.at λo e=>k d (by simp) o e⟩
 item:=λi s Q E hi st a=>by have l:es[i]?=Ga es[i]:=Tf hi;refine Qor st.1 st.2 l λh' c f=>?_;exact a _ h' s.toks ⟨_,l,Xb⟩ ⟨c,st.2.at λo e=>(f.2 d j).trans e⟩ λb o hb e=>f.extBut b o (λh=>hb (by simp[h])) e
 done:=λs Q E st a=>Qrq m st.1 st.2 (Gn _) λh' g=>a h' s.toks λb o hb e=>g b o (λh=>hb (by simp[h])) e
 self:=λ_ _ _ _ st a=>Ll st.1 a
theorem Qtx(lo:(d==T8)=Gq):FI prog w "dict" d d es.size (λi v=>∃e,es[i]?=Ga e/\v=e.key) (λh=>h.Jm d es ep) where
 type:=λ_ a=>a.typeIs
 there:=λ_ a=>⟨a.lt,a.lt⟩
 keep:=λ_ _ a f=>a.at λo e=>f d (.inl Xb) o e
 notList:=by decide
 notTuple:=by decide
 hint:=λ_ _ _ _ a b=>M8 a.typeIs b
 iter:=λ_ _ c a=>⟨_,_,(λ_ _ b=>Qnj lo a b),Walks.Qun c _ d (Tc a.lt) es ep,⟨⟨_,Heap.get?_push_size _ Xb,Xb,Xb⟩,a.at λo e=>Heap.get?_push_of_some _ e⟩⟩
end
end PySem
namespace L2
open PySem PySem.Spec PyProof.Rows
variable{k:KD}
abbrev KE:=KD×Gc×V
variable{kvs:List KE}
def Yd(kvs:List KE)(k:KD):Option V:=(kvs.find? λp=>decide (p.1=k)).map (·.2.2)
def Wq(kvs:List KE)(k:KD)(b:Gc)(v:V):List KE:=if(Yd kvs k).isSome=Gf then kvs.map (λp=>if p.1=k then(p.1,p.2.1,v)else p)else kvs++[(k,b,v)]
abbrev KX:List KE->List (KD×Gc×Value)->Prop:=Paired λp q=>p.1=q.1/\p.2.1=q.2.1/\RelV p.2.2 q.2.2
def DKD(P:Gk)(w:Gv)(a:Gc)(kvs:List KE)(h:Heap):Prop:=
 kvs.length<=Gi/\(a==T8)=Gq/\∃xs,KX kvs xs/\∃o es ep,h.get? a=Ga o/\o.ExactDict/\o.data=.dict es ep/\es.toList=xs.map (entryOfKey (Vg P w))/\(xs.map (·.1)).Nodup
def Um(P:Gk)(w:Gv)(a:Gc)(kvs:List KE):HO:=.ext (DKD P w a kvs)
def Ub(H:Hp)(kvs:List KE):Prop:=∀p∈kvs,Dt H (.ref p.2.1) p.1.toD/\p.1.toD.canLay0=Gf/\p.1.depth<=8
def Qai(H:Hp)(b:Gc)(k:KD):Prop:=Dt H (.ref b) k.toD/\k.toD.canLay0=Gf/\k.depth<=8
theorem Qkb{P:Gk}{w:Gv}{H:Hp}{h:Heap}{a:Gc}(x:DKD P w a kvs h):Z1 P w H h a (Um P w a kvs):=by
 refine⟨x,?_,?_⟩
 ·obtain⟨_,_,_,_,o,_,_,e,_⟩:=x;exact⟨o,e⟩
 ·rintro h1 h2 ⟨b,c,xs,r,o,es,ep,e,q⟩ k;exact⟨b,c,xs,r,o,es,ep,k o e,q⟩
theorem KX.val{xs:List (KD×Gc×Value)}(r:KX kvs xs)(k:KD):Jq (Yd kvs k) ((atKey xs k).map (·.2)):=by
 induction r with
 |nil=>exact TC
 |@cons p q ps d h t f=>
  obtain⟨h1,_,h2⟩:=h;by_cases e:p.1=k
  ·have a:q.1=k:=h1.symm.trans e;have b:atKey (q::d) k=Ga q.2:=by simp[atKey,List.find?_cons,a]
   have c:Yd (p::ps) k=Ga p.2.2:=by simp[Yd,List.find?_cons,e]
   rw[c,b];exact h2
  ·have a:¬q.1=k:=λz=>e (h1.trans z);have b:atKey (q::d) k=atKey d k:=by simp[atKey,List.find?_cons,a]
   have c:Yd (p::ps) k=Yd ps k:=by simp[Yd,List.find?_cons,e]
   rw[c,b];exact f
theorem KX.put{xs:List (KD×Gc×Value)}(r:KX kvs xs)(k:KD)(b:Gc){v:V}{u:Value}(a:RelV v u):KX (Wq kvs k b v) (storedH xs k b u):=by
 have e:(Yd kvs k).isSome=(atKey xs k).isSome:=by rw[(r.val k).Wb,DY]
 unfold Wq storedH;rw[e];by_cases q:(atKey xs k).isSome=Gf
 ·rw[Gm q,Gm q];clear q e;induction r with
  |nil=>exact .nil
  |@cons p q ps f h t d=>
   rw[List.map_cons,List.map_cons];refine .cons ?_ d;obtain⟨h1,h2,c⟩:=h;unfold putAt;by_cases e:p.1=k
   ·rw[Gm e,Gm (h1.symm.trans e)];exact⟨h1,h2,a⟩
   ·rw[Gh e,Gh (λz=>e (h1.trans z))];exact⟨h1,h2,c⟩
 ·rw[Gh q,Gh q];exact DE r ⟨Xb,Xb,a⟩
theorem Qcl(kvs:List KE)(k:KD)(b:Gc)(v:V):(Wq kvs k b v).length<=kvs.length+1:=by
 unfold Wq;split
 ·rw[List.length_map];omega
 ·rw[List.length_append,List.length_singleton];omega
theorem Qjc(b:Gc)(v:V)(h:Yd kvs k=Gg):Wq kvs k b v=kvs++[(k,b,v)]:=by unfold Wq;rw[h];exact Gh (by decide)
theorem Qje{u:V}(b:Gc)(v:V)(h:Yd kvs k=Ga u):Wq kvs k b v=kvs.map (λp=>if p.1=k then(p.1,p.2.1,v)else p):=by unfold Wq;rw[h];exact Gm rfl
theorem Yi{p:KE}{r:List KE}(e:p.1=k):Yd (p::r) k=Ga p.2.2:=by simp[Yd,List.find?_cons,e]
theorem Yl{p:KE}{r:List KE}(e:¬p.1=k):Yd (p::r) k=Yd r k:=by simp[Yd,List.find?_cons,e]
theorem Qan(k j:KD)(b:Gc)(y:V):∀kvs:List KE,Yd kvs k=Gg->Yd (kvs++[(k,b,y)]) j=if j=k then Ga y else Yd kvs j
 |[],_=>by
  by_cases e:k=j
  ·rw[Gm e.symm];exact Yi (p:=(k,b,y)) e
  ·rw[Gh (λz=>e z.symm)];exact Yl (p:=(k,b,y)) e
 |p::r,a=>by
  rw[List.cons_append];have c:¬p.1=k:=λz=>by rw[Yi z]at a;cases a
  rw[Yl c]at a;have d:=Qan k j b y r a;by_cases e:p.1=j
  ·rw[Yi e,Yi e,Gh (λz=>c (e.trans z))]
  ·rw[Yl e,Yl e,d]
theorem Qio(k j:KD)(y:V):∀kvs:List KE,Yd (kvs.map λp=>if p.1=k then(p.1,p.2.1,y)else p) j=(Yd kvs j).map λx=>if j=k then y else x
 |[]=>rfl
 |p::r=>by
  have a:=Qio k j y r;rw[List.map_cons];by_cases h:p.1=k
  ·rw[Gm h];by_cases e:p.1=j
   ·rw[Yi (p:=(p.1,p.2.1,y)) e,Yi e,TZ,Gm (e.symm.trans h)]
   ·rw[Yl (p:=(p.1,p.2.1,y)) e,Yl e,a]
  ·rw[Gh h];by_cases e:p.1=j
   ·rw[Yi (p:=p) e,Yi e,TZ,Gh (λz=>h (e.trans z))]
   ·rw[Yl (p:=p) e,Yl e,a]
theorem Js(kvs:List KE)(k j:KD)(b:Gc)(y:V):Yd (Wq kvs k b y) j=if j=k then Ga y else Yd kvs j:=by
 cases q:Yd kvs k with
 |none=>rw[Qjc b y q,Qan k j b y kvs q]
 |some u=>
  rw[Qje b y q,Qio];by_cases e:j=k
  ·rw[Gm e,e,q,TZ,Gm rfl]
  ·rw[Gh e];cases Yd kvs j with
   |none=>rfl
   |some x=>rw[TZ,Gh e]
theorem Qoz(kvs:List KE)(k:KD)(b:Gc)(v:V):∀p∈Wq kvs k b v,(p.1=k/\p.2.1=b)\/∃u,(p.1,p.2.1,u)∈kvs:=λp a=>by
 unfold Wq at a;split at a
 ·obtain⟨q,c,e⟩:=List.mem_map.mp a;right;split at e
  ·subst e;exact⟨q.2.2,c⟩
  ·subst e;exact⟨q.2.2,c⟩
 ·rcases List.mem_append.mp a with h|h
  ·exact .inr ⟨p.2.2,h⟩
  ·rw[List.mem_singleton]at h;subst h;exact .inl ⟨Xb,Xb⟩
theorem Ub.put{H:Hp}{b:Gc}{v:V}(h:Ub H kvs)(d:Qai H b k):Ub H (Wq kvs k b v):=λp e=>by
 rcases Qoz kvs k b v p e with⟨a,c⟩|⟨u,f⟩
 ·rw[a,c];exact d
 ·exact h (p.1,p.2.1,u) f
section
variable{X:Cx}{pins:List (Gc×Ee)}{σ:St}{H:Hp}{s:Gj}{a b:Gc}{kvs:List KE}{k:KD}
theorem Qai.is(I:Inv X pins σ H s)(h:Qai H b k):(Vg X.prog X.w).is s.heap k b:=by obtain⟨h1,h2,c⟩:=h;obtain⟨a,r⟩:=h1.reads I.Zw (u:=.ref b) rfl;exact⟨⟨a,r⟩,h2,c⟩
theorem Qaj(I:Inv X pins σ H s)(e:H a=Ga (Um X.prog X.w a kvs)):DKD X.prog X.w a kvs s.heap:=(I.Zw a _ e).1
theorem Qho(I:Inv X pins σ H s)(e:H a=Ga (Um X.prog X.w a kvs))(i:Ub H kvs):kvs.length<=Gi/\(a==T8)=Gq/\∃xs,KX kvs xs/\s.heap.DictOfH (Vg X.prog X.w) a xs:=by
 obtain⟨z,y,xs,r,o,es,ep,h1,h2,d,f,g⟩:=Qaj I e;refine⟨z,y,xs,r,o,es,ep,h1,h2,d,f,λx b=>?_,g⟩;have all:∀{l:List KE}{m:List (KD×Gc×Value)},KX l m->(∀p∈l,p∈kvs)->∀x∈m,(Vg X.prog X.w).is s.heap x.1 x.2.1:=by
  intro l m q;induction q with
  |nil=>intro _ x b;exact nomatch b
  |@cons p q ps n c t k=>
   intro sub x b;rcases List.mem_cons.mp b with e|b
   ·subst e;rw[<-c.1,<-c.2.1];exact Qai.is I (i p (sub p (by simp)))
   ·exact k (λp j=>sub p (List.mem_cons_of_mem _ j)) x b
 exact all r (λ_ h=>h) x b
end
def Qkw(P:Gk)(w:Gv):TE:=λ_ H Q=>∀p,H p=Gg->Q (.ref p) (upd H p (Um P w p []))
structure DH(P:Gk)(w:Gv)(H:Hp)(d:Gc)(kvs:List KE):Prop where
 at_:H d=Ga (Um P w d kvs)
 keys:Ub H kvs
section
variable{X:Cx}
theorem Oj{pos:SW}:PE X (.Dict [] [] pos) (Qkw X.prog X.w):=λpins s σ H Q I h=>
 SI ⟨.ref s.heap.objs.size,_,I.laid (a:=s.heap.objs.size) (o:=Um X.prog X.w s.heap.objs.size []) (t':=s.toks) (λ_ _ q=>Heap.get?_push_of_some _ q) (Gn _)
  (Qkb ⟨Gx _,Dz.mpr (Gp (Tc I.big)),[],.nil,_,#[],0,Heap.get?_push_size _ Xb,⟨Xb,Xb,Xb⟩,Xb,Xb,List.nodup_nil⟩),Xb,h _ (I.Zw.fresh (Gn _))⟩
def Qs3(P:Gk)(w:Gv)(f:Bool->Bool):R2:=λx y H Q=>∃b d k kvs,x=.ref b/\y=.ref d/\DH P w H d kvs/\Qai H b k/\Q (.bl (f (Yd kvs k).isSome)) H
theorem Q0y(i:X.A.units+64<DP):Oz X (Do .In) (Qs3 X.prog X.w λb=>b):=by intro pins s σ H x y v u Q I f g h;obtain⟨b,d,k,kvs,rfl,rfl,D,c,q⟩:=h;cases(show v=Value.ref b from f);cases(show u=Value.ref d from g);obtain⟨z,hd,xs,rel,a⟩:=Qho I D.at_ D.keys;refine My (knd:=Vg X.prog X.w) (show X.A.units+1+10<DP by omega) (c.is I) hd a ?_;have e:=(rel.val k).Wb;rw[DY]at e;rw[<-e];exact⟨.bl _,H,I.tok _,Xb,q⟩
theorem Qds(i:X.A.units+64<DP):Oz X (Do .NotIn) (Qs3 X.prog X.w λb=>!b):=by intro pins s σ H x y v u Q I f g h;obtain⟨b,d,k,kvs,rfl,rfl,D,c,q⟩:=h;cases(show v=Value.ref b from f);cases(show u=Value.ref d from g);obtain⟨z,hd,xs,rel,a⟩:=Qho I D.at_ D.keys;refine Fl (knd:=Vg X.prog X.w) (show X.A.units+1+10<DP by omega) (c.is I) hd a ?_;have e:=(rel.val k).Wb;rw[DY]at e;rw[<-e];exact⟨.bl _,H,I.tok _,Xb,q⟩
def Qhp(P:Gk)(w:Gv):R2:=λx y H Q=>∃d b k kvs v,x=.ref d/\y=.ref b/\DH P w H d kvs/\Qai H b k/\Yd kvs k=Ga v/\Q v H
theorem Uq(m:X.A.units+64<DP):IxR X (Qhp X.prog X.w):=by
 intro value a pins s σ H x y v u Q I j l h g;obtain⟨d,b,k,kvs,r,rfl,rfl,D,f,i,q⟩:=h;cases(show v=Value.ref d from j);cases(show u=Value.ref b from l);obtain⟨z,hd,xs,rel,c⟩:=Qho I D.at_ D.keys;have rv:=rel.val k;rw[i]at rv;cases e:atKey xs k with
 |none=>rw[e]at rv;exact(show False from rv).elim
 |some p=>rw[e]at rv;refine EJ (x:=p.2) c.typeIs Sm.lookup ?_ g;exact LH (knd:=Vg X.prog X.w) (show X.A.units+1+10<DP by omega) (f.is I) c e ⟨Xb,r,H,I.tok _,rv,q⟩
def Qj4(P:Gk)(w:Gv):Qvl:=λo i v H Q=>∃d b k kvs,o=.ref d/\i=.ref b/\DH P w H d kvs/\Qai H b k/\kvs.length<Gi/\Q (upd H d (Um P w d (Wq kvs k b v)))
theorem Qdq(x:X.A.units+64<DP):Qyz X (Qj4 X.prog X.w):=by
 intro pins s σ H o i v ov p u Q I t r rv h;obtain⟨d,b,k,kvs,rfl,rfl,D,l,hz,q⟩:=h;cases(show ov=Value.ref d from t);cases(show p=Value.ref b from r);obtain⟨z,hd,xs,rel,e⟩:=Qho I D.at_ D.keys;have m:(Wq kvs k b v).length<=Gi:=by have:=Qcl kvs k b v;omega
 refine LI (knd:=Vg X.prog X.w) (hsz:=by rw[<-Gr rel];exact z) (show X.A.units+1+10<DP by omega) (l.is I) e λh' a n=>?_;obtain⟨ob,es,ep,c,h2,f,g,_,j⟩:=a;refine⟨_,Ip (ob:=Um X.prog X.w d (Wq kvs k b v)) I (by rw[D.at_];exact TC) n ⟨ob,c⟩ (Qkb ⟨m,hd,_,rel.put k b rv,ob,es,ep,c,h2,f,g,j⟩),q⟩
theorem Qjv:V3 X (.builtin "len") (λxs H Q=>∃d kvs,xs=[.ref d]/\DH X.prog X.w H d kvs/\Q (.int kvs.length) H):=by
 intro pins s σ H xs us Q I r h;obtain⟨d,kvs,rfl,D,q⟩:=h;obtain⟨u,rfl,c⟩:=vals1 r;cases(show u=Value.ref d from c);obtain⟨z,hd,ys,rel,o,es,ep,h1,h2,a,b,_⟩:=Qaj I D.at_;have g:=Rl;have e:es.size=kvs.length:=by rw[Gr rel,<-List.length_map (f:=entryOfKey (Vg X.prog X.w)),<-b,Tz]
 refine Qqq hd ⟨o,h1,h2,a⟩ (by omega) ?_;rw[e];exact⟨.int kvs.length,H,I.tok _,⟨_,Xb⟩,q⟩
theorem Qid(y:X.calm=Gf):V3 X (.type "list") (λxs H Q=>∃d kvs,xs=[.ref d]/\DH X.prog X.w H d kvs/\∀l,H l=Gg->Q (.ref l) (upd H l (.lst (kvs.map λp=>.ref p.2.1)))):=by
 intro pins s σ H xs us Q I r h;obtain⟨d,kvs,rfl,D,q⟩:=h;obtain⟨u,rfl,E⟩:=vals1 r;cases(show u=Value.ref d from E);obtain⟨z,hd,ys,rel,o,es,ep,h1,h2,x,k,nodup⟩:=Qaj I D.at_;have e:es.size=kvs.length:=by rw[Gr rel,<-List.length_map (f:=entryOfKey (Vg X.prog X.w)),<-k,Tz]
 refine Fp (Qtx (es:=es) (ep:=ep) hd) (I.ok.hd y) ⟨o,h1,h2,x⟩ (by rw[e];exact z) λh' tk a v kp hS b=>?_;have g:(kvs.map λp=>V.ref p.2.1).length<=Gi:=by rw[List.length_map];exact z
 have m:Zv (kvs.map λp=>V.ref p.2.1) a.toList:=by
  have j:es.toList.map (·.key)=ys.map λq=>Value.ref q.2.1:=by rw[k,List.map_map];rfl
  have c:a.toList=es.toList.map (·.key):=by
   refine List.ext_getElem? λi=>?_;by_cases hi:i<a.size
   ·obtain⟨en,A,m⟩:=b.2 i a[i] (Tf hi);rw[T5,Tf hi,List.getElem?_map,T5,A,m];rfl
   ·have hsz:=b.1;rw[List.getElem?_eq_none (by simp;omega),List.getElem?_eq_none (by simp;omega)]
  rw[c,j];clear q z k j c g e b D nodup;induction rel with
  |nil=>exact .nil
  |@cons p q ps F B t C=>rw[List.map_cons,List.map_cons];refine .cons ?_ C;show Value.ref q.2.1=Value.ref p.2.1;rw[B.2.1]
 have n:Inv X pins σ (upd H s.heap.objs.size (.lst (kvs.map λp=>.ref p.2.1))) {s with heap:=h',toks:=tk}:=
  I.laid (t':=tk) kp (Gn _) (show Z1 X.prog X.w _ h' _ (.lst _)from⟨g,a.toList,v,m,by rw[DZ];exact hS⟩)
 exact⟨.ref s.heap.objs.size,_,n,Xb,q _ (I.Zw.fresh (Gn _))⟩
end
end L2
namespace Sb
open PySem
variable{S:List Th}{L:Th->Int}{x y t:Th}{b d:Gc}{H H':Hp}{P:Gk}{w:Gv}
abbrev Tl:=List (Bool×Th×Th)
variable{tl:Tl}
mutual
inductive Cg(tl:Tl):Th->Th->Prop
 |refl (t:Th):Cg tl t t
 |symm {s t:Th}:Cg tl s t->Cg tl t s
 |trans {r s t:Th}:Cg tl r s->Cg tl s t->Cg tl r t
 |told {s t:Th}:(Gf,s,t)∈tl->Cg tl s t
 |cong {w:Ta} {ps qs:List Th}:CgL tl ps qs->Cg tl (.mk w ps) (.mk w qs)
inductive CgL(tl:Tl):List Th->List Th->Prop
 |nil:CgL tl [] []
 |cons {p q:Th} {ps qs:List Th}:Cg tl p q->CgL tl ps qs->CgL tl (p::ps) (q::qs)
end
theorem CgL.of{tl:Tl}:∀{ps c:List Th},ps.length=c.length->(∀(i:Nat)p q,ps[i]?=Ga p->c[i]?=Ga q->Cg tl p q)->CgL tl ps c
 |[],[],_,_=>.nil
 |[],_::_,h,_=>by simp at h
 |_::_,[],h,_=>by simp at h
 |p::ps,q::c,h,f=>.cons (f 0 p q rfl rfl) (CgL.of (by simpa using h) λi a b d hb=>f (i+1) a b (by simpa using d) (by simpa using hb))
mutual
theorem Cg.mono{tl e:Tl}(h:∀a b,(Gf,a,b)∈tl->(Gf,a,b)∈e):∀{s t:Th},Cg tl s t->Cg e s t
 |_,_,.refl t=>.refl t
 |_,_,.symm c=>.symm (Cg.mono h c)
 |_,_,.trans c d=>.trans (Cg.mono h c) (Cg.mono h d)
 |_,_,.told m=>.told (h _ _ m)
 |_,_,.cong c=>.cong (CgL.mono h c)
theorem CgL.mono{tl e:Tl}(h:∀a b,(Gf,a,b)∈tl->(Gf,a,b)∈e):∀{s t:List Th},CgL tl s t->CgL e s t
 |_,_,.nil=>.nil
 |_,_,.cons c d=>.cons (Cg.mono h c) (CgL.mono h d)
end
inductive Dv where
 |cls (i:Int)
 |node (w:Ta) (ds:List Dv)
open Classical in
noncomputable def act(S:List Th)(L:Th->Int)(w:Ta)(ds:List Dv):Dv:=
 if h:∃a,Th.mk w a∈S/\a.map (λq=>Dv.cls (L q))=ds then .cls (L (.mk w (EU h)))else .node w ds
mutual
noncomputable def ev(S:List Th)(L:Th->Int):Th->Dv
 |.mk w ps=>act S L w (evL S L ps)
noncomputable def evL(S:List Th)(L:Th->Int):List Th->List Dv
 |[]=>[]
 |p::r=>ev S L p::evL S L r
end
structure I8(tl:Tl)(S:List Th)(L:Th->Int):Prop where
 closed:∀w ps,Th.mk w ps∈S->∀p∈ps,p∈S
 told:∀a b,(Gf,a,b)∈tl->a∈S/\b∈S/\L a=L b
 cong:∀w ps qs,Th.mk w ps∈S->Th.mk w qs∈S->ps.map L=qs.map L->L (.mk w ps)=L (.mk w qs)
theorem Qma{L:Th->Int}:∀{ps a:List Th},ps.map (λq=>Dv.cls (L q))=a.map (λq=>Dv.cls (L q))->ps.map L=a.map L
 |[],[],_=>rfl
 |[],_::_,h=>by simp at h
 |_::_,[],h=>by simp at h
 |p::ps,q::a,h=>by simp only[List.map_cons,List.cons.injEq,Dv.cls.injEq]at h⊢;exact⟨h.1,Qma h.2⟩
mutual
theorem Qro{tl:Tl}{S:List Th}{L:Th->Int}(T:I8 tl S L):∀t:Th,t∈S->ev S L t=.cls (L t)
 |.mk w ps,h=>by
  have e:evL S L ps=ps.map (λq=>Dv.cls (L q)):=Qvy T ps (T.closed w ps h);have ex:∃a,Th.mk w a∈S/\a.map (λq=>Dv.cls (L q))=ps.map (λq=>Dv.cls (L q)):=⟨ps,h,Xb⟩;have b:ev S L (.mk w ps)=act S L w (evL S L ps):=by simp only[ev]
  rw[b,e];unfold act;rw[dif_pos ex];have c:=Lb ex;rw[T.cong w _ ps c.1 h (Qma c.2)]
theorem Qvy{tl:Tl}{S:List Th}{L:Th->Int}(T:I8 tl S L):∀ps:List Th,(∀p∈ps,p∈S)->evL S L ps=ps.map (λq=>Dv.cls (L q))
 |[],_=>by simp[evL]
 |p::r,h=>by simp only[evL,List.map_cons];rw[Qro T p (h p List.mem_cons_self),Qvy T r λq a=>h q (List.mem_cons_of_mem _ a)]
end
mutual
theorem Qik{tl:Tl}{S:List Th}{L:Th->Int}(T:I8 tl S L):∀{s t:Th},Cg tl s t->ev S L s=ev S L t
 |_,_,.refl _=>rfl
 |_,_,.symm c=>(Qik T c).symm
 |_,_,.trans c d=>(Qik T c).trans (Qik T d)
 |_,_,.told m=>by obtain⟨h1,h2,a⟩:=T.told _ _ m;rw[Qro T _ h1,Qro T _ h2,a]
 |_,_,.cong c=>by simp only[ev,Qqi T c]
theorem Qqi{tl:Tl}{S:List Th}{L:Th->Int}(T:I8 tl S L):∀{s t:List Th},CgL tl s t->evL S L s=evL S L t
 |_,_,.nil=>rfl
 |_,_,.cons c d=>by simp only[evL,Qik T c,Qqi T d]
end
theorem I8.complete(T:I8 tl S L)(a:x∈S)(b:y∈S)(c:Cg tl x y):L x=L y:=by have e:=Qik T c;rw[Qro T x a,Qro T y b]at e;injection e
structure Tells(tl:Tl)(S:List Th)(L:Th->Int):Prop where
 tab:I8 tl S L
 sound:∀x∈S,∀y∈S,L x=L y->Cg tl x y
theorem Tells.iff(T:Tells tl S L)(a:x∈S)(b:y∈S):L x=L y↔Cg tl x y:=⟨T.sound x a y b,T.tab.complete a b⟩
def mrg(L:Th->Int)(o n:Int):Th->Int:=λt=>if L t=o then n else L t
theorem Qrb{o n:Int}(h:L x=L y):mrg L o n x=mrg L o n y:=by unfold mrg;rw[h]
theorem Qo1{a b:Th}(g:a∈S)(hb:b∈S)(s:∀x∈S,∀y∈S,L x=L y->Cg tl x y)(c:Cg tl a b):∀x∈S,∀y∈S,mrg L (L a) (L b) x=mrg L (L a) (L b) y->Cg tl x y:=by
 intro x d y f e;unfold mrg at e;by_cases h1:L x=L a
 ·by_cases h2:L y=L a
  ·exact s x d y f (h1.trans h2.symm)
  ·rw[Gm h1,Gh h2]at e;exact .trans (s x d a g h1) (.trans c (s b hb y f e))
 ·by_cases h2:L y=L a
  ·rw[Gh h1,Gm h2]at e;exact .trans (s x d b hb e) (.trans (.symm c) (.symm (s y f a g h2)))
  ·rw[Gh h1,Gh h2]at e;exact s x d y f e
open PySem PySem.Spec PyProof.Rows L2
mutual
def kd:Th->KD
 |.mk w ps=>.tup (.str w::kds ps)
def kds:List Th->List KD
 |[]=>[]
 |p::r=>kd p::kds r
end
mutual
theorem Rc:∀t:Th,(kd t).toD=t.toD
 |.mk w ps=>by simp only[kd,KD.toD,Ug,Th.toD,Qmk ps]
theorem Qmk:∀ts:List Th,Ug (kds ts)=X7 ts
 |[]=>by simp[kds,Ug,X7]
 |t::r=>by simp only[kds,Ug,X7,Rc t,Qmk r]
end
theorem Qjk(t:Th):(kd t).depth=t.depth:=by rw[<-Om,Rc,Wc]
theorem Qb6{s:Th}(h:kd s=kd t):s=t:=by
 have e:s.toD=t.toD:=by rw[<-Rc,<-Rc,h]
 exact(Ja s t).mp (by rw[e];exact(Ja t t).mpr Xb)
mutual
theorem Qi1{H:Hp}:∀(t:Th){v:V},Dt H v t.toD->Yj H v t
 |.mk w ps,v,h=>by
  simp only[Th.toD]at h;cases h with
  |tup e r=>
   cases r with
   |cons h1 h2=>cases h1;exact .mk e (Qc9 ps h2)
theorem Qc9{H:Hp}:∀(ts:List Th){vs:List V},Re H vs (X7 ts)->Zq H vs ts
 |[],vs,h=>by simp only[X7]at h;cases h;exact .nil
 |t::r,vs,h=>by
  simp only[X7]at h;cases h with
  |cons h1 h2=>exact .cons (Qi1 t h1) (Qc9 r h2)
end
theorem Qge(h:Yj H (.ref b) t)(ok:t.ok=Gf)(dp:t.depth<=8):Qai H b (kd t):=⟨by rw[Rc];exact h.dt,by rw[Rc];exact Jw t ok,by rw[Qjk];exact dp⟩
mutual
theorem Qmj{H H':Hp}(e:Qt H H'):∀(k:KD){v:V},Dt H v k.toD->Dt H' v k.toD
 |.int i,v,h=>by simp only[KD.toD]at h⊢;cases h;exact .int i
 |.str x,v,h=>by simp only[KD.toD]at h⊢;cases h;exact .str x
 |.tup xs,v,h=>by
  simp only[KD.toD]at h⊢;cases h with
  |tup h1 h2=>exact .tup (e _ _ h1) (Qij e xs h2)
theorem Qij{H H':Hp}(e:Qt H H'):∀(a:List KD){vs:List V},Re H vs (Ug a)->Re H' vs (Ug a)
 |[],vs,h=>by simp only[Ug]at h⊢;cases h;exact .nil
 |k::r,vs,h=>by
  simp only[Ug]at h⊢;cases h with
  |cons h1 h2=>exact .cons (Qmj e k h1) (Qij e r h2)
end
theorem Zg(e:Qt H H'){kvs:List KE}(h:Ub H kvs):Ub H' kvs:=λp a=>⟨Qmj e p.1 (h p a).1,(h p a).2⟩
structure Num(P:Gk)(w:Gv)(H:Hp)(d:Gc)(S:List Th)(L:Th->Int):Prop where
 ex:∃kvs:List KE,H d=Ga (Um P w d kvs)/\Ub H kvs/\kvs.map (·.1)=S.map kd/\∀t∈S,Yd kvs (kd t)=Ga (.int (L t))
 ok:∀t∈S,t.ok=Gf/\t.depth<=8
theorem Num.at(N:Num P w H d S L):∃o,H d=Ga (.ext o):=by obtain⟨kvs,h,_⟩:=N.ex;exact⟨_,h⟩
theorem Num.keep(N:Num P w H d S L)(hd:∀o,H d=Ga o->H' d=Ga o)(e:Qt H H'):Num P w H' d S L:=by obtain⟨kvs,h1,h2,a,b⟩:=N.ex;exact⟨⟨kvs,hd _ h1,Zg e h2,a,b⟩,N.ok⟩
theorem Num.same(N:Num P w H d S L)(e:Qz H H'):Num P w H' d S L:=N.keep (λo h=>e d o h) (Qt.of e)
theorem Num.get{Q:VK}(N:Num P w H d S L)(a:t∈S)(h:Yj H (.ref b) t)(q:Q (.int (L t)) H):Qhp P w (.ref d) (.ref b) H Q:=by obtain⟨kvs,h1,h2,e,c⟩:=N.ex;exact⟨d,b,kd t,kvs,_,Xb,Xb,⟨h1,h2⟩,Qge h (N.ok t a).1 (N.ok t a).2,c t a,q⟩
theorem Num.put{P:Gk}{w:Gv}{H:Hp}{d b:Gc}{S:List Th}{L:Th->Int}{t:Th}{i:Int}{Q:Hp->Prop}(N:Num P w H d S L)(n:S.length<=1000000)(a:t∈S)(h:Yj H (.ref b) t)
  (q:∀H',(∀c o,H c=Ga o->c≠d->H' c=Ga o)->Num P w H' d S (λu=>if u=t then i else L u)->Q H'):Qj4 P w (.ref d) (.ref b) (.int i) H Q:=by
 obtain⟨kvs,h1,h2,f,g⟩:=N.ex;have lk:kvs.length=S.length:=by have:=congrArg List.length f;simpa using this
 have j:=Qge h (N.ok t a).1 (N.ok t a).2;refine⟨d,b,kd t,kvs,Xb,Xb,⟨h1,h2⟩,j,by rw[GQ];omega,q _ (λc o e k=>by rw[Qf k];exact e) ?_⟩;have m:Qt H (upd H d (Um P w d (Wq kvs (kd t) b (.int i)))):=Zs λxs e=>by rw[h1]at e;cases e
 refine⟨⟨_,Qb,Zg m (h2.put j),?_,λu l=>?_⟩,N.ok⟩
 ·rw[Qje b _ (g t a),List.map_map];rw[<-f];refine List.map_congr_left λp _=>?_;show(if p.1=kd t then(p.1,p.2.1,V.int i)else p).1=p.1;split<;>rfl
 ·rw[Js];by_cases e:u=t
  ·subst e;rw[Gm Xb,Gm rfl]
  ·rw[Gh (λz=>e (Qb6 z)),Gh e];exact g u l
theorem Num.add{i:Int}{Q:Hp->Prop}(N:Num P w H d S L)(B:S.length<=1000000)(y:¬t∈S)(ok:t.ok=Gf)(dp:t.depth<=8)(h:Yj H (.ref b) t)
  (q:∀H',(∀c o,H c=Ga o->c≠d->H' c=Ga o)->Num P w H' d (S++[t]) (λu=>if u=t then i else L u)->Q H'):Qj4 P w (.ref d) (.ref b) (.int i) H Q:=by
 obtain⟨kvs,h1,h2,g,n⟩:=N.ex;have lk:kvs.length=S.length:=by have:=congrArg List.length g;simpa using this
 have l:=Qge h ok dp;have f:Yd kvs (kd t)=Gg:=by
  cases e:Yd kvs (kd t)with
  |none=>rfl
  |some v=>exfalso;unfold Yd at e;obtain⟨p,k,_⟩:=EK.mp e;have r:=List.find?_some k;have s:p.1=kd t:=TJ r;have j:kd t∈kvs.map (·.1):=List.mem_map.mpr ⟨p,List.mem_of_find?_eq_some k,s⟩;rw[g]at j;obtain⟨u,a,m⟩:=List.mem_map.mp j;exact y (Qb6 m▸a)
 refine⟨d,b,kd t,kvs,Xb,Xb,⟨h1,h2⟩,l,by rw[GQ];omega,q _ (λc o e x=>by rw[Qf x];exact e) ?_⟩;have A:Qt H (upd H d (Um P w d (Wq kvs (kd t) b (.int i)))):=Zs λxs e=>by rw[h1]at e;cases e
 refine⟨⟨_,Qb,Zg A (h2.put l),?_,λu a=>?_⟩,λu a=>?_⟩
 ·rw[Qjc b _ f,List.map_append,g,List.map_append];rfl
 ·rw[Js];by_cases e:u=t
  ·subst e;rw[Gm Xb,Gm rfl]
  ·rw[Gh (λz=>e (Qb6 z)),Gh e];rcases List.mem_append.mp a with a|a
   ·exact n u a
   ·rw[List.mem_singleton]at a;exact absurd a e
 ·rcases List.mem_append.mp a with a|a
  ·exact N.ok u a
  ·rw[List.mem_singleton]at a;subst a;exact⟨ok,dp⟩
theorem Num.Qzo{Q:VK}(N:Num P w H d S L)(ok:t.ok=Gf)(dp:t.depth<=8)(h:Yj H (.ref b) t)(q:Q (.bl (!decide (t∈S))) H):Qs3 P w (λb=>!b) (.ref b) (.ref d) H Q:=by
 obtain⟨kvs,h1,h2,i,j⟩:=N.ex;refine⟨b,d,kd t,kvs,Xb,Xb,⟨h1,h2⟩,Qge h ok dp,?_⟩;have e:(Yd kvs (kd t)).isSome=decide (t∈S):=by
  by_cases a:t∈S
  ·rw[GX a,j t a];rfl
  ·rw[Gz a];cases e:Yd kvs (kd t)with
   |none=>rfl
   |some v=>exfalso;unfold Yd at e;obtain⟨p,f,_⟩:=EK.mp e;have k:=List.find?_some f;have l:p.1=kd t:=TJ k;have c:kd t∈kvs.map (·.1):=List.mem_map.mpr ⟨p,List.mem_of_find?_eq_some f,l⟩;rw[i]at c;obtain⟨u,m,g⟩:=List.mem_map.mp c;exact a (Qb6 g▸m)
 rw[e];exact q
theorem Num.names(N:Num P w H d S L):∃kvs,DH P w H d kvs/\kvs.length=S.length/\Zq H (kvs.map λp=>V.ref p.2.1) S:=by
 obtain⟨kvs,h1,h2,a,f⟩:=N.ex;have lk:kvs.length=S.length:=by have:=congrArg List.length a;simpa using this
 refine⟨kvs,⟨h1,h2⟩,lk,?_⟩;have all:∀(l:List KE)(S:List Th),(∀p∈l,p∈kvs)->l.map (·.1)=S.map kd->Zq H (l.map λp=>V.ref p.2.1) S:=by
  intro l;induction l with
  |nil=>intro S _ e;cases S with
   |nil=>exact .nil
   |cons t r=>simp at e
  |cons p l c=>intro S sub e;cases S with
   |nil=>simp at e
   |cons t r=>simp only[List.map_cons,List.cons.injEq]at e;refine .cons (Qi1 t ?_) (c r (λq b=>sub q (List.mem_cons_of_mem _ b)) e.2);have:=(h2 p (sub p List.mem_cons_self)).1;rw[e.1,Rc]at this;exact this
 exact all kvs S (λ_ h=>h) a
def tw(b:Bool):Ta:=if b then"same"else"unlike"
def Uj(H:Hp):List V->Tl->Prop:=Paired λx p=>∃a v u,x=.ref a/\H a=Ga (.tup [.str (tw p.1),v,u])/\Yj H v p.2.1/\Yj H u p.2.2
theorem Uj.Ql{H H':Hp}(e:Qt H H'){xs:List V}{tl:Tl}(h:Uj H xs tl):Uj H' xs tl:=L2.Paired.Z7 h λx p⟨a,v,u,h1,h2,b,c⟩=>⟨a,v,u,h1,e _ _ h2,b.Ql e,c.Ql e⟩
def Qae(H:Hp):List V->List (Th×Th)->Prop:=Paired λx p=>∃a v u,x=.ref a/\H a=Ga (.tup [v,u])/\Yj H v p.1/\Yj H u p.2
theorem Qae.Ql{H H':Hp}(e:Qt H H'){xs:List V}{l:List (Th×Th)}(h:Qae H xs l):Qae H' xs l:=L2.Paired.Z7 h λx p⟨a,v,u,h1,h2,b,c⟩=>⟨a,v,u,h1,e _ _ h2,b.Ql e,c.Ql e⟩
theorem Qx{α β:Type}{F:α->β->Prop}:∀{xs:List α}{ys:List β}{i:Nat}{x:α},Paired F xs ys->xs[i]?=Ga x->∃y,ys[i]?=Ga y/\F x y
 |_,_,_,_,.nil,e=>by simp at e
 |_,_,0,_,.cons h _,e=>by simp at e;subst e;exact⟨_,Xb,h⟩
 |_,_,i+1,_,.cons _ t,e=>by obtain⟨y,h1,h2⟩:=Qx (i:=i) t (by simpa using e);exact⟨y,by simpa using h1,h2⟩
theorem Yq{α β:Type}{F:α->β->Prop}:∀{a b:List α}{c d:List β},Paired F a c->Paired F b d->Paired F (a++b) (c++d)
 |_,_,_,_,.nil,t=>t
 |_,_,_,_,.cons h r,t=>.cons h (Yq r t)
def I0(tl:Tl):List (Th×Th):=(tl.filter (·.1)).map (·.2)
theorem Qfj{a b:Th}:(a,b)∈I0 tl↔(Gf,a,b)∈tl:=by
 unfold I0;rw[List.mem_map];constructor
 ·rintro⟨⟨c,x⟩,h,e⟩;rw[List.mem_filter]at h;obtain⟨h1,h2⟩:=h;have:c=Gf:=h2;subst this;cases e;exact h1
 ·intro h;exact⟨(Gf,a,b),List.mem_filter.mpr ⟨h,Xb⟩,Xb⟩
def Qak(P:Gk)(w:Gv):Sp:=λvs H Q _=>∃(a b:Gc)(us c:List V)(tl:Tl)(ts:List Th),vs=[.ref a,.ref b]/\H a=Ga (.lst us)/\Uj H us tl/\H b=Ga (.lst c)/\Zq H c ts/\
 (∀t∈ts,t.ok=Gf/\t.depth<=8)/\(∀p∈tl,(p.2.1.ok=Gf/\p.2.1.depth<=8)/\p.2.2.ok=Gf/\p.2.2.depth<=8)/\Qw ts+Qw (tl.map (·.2.1))+Qw (tl.map (·.2.2))<=3000/\
 ∀(d:Gc)(S:List Th)(L:Th->Int)(H':Hp),Qz H H'->H d=Gg->Num P w H' d S L->Tells tl S L->(∀t∈ts,t∈S)->(∀p∈tl,p.2.1∈S/\p.2.2∈S)->Q (.ref d) H'
end Sb
namespace L2
open PySem PySem.Spec PyProof.Rows
variable{d:Gc}{H:Hp}
theorem Qhu{K:Gd}{a p:Gc}{xs:List V}{g:TG}{tt:TT}{te:TE}{Q:Hp->Prop}{h:St}{H0:Hp}(u:xs.length<=Gi)(Pv:Nat->List V->St->Hp->Prop)(r:Pv 0 [] h (upd H0 p (.lst [])))
  (s:∀i ys σ H,i<=xs.length->Pv i ys σ H->Zc K H a xs)
  (t:∀i x ys σ H,xs[i]?=Ga x->Pv i ys σ H->H p=Ga (.lst ys)->g x σ H λd H2=>tt d H2 λb j=>if b=Gf then te d j λv n=>n p=Ga (.lst ys)/\Pv (i+1) (ys++[v]) d (upd n p (.lst (ys++[v])))else j p=Ga (.lst ys)/\Pv (i+1) ys d j)
  (hd:∀ys σ H,Pv xs.length ys σ H->H p=Ga (.lst ys)->Q H):Qci p (Itl K a) g tt te Q h (upd H0 p (.lst [])):=by
 refine⟨λi m σ H=>m=xs.length - i/\i<=xs.length/\∃ys,ys.length<=i/\Pv i ys σ H/\H p=Ga (.lst ys),⟨xs.length,by simp,Gx _,[],Gn _,r,Qb⟩,?_⟩;rintro i m σ H ⟨rfl,hi,ys,w,pv,o⟩;have q:=s i ys σ H hi pv;by_cases f:i<xs.length
 ·refine .inr ⟨⟨xs,xs[i],q,by simp[f]⟩,λv c H'=>H' p=Ga (.lst ys)/\Pv (i+1) (ys++[v]) c (upd H' p (.lst (ys++[v]))),λc H'=>H' p=Ga (.lst ys)/\Pv (i+1) ys c H',
   λv c H'⟨k,l⟩=>⟨ys,k,by omega,xs.length - (i+1),by omega,Xb,f,ys++[v],by simp[w],l,Qb⟩,λc H'⟨k,l⟩=>⟨xs.length - (i+1),by omega,Xb,f,ys,by omega,l,k⟩,λx H' y=>?_⟩
  obtain⟨e,y⟩:=y;subst e;exact t i x ys σ _ (y xs q) pv o
 ·have e:i=xs.length:=by omega
  subst e;exact .inl ⟨⟨xs,q,Gn _⟩,hd ys σ H pv o⟩
def Tr(t:TS)(pre a:St->Hp->Prop):Prop:=∀D σ H,pre σ H->(∀b H',a b H'->D.nx b H')->t D σ H
def Ig(d:Gc)(H H':Hp):Prop:=∀c o,H c=Ga o->c≠d->H' c=Ga o
theorem Ig.refl:Ig d H H:=λ_ _ e _=>e
theorem Ig.trans{H1 H2:Hp}(a:Ig d H H1)(b:Ig d H1 H2):Ig d H H2:=λc o e h=>b c o (a c o e h) h
theorem Ig.of{H1:Hp}(e:Qz H H1):Ig d H H1:=λc o h _=>e c o h
end L2
namespace Sb
open PySem PySem.Spec PyProof.Rows L2
variable{H:Hp}{xs:List V}{tl:Tl}
theorem _root_.L2.Ig.Ql{d:Gc}{H':Hp}{o:HO}(b:Ig d H H')(h:H d=Ga o)(a:∀xs,o≠.tup xs):Qt H H':=λc xs e=>b c _ e λz=>by subst z;rw[h]at e;exact a xs (Tj e)
theorem Qfe{α:Type}{p q:α->Bool}:∀{l:List α},(∀x∈l,p x=Gf->q x=Gf)->l.countP p<=l.countP q
 |[],_=>by simp
 |x::l,h=>by
  have b:=Qfe (l:=l) λy a=>h y (List.mem_cons_of_mem _ a);have h1:=h x List.mem_cons_self;rw[List.countP_cons,List.countP_cons];cases e1:p x with
  |true=>rw[h1 e1];simp;exact b
  |false=>simp;omega
theorem Qer{α:Type}{p q:α->Bool}:∀{l:List α},(∀x∈l,p x=Gf->q x=Gf)->(∃x∈l,q x=Gf/\p x=Gq)->l.countP p<l.countP q
 |[],_,⟨x,e,_⟩=>nomatch e
 |x::l,h,⟨y,a,b,c⟩=>by
  have d:∀y∈l,p y=Gf->q y=Gf:=λy a=>h y (List.mem_cons_of_mem _ a);have le:=Qfe d;rw[List.countP_cons,List.countP_cons];rcases List.mem_cons.mp a with z|z
  ·subst z;rw[b,c];simp;omega
  ·have f:=Qer d ⟨y,z,b,c⟩;have h1:=h x List.mem_cons_self;cases e3:p x with
   |true=>rw[h1 e3];simp;exact f
   |false=>simp;omega
def dis(S:List Th)(L:Th->Int):Nat:=(S.flatMap λx=>S.map λy=>(x,y)).countP λp=>decide (L p.1≠L p.2)
theorem Qxa{S:List Th}{L a:Th->Int}(h:∀x∈S,∀y∈S,L x=L y->a x=a y)(h2:∃x∈S,∃y∈S,L x≠L y/\a x=a y):dis S a<dis S L:=by
 obtain⟨x,c,y,d,f,g⟩:=h2;refine Qer (λp b e=>?_) ⟨(x,y),?_,GX f,by simp[g]⟩
 ·rw[List.mem_flatMap]at b;obtain⟨x,c,b⟩:=b;obtain⟨y,d,rfl⟩:=List.mem_map.mp b;exact GX λz=>(TJ e) (h x c y d z)
 ·rw[List.mem_flatMap];exact⟨x,c,List.mem_map.mpr ⟨y,d,Xb⟩⟩
theorem Qdz{H:Hp}:∀l:List Int,Re H (l.map V.int) (l.map Ew)
 |[]=>.nil
 |i::r=>.cons (.int i) (Qdz r)
theorem Qdd:∀l:List Int,Gu (l.map Ew)=Gf
 |[]=>by simp[Gu]
 |i::r=>by simp[Gu,Tp,Qdd r]
theorem Qcy:∀l:List Int,To (l.map Ew)<=1
 |[]=>by simp[To]
 |i::r=>by have:=Qcy r;simp only[List.map_cons,To,Dg];omega
theorem Qjj:∀l m:List Int,Tw (l.map Ew) (m.map Ew)=decide (l=m)
 |[],[]=>by simp[Tw]
 |[],_::_=>by simp[Tw]
 |_::_,[]=>by simp[Tw]
 |i::l,j::m=>by
  simp only[List.map_cons,Tw,TQ,Qjj l m];by_cases h:i=j
  ·subst h;simp
  ·simp[h]
theorem Qe0{P:Gk}{w:Gv}{K:Gd}{r p d:Gc}{us:List V}{ps S:List Th}{L:Th->Int}{Q:Hp->Prop}(o:H r=Ga (.tup us))(g:Zq H us ps)(f:∀t∈ps,t∈S)(N:Num P w H d S L)(h:H p=Gg)(k:us.length<=3000)
  (q:∀H',Qz H H'->H' p=Ga (.lst ((ps.map L).map V.int))->Q H'):Qci p (Itt K r) (Vl 0) Qum (tOp (Qhp P w) (V2 1) (V2 0)) Q [Gg,Ga (.ref d)] (upd H p (.lst [])):=by
 refine Ia (K:=K) (a:=r) (xs:=us) (small (by omega)) (λi ys σ H1=>(∃n,σ=[n,Ga (.ref d)])/\ys=((ps.take i).map L).map V.int/\H1=upd H p (.lst ys)) ⟨⟨_,Xb⟩,by simp,Xb⟩ (λi ys σ H1 _⟨_,_,e⟩=>Z2.of (by rw[e];exact Qg h _ _ _ o)) ?_ ?_
 ·rintro i x ys σ H1 hi j ⟨⟨n,rfl⟩,rfl,rfl⟩ c;obtain⟨t,l,m⟩:=g.get hi;obtain⟨b,_,_,_,rfl,_,_,_⟩:=m.inv;have s1:=Qg h (.lst (((ps.take i).map L).map V.int));refine⟨_,Xb,_,Xb,(N.same s1).get (f t (List.mem_of_getElem? l)) (m.same s1) ⟨c,⟨_,Xb⟩,?_,?_⟩⟩
  ·rw[List.take_add_one,l];simp
  ·rw[U7]
 ·rintro ys σ H1 j ⟨_,rfl,rfl⟩ c;rw[g.length,List.take_length]at c⊢;exact q _ (Qg h _) c
inductive Dd where
 |tell (b:Bool) (x y:Th)
 |ask (x y:Th)
 |back (i:Int)
variable{ds:List Dd}{d:Dd}
def Dd.fits(ts:List Th):Dd->Prop
 |.tell _ x y=>x∈ts/\y∈ts
 |.ask x y=>x∈ts/\y∈ts
 |.back _=>True
def Qbh(H:Hp)(x:V):Dd->Prop
 |.tell b t u=>∃a c d,x=.ref a/\H a=Ga (.tup [.str (tw b),c,d])/\Yj H c t/\Yj H d u
 |.ask t u=>∃a c d,x=.ref a/\H a=Ga (.tup [.str "ask",c,d])/\Yj H c t/\Yj H d u
 |.back i=>∃a,x=.ref a/\H a=Ga (.tup [.str "back",.int i])
theorem Qbh.Ql{H H':Hp}(e:Qt H H'){x:V}:∀{d:Dd},Qbh H x d->Qbh H' x d
 |.tell _ _ _,⟨a,f,g,h1,h2,b,c⟩=>⟨a,f,g,h1,e _ _ h2,b.Ql e,c.Ql e⟩
 |.ask _ _,⟨a,f,g,h1,h2,b,c⟩=>⟨a,f,g,h1,e _ _ h2,b.Ql e,c.Ql e⟩
 |.back _,⟨a,h1,h2⟩=>⟨a,h1,e _ _ h2⟩
def X0(H:Hp):List V->List Dd->Prop:=Paired λx d=>Qbh H x d
theorem X0.Ql{H H':Hp}(e:Qt H H'){xs:List V}{ds:List Dd}(h:X0 H xs ds):X0 H' xs ds:=L2.Paired.Z7 h λ_ _ h=>h.Ql e
theorem X0.same{H':Hp}(e:Qz H H')(h:X0 H xs ds):X0 H' xs ds:=h.Ql (Qt.of e)
def Qmi(K:Gd):Sp:=λvs H Q _=>∃(a b:Gc)(ns:List Int)(us:List V)(ts:List Th),vs=[.ref a,.ref b]/\Zc K H a (ns.map V.int)/\ns.length<=63/\H b=Ga (.lst us)/\Zq H us ts/\0<ts.length/\ts.length<=1000/\
 ∀(r:Gc)(es:List V)(dl:List Dd)(H':Hp),Qz H H'->H r=Gg->H' r=Ga (.lst es)->X0 H' es dl->dl.length=ns.length->(∀d∈dl,d.fits ts)->Q (.ref r) H'
def Qwa:Sp:=λvs H Q _=>∃n:Int,vs=[.int n]/\∀(m:Int)(H':Hp),Qz H H'->Q (.int m) H'
def Qp7(K:Gd):Sp:=λvs H Q _=>∃(a:Gc)(ns:List Int)(m b:Int),vs=[.ref a,.int m,.int b]/\Zc K H a (ns.map V.int)/\ns.length<=63/\Q (.int m) H
def Qke(tl:Tl)(x y:Th)(k:Ta):Prop:=(k="equal"/\Cg tl x y)\/(k="unlike"/\¬Cg tl x y/\∃a b,(Gq,a,b)∈tl/\Cg (tl++[(Gf,x,y)]) a b)\/(k="open"/\¬Cg tl x y/\∀a b,(Gq,a,b)∈tl->¬Cg (tl++[(Gf,x,y)]) a b)
def Ro(tl:Tl):Prop:=∃a b,(Gq,a,b)∈tl/\Cg tl a b
def Qlk:Sp:=λvs H Q _=>∃(a:Gc)(us:List V)(tl:Tl)(b c:V)(x y:Th),vs=[.ref a,b,c]/\H a=Ga (.lst us)/\Uj H us tl/\Yj H b x/\Yj H c y/\(x.ok=Gf/\x.depth<=8)/\(y.ok=Gf/\y.depth<=8)/\
 (∀p∈tl,(p.2.1.ok=Gf/\p.2.1.depth<=8)/\p.2.2.ok=Gf/\p.2.2.depth<=8)/\Qw (tl.map (·.2.1))+Qw (tl.map (·.2.2))+x.size+y.size<=3000/\∀(k:Ta)(H':Hp),Qz H H'->Qke tl x y k->Q (.str k) H'
def Qcs:Sp:=λvs H Q _=>∃(a e:Gc)(us:List V)(tl:Tl)(c d:V)(b:Bool)(x y:Th),vs=[.ref a,.ref e]/\H a=Ga (.lst us)/\Uj H us tl/\H e=Ga (.tup [.str (tw b),c,d])/\Yj H c x/\Yj H d y/\(x.ok=Gf/\x.depth<=8)/\(y.ok=Gf/\y.depth<=8)/\
 (∀p∈tl,(p.2.1.ok=Gf/\p.2.1.depth<=8)/\p.2.2.ok=Gf/\p.2.2.depth<=8)/\Qw (tl.map (·.2.1))+Qw (tl.map (·.2.2))+x.size+y.size<=3000/\∀(r:Bool)(H':Hp),Qz H H'->(r=Gf↔Ro (tl++[(b,x,y)]))->Q (.bl r) H'
open Classical in
noncomputable def kindOf(tl:Tl)(x y:Th):Ta:=if Cg tl x y then"equal"else if∃a b,(Gq,a,b)∈tl/\Cg (tl++[(Gf,x,y)]) a b then"unlike"else"open"
theorem Qke.eq{x y:Th}{k:Ta}(h:Qke tl x y k):k=kindOf tl x y:=by
 unfold kindOf;rcases h with⟨e,c⟩|⟨e,c,d⟩|⟨e,c,d⟩
 ·rw[Gm c,e]
 ·rw[Gh c,Gm d,e]
 ·rw[Gh c,Gh (λ⟨a,b,h1,h2⟩=>d a b h1 h2),e]
open Classical in
noncomputable def Vf(tl:Tl):Dd->Tl×V
 |.ask x y=>(tl,.str (kindOf tl x y))
 |.back i=>if 0<=i/\i<=(tl.length:Int)then(tl.take i.toNat,.int ((tl.length:Int) - i))else(tl,.str "no moment")
 |.tell b x y=>if Ro (tl++[(b,x,y)])then(tl,.str "clash")else(tl++[(b,x,y)],.int ((tl.length:Int)+1))
noncomputable def after(tl:Tl):List Dd->Tl
 |[]=>tl
 |d::ds=>after (Vf tl d).1 ds
noncomputable def R0(tl:Tl):List Dd->List V
 |[]=>[]
 |d::ds=>(Vf tl d).2::R0 (Vf tl d).1 ds
theorem R9(tl:Tl):∀(ds es:List Dd),after tl (ds++es)=after (after tl ds) es
 |[],es=>rfl
 |d::ds,es=>R9 (Vf tl d).1 ds es
theorem Rf{k:Nat}(h:ds[k]?=Ga d):after tl (ds.take (k+1))=(Vf (after tl (ds.take k)) d).1:=by rw[List.take_add_one,h,R9];rfl
theorem Qar(tl:Tl):∀ds:List Dd,(R0 tl ds).length=ds.length
 |[]=>rfl
 |d::ds=>by simp only[R0,List.length_cons,Qar (Vf tl d).1 ds]
theorem O3:∀{ds:List Dd}{tl:Tl}{k:Nat}{d:Dd},ds[k]?=Ga d->(R0 tl ds)[k]?=Ga (Vf (after tl (ds.take k)) d).2
 |[],_,_,_,h=>by simp at h
 |e::ds,tl,0,d,h=>by simp at h;subst h;rfl
 |e::ds,tl,k+1,d,h=>by have a:=O3 (ds:=ds) (tl:=(Vf tl e).1) (k:=k) (d:=d) (by simpa using h);simp only[R0,List.getElem?_cons_succ,List.take_succ_cons,after];exact a
def Th.good(t:Th):Prop:=t.ok=Gf/\t.depth<=8/\t.size<=100
def Dd.good:Dd->Prop
 |.tell _ x y=>x.good/\y.good
 |.ask x y=>x.good/\y.good
 |.back _=>True
def Tlg(tl:Tl):Prop:=∀p∈tl,p.2.1.good/\p.2.2.good
theorem Qse(h:Tlg tl)(g:d.good):Tlg (Vf tl d).1:=by
 cases d with
 |ask x y=>exact h
 |back i=>
  simp only[Vf];split
  ·exactλp a=>h p (List.mem_of_mem_take a)
  ·exact h
 |tell b x y=>
  simp only[Vf];split
  ·exact h
  ·intro p a;rcases List.mem_append.mp a with z|z
   ·exact h p z
   ·rw[List.mem_singleton]at z;subst z;exact g
theorem Qtv:(Vf tl d).1.length<=tl.length+1:=by
 cases d with
 |ask x y=>exact EF _
 |back i=>
  simp only[Vf];split
  ·rw[List.length_take];omega
  ·exact EF _
 |tell b x y=>
  simp only[Vf];split
  ·exact EF _
  ·rw[List.length_append,List.length_singleton];omega
theorem Rp:∀{ds:List Dd}{tl:Tl},Tlg tl->(∀d∈ds,d.good)->Tlg (after tl ds)
 |[],_,h,_=>h
 |d::ds,tl,h,g=>by have:=Rp (ds:=ds) (tl:=(Vf tl d).1) (Qse h (g d List.mem_cons_self)) λe a=>g e (List.mem_cons_of_mem _ a);simp only[after];exact this
theorem Ij:∀{ds:List Dd}{tl:Tl},(after tl ds).length<=tl.length+ds.length
 |[],tl=>Gn _
 |d::ds,tl=>by have h1:=Ij (ds:=ds) (tl:=(Vf tl d).1);have h2:=Qtv (tl:=tl) (d:=d);simp only[after,List.length_cons];omega
theorem Qpv(h:Tlg tl):Qw (tl.map (·.2.1))<=tl.length*100/\Qw (tl.map (·.2.2))<=tl.length*100:=by
 have h1:=Ie (tl.map (·.2.1)) 100 λt b=>by obtain⟨p,a,rfl⟩:=List.mem_map.mp b;exact(h p a).1.2.2
 have h2:=Ie (tl.map (·.2.2)) 100 λt b=>by obtain⟨p,a,rfl⟩:=List.mem_map.mp b;exact(h p a).2.2.2
 rw[List.length_map]at h1 h2;exact⟨h1,h2⟩
def tlD(p:Bool×Th×Th):TH:=.tuple [.str (tw p.1),p.2.1.toD,p.2.2.toD]
def ddD:Dd->TH
 |.tell b x y=>tlD (b,x,y)
 |.ask x y=>.tuple [.str "ask",x.toD,y.toD]
 |.back i=>.tuple [.str "back",.int i]
theorem Qbh.dt{H:Hp}{x:V}:∀{d:Dd},Qbh H x d->Dt H x (ddD d)
 |.tell _ _ _,⟨a,e,f,h1,h2,b,c⟩=>by subst h1;exact .tup h2 (.cons (.str _) (.cons b.dt (.cons c.dt .nil)))
 |.ask _ _,⟨a,e,f,h1,h2,b,c⟩=>by subst h1;exact .tup h2 (.cons (.str _) (.cons b.dt (.cons c.dt .nil)))
 |.back _,⟨a,h1,h2⟩=>by subst h1;exact .tup h2 (.cons (.str _) (.cons (.int _) .nil))
theorem X0.dts(h:X0 H xs ds):Re H xs (ds.map ddD):=by
 unfold X0 at h;induction h with
 |nil=>exact .nil
 |cons h r a=>exact .cons h.dt a
theorem Uj.dts(h:Uj H xs tl):Re H xs (tl.map tlD):=by
 unfold Uj at h;induction h with
 |nil=>exact .nil
 |cons h r f=>obtain⟨a,v,u,b,c,d,e⟩:=h;subst b;exact .cons (.tup c (.cons (.str _) (.cons d.dt (.cons e.dt .nil)))) f
def Rdy(d:TH):Prop:=d.canLay0=Gf/\Wt d<=1000/\d.depth<=20
theorem Qih{ds:List TH}(h:∀d∈ds,Rdy d)(b:ds.length<=100):(Fu ds).canLay0=Gf/\Wt (Fu ds)<=1000000/\(Fu ds).depth<=60:=by
 have all:Gu ds=Gf/\Zm ds<=ds.length*1000/\To ds<=20:=by
  clear b;induction ds with
  |nil=>simp[Gu,Zm,To]
  |cons d r c=>
   obtain⟨h1,h2,f⟩:=h d List.mem_cons_self;obtain⟨i1,i2,g⟩:=c λe a=>h e (List.mem_cons_of_mem _ a);refine⟨by simp[Gu,h1,i1],?_,?_⟩
   ·simp only[Zm,List.length_cons];omega
   ·simp only[To];omega
 refine⟨by simp only[Tp];exact all.1,?_,?_⟩
 ·simp only[Wt];omega
 ·simp only[Dg];omega
theorem Qwe(b:Bool):TU (tw b)=Gf:=by cases b<;>decide+kernel
theorem O1{s:Ta}{x y:Th}(c:TU s=Gf)(a:x.good)(b:y.good):Rdy (.tuple [.str s,x.toD,y.toD]):=by
 have h1:=Jw x a.1;have h2:=Jw y b.1;have n1:=Qcq x;have n2:=Qcq y;have d:=Wc x;have e:=Wc y;have:=a.2;have:=b.2;refine⟨by simp[Tp,Gu,h1,h2,c],?_,?_⟩
 ·simp only[Wt,Zm];omega
 ·simp only[Dg,To];omega
theorem Qti:∀{d:Dd},d.good->Rdy (ddD d)
 |.tell b x y,h=>O1 (Qwe b) h.1 h.2
 |.ask x y,h=>O1 (by decide+kernel) h.1 h.2
 |.back i,_=>⟨by simp[ddD,Tp,Gu];decide+kernel,by simp[ddD,Wt,Zm],by simp[ddD,Dg,To]⟩
theorem Quk(h:Tlg tl):∀d∈tl.map tlD,Rdy d:=λd hd=>by obtain⟨p,a,rfl⟩:=List.mem_map.mp hd;exact O1 (Qwe p.1) (h p a).1 (h p a).2
def Qcd(H:Hp)(v:V)(h:V):Prop:=v=h\/∃a xs,v=.ref a/\H a=Ga (.tup (h::xs))
structure Qg3(U:List Th):Prop where
 cl:Vx U
 good:∀t∈U,t.good
 len:U.length<=60
theorem Qg3.Q1g{U:List Th}(h:Qg3 U)(f:d.fits U):d.good:=by
 cases d with
 |tell b x y=>exact⟨h.good x f.1,h.good y f.2⟩
 |ask x y=>exact⟨h.good x f.1,h.good y f.2⟩
 |back i=>exact TC
def O7:Sp:=λvs H Q _=>∃(a:Gc)(es:List V)(dl:List Dd)(U:List Th),vs=[.ref a]/\H a=Ga (.lst es)/\X0 H es dl/\Qg3 U/\(∀d∈dl,d.fits U)/\dl.length<=10/\
 ∀(r:Gc)(b:List V)(H':Hp),Qz H H'->H' r=Ga (.lst b)->Paired (Qcd H') b (R0 [] dl)->Q (.ref r) H'
def Qjz:Sp:=λvs H Q _=>∃(a:Gc)(es:List V)(dl:List Dd)(U:List Th),vs=[.ref a]/\H a=Ga (.lst es)/\X0 H es dl/\Qg3 U/\(∀d∈dl,d.fits U)/\dl.length<=10/\
 ∀(r:Gc)(b:List V)(H':Hp),Qz H H'->H' r=Ga (.lst b)->Uj H' b (after [] dl)->Q (.ref r) H'
theorem R1{ts:List Th}(h:∀t∈ts,∀p∈t.parts,p∈ts):Vx ts:=by
 have key:∀n:Nat,∀t∈ts,t.depth<=n->∀s∈t.inside,s∈ts:=by
  intro n;induction n with
  |zero=>intro t _ hd;have:=Qaw t;omega
  |succ n d=>
   intro t b hd s a;cases t with
   |mk u ps=>
    simp only[Th.inside,List.mem_append,List.mem_singleton]at a;rcases a with a|rfl
    ·rw[Xj,List.mem_flatMap]at a;obtain⟨p,c,a⟩:=a;have:=X9 c;simp only[Th.depth]at hd;exact d p (h _ b p c) (by omega) s a
    ·exact b
 exactλt b=>key _ t b (Gn _)
def Sub(tl a:Tl):Prop:=∀b x y,(b,x,y)∈tl->(b,x,y)∈a\/(b,y,x)∈a
mutual
theorem Cg.sub{tl a:Tl}(h:Sub tl a):∀{s t:Th},Cg tl s t->Cg a s t
 |_,_,.refl t=>.refl t
 |_,_,.symm c=>.symm (Cg.sub h c)
 |_,_,.trans c d=>.trans (Cg.sub h c) (Cg.sub h d)
 |_,_,.told m=>by
  rcases h _ _ _ m with z|z
  ·exact .told z
  ·exact .symm (.told z)
 |_,_,.cong c=>.cong (CgL.sub h c)
theorem CgL.sub{tl a:Tl}(h:Sub tl a):∀{s t:List Th},CgL tl s t->CgL a s t
 |_,_,.nil=>.nil
 |_,_,.cons c d=>.cons (Cg.sub h c) (CgL.sub h d)
end
end Sb
namespace L2
open PySem PySem.Spec PyProof.Rows
def Qsy(K:Gd)(a:Gc)(n:Nat):It:=
 ⟨λi H=>∃xs,Zc K H a xs/\xs.length=n/\i<n,λi H x H'=>H'=H/\∀xs,Zc K H a xs->xs[n - 1 - i]?=Ga x,λi _=>i=n⟩
theorem Qnt{P:Gk}{w:Gv}{K:Gd}{tg:T1}(a it:Gc)(n:Nat):Qg6 P w K tg (Qsy K a n) [it] it (λi h=>i<=n/\h.IsRevIter it a ((n:Int) - 1 - (i:Int))) where
 mem:=by simp
 obj:=λi h st b hb=>by
  have e:b=it:=by simpa using hb
  subst e;obtain⟨_,o,e,c,d⟩:=st;exact⟨o,e,λv z=>by rw[d]at z;cases z⟩
 keep:=λi h h' st k=>⟨st.1,st.2.at λo e=>k it (by simp) o e⟩
 item:=by
  intro X B hw A C i pins s σ H E I j st l;subst B hw A;obtain⟨xs,D,U,hi⟩:=l;obtain⟨its,rv,p,hz⟩:=I.list D;have T:=rv.length;have F:xs[n - 1 - i]?=Ga (xs[n - 1 - i]'(by omega)):=List.getElem?_eq_getElem (by omega);obtain⟨u,O,R⟩:=rv.get F;obtain⟨m,q,N,r,t,y⟩:=j it (by simp);have e:(n:Int) - 1 - (i:Int)=((n - 1 - i:Nat):Int):=by omega
  have f:=st.2;rw[e]at f;refine Lc f p.isList (x:=u) (by simpa using O) λh' g S=>?_;have G:Inv X pins σ H {s with heap:=h'}:=I.turned (t':=s.toks) (λb o hb e=>(S.2 b hb).trans e) m q r t y;have J:((n - 1 - i:Nat):Int) - 1=(n:Int) - 1 - ((i+1:Nat):Int):=by omega
  rw[J]at g;obtain⟨o,L,c,d⟩:=id g;exact⟨u,Xb,Qe4 (s:={s with heap:=h'}) L c d (by decide) ⟨_,H,G,R,⟨Xb,λys Q=>by rw[I.Qdf Q D];exact F⟩,⟨hi,g⟩,λb hb=>(j b hb).1⟩⟩
 done:=by intro X B hw A C i pins s σ H E I j st l;subst B hw A;have l:i=n:=l;obtain⟨m,q,N,r,t,y⟩:=j it (by simp);have f:=st.2;rw[show(n:Int) - 1 - (i:Int)= -1 by omega]at f;exact Lm (I.ok.hd C) f λh' M=>⟨Xb,I.turned (t':=s.toks) (λb o hb e=>M b o hb e) m q r t y⟩
 self:=λ_ _ _ _ _ st h=>E1 st.2 h
def Qzx(K:Gd)(ta:TA):TI:=λσ H R=>ta σ H λvs H1=>∃a xs,vs=[.ref a]/\Zc K H1 a xs/\R (Qsy K a xs.length) H1
section
variable{X:Cx}{tg:T1}
theorem Qvw{a:T1}{ta:TA}{p pos:SW}(k:Gl X "reversed")(l:X.mg "reversed"=Gg)(i:PA X [a] ta)(n:Td [a] X.env=[(Gq,eval a X.env)]:=by rfl):PI X tg (.Call (.Name "reversed" p) [a] [] pos) (Qzx X.K ta):=by
 intro pins s σ H R I h;refine RU (Vu I k l MD (Du (Yp (i pos pins s σ H _ I h) λus s1⟨vs,H1,d,t,r⟩=>?_) n Xb));obtain⟨b,xs,e,m,q⟩:=r;subst e;obtain⟨u,rfl,v⟩:=vals1 t;cases(show u=Value.ref b from v);obtain⟨its,rv,pt,hz⟩:=d.list m;have w:=rv.length;refine LJ pt.isList ?_;have f:Inv X pins σ H1 {s1 with heap:=s1.heap.push (revObj b ((its.toArray.size:Int) - 1))}:=d.kept (t':=s1.toks) λb o e=>Heap.get?_push_of_some _ e;have st:(s1.heap.push (revObj b ((its.toArray.size:Int) - 1))).IsRevIter s1.heap.objs.size b ((xs.length:Int) - 1 - ((0:Nat):Int)):=by
  have g:(xs.length:Int) - 1 - ((0:Nat):Int)=(its.toArray.size:Int) - 1:=by rw[List.size_toArray];omega
  rw[g];exact⟨_,Heap.get?_push_size _ Xb,Xb,Xb⟩
 refine E1 st ⟨s1.heap.objs.size,[s1.heap.objs.size],_,_,H1,Xb,f,Qnt b _ xs.length,⟨Gx _,st⟩,λc j=>?_,q⟩;have e:c=s1.heap.objs.size:=by simpa using j
 subst e;exact d.Qhg (Gn _) (d.Zw.fresh (Gn _))
end
theorem Qpu{K:Gd}{a:Gc}{xs:List V}{g:TG}{tb:TS}{D:Ends}{σ:St}{H:Hp}(Pv:Nat->St->Hp->Prop)(j:Pv 0 σ H)(k:∀i σ H,i<=xs.length->Pv i σ H->Zc K H a xs)
  (l:∀i x σ H,xs.reverse[i]?=Ga x->Pv i σ H->g x σ H λd H2=>tb {D with nx:=Pv (i+1),ct:=Pv (i+1),bk:=D.nx} d H2)(hd:∀σ H,Pv xs.length σ H->D.nx σ H):
  ∃W:Nat->Nat->St->Hp->Prop,(∃m,W 0 m σ H)/\∀i m σ H,W i m σ H->
   ((Qsy K a xs.length).stop i H/\D.nx σ H)\/((Qsy K a xs.length).go i H/\∃N:St->Hp->Prop,(∀c H',N c H'->∃f,f<m/\W (i+1) f c H')/\∀x H',(Qsy K a xs.length).yld i H x H'->g x σ H' λd H2=>tb {D with nx:=N,ct:=N,bk:=D.nx} d H2):=by
 refine⟨λi m σ H=>m=xs.length - i/\i<=xs.length/\Pv i σ H,⟨xs.length,by simp,Gx _,j⟩,?_⟩;rintro i m σ H ⟨rfl,hi,p⟩;have q:=k i σ H hi p;by_cases b:i<xs.length
 ·refine .inr ⟨⟨xs,q,Xb,b⟩,Pv (i+1),λc H' h=>⟨xs.length - (i+1),by omega,Xb,b,h⟩,λx H' y=>?_⟩;obtain⟨e,y⟩:=y;subst e;exact l i x σ _ (by rw[List.getElem?_reverse b];exact y xs q) p
 ·have e:i=xs.length:=by omega
  subst e;exact .inl ⟨Xb,hd σ H p⟩
end L2
namespace Sb
open PySem PySem.Spec PyProof.Rows L2
structure Mp(P:Gk)(w:Gv)(H:Hp)(d:Gc)(S:Th->Prop)(F:Th->Th):Prop where
 ex:∃kvs:List KE,H d=Ga (Um P w d kvs)/\Ub H kvs/\∀t,S t->∃b,Yd kvs (kd t)=Ga (.ref b)/\Yj H (.ref b) (F t)
theorem Mp.at{P:Gk}{w:Gv}{H:Hp}{d:Gc}{S:Th->Prop}{F:Th->Th}(N:Mp P w H d S F):∃o,H d=Ga (.ext o):=by obtain⟨kvs,h,_⟩:=N.ex;exact⟨_,h⟩
open PySem L2
abbrev KI(K:Gd)(f:Gc):Prop:=T9 K (.ref f)=Gf
abbrev MG(mg:Ta->Option Value)(x:Ta)(f:Gc):Prop:=mg x=Ga (.ref f)
end Sb
namespace K05
open PySem L2 Sb
def top(i:Nat):T6:=PySem.Challenge.pw_samebook_k05_equal_unlike_or_open.main.body.getD i (.Pass ⟨0,0,0,0⟩)
abbrev Qga:T6:=top 1
abbrev Ol:T6:=Z4 (top 2) 0
abbrev Rz:T6:=Z4 (top 2) 1
abbrev Ru:T6:=Z4 (top 2) 2
abbrev Qgm:T6:=Z4 (top 2) 3
abbrev Qgp:T6:=Z4 (top 2) 4
abbrev Jc:T6:=Z4 (top 2) 5
abbrev Qlu:T6:=Z4 (top 2) 6
abbrev Ik:T6:=Z4 (top 2) 7
abbrev Quz:T6:=Z4 (top 2) 8
abbrev Qf3:T6:=Z4 (top 2) 9
abbrev Qiw:T6:=Z4 (top 2) 10
abbrev Qgb:T6:=top 4
abbrev Qb4:T6:=top 5
abbrev Qfv:T6:=top 6
abbrev Qbp:T6:=Z4 (top 7) 0
abbrev Qgw:T6:=Z4 (top 7) 1
abbrev Vt:T6:=Z4 (top 7) 2
abbrev Jy:T6:=Z4 (top 7) 3
abbrev Qbx:T6:=Z4 (top 12) 0
abbrev Oq:T6:=Z4 (top 12) 1
abbrev Qbw:T6:=Z4 (top 12) 2
abbrev Qbt:T6:=Z4 (top 13) 0
abbrev U2:T6:=Z4 (top 13) 1
abbrev Qpj:T6:=top 14
abbrev Qgd:T6:=top 15
abbrev Qg0:T6:=top 16
abbrev Jp:T6:=top 19
abbrev Jb:T6:=top 20
abbrev Jd:T6:=top 21
abbrev Qb3:T6:=Z4 (top 22) 0
abbrev Qbu:T6:=Z4 (top 22) 1
abbrev Qbr:T6:=Z4 (top 22) 2
abbrev Qll:T6:=Z4 (top 22) 3
abbrev Qvn:T6:=Z4 (top 22) 4
abbrev Im:T6:=Z4 (top 22) 5
abbrev Qfu:T6:=top 23
abbrev Qgv:T6:=top 25
abbrev Qf7:T6:=top 26
abbrev Wn:T6:=top 27
abbrev Qmx:T6:=top 28
abbrev Qb2:T6:=top 29
abbrev Qlo:T6:=top 30
abbrev Qmg:T6:=top 31
abbrev Qvt:T6:=top 32
abbrev sSo:T6:=top 33
abbrev Qgj:T6:=top 34
end K05
namespace Sb
open PySem PySem.Spec PyProof.Rows L2
variable{ts:List Th}{t:Th}{H:Hp}{a f d:Gc}
def jv(j:Nat):V:=.int (j:Int)
theorem Qym{i j:Nat}(h:jv i=jv j):i=j:=by unfold jv at h;injection h with h;omega
abbrev Fm:=Ta×List Nat
def fm(ts:List Th)(t:Th):Fm:=(t.word,t.parts.map λp=>ts.idxOf p)
def ik(i:Nat):KD:=.int (i:Int)
def Yx(f:Fm):KD:=.tup [.str f.1,.tup (f.2.map ik)]
theorem Qa1:∀{a b:List Nat},a.map ik=b.map ik->a=b
 |[],[],_=>rfl
 |[],_::_,h=>by simp at h
 |_::_,[],h=>by simp at h
 |x::a,y::b,h=>by
  simp only[List.map_cons,List.cons.injEq]at h;have e:(x:Int)=(y:Int):=by have:=h.1;unfold ik at this;injection this
  have t:=Qa1 h.2;rw[t,show x=y by omega]
theorem U1{f g:Fm}(h:Yx f=Yx g):f=g:=by unfold Yx at h;simp only[KD.tup.injEq,List.cons.injEq,KD.str.injEq,FJ]at h;exact LW h.1 (Qa1 h.2)
theorem Ir(h:t∈ts):ts[ts.idxOf t]?=Ga t:=by have a:ts.idxOf t<ts.length:=List.idxOf_lt_length_of_mem h;rw[List.getElem?_eq_getElem a,List.getElem_idxOf a]
theorem Rr{j:Nat}(nd:ts.Nodup)(h:ts[j]?=Ga t):ts.idxOf t=j:=by obtain⟨a,e⟩:=List.getElem?_eq_some_iff.mp h;subst e;exact nd.idxOf_getElem j a
theorem Qf4{s:Th}(a:s∈ts)(b:t∈ts)(e:ts.idxOf s=ts.idxOf t):s=t:=by have h1:=Ir a;have h2:=Ir b;rw[e,h2]at h1;exact(Tj h1).symm
theorem Quf{us:List Th}(h:t∈ts):(ts++us).idxOf t=ts.idxOf t:=by rw[List.idxOf_append,Gm h]
theorem Qaz{ts:List Th}:∀{a b:List Th},(∀x∈a,x∈ts)->(∀x∈b,x∈ts)->a.map (λp=>ts.idxOf p)=b.map (λp=>ts.idxOf p)->a=b
 |[],[],_,_,_=>rfl
 |[],_::_,_,_,h=>by simp at h
 |_::_,[],_,_,h=>by simp at h
 |x::a,y::b,h1,h2,h=>by simp only[List.map_cons,List.cons.injEq]at h;rw[Qf4 (h1 x List.mem_cons_self) (h2 y List.mem_cons_self) h.1,Qaz (λz hz=>h1 z (List.mem_cons_of_mem _ hz)) (λz hz=>h2 z (List.mem_cons_of_mem _ hz)) h.2]
theorem Xl(cl:Vx ts)(h:t∈ts):∀p∈t.parts,p∈ts:=λp a=>by
 refine cl t h p ?_;cases t with
 |mk w ps=>simp only[Th.parts]at a;simp only[Th.inside,List.mem_append];left;rw[Xj,List.mem_flatMap];exact⟨p,a,Ql1 p⟩
theorem Qj5{s:Th}(a:∀p∈s.parts,p∈ts)(b:∀p∈t.parts,p∈ts)(e:fm ts s=fm ts t):s=t:=by
 cases s with
 |mk w ps=>
  cases t with
  |mk v c=>unfold fm at e;simp only[Th.word,Th.parts,Df]at e a b;rw[e.1,Qaz a b e.2]
theorem Qld{us:List Th}(h:∀p∈t.parts,p∈ts):fm (ts++us) t=fm ts t:=by unfold fm;refine LW rfl (List.map_congr_left λp a=>Quf (h p a))
def Rm(H:Hp)(x:V)(f:Fm):Prop:=∃c e,x=.ref c/\H c=Ga (.tup [.str f.1,.ref e])/\H e=Ga (.tup (f.2.map jv))
theorem Rm.Ql{H':Hp}{x:V}{f:Fm}(e:Qt H H')(h:Rm H x f):Rm H' x f:=by obtain⟨c,d,h1,h2,a⟩:=h;exact⟨c,d,h1,e _ _ h2,e _ _ a⟩
theorem Qrp{H:Hp}:∀l:List Nat,Re H (l.map jv) (Ug (l.map ik))
 |[]=>by simp only[List.map_nil,Ug];exact .nil
 |i::r=>by simp only[List.map_cons,Ug,ik,KD.toD];exact .cons (.int _) (Qrp r)
theorem Qrk:∀l:List Nat,Gu (Ug (l.map ik))=Gf
 |[]=>by simp[Ug,Gu]
 |i::r=>by simp only[List.map_cons,Ug];simp only[Gu,Qrk r,ME];simp[ik,KD.toD,Tp]
theorem Qpw:∀l:List Nat,Jo (l.map ik)=0
 |[]=>by simp[Jo]
 |i::r=>by simp only[List.map_cons,Jo,Qpw r];simp[ik,KD.depth]
theorem Rm.key{c:Gc}{f:Fm}(h:Rm H (.ref c) f)(ok:TU f.1=Gf):Qai H c (Yx f):=by
 obtain⟨b,e,h1,h2,a⟩:=h;cases h1;unfold Yx;refine⟨?_,?_,?_⟩
 ·simp only[KD.toD,Ug];exact .tup h2 (.cons (.str _) (.cons (.tup a (Qrp f.2)) .nil))
 ·simp only[KD.toD,Ug,Tp,Gu,ok,Qrk,Bool.and_self]
 ·simp only[KD.depth,Jo,Qpw];decide
def Ju(a f d:Gc):List (Ta×V):=[("things",.ref a),("forms",.ref f),("known",.ref d)]
structure Pl(P:Gk)(w:Gv)(C:Gc)(H:Hp)(p a f d:Gc)(ts:List Th):Prop where
 ob:∃dx,H p=Ga (.ins C dx (Ju a f d))
 th:∃us,H a=Ga (.lst us)/\Zq H us ts
 fo:∃ws,H f=Ga (.lst ws)/\Paired (Rm H) ws (ts.map (fm ts))
 kn:∃kvs,DH P w H d kvs/\kvs.length<=ts.length/\(∀(j:Nat)t,ts[j]?=Ga t->Yd kvs (Yx (fm ts t))=Ga (jv j))/\∀k v,Yd kvs k=Ga v->∃t∈ts,k=Yx (fm ts t)
 af:a≠f
 nd:ts.Nodup
 cl:Vx ts
 ok:∀t∈ts,t.ok=Gf/\t.depth<=50
structure Fr3(a f d:Gc)(H H':Hp):Prop where
 keep:∀b o,H b=Ga o->b≠a->b≠f->b≠d->H' b=Ga o
 there:∀b,H' b=Gg->H b=Gg
theorem Fr3.refl:Fr3 a f d H H:=⟨λ_ _ e _ _ _=>e,λ_ h=>h⟩
theorem Fr3.trans{H1 H2:Hp}(x:Fr3 a f d H H1)(y:Fr3 a f d H1 H2):Fr3 a f d H H2:=⟨λb o e h1 h2 c=>y.keep b o (x.keep b o e h1 h2 c) h1 h2 c,λb h=>x.there b (y.there b h)⟩
theorem Fr3.of{H':Hp}(g:Qz H H'):Fr3 a f d H H':=⟨λb o e _ _ _=>g b o e,λb h=>g.free h⟩
section
variable{P:Gk}{w:Gv}{C:Gc}{H H':Hp}{p a f d:Gc}{ts:List Th}
theorem Fr3.Ql(x:Fr3 a f d H H')(y:Pl P w C H p a f d ts):Qt H H':=λb xs e=>by obtain⟨us,g,_⟩:=y.th;obtain⟨h,c,_⟩:=y.fo;obtain⟨kvs,n1,_⟩:=y.kn;exact x.keep b _ e (Zh e g (by intro z;cases z)) (Zh e c (by intro z;cases z)) (Zh e n1.at_ (by intro z;cases z))
theorem Pl.keep(x:Pl P w C H p a f d ts)(j:∀o,H p=Ga o->H' p=Ga o)(g:∀o,H a=Ga o->H' a=Ga o)(i:∀o,H f=Ga o->H' f=Ga o)(hd:∀o,H d=Ga o->H' d=Ga o)(b:Qt H H'):Pl P w C H' p a f d ts:=by obtain⟨dx,l⟩:=x.ob;obtain⟨us,m,n⟩:=x.th;obtain⟨q,c,e⟩:=x.fo;obtain⟨kvs,n1,n2,n3,k⟩:=x.kn;exact⟨⟨dx,j _ l⟩,⟨us,g _ m,n.Ql b⟩,⟨q,i _ c,L2.Paired.Z7 e λ_ _ h=>h.Ql b⟩,⟨kvs,⟨hd _ n1.at_,Zg b n1.keys⟩,n2,n3,k⟩,x.af,x.nd,x.cl,x.ok⟩
theorem Pl.same(g:Qz H H')(x:Pl P w C H p a f d ts):Pl P w C H' p a f d ts:=x.keep (g _) (g _) (g _) (g _) (Qt.of g)
theorem Pl.but{b:Gc}{zs c:List V}(x:Pl P w C H p a f d ts)(hb:H b=Ga (.lst zs))(g:b≠a)(h:b≠f):Pl P w C (upd H b (.lst c)) p a f d ts:=by
 obtain⟨dx,i⟩:=x.ob;obtain⟨kvs,n1,_⟩:=x.kn;refine x.keep (λo e=>?_) (λo e=>by rw[Qf (Gp g)];exact e) (λo e=>by rw[Qf (Gp h)];exact e) (λo e=>?_) (Zs λxs e=>by rw[hb]at e;cases e)
 ·rw[Qf (Zh i hb (by intro z;cases z))];exact e
 ·rw[Qf (Zh n1.at_ hb (by intro z;cases z))];exact e
end
structure Fra(a f d dn:Gc)(S S':List Gc)(H H':Hp):Prop where
 keep:∀b o,H b=Ga o->b≠a->b≠f->b≠d->b≠dn->b∉S->H' b=Ga o
 own:∀b∈S',b∈S\/H b=Gg
 sub:∀b∈S,b∈S'
 there:∀b,H' b=Gg->H b=Gg
theorem Fra.trans{c:Gc}{S S1 S2:List Gc}{H1 H2:Hp}(x:Fra a f d c S S1 H H1)(y:Fra a f d c S1 S2 H1 H2):Fra a f d c S S2 H H2:=by
 refine⟨λb o e h1 h2 g i j=>y.keep b o (x.keep b o e h1 h2 g i j) h1 h2 g i λz=>?_,λb hb=>?_,λb h=>y.sub b (x.sub b h),λb h=>x.there b (y.there b h)⟩
 ·rcases x.own b z with z|z
  ·exact j z
  ·rw[e]at z;cases z
 ·rcases y.own b hb with h|h
  ·exact x.own b h
  ·exact .inr (x.there b h)
def Qin(P:Gk)(w:Gv)(C:Gc):Sp:=λvs H Q _=>∃(p dx:Gc),vs=[.ref p]/\H p=Ga (.ins C dx [])/\
 ∀(a f d:Gc)(H':Hp),Pl P w C H' p a f d []->(∀b o,H b=Ga o->b≠p->H' b=Ga o)->H a=Gg->H f=Gg->H d=Gg->Q .non H'
def Qdr(P:Gk)(w:Gv)(C:Gc):Sp:=λvs H Q _=>∃(p c:Gc)(v:V)(t:Th)(a f d:Gc)(ts:List Th),vs=[.ref p,v,.ref c]/\Pl P w C H p a f d ts/\Yj H v t/\t.ok=Gf/\t.depth<=50/\
 (∀q∈t.parts,q∈ts)/\Rm H (.ref c) (fm ts t)/\ts.length<1000000/\
 ∀(j:Nat)(H':Hp),Pl P w C H' p a f d (if t∈ts then ts else ts++[t])->(if t∈ts then ts else ts++[t])[j]?=Ga t->Fr3 a f d H H'->Q (jv j) H'
def Qen(P:Gk)(w:Gv)(C:Gc):Sp:=λvs H Q _=>∃(p:Gc)(v:V)(t:Th)(a f d:Gc)(ts:List Th),vs=[.ref p,v]/\Pl P w C H p a f d ts/\Yj H v t/\t.ok=Gf/\t.depth<=50/\ts.length+t.size<=500000/\
 ∀(j:Nat)(H':Hp),Pl P w C H' p a f d (Yo ts t.inside)->(Yo ts t.inside)[j]?=Ga t->Fr3 a f d H H'->Q (jv j) H'
end Sb
namespace L2
open PySem PySem.Spec PyProof.Rows
variable{G:Prop}
theorem Qjt{K:Gd}{a p:Gc}{xs:List V}{g:TG}{tt:TT}{te:TE}{Q:Hp->Prop}{h:St}{H0:Hp}(Pv:Nat->List V->St->Hp->Prop)(w:xs.length<=Gi)(s:Pv 0 [] h (upd H0 p (.lst [])))
  (t:∀i ys σ H,i<=xs.length->Pv i ys σ H->Z2 K H a xs)
  (u:∀i x ys σ H,xs[i]?=Ga x->Pv i ys σ H->H p=Ga (.lst ys)->g x σ H λd H2=>tt d H2 λb j=>if b=Gf then te d j λv n=>n p=Ga (.lst ys)/\Pv (i+1) (ys++[v]) d (upd n p (.lst (ys++[v])))else j p=Ga (.lst ys)/\Pv (i+1) ys d j)
  (hd:∀ys σ H,ys.length<=xs.length->Pv xs.length ys σ H->H p=Ga (.lst ys)->Q H):Qci p (Itt K a) g tt te Q h (upd H0 p (.lst [])):=by
 refine⟨λi m σ H=>m=xs.length - i/\i<=xs.length/\∃ys,ys.length<=i/\Pv i ys σ H/\H p=Ga (.lst ys),⟨xs.length,by simp,Gx _,[],Gn _,s,Qb⟩,?_⟩;rintro i m σ H ⟨rfl,hi,ys,r,pv,o⟩;have q:=t i ys σ H hi pv;by_cases f:i<xs.length
 ·refine .inr ⟨⟨xs,xs[i],q,by simp[f]⟩,λv c H'=>H' p=Ga (.lst ys)/\Pv (i+1) (ys++[v]) c (upd H' p (.lst (ys++[v]))),λc H'=>H' p=Ga (.lst ys)/\Pv (i+1) ys c H',
   λv c H'⟨k,l⟩=>⟨ys,k,by omega,xs.length - (i+1),by omega,Xb,f,ys++[v],by simp[r],l,Qb⟩,λc H'⟨k,l⟩=>⟨xs.length - (i+1),by omega,Xb,f,ys,by omega,l,k⟩,λx H' y=>?_⟩
  obtain⟨e,y⟩:=y;subst e;exact u i x ys σ _ (y xs q) pv o
 ·have e:i=xs.length:=by omega
  subst e;exact .inl ⟨⟨xs,q,Gn _⟩,hd ys σ H r pv o⟩
theorem Qr9{X:Cx}{a b:T1}{pos:SW}{i j:Nat}(n:PE X a (V2 i))(hb:PE X b (V2 j)):PE X (.BoolOp .Or [a,b] pos) (λσ H Q=>∃x y,σ[i]?=Ga (Ga (.int x))/\σ[j]?=Ga (Ga (.int y))/\∀z:Int,Q (.int z) H):=by
 intro pins s σ H Q I h;obtain⟨x,y,h1,h2,q⟩:=h;refine BoolOp_or (Yp (n pins s σ H (λv H1=>v=.int x/\H1=H) I ⟨_,h1,Xb,Xb⟩) λv s1⟨o,H1,g,f,l,m⟩=>?_);subst l m;refine Yp (Qpg pins s1 σ H1 (.int x) v (λk H2=>H2=H1) g f ⟨_,Xb,Xb⟩) λc s2⟨H2,d,e⟩=>?_;subst e;cases c with
 |true=>exact⟨.int x,H2,d,f,q x⟩
 |false=>exact Qw0 hb pins s2 σ H2 Q d ⟨_,h2,q y⟩
theorem Qy5{T:Int->Prop}(k:(∀i,T i)->G)(h:∀i,T i):G:=k h
theorem Qz5{F T:Gc->Hp->Prop}(k:(∀a H,F a H->T a H)->G)(h:∀a H,F a H->T a H):G:=k h
theorem Qye{A B:Prop}(k:A->B->G)(a:A)(b:B):G:=k a b
theorem Qtp(xs:List V)(h:0<xs.length):∃v,atI xs (-1)=Ga v/\xs[xs.length - 1]?=Ga v:=by
 have hi:xs.length - 1<xs.length:=by omega
 refine⟨_,?_,List.getElem?_eq_getElem hi⟩;unfold atI ixN;rw[Gh (by decide),Gm (by omega)];have e:((-1:Int)+(xs.length:Int)).toNat=xs.length - 1:=by omega
 rw[e];show xs[xs.length - 1]?=_;exact List.getElem?_eq_getElem hi
end L2
namespace Sb
open PySem PySem.Spec PyProof.Rows L2
variable{a f d wk:Gc}{H H':Hp}{D S:List Gc}{m:Nat}{ts:List Th}
def wfl(p:Gc)(n:Int):List (Ta×V):=[("places",.ref p),("steps",.int n)]
theorem Qvq(p:Gc)(n k:Int):Yg "steps" (.int k) (wfl p n)=wfl p k:=by
 have h:¬(("places":Ta)="steps"):=by decide+kernel
 simp only[wfl,Yg,Gh h,Ss]
theorem Qxp(p:Gc):Yg "steps" (.int 0) (Yg "places" (.ref p) [])=wfl p 0:=by
 have h:¬(("places":Ta)="steps"):=by decide+kernel
 simp only[wfl,Yg,Gh h]
def R4(a:Gc)(H:Hp)(b p:Gc):Prop:=∃dx n,H b=Ga (.ins a dx (wfl p n))
theorem Qz2{C b dx c p:Gc}{n:Int}:HO.ins C dx (Ju a f d)≠HO.ins b c (wfl p n):=by intro z;injection z with _ _ z;have:=congrArg List.length z;simp[Ju,wfl]at this
structure Nrw(H:Hp)(D S:List Gc)(m:Nat)(ts:List Th):Prop where
 at_:∀dn∈D,∃kvs,H dn=Ga (.dT kvs)/\kvs.length<=m/\∀k v,Yy kvs k=Ga v->∃l∈S,v=.ref l
 ls:∀l∈S,∃es,H l=Ga (.lst es)/\es.length<=m/\∀e∈es,∃c v,∃(j:Nat)(t:Th),e=.ref c/\H c=Ga (.tup [v,jv j])/\Yj H v t/\ts[j]?=Ga t
theorem Nrw.keep{h:Nat}{a:List Th}(x:Nrw H D S m ts)(hd:∀d∈D,∀o,H d=Ga o->H' d=Ga o)(r:∀l∈S,∀o,H l=Ga o->H' l=Ga o)(i:Qt H H')(b:∀(j:Nat)t,ts[j]?=Ga t->a[j]?=Ga t)(A:m<=h):Nrw H' D S h a:=by
 refine⟨λf g=>?_,λl hS=>?_⟩
 ·obtain⟨kvs,h1,h2,p⟩:=x.at_ f g;exact⟨kvs,hd f g _ h1,by omega,p⟩
 ·obtain⟨es,k,z,n⟩:=x.ls l hS;refine⟨es,r l hS _ k,by omega,λe q=>?_⟩;obtain⟨c,v,j,t,s,u,w,y⟩:=n e q;exact⟨c,v,j,t,s,i _ _ u,w.Ql i,b j t y⟩
theorem Nrw.same(g:Qz H H')(x:Nrw H D S m ts):Nrw H' D S m ts:=x.keep (λd _=>g d) (λl _=>g l) (Qt.of g) (λ_ _ h=>h) (Gn _)
theorem Nrw.mono{a:Nat}(x:Nrw H D S m ts)(h:m<=a):Nrw H D S a ts:=x.keep (λ_ _ _ h=>h) (λ_ _ _ h=>h) (λ_ _ h=>h) (λ_ _ h=>h) h
theorem Nrw.more{c:Gc}(x:Nrw H D S m ts)(d:H c=Gg):Nrw (upd H c (.dT [])) (c::D) S m ts:=by
 have y:=x.same (Qg d (.dT []));refine⟨λb a=>?_,y.ls⟩;rcases List.mem_cons.mp a with rfl|a
 ·exact⟨[],Qb,Gx _,λk v e=>by rw[Qb7]at e;cases e⟩
 ·exact y.at_ b a
structure Frw(a f d wk:Gc)(D D' S S':List Gc)(H H':Hp):Prop where
 keep:∀b o,H b=Ga o->b≠a->b≠f->b≠d->b≠wk->b∉D->b∉S->H' b=Ga o
 Qk9:∀b∈D',b∈D\/H b=Gg
 Qfy:∀b∈S',b∈S\/H b=Gg
 Qni:∀b∈D,b∈D'
 Qof:∀b∈S,b∈S'
 there:∀b,H' b=Gg->H b=Gg
theorem Frw.of(g:Qz H H'):Frw a f d wk D D S S H H':=⟨λb o e _ _ _ _ _ _=>g b o e,λ_ h=>.inl h,λ_ h=>.inl h,λ_ h=>h,λ_ h=>h,λb h=>g.free h⟩
theorem Frw.trans{c g S1 S2:List Gc}{H1 H2:Hp}(x:Frw a f d wk D c S S1 H H1)(y:Frw a f d wk c g S1 S2 H1 H2):Frw a f d wk D g S S2 H H2:=by
 refine⟨λb o e h1 h2 i j k l=>y.keep b o (x.keep b o e h1 h2 i j k l) h1 h2 i j (λz=>?_) (λz=>?_),λb hb=>?_,λb hb=>?_,λb h=>y.Qni b (x.Qni b h),λb h=>y.Qof b (x.Qof b h),λb h=>x.there b (y.there b h)⟩
 ·rcases x.Qk9 b z with z|z
  ·exact k z
  ·rw[e]at z;cases z
 ·rcases x.Qfy b z with z|z
  ·exact l z
  ·rw[e]at z;cases z
 ·rcases y.Qk9 b hb with h|h
  ·exact x.Qk9 b h
  ·exact .inr (x.there b h)
 ·rcases y.Qfy b hb with h|h
  ·exact x.Qfy b h
  ·exact .inr (x.there b h)
theorem Frw.Ql{P:Gk}{w:Gv}{C c:Gc}{p:Gc}{g i:List Gc}(x:Frw a f d wk D g S i H H')(W:R4 c H wk p)(y:Pl P w C H p a f d ts)(z:Nrw H D S m ts):Qt H H':=λb xs e=>by
 obtain⟨us,l,_⟩:=y.th;obtain⟨q,j,_⟩:=y.fo;obtain⟨kvs,n1,_⟩:=y.kn;obtain⟨dx,n,k⟩:=W;refine x.keep b _ e (Zh e l (by intro z;cases z)) (Zh e j (by intro z;cases z)) (Zh e n1.at_ (by intro z;cases z)) (Zh e k (by intro z;cases z)) (λhb=>?_) λhb=>?_
 ·obtain⟨o,h,_⟩:=z.at_ b hb;rw[e]at h;cases h
 ·obtain⟨es,h,_⟩:=z.ls b hb;rw[e]at h;cases h
theorem Qut{H1 p:Hp}{f q:Gc}{k:List Xs}{kvs:List (List Xs×V)}{I:V}(x:Nrw H D S m ts)(Q:f∈D)(i:H f=Ga (.dT kvs))(L:Qz H H1)(N:H1 q=Gg)
  (n:(Yy kvs k=Ga I/\p=upd H1 q (.lst []))\/(Yy kvs k=Gg/\I=.ref q/\p=upd (upd H1 q (.lst [])) f (.dT (kvs++[(k,.ref q)])))):
  ∃l S1,I=.ref l/\l∈S1/\Nrw p D S1 (m+1) ts/\(∀b∈S,b∈S1)/\(∀b∈S1,b∈S\/H b=Gg)/\(∀b o,H b=Ga o->b≠f->p b=Ga o)/\(∀b,p b=Gg->H b=Gg):=by
 have a:=L.trans (Qg N (.lst []));have G:H q=Gg:=L.free N;obtain⟨kvs',n1,n2,n3⟩:=x.at_ f Q;rw[i]at n1;cases n1;rcases n with⟨T,rfl⟩|⟨R,rfl,rfl⟩
 ·obtain⟨l,g,rfl⟩:=n3 _ _ T;exact⟨l,S,Xb,g,x.keep (λd _=>a d) (λl _=>a l) (Qt.of a) (λ_ _ h=>h) (EF _),λ_ h=>h,λ_ h=>.inl h,λb o e _=>a _ _ e,λb h=>a.free h⟩
 ·have s:=a _ _ i;have y:(upd H1 q (.lst [])) q=Ga (.lst []):=Qb;have F:q≠f:=Zh y s (by intro z;cases z);have Z:Qt (upd H1 q (.lst [])) (upd (upd H1 q (.lst [])) f (.dT (kvs++[(k,.ref q)]))):=Zs λxs e=>by rw[s]at e;cases e
  have B:Qt H (upd (upd H1 q (.lst [])) f (.dT (kvs++[(k,.ref q)]))):=λb xs e=>Z b xs (a _ _ e);refine⟨q,q::S,Xb,List.mem_cons_self,⟨λJ u=>?_,λl g=>?_⟩,λb hb=>List.mem_cons_of_mem _ hb,λb hb=>?_,λb o e hb=>by rw[Qf hb];exact a _ _ e,λb hb=>?_⟩
  ·by_cases w:J=f
   ·subst w;refine⟨_,Qb,by rw[List.length_append,List.length_singleton];omega,λA v2 e=>?_⟩;rw[Qah (κ:=List Xs) k A _ kvs R]at e;by_cases M:A=k
    ·rw[Gm M]at e;cases e;exact⟨q,List.mem_cons_self,Xb⟩
    ·rw[Gh M]at e;obtain⟨l,g,C⟩:=n3 _ _ e;exact⟨l,List.mem_cons_of_mem _ g,C⟩
   ·obtain⟨Y,h1,h2,P⟩:=x.at_ J u;refine⟨Y,by rw[Qf w];exact a _ _ h1,by omega,λA v2 e=>?_⟩;obtain⟨l,g,C⟩:=P _ _ e;exact⟨l,List.mem_cons_of_mem _ g,C⟩
  ·rcases List.mem_cons.mp g with rfl|g
   ·exact⟨[],by rw[Qf F];exact y,Gx _,λe E=>nomatch E⟩
   ·obtain⟨es,K,C,O⟩:=x.ls l g;refine⟨es,?_,by omega,λe E=>?_⟩
    ·rw[Qf (Zh K i (by intro z;cases z))];exact a _ _ K
    ·obtain⟨c,v,j,t,U,A,W,X⟩:=O e E;exact⟨c,v,j,t,U,B _ _ A,W.Ql B,X⟩
  ·rcases List.mem_cons.mp hb with rfl|hb
   ·exact .inr G
   ·exact .inl hb
  ·by_cases r:b=f
   ·subst r;rw[Qb]at hb;cases hb
   ·rw[Qf r]at hb;exact a.free hb
def Qi6(c:Gc):Sp:=λvs H Q _=>∃(a dx p:Gc),vs=[.ref a,.ref p]/\H a=Ga (.ins c dx [])/\∀H',R4 c H' a p->(∀b o,H b=Ga o->b≠a->H' b=Ga o)->(∀b,H' b=Gg->H b=Gg)->Q .non H'
def Qgs:Sp:=λvs H Q _=>∃(l:Gc)(v:V)(t:Th)(es:List V)(ts:List Th),vs=[.ref l,v]/\H l=Ga (.lst es)/\
 (∀e∈es,∃c v,∃(j:Nat)(t:Th),e=.ref c/\H c=Ga (.tup [v,jv j])/\Yj H v t/\ts[j]?=Ga t)/\(∀t∈ts,t.ok=Gf/\t.depth<=50)/\Yj H v t/\t.ok=Gf/\t.depth<=50/\(∀j:Nat,ts[j]?=Ga t->Q (jv j) H)/\Q .non H
def Qgf:Sp:=λvs H Q _=>∃(i j:Int),vs=[.int i,.int j]/\j<1000000/\∀r:Int,Q (.int r) H
def Qau(P:Gk)(w:Gv)(C c:Gc)(n:Nat):Sp:=λvs H Q _=>∃(b p h:Gc)(v:V)(sp:Int)(t:Th)(a f d:Gc)(D S:List Gc)(m:Nat)(ts:List Th),vs=[.ref b,v,.ref h,.int sp]/\R4 c H b p/\Pl P w C H p a f d ts/\Nrw H D S m ts/\h∈D/\a∉S/\f∉S/\
 Yj H v t/\t.ok=Gf/\t.depth<=n/\t.depth<=50/\m+2*t.size<=1000000/\ts.length+t.size<=1000000/\
 ∀(j:Nat)(e g:List Gc)(H':Hp),R4 c H' b p->Pl P w C H' p a f d (Yo ts t.inside)->Nrw H' e g (m+2*t.size) (Yo ts t.inside)->(Yo ts t.inside)[j]?=Ga t->Frw a f d b D e S g H H'->Q (jv j) H'
theorem W0:∀(l:List Th)(i:Nat),Qw (l.take i)<=Qw l
 |[],_=>by simp
 |x::l,0=>by simp[Qw]
 |x::l,i+1=>by have:=W0 l i;simp only[List.take_succ_cons,Qw];omega
theorem Qg5(ps:List Th)(i:Nat)(t:Th)(h:ps[i]?=Ga t):Q8 (ps.take (i+1))=Q8 (ps.take i)++t.inside:=by rw[List.take_add_one,h,Xj,List.flatMap_append,<-Xj];simp
theorem Rg:∀(ps:List Th)(i:Nat)(t:Th),ps[i]?=Ga t->Qw (ps.take (i+1))=Qw (ps.take i)+t.size
 |[],_,_,h=>by simp at h
 |x::r,0,t,h=>by simp at h;subst h;simp[Qw]
 |x::r,i+1,t,h=>by have:=Rg r i t (by simpa using h);simp only[List.take_succ_cons,Qw]at this⊢;omega
theorem Qcm{acc xs:List Th}{j:Nat}{t:Th}(h:acc[j]?=Ga t):(Yo acc xs)[j]?=Ga t:=by obtain⟨m,e⟩:=Vc xs acc;rw[e,List.getElem?_append_left (List.getElem?_eq_some_iff.mp h).1];exact h
end Sb
namespace L2
open PySem PySem.Spec PyProof.Rows
def Qrt:V->List V->Hp->VK->Prop:=λx vs H Q=>∃d b a kvs k,x=.ref d/\vs=[.ref b,a]/\H d=Ga (.dT kvs)/\H b=Ga (.tup (k.map kV))/\kvs.length<Gi/\
 ∀v H',((Yy kvs k=Ga v/\H'=H)\/(Yy kvs k=Gg/\v=a/\H'=upd H d (.dT (kvs++[(k,a)]))))->Q v H'
theorem Qka{X:Cx}(l:X.A.units+1<DP):MtR X "dict.setdefault" Qrt:=by intro pins s σ H x vs v us Q I n rv h;obtain⟨d,b,a,kvs,k,c,e,f,g,i,q⟩:=h;exact Qog l pins s σ H x vs v us Q I n rv ⟨d,b,a,kvs,k,c,e,f,g,i,λv m=>q v H (.inl ⟨m,Xb⟩),λj=>q a _ (.inr ⟨j,Xb,Xb⟩)⟩
end L2
namespace K05
open PySem L2 Sb
variable{f C f0 CW:Gc}{fd:Tt}
structure Jl(mg:Ta->Option Value):Prop where
 len:mg "len"=Gg
 list:mg "list"=Gg
 tuple:mg "tuple"=Gg
 range:mg "range"=Gg
 reversed:mg "reversed"=Gg
 enumerate:mg "enumerate"=Gg
 zip:mg "zip"=Gg
 sorted:mg "sorted"=Gg
theorem Ri(x:V)(vs:List V):atI (x::vs) (0:Int)=Ga x:=Qy (xs:=x::vs) (j:=0) rfl
def Qt0(t:Th):List Xs:=(Qd1 t).map SK
theorem Qu0(t:Th):(Qt0 t).map kV=(Qd1 t).map V.str:=by unfold Qt0;rw[List.map_map];rfl
def Qss:Sp:=λvs H Q _=>∃(v:V)(t:Th),vs=[v]/\Yj H v t/\t.size<=1000000/\∀(r:Gc)(H':Hp),Qz H H'->H' r=Ga (.tup ((Qt0 t).map kV))->Q (.ref r) H'
section
variable{P:Gk}{w:Gv}{K:Gd}{mg:Ta->Option Value}{base:Heap}
theorem Qzy:Qv ["thing"] ["thing"] (Qk Qpj):=by eq_refl
theorem Qyl(F:Wu K "top_words" "top_words" Qpj f fd)(B:Jl mg):Qr P w K mg base Z3 1 f fd ["thing"] Qss:=by
 refine F.ok Qzy (λvs H Q E h=>?_) (λcdv A outer s H vs Q E W h=>?_)
 ·obtain⟨v,t,rfl,_⟩:=h;rfl
 obtain⟨v,t,rfl,N,hsz,q⟩:=h;obtain⟨a,wd,vs,ps,rfl,rfl,z,d⟩:=N.inv;refine⟨_,Qh (Qu (Xn W8 rfl B.tuple TX (Qa (Zo Uc (Zt (Qa (Qn Q5 (pv 0) Qj) Qe))
  (Vm (own:=["part"]) (fv:=[]) rfl (S:=(by eq_refl:X8 (Qk Qpj) _)) .nil (Ue (Ys Rq (pv 0) (Yt Qj) Xt))
   (λ_ _ _ _ _=>Xc (i:=0) (nd1 _) rfl (Dj Xb) (Er Xb)) (λ_ _ _ _ _=>Wh) (λ_ _ _ _ _=>Qn (r:=Quv K) Q5 (pv 0) Qj (λ_ _=>rfl)))) Qe))),?_⟩
 simp only[Th.size]at hsz;have R:=Zx ps;have y:=d.length;refine⟨_,Xb,a,_,_,.str wd,Xb,Xb,Z2.of z,Ri _ _,by show 1<=Gi;decide,λl L=>?_⟩;have s1:=Qg L (.lst [.str wd]);refine⟨_,Xb,_,Xb,a,_,Xb,Z2.of (s1 _ _ z),V1 _ _,λr k=>?_⟩;rw[Qhh];have s2:=Qg k (.tup vs);refine⟨r,Xb,⟨_,Z2.of Qb⟩,λp C=>?_⟩;have D:=Qg C (.lst []);have T:=(s1.trans s2).trans D;refine Ia (K:=K) (a:=r) (xs:=vs) (small (by omega)) (λi ys σ H2=>(∃G,σ=[G])/\Qz (upd (upd H l (.lst [.str wd])) r (.tup vs)) H2/\ys=(ps.take i).map λt=>V.str t.word)
  ⟨⟨_,Xb⟩,D,by simp⟩ (λi ys σ H2 _ h=>Z2.of (h.2.1 _ _ Qb)) ?_ ?_
 ·rintro i x ys σ H2 hi u ⟨⟨G,rfl⟩,g,rfl⟩ j;obtain⟨t,n,O⟩:=d.get hi;obtain⟨b,U,us,X,rfl,rfl,hb,_⟩:=O.inv;refine⟨_,Xb,b,_,_,.str U,Xb,Xb,Z2.of (g _ _ (s2 _ _ (s1 _ _ hb))),Ri _ _,j,⟨_,Xb⟩,λc o e=>?_,?_⟩
  ·rw[Qf (Qc e C)];exact g _ _ e
  ·rw[List.take_add_one,n,List.map_append];rfl
 ·rintro ys σ H2 u ⟨_,g,rfl⟩ j;have e:ps.take vs.length=ps:=by rw[y,List.take_length]
  rw[e]at j;have I:=g _ _ (s2 _ _ (@Qb H l (.lst [.str wd])));refine⟨l,p,_,_,Xb,Xb,I,j,small (by rw[List.length_map,List.length_singleton];omega),λc J=>?_⟩;refine⟨c,_,Xb,.inl ⟨Zc.of Qb,λm M=>?_⟩⟩;refine q m _ ((((s1.trans s2).trans g).trans (Qg J _)).trans (Qg M _)) ?_;rw[Qb,Qu0];simp[Qd1,Th.word,Th.parts]
end
theorem n1:¬(("things":Ta)="forms"):=by decide+kernel
theorem n2:¬(("things":Ta)="known"):=by decide+kernel
theorem n3:¬(("forms":Ta)="known"):=by decide+kernel
theorem Qui(a f d:Gc):Yg "known" (.ref d) (Yg "forms" (.ref f) (Yg "things" (.ref a) []))=Ju a f d:=by simp only[Yg,Gh n1,Gh n2,Gh n3,Ju]
theorem Qfo(a f d:Gc):(Ju a f d).lookup ("things":Ta)=Ga (.ref a):=by rfl
theorem Qq8(a f d:Gc):(Ju a f d).lookup ("forms":Ta)=Ga (.ref f):=by rfl
theorem Ox(a f d:Gc):(Ju a f d).lookup ("known":Ta)=Ga (.ref d):=by rfl
theorem Qtj(a f d:Gc):(Ju a f d).lookup ("place_by_form":Ta)=Gg:=by rfl
structure Qee(K:Gd)(mg:Ta->Option Value)(C:Gc):Prop where
 cl:Cls K C
 nT:Yn K C "things"
 nF:Yn K C "forms"
 nN:Yn K C "known"
 mgC:mg "Places"=Ga (.ref C)
section
variable{P:Gk}{w:Gv}{K:Gd}{mg:Ta->Option Value}{base:Heap}
theorem Qql:Qv ["self"] ["self"] (Qk Qbx):=by eq_refl
theorem Qn2(F:Wu K "__init__" "Places.__init__" Qbx f fd)(T:Qee K mg C):Qr P w K mg base Z3 1 f fd ["self"] (Qin P w C):=by
 refine F.ok Qql (λvs H Q E h=>?_) (λcdv A outer s H vs Q E I h=>?_)
 ·obtain⟨p,dx,rfl,_⟩:=h;rfl
 obtain⟨p,dx,rfl,y,q⟩:=h;refine⟨_,Qd (Yu (pv 0) (Zt Qe) rfl) (Qd (Yu (pv 0) (Zt Qe) rfl) (Qh (Yu (pv 0) Oj Xb))),?_⟩;refine⟨Gx _,λa B=>?_⟩;have c:p≠a:=Qc y B;refine⟨_,Xb,p,C,dx,[],Xb,(by rw[Qf c];exact y),T.cl,T.nT,by show 0<1000;decide,Gx _,λf n=>?_⟩;have g:p≠f:=Qc Qb n;have i:a≠f:=Qc (o:=.lst []) (by rw[Qf (Gp c),Qb]) n;refine⟨_,Xb,p,C,dx,_,Xb,(by rw[Qf g,Qb]),T.cl,T.nF,by show 1<1000;decide,λd hd=>?_⟩;have l:p≠d:=Qc Qb hd;have x:f≠d:=Qc (o:=.lst []) (by rw[Qf (Gp g),Qb]) hd;have u:a≠d:=Qc (o:=.lst []) (by rw[Qf (Gp c),Qf i,Qf (Gp c),Qb]) hd;refine⟨_,Xb,p,C,dx,_,Xb,(by rw[Qf l,Qb]),T.cl,T.nN,by show 2<1000;decide,?_⟩;refine q a f d _ ⟨⟨dx,?_⟩,⟨[],?_,.nil⟩,⟨[],?_,.nil⟩,⟨[],⟨?_,λp y=>nomatch y⟩,Gn _,λj t e=>?_,λk v e=>?_⟩,i,List.nodup_nil,Qku,λt G=>by simp at G⟩ (λb o e hb=>?_) B ?_ ?_
 ·rw[Qb,Qui]
 ·rw[Qf (Gp c),Qf u,Qf (Gp c),Qf i,Qf (Gp c),Qb]
 ·rw[Qf (Gp g),Qf x,Qf (Gp g),Qb]
 ·rw[Qf (Gp l),Qb];rfl
 ·simp at e
 ·simp[Yd]at e
 ·have m:b≠a:=Qc e B;have r:b≠f:=λz=>by subst z;rw[Qf hb,Qf m,e]at n;cases n
  have D:b≠d:=λz=>by subst z;rw[Qf hb,Qf r,Qf hb,Qf m,e]at hd;cases hd
  rw[Qf hb,Qf D,Qf hb,Qf r,Qf hb,Qf m];exact e
 ·rw[Qf (Gp g),Qf (Gp i)]at n;exact n
 ·rw[Qf (Gp l),Qf (Gp x),Qf (Gp l),Qf (Gp u)]at hd;exact hd
theorem Qp5:Qv ["self","thing","form"] ["self","thing","form"] (Qk Qbw):=by eq_refl
theorem Qv1{P:Gk}{w:Gv}{H:Hp}{p a d:Gc}{ts:List Th}{kvs:List KE}{t:Th}(x:Pl P w C H p a f d ts)(i:∀q∈t.parts,q∈ts)(c:∀(j:Nat)t,ts[j]?=Ga t->Yd kvs (Yx (fm ts t))=Ga (jv j))(g:∀k v,Yd kvs k=Ga v->∃t∈ts,k=Yx (fm ts t)):
  (Yd kvs (Yx (fm ts t))).isSome=decide (t∈ts):=by
 by_cases h:t∈ts
 ·rw[GX h,c _ t (Ir h)];rfl
 ·rw[Gz h];cases e:Yd kvs (Yx (fm ts t))with
  |none=>rfl
  |some v=>exfalso;obtain⟨s,b,es⟩:=g _ _ e;exact h (Qj5 i (Xl x.cl b) (U1 es)▸b)
theorem Qyb{P:Gk}{w:Gv}{H:Hp}{p a d c:Gc}{ts:List Th}{kvs:List KE}{us E:List V}{v:V}{t:Th}(x:Pl P w C H p a f d ts)(o:DH P w H d kvs)(hl:kvs.length<=ts.length)(G:∀(j:Nat)t,ts[j]?=Ga t->Yd kvs (Yx (fm ts t))=Ga (jv j))(I:∀k v,Yd kvs k=Ga v->∃t∈ts,k=Yx (fm ts t))
  (n:H a=Ga (.lst us))(M:Zq H us ts)(hw:H f=Ga (.lst E))(N:Paired (Rm H) E (ts.map (fm ts)))(U:Yj H v t)(ok:t.ok=Gf)(dp:t.depth<=50)(A:∀q∈t.parts,q∈ts)(J:Rm H (.ref c) (fm ts t))(new:¬t∈ts):
  Pl P w C (upd (upd (upd H d (Um P w d (Wq kvs (Yx (fm ts t)) c (jv ts.length)))) a (.lst (us++[v]))) f (.lst (E++[.ref c]))) p a f d (ts++[t]):=by
 obtain⟨dx,B⟩:=x.ob;have O:d≠a:=Zh o.at_ n (by intro z;cases z);have Q:d≠f:=Zh o.at_ hw (by intro z;cases z);have Y:p≠d:=Zh B o.at_ (by intro z;cases z);have X:p≠a:=Zh B n (by intro z;cases z);have Z:p≠f:=Zh B hw (by intro z;cases z);have D:Qt H (upd (upd (upd H d (Um P w d (Wq kvs (Yx (fm ts t)) c (jv ts.length)))) a (.lst (us++[v]))) f (.lst (E++[.ref c]))):=λb xs e=>by rw[Qf (Zh e hw (by intro z;cases z)),Qf (Zh e n (by intro z;cases z)),Qf (Zh e o.at_ (by intro z;cases z))];exact e
 have hn:Yd kvs (Yx (fm ts t))=Gg:=by
  have:=Qv1 x A G I;rw[Gz new]at this;cases e:Yd kvs (Yx (fm ts t))with
  |none=>rfl
  |some u=>rw[e]at this;cases this
 have W:Qai H c (Yx (fm ts t)):=J.key (by cases t;simp only[Th.ok,Tn]at ok;exact ok.1);have m:∀s∈ts,fm (ts++[t]) s=fm ts s:=λs g=>Qld (Xl x.cl g);have i:fm (ts++[t]) t=fm ts t:=Qld A;refine⟨⟨dx,?_⟩,⟨_,?_,(M.append (.one U)).Ql D⟩,⟨_,Qb,?_⟩,⟨Wq kvs (Yx (fm ts t)) c (jv ts.length),⟨?_,Zg D (o.keys.put W)⟩,?_,λj s e=>?_,λk y e=>?_⟩,x.af,?_,?_,?_⟩
 ·rw[Qf Z,Qf X,Qf Y];exact B
 ·rw[Qf x.af,Qb]
 ·have R:(ts++[t]).map (fm (ts++[t]))=ts.map (fm ts)++[fm ts t]:=by rw[List.map_append,List.map_congr_left m,List.map_cons,List.map_nil,i]
  rw[R];exact Yq (L2.Paired.Z7 N λ_ _ h=>h.Ql D) (.cons (J.Ql D) .nil)
 ·rw[Qf Q,Qf O,Qb]
 ·have:=Qcl kvs (Yx (fm ts t)) c (jv ts.length);rw[List.length_append,List.length_singleton];omega
 ·rw[Js];rcases Tk j ts.length with F|F
  ·rw[List.getElem?_append_left F]at e;have g:=List.mem_of_getElem? e;rw[m s g,Gh (λz=>new (Qj5 (Xl x.cl g) A (U1 z)▸g))];exact G j s e
  ·rw[List.getElem?_append_right F]at e;have S:j - ts.length=0:=by have:=(List.getElem?_eq_some_iff.mp e).1;simp at this;omega
   rw[S]at e;simp at e;subst e;have:j=ts.length:=by omega
   subst this;rw[i,Gm rfl]
 ·rw[Js]at e;by_cases K:k=Yx (fm ts t)
  ·exact⟨t,by simp,by rw[i];exact K⟩
  ·rw[Gh K]at e;obtain⟨s,g,es⟩:=I _ _ e;exact⟨s,List.mem_append_left _ g,by rw[m s g];exact es⟩
 ·rw[List.nodup_append];refine⟨x.nd,by simp,λs g u n=>?_⟩;simp at n;subst n;exactλz=>new (z▸g)
 ·intro s g r l;rcases List.mem_append.mp g with g|g
  ·exact List.mem_append_left _ (x.cl s g r l)
  ·simp at g;subst g;cases s with
   |mk w0 ps=>
    simp only[Th.inside,List.mem_append,List.mem_singleton]at l;rcases l with l|l
    ·rw[Xj,List.mem_flatMap]at l;obtain⟨L,T,l⟩:=l;exact List.mem_append_left _ (x.cl L (A L T) r l)
    ·subst l;simp
 ·intro s g;rcases List.mem_append.mp g with g|g
  ·exact x.ok s g
  ·simp at g;subst g;exact⟨ok,dp⟩
theorem Qn6(F:Wu K "place_by_form" "Places.place_by_form" Qbw f0 fd)(T:Qee K mg C)(B:Jl mg):Qr P w K mg base Z3 1 f0 fd ["self","thing","form"] (Qdr P w C):=by
 refine F.ok Qp5 (λvs H Q E h=>?_) (λcdv A outer s H vs Q E hr h=>?_)
 ·obtain⟨p,c,v,t,a,f,d,ts,rfl,_⟩:=h;rfl
 obtain⟨p,c,v,t,a,f,d,ts,rfl,x,hv,ok,dp,V,U,hl,q⟩:=h;have W:=hr.units;refine⟨_,Qd (Zn (Qp (Qds W) (pv 2) (Qm (pv 0) rfl) rfl)
   (Qd (O0 (Qo Zb rfl B.len GO (Qa (Qm (pv 0) rfl) Qe)) (Qcc (Qm (pv 0) rfl) (pv 2) (Qdq W)))
   (Qd (Ze (Xq Gs GF GV Z0 (Qm (pv 0) rfl) (Qa (pv 1) Qe)))
   (Qh (Ze (Xq Gs GF GV Z0 (Qm (pv 0) rfl) (Qa (pv 2) Qe)))))) Q6)
  (Qh (Qu (Qn (Uq W) (Qm (pv 0) rfl) (pv 2)))),?_⟩
 obtain⟨dx,k⟩:=x.ob;obtain⟨us,J,u2⟩:=x.th;obtain⟨R,O,w2⟩:=x.fo;obtain⟨kvs,D,kl,X,k4⟩:=x.kn;have Z:Qai H c (Yx (fm ts t)):=U.key (by cases t;simp only[Th.ok,Tn]at ok;exact ok.1);have ul:=u2.length;have wl:R.length=ts.length:=by rw[Gr w2,List.length_map]
 refine⟨_,Xb,_,Xb,p,C,dx,_,_,Xb,k,T.cl,T.nN,Ox _ _ _,c,d,Yx (fm ts t),kvs,Xb,Xb,D,Z,_,Xb,?_⟩;rw[Qv1 x V X k4];by_cases i:t∈ts
 ·rw[GX i];refine Zp ?_;have e:=q (ts.idxOf t) H (by rw[Gm i];exact x) (by rw[Gm i];exact Ir i) Fr3.refl;exact⟨_,Xb,p,C,dx,_,_,Xb,k,T.cl,T.nN,Ox _ _ _,_,Xb,d,c,Yx (fm ts t),kvs,_,Xb,Xb,D,Z,X _ t (Ir i),e⟩
 ·rw[Gz i];refine Yr ?_;have fin:=Qyb (c:=c) x D kl X k4 J u2 O w2 hv ok dp V U i;have da:d≠a:=Zh D.at_ J (by intro z;cases z);have df:d≠f:=Zh D.at_ O (by intro z;cases z);have pd:p≠d:=Zh k D.at_ (by intro z;cases z);have pa:p≠a:=Zh k J (by intro z;cases z);have pf:p≠f:=Zh k O (by intro z;cases z);have e1:(us.length:Int)=((ts.length:Nat):Int):=by rw[ul]
  refine⟨_,Xb,p,C,dx,_,_,Xb,k,T.cl,T.nT,Qfo _ _ _,a,us,Xb,.inl (Zc.of J),_,Xb,p,C,dx,_,_,Xb,k,T.cl,T.nN,Ox _ _ _,_,Xb,d,c,Yx (fm ts t),kvs,Xb,Xb,D,Z,by rw[GQ];omega,?_⟩;have L:(upd H d (Um P w d (Wq kvs (Yx (fm ts t)) c (.int us.length)))) a=Ga (.lst us):=by rw[Qf (Gp da)];exact J
  have I:(upd H d (Um P w d (Wq kvs (Yx (fm ts t)) c (.int us.length)))) p=Ga (.ins C dx (Ju a f d)):=by rw[Qf pd];exact k
  refine⟨_,Xb,p,C,dx,_,_,Xb,I,T.cl,T.nT,Qfo _ _ _,.inl ⟨Xb,_,Zc.of L⟩,_,Xb,a,us,_,Xb,Xb,L,by rw[GQ];omega,?_⟩;have o2:(upd (upd H d (Um P w d (Wq kvs (Yx (fm ts t)) c (.int us.length)))) a (.lst (us++[v]))) p=Ga (.ins C dx (Ju a f d)):=by rw[Qf pa];exact I
  have M:(upd (upd H d (Um P w d (Wq kvs (Yx (fm ts t)) c (.int us.length)))) a (.lst (us++[v]))) f=Ga (.lst R):=by rw[Qf (Gp x.af),Qf (Gp df)];exact O
  refine⟨_,Xb,p,C,dx,_,_,Xb,o2,T.cl,T.nF,Qq8 _ _ _,.inl ⟨Xb,_,Zc.of M⟩,_,Xb,f,R,_,Xb,Xb,M,by rw[GQ];omega,?_⟩;rw[e1];have fr:Fr3 a f d H (upd (upd (upd H d (Um P w d (Wq kvs (Yx (fm ts t)) c (jv ts.length)))) a (.lst (us++[v]))) f (.lst (R++[.ref c]))):=⟨λb o e h1 h2 h3=>by rw[Qf h2,Qf h1,Qf h3];exact e,λb hb=>by
    by_cases u:b=f
    ·subst u;rw[Qb]at hb;cases hb
    ·rw[Qf u]at hb;by_cases n:b=a
     ·subst n;rw[Qb]at hb;cases hb
     ·rw[Qf n]at hb;by_cases r:b=d
      ·subst r;rw[Qb]at hb;cases hb
      ·rw[Qf r]at hb;exact hb⟩
  have tn:fm (ts++[t]) t=fm ts t:=Qld V;have G:(ts++[t])[ts.length]?=Ga t:=by simp
  have m:∀l,Pl P w C l p a f d (ts++[t])->Fr3 a f d H l->∃j g,l p=Ga (.ins C j (Ju a f d))/\DH P w l d g/\Qai l c (Yx (fm ts t))/\Yd g (Yx (fm ts t))=Ga (jv ts.length):=λl y fr=>by obtain⟨j,o3⟩:=y.ob;obtain⟨g,S,_,Y,_⟩:=y.kn;have N:=Y ts.length t G;rw[tn]at N;exact⟨j,g,o3,S,(U.Ql (fr.Ql x)).key (by cases t;simp only[Th.ok,Tn]at ok;exact ok.1),N⟩
  obtain⟨j,g,o3,S,aa,N⟩:=m _ fin fr;exact⟨_,Xb,p,C,j,_,_,Xb,o3,T.cl,T.nN,Ox _ _ _,_,Xb,d,c,Yx (fm ts t),g,_,Xb,Xb,S,aa,N,q ts.length _ (by rw[Gh i];exact fin) (by rw[Gh i];exact G) fr⟩
end
structure Qqk(K:Gd)(mg:Ta->Option Value)(CW:Gc):Prop where
 cl:Cls K CW
 nP:Yn K CW "places"
 nS:Yn K CW "steps"
 mgC:mg "Walk"=Ga (.ref CW)
 few:∃u,mg "FEW_PARTS"=Ga u/\RelV (.int 4) u
 walks:∃u,mg "WALKS_ANEW"=Ga u/\RelV (.int 1024) u
 steps:∃u,mg "STEPS_ANEW"=Ga u/\RelV (.int 40000) u
theorem Qou(p:Gc)(n:Int):(wfl p n).lookup ("places":Ta)=Ga (.ref p):=by rfl
theorem Qcg(p:Gc)(n:Int):(wfl p n).lookup ("steps":Ta)=Ga (.int n):=by rfl
theorem Qe7(p:Gc)(n:Int):(wfl p n).lookup ("place_within":Ta)=Gg:=by rfl
section
variable{P:Gk}{w:Gv}{K:Gd}{mg:Ta->Option Value}{base:Heap}
theorem Quo:Qv ["spare","inner"] ["spare","inner"] (Qk Qg0):=by eq_refl
theorem Qqu(F:Wu K "share_of" "share_of" Qg0 f0 fd):Qr P w K mg base Z3 1 f0 fd ["spare","inner"] Qgf:=by
 refine F.ok Quo (λvs H Q E h=>?_) (λcdv A outer s H vs Q E b h=>?_)
 ·obtain⟨i,j,rfl,_⟩:=h;rfl
 obtain⟨i,j,rfl,a,q⟩:=h;refine⟨_,Qd (Zn (PW.pt (R5 (Qp Ob (pv 1) Qj (Q3 _)) (Rh (Qp Ob (Zo X6 (pv 0) (pv 1)) (Zo Qc6 (pv 1) Qj) (Q3 _))))) (Qh (Qu Qj)) Q6)
  (Qh (Qu (Zo X6 (pv 0) (pv 1)))),?_⟩
 refine⟨_,Xb,_,_,Xb,Xb,_,Xb,?_⟩;by_cases h2:j<2
 ·rw[GX h2];exact Yr (Yr (q 0))
 ·rw[Gz h2];have hd:Q0r i j:=⟨by omega,by omega⟩;refine Zp ⟨_,Xb,_,Xb,_,_,Xb,Xb,hd,_,Xb,_,_,Xb,Xb,_,_,Xb,Xb,_,Xb,?_⟩;refine Va (λ_=>q 0) (λ_=>?_);exact⟨_,Xb,_,Xb,_,_,Xb,Xb,hd,q _⟩
theorem Qmw:Qv ["met","thing","twin","place"] ["met","thing"] (Qk Qgd):=by eq_refl
theorem Qrn(F:Wu K "place_among" "place_among" Qgd f0 fd)(B:Jl mg):Qr P w K mg base Z3 1 f0 fd ["met","thing"] Qgs:=by
 refine F.ok Qmw (λvs H Q E h=>?_) (λcdv A outer s H vs Q E x h=>?_)
 ·obtain⟨l,v,t,es,ts,rfl,_⟩:=h;rfl
 obtain⟨l,v,t,es,ts,rfl,o,g,k,z,Zw,u,D,G⟩:=h;have C:=x.units;have nd:=Qmw.nd;refine⟨_,Qd (Ye Gy rfl (Qvw rfl B.reversed (Qa (pv 0) Qe)) (Vi rfl (Zl (Ya 2 nd) (Zl (Ya 3 nd) X5)))
   (Qh (Zn (Qp (Qj2 C) (pv 2) (pv 1) (Q3 _)) (Qh (Qu (pv 3))) Q6)))
  (Qh (Qu Uh)),?_⟩
 refine⟨_,Xb,l,es,Xb,Zc.of o,Qpu (K:=K) (a:=l) (xs:=es) (λi σ f=>f=H/\∃p q,σ=[Ga (.ref l),Ga v,p,q])
  ⟨Xb,_,_,Xb⟩ (λi σ f _⟨e,_⟩=>by rw[e];exact Zc.of o) ?_ ?_⟩
 ·rintro i y σ f hi ⟨rfl,p,q,rfl⟩;obtain⟨c,J,j,I,rfl,r,m,n⟩:=g y (List.mem_reverse.mp (List.mem_of_getElem? hi));have d:=k _ (List.mem_of_getElem? n);refine⟨c,_,Xb,Z2.of r,Xb,J,_,Xb,jv j,_,Xb,Xb,_,Xb,_,Xb,_,_,m.dt,z.dt,Jw _ d.1,Jw _ Zw,?_,_,Xb,?_⟩
  ·rw[Wc,Wc];have:=d.2;omega
  rw[Qlw];by_cases b:I=t
  ·subst b;rw[GX rfl];exact Yr ⟨_,Xb,D j n⟩
  ·rw[Gz b];exact Zp ⟨Xb,_,_,Xb⟩
 ·rintro σ f ⟨rfl,_⟩;exact G
theorem Qr3:Qv ["self","places"] ["self","places"] (Qk Qbt):=by eq_refl
theorem Qoe(F:Wu K "__init__" "Walk.__init__" Qbt f0 fd)(T:Qqk K mg CW):Qr P w K mg base Z3 1 f0 fd ["self","places"] (Qi6 CW):=by
 refine F.ok Qr3 (λvs H Q E h=>?_) (λcdv A outer s H vs Q E c h=>?_)
 ·obtain⟨a,dx,p,rfl,_⟩:=h;rfl
 obtain⟨a,dx,p,rfl,hw,q⟩:=h;refine⟨_,Qd (Yu (pv 0) (pv 1) rfl) (Qh (Yu (pv 0) Qj Xb)),?_⟩;refine⟨_,Xb,_,Xb,a,CW,dx,[],Xb,hw,T.cl,T.nP,by show 0<1000;decide,?_⟩;refine⟨_,Xb,a,CW,dx,_,Xb,Qb,T.cl,T.nS,by show 1<1000;decide,?_⟩;refine q _ ⟨dx,0,by rw[Qb,Qxp]⟩ (λb o e hb=>by rw[Qf hb,Qf hb];exact e) λb hb=>?_;by_cases h:b=a
 ·subst h;rw[Qb]at hb;cases hb
 ·rw[Qf h,Qf h]at hb;exact hb
end
section
variable{P:Gk}{w:Gv}{K:Gd}{mg:Ta->Option Value}{base:Heap}
theorem Qe1:Qv ["self","thing","near","spare","met","place","inner","share","scope","parts","part"] ["self","thing","near","spare"] (Qk U2):=by eq_refl
theorem Qnm{n:Nat}{fT fA fS fB:Gc}{bh be bg bf:Tt}(F:Wu K "place_within" "Walk.place_within" U2 f0 fd)(T:Qee K mg C)(TW:Qqk K mg CW)(B:Jl mg)(mP:Z8 K CW "place_within" f0)(bP:Binds K fd ["self","thing","near","spare"] [])
  (G:Qr P w K mg base Z3 (n+1) f0 fd ["self","thing","near","spare"] (Qau P w C CW n))(GT:Qr P w K mg base Z3 1 fT bh ["thing"] Qss)(kT:KI K fT)(bT:Binds K bh ["thing"] [])(mT:MG mg "top_words" fT)
  (GA:Qr P w K mg base Z3 1 fA be ["met","thing"] Qgs)(kA:KI K fA)(bA:Binds K be ["met","thing"] [])(mA:MG mg "place_among" fA)
  (GS:Qr P w K mg base Z3 1 fS bg ["spare","inner"] Qgf)(kS:KI K fS)(bS:Binds K bg ["spare","inner"] [])(mS:MG mg "share_of" fS)
  (mB:Z8 K C "place_by_form" fB)(GB:Qr P w K mg base Z3 1 fB bf ["self","thing","form"] (Qdr P w C))(bB:Binds K bf ["self","thing","form"] []):
  Qr P w K mg base Z3 (n+2) f0 fd ["self","thing","near","spare"] (Qau P w C CW (n+1)):=by
 refine F.ok Qe1 (λvs H Q E h=>?_) (λcdv A outer s H vs Q E hr h=>?_)
 ·obtain⟨J,p,dn,v,sp,t,a,f,d,D,S,m,ts,rfl,_⟩:=h;rfl
 obtain⟨J,p,dn,v,sp,t,a,f,d,D,S,m,ts,rfl,W,x,xn,hD,aS,fS,ht,Zw,bY,bm,hm,b5,q⟩:=h;have hu:=hr.units;have aJ:Z9 1 _:=hr.mono (by omega);have nd:=Qe1.nd;obtain⟨u1,mF,rF⟩:=TW.few;obtain⟨u3,mN,rN⟩:=TW.steps;refine⟨_,Qd (Yu (pv 0) (Zo Qav (Qm (pv 0) rfl) Qj) rfl)
  (Qd (Qs 4 nd (Xq Ed Ek El (Qka (Ul hr)) (pv 2) (Qa (Zy GT aJ rfl mT kT bT .nil Q4 (Qa (pv 1) Qe)) (Qa (Zt Qe) Qe))))
  (Qd (Qs 5 nd (Zy GA aJ rfl mA kA bA .nil Q4 (Qa (pv 4) (Qa (pv 1) Qe))))
  (Qd (Zn (Rj (Ql2 (pv 5))) (Qh (Qu (pv 5))) Q6)
  (Qd (Qs 6 nd (Qo Zb rfl B.len GO (Qa (Vm (own:=["part"]) (fv:=[]) rfl (S:=(by eq_refl:X8 (Qk U2) _)) .nil (Ue (Ys Rq (pv 1) (Yt Qj) Xt))
   (λ_ _ _ _ _=>Xc (i:=0) (nd1 _) rfl (Dj Xb) (Er Xb)) (λ_ _ _ _ _=>Qic (Qp Qca (Qo (r:=λxs H Q=>∃p ys,xs=[.ref p]/\(Zc K H p ys\/Z2 K H p ys)/\Q (.int ys.length) H) Zb rfl B.len GO (Qa (pv 0) Qe)) Qj (Q3 _))) (λ_ _ _ _ _=>pv 0)) Qe)))
  (Qd (Qs 7 nd (Qrw (Qp Ob (Qm (pv 0) rfl) (Oi rfl mN rN) (Q3 _)) (Zy GS aJ rfl mS kS bS .nil Q4 (Qa (pv 3) (Qa (pv 6) Qe))) Qj))
  (Qd (Qs 8 nd (pv 2))
  (Qd (Qs 9 nd (Zt Qe))
  (Qd (Ye Gy rfl (Ue (Ys Rq (pv 1) (Yt Qj) Xt)) (Ya 10 nd)
   (Qd (Zn (PW.pt (Vh (Qp Qca (pv 7) Qj (Q3 _)) (Wj (PW.pt (R5 (Qp Ql7 (pv 6) (Oi rfl mF rF) (Q3 _)) (Rh (Qp Ob (Qm (pv 0) rfl) (Oi rfl mN rN) (Q3 _))))))))
    (Qh (Qs 8 nd Ov))
    (Qh (Zn (PW.pt (Vh (Qi4 (pv 9) (λ_=>rfl)) (Wj (Qp (Qj2 hu) (pv 10) (Qn Q5 (pv 1) (Qo Zb rfl B.len GO (Qa (pv 9) Qe))) (Q3 _)))))
     (Qd (Ze (Xq Gs GF GV Z0 (pv 9) (Qa (Qn Zi (pv 9) (Qa9 Jv Qj)) Qe)))
     (Qh Qh7)) Q6)))
   (Qh (Ze (Xq Gs GF GV Z0 (pv 9) (Qa (Q9 (pv 0) TW.cl mP G hr bP .nil Q4 (Qa (pv 10) (Qa (pv 8) (Qa (Qr9 (pv 7) (pv 3)) Qe)))) Qe))))))
  (Qd (Qs 5 nd (Q9 (Qm (pv 0) rfl) T.cl mB GB aJ bB .nil Q4 (Qa (pv 1) (Qa (Za (Qa (Qn Q5 (pv 1) Qj) (Qa (Xn W8 rfl B.tuple TX (Qa (pv 9) Qe)) Qe))) Qe))))
  (Qd (Ze (Xq Gs GF GV Z0 (pv 4) (Qa (Za (Qa (pv 1) (Qa (pv 5) Qe))) Qe)))
  (Qh (Qu (pv 5))))))))))))),?_⟩
 obtain⟨aq,k0,ow⟩:=W;refine⟨_,Xb,J,CW,aq,_,_,Xb,ow,TW.cl,TW.nS,Qcg _ _,_,_,Xb,Xb,_,Xb,J,CW,aq,_,Xb,ow,TW.cl,TW.nS,(by show 2<1000;decide),?_⟩;rw[Qvq];obtain⟨cs,op⟩:=x.ob;obtain⟨cz,u1,_⟩:=x.th;obtain⟨cB,w1,_⟩:=x.fo;obtain⟨cu,D1,_⟩:=x.kn;generalize aF:upd H J (.ins CW aq (wfl p (k0+1)))=H0;have af:∀b o,H b=Ga o->b≠J->H0 b=Ga o:=λb o e h=>by rw[<-aF,Qf h];exact e
 have a7:H0 J=Ga (.ins CW aq (wfl p (k0+1))):=by rw[<-aF,Qb]
 have bE:∀b,H0 b=Gg->H b=Gg:=λb hb=>by
  by_cases h:b=J
  ·subst h;rw[a7]at hb;cases hb
  ·rw[<-aF,Qf h]at hb;exact hb
 clear aF;have t0:Qt H H0:=λb xs e=>af b _ e (Zh e ow (by intro z;cases z));have x0:Pl P w C H0 p a f d ts:=x.keep (λo e=>af _ _ e (Zh op ow Qz2)) (λo e=>af _ _ e (Zh u1 ow (by intro z;cases z))) (λo e=>af _ _ e (Zh w1 ow (by intro z;cases z))) (λo e=>af _ _ e (Zh D1.at_ ow (by intro z;cases z))) t0;have bH:Nrw H0 D S m ts:=xn.keep (λb hb o e=>by
   obtain⟨kv,h,_⟩:=xn.at_ b hb;exact af _ _ e (Zh h ow (by intro z;cases z))) (λb hb o e=>by
   obtain⟨kv,h,_⟩:=xn.ls b hb;exact af _ _ e (Zh h ow (by intro z;cases z))) t0 (λ_ _ h=>h) (Gn _)
 have br:=ht.Ql t0;have sz:=Qct t;obtain⟨kvs,ad,kv2,_⟩:=bH.at_ dn hD;refine⟨_,Xb,.inr (.inr (.inl ⟨Xb,.inr ⟨kvs,ad⟩⟩)),_,Xb,v,t,Xb,br,by omega,λr H1 g1 h1=>⟨Gx _,λq1 aI=>?_⟩⟩;have g2:=g1.trans (Qg aI (.lst []));refine⟨dn,r,.ref q1,kvs,Qt0 t,Xb,Xb,g2 _ _ ad,(Qg aI (.lst [])) _ _ h1,by rw[GQ];omega,λnv H3 aw=>?_⟩;obtain⟨l,S1,rfl,lS,a9,bD,bw,aj,cj⟩:=Qut bH hD ad g1 aI aw;clear aw g2 h1 g1 aI;have t3:Qt H0 H3:=λb xs e=>aj b _ e (Zh e ad (by intro z;cases z));have a2:=br.Ql t3;have a8:H3 J=Ga (.ins CW aq (wfl p (k0+1))):=aj _ _ a7 (Zh a7 ad (by intro z;cases z));have W3:R4 CW H3 J p:=⟨_,_,a8⟩;have x3:Pl P w C H3 p a f d ts:=by obtain⟨dx,o1⟩:=x0.ob;obtain⟨us,u1,_⟩:=x0.th;obtain⟨ws,w1,_⟩:=x0.fo;obtain⟨kv,D,_⟩:=x0.kn;exact x0.keep (λo e=>aj _ _ e (Zh o1 ad (by intro z;cases z))) (λo e=>aj _ _ e (Zh u1 ad (by intro z;cases z))) (λo e=>aj _ _ e (Zh w1 ad (by intro z;cases z))) (λo e=>aj _ _ e (Zh D.at_ ad (by intro z;cases z))) t3
 have F3:Frw a f d J D D S S1 H H3:=⟨λb o e _ _ _ h4 h5 _=>aj b o (af b o e h4) (λz=>h5 (z▸hD)),λ_ h=>.inl h,λb hb=>(bw b hb).elim .inl λz=>.inr (bE b z),λ_ h=>h,bD,λb hb=>bE b (cj b hb)⟩;have aO:∀c,c∉S->H c≠Gg->c∉S1:=λc h1 h2 z=>by
  rcases F3.Qfy c z with z|z
  ·exact h1 z
  ·exact h2 z
 have bI:a∉S1:=aO a aS (by rw[u1];intro z;cases z);have bV:f∉S1:=aO f fS (by rw[w1];intro z;cases z);obtain⟨es,hl,cw,bO⟩:=a9.ls l lS;refine⟨_,Xb,_,Xb,l,v,t,es,ts,Xb,hl,bO,x3.ok,a2,Zw,bm,λj ej=>?_,?_⟩
 ·have e:=Qna x.cl (List.mem_of_getElem? ej);refine⟨_,Xb,Gf,by rw[Gz nofun];rfl,Yr ⟨_,Xb,q j D S1 H3 W3 (by rw[e];exact x3) (by rw[e];exact a9.mono (by omega)) (by rw[e];exact ej) F3⟩⟩
 refine⟨_,Xb,Gq,by rw[GX rfl];rfl,Zp ?_⟩;obtain⟨b0,wd,vs,ps,rfl,rfl,bi,a1⟩:=a2.inv;simp only[Th.size,Th.depth]at hm b5 bY bm;have ar:okL ps=Gf:=by simp only[Th.ok,Tn]at Zw;exact Zw.2
 have b9:=a1.length;have cx:=Zx ps;refine⟨_,Xb,_,Xb,b0,_,Xb,Z2.of bi,V1 _ _,λrA bo=>?_⟩;rw[Qhh];have sA:=Qg bo (.tup vs);refine⟨rA,Xb,⟨_,Z2.of Qb⟩,λpA a0=>?_⟩;refine Qjt (K:=K) (a:=rA) (xs:=vs) (λi ys σ H2=>(∃x0,σ=[x0])/\Qz (upd H3 rA (.tup vs)) H2) (small (by omega)) ⟨⟨_,Xb⟩,Qg a0 (.lst [])⟩ (λi ys σ H2 _ h=>Z2.of (h.2 _ _ Qb)) ?_ ?_
 ·rintro i y ys σ H2 hi ⟨⟨x0,rfl⟩,g⟩ gp;obtain⟨ty,L,hy⟩:=a1.get hi;obtain⟨b,wb,us,qs,rfl,rfl,hb,_⟩:=hy.inv;refine⟨_,Xb,b,_,Xb,.inr (Z2.of (g _ _ (sA _ _ hb))),_,_,Xb,Xb,_,Xb,?_⟩;refine Va (λ_=>?_) (λ_=>⟨gp,⟨_,Xb⟩,g⟩);exact⟨_,Xb,gp,⟨_,Xb⟩,λc o e=>by rw[Qf (Qc e a0)];exact g _ _ e⟩
 rintro ys σ H4 b7 ⟨_,gA⟩ gp;have ag:Qz H3 H4:=sA.trans gA;refine⟨pA,ys,Xb,.inl (Zc.of gp),?_⟩;refine⟨_,Xb,J,CW,aq,_,_,Xb,ag _ _ a8,TW.cl,TW.nS,Qcg _ _,_,_,Xb,Xb,_,Xb,?_⟩;refine Qy5 (λXy=>Va (λ_=>⟨_,Xb,_,Xb,_,_,Xb,by omega,λr=>Xy r⟩) (λ_=>Xy 0)) (λsh=>?_);have W4:R4 CW H4 J p:=⟨_,_,ag _ _ a8⟩;have x4:=x3.same ag;have au:=a9.same ag;have F4:Frw a f d J D D S S1 H H4:=F3.trans (Frw.of ag);have bs:=a2.same ag;have aU:=ag _ _ bi;have ax:=a1.same ag;generalize (ys.length:Int)=a3;clear gA gp b7 bo a0;refine⟨_,Xb,Gx _,λI M=>?_⟩;have s4:=Qg M (.lst []);refine⟨_,Xb,_,Xb,b0,_,Xb,Z2.of (s4 _ _ aU),V1 _ _,λr2 bn=>?_⟩;rw[Qhh];have s5:=Qg bn (.tup vs);have aL:=s4.trans s5;have q5:=s5 _ _ (@Qb H4 I (.lst []));have r5:=@Qb (upd H4 I (.lst [])) r2 (.tup vs);have b3:I≠r2:=Qc Qb bn;have x5:=x4.same aL;have cn:=au.same aL;have W5:R4 CW (upd (upd H4 I (.lst [])) r2 (.tup vs)) J p:=by obtain⟨dx,k,o⟩:=W4;exact⟨dx,k,aL _ _ o⟩
 generalize ct:upd (upd H4 I (.lst [])) r2 (.tup vs)=H5 at*;obtain⟨cy,bF,cr⟩:=x4.th;obtain⟨cA,bW,_⟩:=x4.fo;obtain⟨cp,D3,_⟩:=x4.kn;obtain⟨bL,k4,o4⟩:=W4;have bx:I≠a:=λz=>by rw[z,bF]at M;cases M
 have bz:I≠f:=λz=>by rw[z,bW]at M;cases M
 have ch:I≠d:=λz=>by rw[z,D3.at_]at M;cases M
 have bC:I≠J:=λz=>by rw[z,o4]at M;cases M
 have cg:I∉S1:=λz=>by obtain⟨xs,h,_⟩:=au.ls _ z;rw[h]at M;cases M
 have cf:I∉D:=λz=>by obtain⟨xs,h,_⟩:=au.at_ _ z;rw[h]at M;cases M
 have W4:R4 CW H4 J p:=⟨bL,k4,o4⟩;refine⟨r2,Xb,⟨_,Z2.of r5⟩,Qft (K:=K) (a:=r2) (xs:=vs) (λi σ X=>∃(D6 Y:List Gc)(ds:Gc)(u:List Nat)(ak:Option V),σ=[Ga (.ref J),Ga (.ref b0),Ga (.ref dn),Ga (.int sp),Ga (.ref l),Ga .non,Ga (.int a3),Ga (.int sh),Ga (.ref ds),Ga (.ref I),ak]/\
   R4 CW X J p/\Pl P w C X p a f d (Yo ts (Q8 (ps.take i)))/\Nrw X D6 Y (m+1+2*Qw (ps.take i)) (Yo ts (Q8 (ps.take i)))/\ds∈D6/\Frw a f d J D D6 S1 Y H4 X/\I∉D6/\I∉Y/\a∉Y/\f∉Y/\X I=Ga (.lst (u.map jv))/\u.length=i/\
   (∀(k j:Nat),u[k]?=Ga j->∃s,ps[k]?=Ga s/\(Yo ts (Q8 (ps.take i)))[j]?=Ga s)/\X r2=Ga (.tup vs))
  ⟨D,S1,dn,[],_,Xb,W5,?_,?_,hD,Frw.of aL,cf,cg,bI,bV,q5,Xb,λk j h=>by simp at h,r5⟩ (λi σ X _⟨_,_,_,_,_,_,_,_,_,_,_,_,_,_,_,_,_,_,h⟩=>Z2.of h) ?_ ?_⟩
 ·simp only[List.take_zero,Q8,Ic];exact x5
 ·simp only[List.take_zero,Q8,Qw,Ic,Nat.mul_zero,L6];exact cn
 ·intro i y;have eS:∀ty,ps[i]?=Ga ty->Yo (Yo ts (Q8 (ps.take i))) ty.inside=Yo ts (Q8 (ps.take (i+1))):=λty L=>by rw[Qg5 ps i ty L,V7]
  have fin:∀(ty:Th)(aD:Gc)(D7 S7:List Gc)(H7:Hp)(u:List Nat)(j:Nat)(ak:Option V),ps[i]?=Ga ty->u.length=i->(∀(k j:Nat),u[k]?=Ga j->∃s,ps[k]?=Ga s/\(Yo ts (Q8 (ps.take i)))[j]?=Ga s)->R4 CW H7 J p->Pl P w C H7 p a f d (Yo ts (Q8 (ps.take (i+1))))->Nrw H7 D7 S7 (m+1+2*Qw (ps.take (i+1))) (Yo ts (Q8 (ps.take (i+1))))->aD∈D7->Frw a f d J D D7 S1 S7 H4 H7->I∉D7->I∉S7->a∉S7->f∉S7->H7 I=Ga (.lst (u.map jv))->H7 r2=Ga (.tup vs)->(Yo ts (Q8 (ps.take (i+1))))[j]?=Ga ty->
    ∃(D6 Y:List Gc)(ds:Gc)(a4:List Nat)(bG:Option V),[Ga (.ref J),Ga (.ref b0),Ga (.ref dn),Ga (.int sp),Ga (.ref l),Ga .non,Ga (.int a3),Ga (.int sh),Ga (.ref aD),Ga (.ref I),ak]=[Ga (.ref J),Ga (.ref b0),Ga (.ref dn),Ga (.int sp),Ga (.ref l),Ga .non,Ga (.int a3),Ga (.int sh),Ga (.ref ds),Ga (.ref I),bG]/\
     R4 CW (upd H7 I (.lst (u.map jv++[jv j]))) J p/\Pl P w C (upd H7 I (.lst (u.map jv++[jv j]))) p a f d (Yo ts (Q8 (ps.take (i+1))))/\Nrw (upd H7 I (.lst (u.map jv++[jv j]))) D6 Y (m+1+2*Qw (ps.take (i+1))) (Yo ts (Q8 (ps.take (i+1))))/\ds∈D6/\Frw a f d J D D6 S1 Y H4 (upd H7 I (.lst (u.map jv++[jv j])))/\I∉D6/\I∉Y/\a∉Y/\f∉Y/\(upd H7 I (.lst (u.map jv++[jv j]))) I=Ga (.lst (a4.map jv))/\a4.length=i+1/\
     (∀(k j:Nat),a4[k]?=Ga j->∃s,ps[k]?=Ga s/\(Yo ts (Q8 (ps.take (i+1))))[j]?=Ga s)/\(upd H7 I (.lst (u.map jv++[jv j]))) r2=Ga (.tup vs):=by
   intro ty aD D7 S7 H7 u j ak L lw N W7 x7 aB ba Z am an aP aT q7 r7 e7;obtain⟨bM,k7,o7⟩:=W7;refine⟨D7,S7,aD,u++[j],ak,Xb,⟨bM,k7,by rw[Qf (Gp bC)];exact o7⟩,x7.but q7 bx bz,?_,ba,?_,am,an,aP,aT,?_,by rw[List.length_append,List.length_singleton,lw],λk j' hk=>?_,?_⟩
   ·refine aB.keep (λb hb o e=>?_) (λb hb o e=>?_) (Zs λxs e=>by rw[q7]at e;cases e) (λ_ _ h=>h) (Gn _)
    ·rw[Qf (show b≠I fromλz=>am (by rw[<-z];exact hb))];exact e
    ·rw[Qf (show b≠I fromλz=>an (by rw[<-z];exact hb))];exact e
   ·refine⟨λb o e h1 h2 h3 h4 h5 h6=>?_,Z.Qk9,Z.Qfy,Z.Qni,Z.Qof,λb hb=>?_⟩
    ·rw[Qf (Qc e M)];exact Z.keep b o e h1 h2 h3 h4 h5 h6
    ·by_cases bk:b=I
     ·subst bk;rw[Qb]at hb;cases hb
     ·rw[Qf bk]at hb;exact Z.there b hb
   ·rw[Qb,List.map_append];rfl
   ·rcases Tk k u.length with aY|aY
    ·rw[List.getElem?_append_left aY]at hk;obtain⟨s0,h1,h2⟩:=N k j' hk;refine⟨s0,h1,?_⟩;rw[<-eS ty L];exact Qcm h2
    ·rw[List.getElem?_append_right aY]at hk;have h0:k - u.length=0:=by have:=(List.getElem?_eq_some_iff.mp hk).1;simp at this;omega
     rw[h0]at hk;simp at hk;subst hk;have:k=i:=by omega
     subst this;exact⟨ty,L,e7⟩
   ·rw[Qf (Gp b3)];exact r7
  refine' Qz5 (F:=λbK H'=>vs[i]?=Ga y/\∃(D' S':List Gc)(u:List Nat),R4 CW H' J p/\Pl P w C H' p a f d (Yo ts (Q8 (ps.take i)))/\Nrw H' D' S' (m+1+2*Qw (ps.take i)) (Yo ts (Q8 (ps.take i)))/\bK∈D'/\Frw a f d J D D' S1 S' H4 H'/\I∉D'/\I∉S'/\a∉S'/\f∉S'/\H' I=Ga (.lst (u.map jv))/\u.length=i/\(∀(k j:Nat),u[k]?=Ga j->∃s,ps[k]?=Ga s/\(Yo ts (Q8 (ps.take i)))[j]?=Ga s)/\H' r2=Ga (.tup vs)) (λXy=>?myk) ?myh
  case myk=>
   rintro σ X hi ⟨D6,Y,ds,u,ak,rfl,W6,x6,U,ap,F6,O,R,aa,ac,q6,lw,N,r6⟩;have b1:i<vs.length:=(List.getElem?_eq_some_iff.mp hi).1;obtain⟨ty,L,hy⟩:=ax.get hi;have ae:ty∈ps:=List.mem_of_getElem? L;have a6:ty.ok=Gf:=by rw[Ii,List.all_eq_true]at ar;exact ar ty ae
   have m2:=X9 ae;have m4:=Rg ps i ty L;have t6:Qt H4 X:=F6.Ql W4 x4 au;have aV:=t6 _ _ aU;obtain⟨ab,k6,o6⟩:=W6;have W6:R4 CW X J p:=⟨ab,k6,o6⟩;have aN:=Xy ds X ⟨hi,D6,Y,u,W6,x6,U,ap,F6,O,R,aa,ac,q6,lw,N,r6⟩;dsimp only[Vl,List.set_cons_succ,List.set_cons_zero]
   refine' Qye (λYp bc=>?mykk) ?mythn ?myels
   case mykk=>refine⟨_,Xb,_,_,Xb,Xb,_,Xb,Va (λ_=>?_) (λ_=>Zp bc)⟩;refine⟨_,Xb,_,_,Xb,Xb,_,Xb,Va (λ_=>Yr Yp) (λ_=>?_)⟩;exact⟨_,Xb,J,CW,ab,_,_,Xb,o6,TW.cl,TW.nS,Qcg _ _,_,_,Xb,Xb,_,Xb,Va (λ_=>Yp) (λ_=>bc)⟩
   case myels=>
    by_cases aZ:u=[]
    ·exact⟨_,Xb,Gq,.inl ⟨_,Zc.of q6,by rw[aZ];rfl⟩,Zp (Zp aN)⟩
    ·have co:0<u.length:=List.length_pos_iff.mpr aZ;have ay:(u.map jv).length=u.length:=List.length_map _;obtain⟨vp,bd⟩:∃vp,vs[i - 1]?=Ga vp:=⟨_,List.getElem?_eq_getElem (show i - 1<vs.length by omega)⟩;obtain⟨tp,aR,b6⟩:=ax.get bd;have cd:tp.ok=Gf:=by rw[Ii,List.all_eq_true]at ar;exact ar tp (List.mem_of_getElem? aR)
     have m3:=X9 (List.mem_of_getElem? aR);have bJ:atI (V.str wd::vs) (((u.map jv).length:Nat):Int)=Ga vp:=by refine Qy ?_;rw[ay,lw,show i=(i - 1)+1 by omega,List.getElem?_cons_succ];exact bd
     refine⟨_,Xb,Gf,.inl ⟨_,Zc.of q6,by cases u with|nil=>exact absurd rfl aZ|cons _ _=>rfl⟩,Yr ?_⟩;refine⟨_,Xb,_,Xb,_,Xb,I,u.map jv,Xb,.inl (Zc.of q6),b0,_,_,vp,Xb,Xb,Z2.of aV,bJ,_,_,(hy.Ql t6).dt,(b6.Ql t6).dt,Jw _ a6,Jw _ cd,?_,_,Xb,?_⟩
     ·rw[Wc,Wc];omega
     rw[Qlw];by_cases aX:ty=tp
     ·rw[GX aX];refine Yr ?_;obtain⟨vl,al,bl⟩:=Qtp (u.map jv) (by omega);rw[List.getElem?_map,ay]at bl;obtain⟨jl,b2,rfl⟩:∃jl,u[u.length - 1]?=Ga jl/\vl=jv jl:=by
       cases e:u[u.length - 1]? with
       |none=>rw[e]at bl;cases bl
       |some jl=>rw[e]at bl;exact⟨jl,Xb,(Tj bl).symm⟩
      obtain⟨sl,bp,bq⟩:=N _ _ b2;have bU:sl=ty:=by rw[lw,aR]at bp;rw[aX];exact(Tj bp).symm
      subst bU;have eD:Yo ts (Q8 (ps.take (i+1)))=Yo ts (Q8 (ps.take i)):=by rw[<-eS sl L];exact Qna x6.cl (List.mem_of_getElem? bq)
      refine⟨_,Xb,.inl ⟨Xb,_,Zc.of q6⟩,_,Xb,_,Xb,I,u.map jv,_,_,Xb,Xb,Zc.of q6,al,I,u.map jv,jv jl,Xb,Xb,q6,by rw[ay,GQ];omega,?_⟩;exact fin sl ds D6 Y X u jl _ L lw N W6 (by rw[eD];exact x6) (by rw[eD];exact U.mono (by omega)) ap F6 O R aa ac q6 r6 (by rw[eD];exact bq)
     ·rw[Gz aX];exact Zp aN
   case mythn=>
    intro cc av;have sc:=Qg av (.dT []);refine Xy cc (upd X cc (.dT [])) ⟨hi,cc::D6,Y,u,⟨ab,k6,sc _ _ o6⟩,x6.same sc,U.more av,List.mem_cons_self,?_,?_,R,aa,ac,sc _ _ q6,lw,N,sc _ _ r6⟩
    ·have Z:=F6.trans (Frw.of (D:=D6) (S:=Y) sc);exact⟨Z.keep,λb hb=>(List.mem_cons.mp hb).elim (λz=>.inr (by rw[z];exact F6.there _ av)) (Z.Qk9 b),Z.Qfy,λb hb=>List.mem_cons_of_mem _ (Z.Qni b hb),Z.Qof,Z.there⟩
    ·intro z;rcases List.mem_cons.mp z with z|z
     ·rw[<-z,q6]at av;cases av
     ·exact O z
  case myh=>
   rintro ds X ⟨hi,D6,Y,u,W6,x6,U,ap,F6,O,R,aa,ac,q6,lw,N,r6⟩;have b1:i<vs.length:=(List.getElem?_eq_some_iff.mp hi).1;obtain⟨ty,L,hy⟩:=ax.get hi;have ae:ty∈ps:=List.mem_of_getElem? L;have m1:=Rg ps i ty L;have m2:=X9 ae;have m3:=W0 ps (i+1);have a6:ty.ok=Gf:=by rw[Ii,List.all_eq_true]at ar;exact ar ty ae
   have t6:Qt H4 X:=F6.Ql W4 x4 au;have ai:=Qc2 (Q8 (ps.take i)) ts;rw[V8]at ai;obtain⟨ab,k6,o6⟩:=W6;have W6:R4 CW X J p:=⟨ab,k6,o6⟩;refine⟨_,Xb,.inl ⟨Xb,_,Zc.of q6⟩,_,Xb,J,ab,_,Xb,o6,Qe7 _ _,_,Xb,_,Xb,sh,sp,Xb,Xb,λz=>?_⟩;refine⟨J,p,ds,y,z,ty,a,f,d,D6,Y,_,_,Xb,W6,x6,U,ap,aa,ac,hy.Ql t6,a6,by omega,by omega,by omega,by omega,λj D7 S7 H7 W7 x7 aB e7 Z=>?_⟩;have q7:H7 I=Ga (.lst (u.map jv)):=Z.keep _ _ q6 bx bz ch bC O R;have a5:∀c,c∉Y->X c≠Gg->c∉S7:=λc h1 h2 z=>by
    rcases Z.Qfy c z with z|z
    ·exact h1 z
    ·exact h2 z
   have an:I∉S7:=a5 I R (by rw[q6];intro z;cases z);have am:I∉D7:=λz=>by
    rcases Z.Qk9 _ z with z|z
    ·exact O z
    ·rw[q6]at z;cases z
   obtain⟨ck,aM,_⟩:=x6.th;obtain⟨cm,aE,_⟩:=x6.fo;have aP:a∉S7:=a5 a aa (by rw[aM];intro z;cases z);have aT:f∉S7:=a5 f ac (by rw[aE];intro z;cases z);refine⟨I,u.map jv,jv j,Xb,Xb,q7,by rw[List.length_map,GQ];omega,?_⟩;have r7:H7 r2=Ga (.tup vs):=Z.Ql W6 x6 U _ _ r6;rw[eS ty L]at x7 aB e7;have eM:m+1+2*Qw (ps.take i)+2*ty.size=m+1+2*Qw (ps.take (i+1)):=by omega
   rw[eM]at aB;exact fin ty ds D7 S7 H7 u j _ L lw N W7 x7 aB (Z.Qni _ ap) (F6.trans Z) am an aP aT q7 r7 e7
 ·rintro σ X ⟨D6,Y,ds,u,ak,rfl,W6,x6,U,ap,F6,O,R,aa,ac,q6,lw,N,r6⟩;have ep:ps.take vs.length=ps:=by rw[b9,List.take_length]
  rw[ep]at x6 U N;have t6:Qt H4 X:=F6.Ql W4 x4 au;have aV:=t6 _ _ aU;obtain⟨bb,ce⟩:=x6.ob;obtain⟨ab,k6,o6⟩:=W6;have b8:=Qc2 (Q8 ps) ts;rw[V8]at b8;have aK:=F6.Qof l lS;have pin:∀s0∈ps,s0∈Yo ts (Q8 ps):=λs0 b4=>(Qd3 _ _ _).mpr (.inr (by rw[Xj,List.mem_flatMap];exact⟨s0,b4,Ql1 s0⟩));have bQ:u=ps.map λs0=>(Yo ts (Q8 ps)).idxOf s0:=by
   refine List.ext_getElem? λk=>?_;rw[List.getElem?_map];cases e:u[k]? with
   |none=>
    have:u.length<=k:=by simpa using e
    rw[List.getElem?_eq_none (by omega)];rfl
   |some j0=>obtain⟨s0,h1,h2⟩:=N k j0 e;rw[h1,TZ,Rr x6.nd h2]
  refine⟨_,Xb,J,CW,ab,_,_,Xb,o6,TW.cl,TW.nP,Qou _ _,p,bb,_,Xb,ce,Qtj _ _ _,_,Xb,_,Xb,b0,_,_,.str wd,Xb,Xb,Z2.of aV,Ri _ _,_,Xb,I,_,Xb,.inl ⟨Zc.of q6,λe0 bZ=>?_⟩⟩;have s6:=Qg bZ (.tup (u.map jv));refine⟨by show 2<=Gi;decide,λc0 bX=>?_⟩;have s7:=Qg bX (.tup [.str wd,.ref e0]);have az:=s6.trans s7;refine⟨p,c0,.ref b0,.mk wd ps,a,f,d,_,Xb,x6.same az,(bs.Ql t6).same az,Zw,by simp only[Th.depth];omega,pin,⟨c0,e0,Xb,Qb,?_⟩,by omega,λj H8 x8 e8 F8=>?_⟩
  ·rw[s7 _ _ Qb,bQ];rfl
  have eI:(Th.mk wd ps).inside=Q8 ps++[Th.mk wd ps]:=by simp[Th.inside]
  have eD:Yo ts (Th.mk wd ps).inside=if Th.mk wd ps∈Yo ts (Q8 ps)then Yo ts (Q8 ps)else Yo ts (Q8 ps)++[Th.mk wd ps]:=by rw[eI,Qnc]
  rw[<-eD]at x8 e8;have ci:Qt X H8:=λb xs e=>(F8.Ql (x6.same az)) b xs (az _ _ e);have ao:Fr3 a f d X H8:=(Fr3.of az).trans F8;obtain⟨aQ,ai,cv,bN⟩:=U.ls l aK;have bu:l≠a:=λz=>aa (z▸aK);have bv:l≠f:=λz=>ac (z▸aK);obtain⟨ck,aM,_⟩:=x6.th;obtain⟨cm,aE,_⟩:=x6.fo;obtain⟨cq,aC,_⟩:=x6.kn;have ca:l≠d:=Zh ai aC.at_ (by intro z;cases z);have cb:l≠J:=Zh ai o6 (by intro z;cases z);have aH:=ao.keep _ _ ai bu bv ca;have o8:=ao.keep _ _ o6 (Zh o6 aM (by intro z;cases z)) (Zh o6 aE (by intro z;cases z)) (Zh o6 aC.at_ (by intro z;cases z));refine⟨_,Xb,.inl ⟨Xb,_,Zc.of aH⟩,_,Xb,_,Xb,by show 2<=Gi;decide,λc9 aW=>?_⟩;have s9:=Qg aW (.tup [.ref b0,jv j]);refine⟨l,aQ,.ref c9,Xb,Xb,s9 _ _ aH,by rw[GQ];omega,?_⟩;have x9:=x8.same s9;have sE:(Th.mk wd ps).size=Qw ps+1:=by simp[Th.size]
  have aA:Qt X (upd (upd H8 c9 (.tup [.ref b0,jv j])) l (.lst (aQ++[.ref c9]))):=λb xs e=>by rw[Qf (Zh e ai (by intro z;cases z))];exact s9 _ _ (ci _ _ e)
  have bt:(upd (upd H8 c9 (.tup [.ref b0,jv j])) l (.lst (aQ++[.ref c9]))) c9=Ga (.tup [.ref b0,jv j]):=by rw[Qf (λz=>by rw[z,aH]at aW;cases aW),Qb]
  refine⟨_,Xb,q j D6 Y _ ⟨ab,k6,by rw[Qf (Gp cb)];exact s9 _ _ o8⟩ (x9.but (s9 _ _ aH) bu bv) ⟨λb hb=>?_,λb hb=>?_⟩ e8 ?_⟩
  ·obtain⟨kv,k1,k2,k3⟩:=U.at_ b hb;refine⟨kv,?_,by rw[sE];omega,k3⟩;rw[Qf (Zh k1 ai (by intro z;cases z))];exact s9 _ _ (ao.keep _ _ k1 (Zh k1 aM (by intro z;cases z)) (Zh k1 aE (by intro z;cases z)) (Zh k1 aC.at_ (by intro z;cases z)))
  ·by_cases aG:b=l
   ·subst aG;refine⟨_,Qb,by rw[List.length_append,List.length_singleton,sE];omega,λe he=>?_⟩;rcases List.mem_append.mp he with he|he
    ·obtain⟨c,v,j0,t0,k1,k2,k3,k4⟩:=bN e he;refine⟨c,v,j0,t0,k1,aA _ _ k2,k3.Ql aA,?_⟩;rw[eI,V7];exact Qcm k4
    ·rw[List.mem_singleton]at he;subst he;exact⟨c9,.ref b0,j,_,Xb,bt,(bs.Ql t6).Ql aA,e8⟩
   ·obtain⟨bR,k1,k2,k3⟩:=U.ls b hb;refine⟨bR,?_,by rw[sE];omega,λe he=>?_⟩
    ·rw[Qf aG];exact s9 _ _ (ao.keep _ _ k1 (λz=>aa (z▸hb)) (λz=>ac (z▸hb)) (Zh k1 aC.at_ (by intro z;cases z)))
    ·obtain⟨c,v,j0,t0,k4,k5,k6,k7⟩:=k3 e he;refine⟨c,v,j0,t0,k4,aA _ _ k5,k6.Ql aA,?_⟩;rw[eI,V7];exact Qcm k7
  ·have ah:=F4.trans F6;refine⟨λb o e h1 h2 h3 h4 h5 h6=>?_,ah.Qk9,ah.Qfy,ah.Qni,ah.Qof,λb hb=>?_⟩
   ·have e9:=ah.keep b o e h1 h2 h3 h4 h5 h6;have aG:b≠l:=λz=>by
     rcases ah.Qfy l aK with w1|w1
     ·exact h6 (z▸w1)
     ·rw[<-z,e]at w1;cases w1
    rw[Qf aG];exact s9 _ _ (ao.keep _ _ e9 h1 h2 h3)
   ·refine ah.there b (ao.there b ?_);by_cases bj:b=l
    ·subst bj;rw[Qb]at hb;cases hb
    ·rw[Qf bj]at hb;exact s9.free hb
theorem Qt4:Qr P w K mg base Z3 1 f fd ["self","thing","near","spare"] (Qau P w C CW 0):=by
 have no:∀vs H Q E,¬Qau P w C CW 0 vs H Q E:=λvs H Q E h=>by obtain⟨c,p,b,v,sp,t,a,f,d,D,S,m,ts,_,_,_,_,_,_,_,_,_,h1,_⟩:=h;have:=Qaw t;omega
 exact⟨λvs H Q E h=>absurd h (no vs H Q E),λA outer s H args us vs Q E _ _ _ _ h=>absurd h (no vs H Q E)⟩
theorem Qdi{f i g h s C e:Gc}{fd d a c b:Tt}(F:Wu K "place_within" "Walk.place_within" U2 f fd)(T:Qee K mg C)(m:Qqk K mg e)(B:Jl mg)(y:Z8 K e "place_within" f)(q:Binds K fd ["self","thing","near","spare"] [])
  (GT:Qr P w K mg base Z3 1 i d ["thing"] Qss)(v:KI K i)(r:Binds K d ["thing"] [])(A:MG mg "top_words" i)
  (j:Qr P w K mg base Z3 1 g a ["met","thing"] Qgs)(t:KI K g)(o:Binds K a ["met","thing"] [])(mA:MG mg "place_among" g)
  (l:Qr P w K mg base Z3 1 h c ["spare","inner"] Qgf)(u:KI K h)(bS:Binds K c ["spare","inner"] [])(z:MG mg "share_of" h)
  (x:Z8 K C "place_by_form" s)(k:Qr P w K mg base Z3 1 s b ["self","thing","form"] (Qdr P w C))(p:Binds K b ["self","thing","form"] []):∀n:Nat,Qr P w K mg base Z3 (n+1) f fd ["self","thing","near","spare"] (Qau P w C e n)
 |0=>Qt4
 |n+1=>Qnm F T m B y q (Qdi F T m B y q GT v r A j t o mA l u bS z x k p n) GT v r A j t o mA l u bS z x k p
theorem Qn8:Qv ["self","thing"] ["self","thing"] (Qk Oq):=by eq_refl
theorem Qjy{N O:Gc}{n r:Tt}(F:Wu K "place_of" "Places.place_of" Oq f0 fd)(D:Qqk K mg CW)(U:Mk K CW N)(T:Qr P w K mg base Z3 1 N n ["self","places"] (Qi6 CW))(W:Binds K n ["self","places"] [])(mW:Z8 K CW "place_within" O)(X:Binds K r ["self","thing","near","spare"] [])
  (G:Qr P w K mg base Z3 51 O r ["self","thing","near","spare"] (Qau P w C CW 50)):Qr P w K mg base Z3 52 f0 fd ["self","thing"] (Qen P w C):=by
 refine F.ok Qn8 (λvs H Q E h=>?_) (λcdv A outer s H vs Q E R h=>?_)
 ·obtain⟨p,v,t,a,f,d,ts,rfl,_⟩:=h;rfl
 obtain⟨p,v,t,a,f,d,ts,rfl,x,ht,Zw,y,ab,q⟩:=h;obtain⟨u2,mN,rN⟩:=D.walks;have J:Z9 2 _:=R.mono (by decide);refine⟨_,Qh (Qu (Q9 (Qg8 U T J rfl D.mgC W .nil Q4 (Qa (pv 0) Qe)) D.cl mW G R X .nil Q4 (Qa (pv 1) (Qa Ov (Qa (Oi rfl mN rN) Qe))))),?_⟩;refine⟨_,Xb,λB dx i I aa=>?_⟩;have s0:Qz H (upd (upd H dx (.own B)) B (.ins CW dx [])):=λc o e=>by rw[Qf (Qc e i),Qf (Qc e I)];exact e
 refine⟨B,dx,p,Xb,Qb,λH1 V k1 ac=>⟨Xb,?_⟩⟩;have s1:Qz H H1:=λc o e=>k1 c o (s0 c o e) (Qc e i);obtain⟨m,kw,S⟩:=V;refine⟨B,m,_,Xb,S,Qe7 _ _,_,Xb,λM u=>?_⟩;have s2:=Qg u (.dT []);have g:=s1.trans s2;refine⟨B,p,M,v,_,t,a,f,d,[M],[],0,ts,Xb,⟨m,kw,s2 _ _ S⟩,x.same g,⟨λb hb=>?_,λl hl=>nomatch hl⟩,by simp,by simp,by simp,ht.same g,Zw,y,y,by omega,by omega,λj D' S' H' W' x' n' Y L=>?_⟩
 ·rw[List.mem_singleton]at hb;subst hb;exact⟨[],Qb,Gn _,λk v e=>by rw[Qb7]at e;cases e⟩
 ·refine q j H' x' Y ⟨λb o e h1 h2 Z=>L.keep b o (g _ _ e) h1 h2 Z (Qc e i) (λz=>?_) (by simp),λb hb=>g.free (L.there b hb)⟩;rw[List.mem_singleton]at z;exact Qc (s1 _ _ e) u z
end
end K05
namespace Nt
variable{up:Nat->Option Nat}{p a b m n q x lo hi:Nat}{l S cl:List Nat}
inductive Ch(up:Nat->Option Nat):Nat->List Nat->Prop
 |top {p:Nat}:up p=Gg->Ch up p [p]
 |step {p q:Nat} {l:List Nat}:up p=Ga q->Ch up q l->Ch up p (p::l)
theorem Ch.uniq{up:Nat->Option Nat}:∀{p:Nat}{l m:List Nat},Ch up p l->Ch up p m->l=m
 |_,_,_,.top e,.top _=>rfl
 |_,_,_,.top e,.step f _=>by rw[e]at f;cases f
 |_,_,_,.step e _,.top f=>by rw[e]at f;cases f
 |_,_,_,.step e h,.step f k=>by rw[e]at f;cases f;rw[Ch.uniq h k]
theorem Ch.ne(h:Ch up p l):l≠[]:=by cases h<;>simp
theorem Ch.head(h:Ch up p l):∃r,l=p::r:=by cases h<;>exact⟨_,Xb⟩
theorem Ch.suffix{up:Nat->Option Nat}:∀{p:Nat}{l a:List Nat}{z:Nat}{b:List Nat},Ch up p l->l=a++z::b->Ch up z (z::b)
 |p,_,[],z,b,h,e=>by simp only[List.nil_append]at e;obtain⟨r,c⟩:=h.head;rw[e]at c;cases c;rw[<-e];exact h
 |p,_,x::a,z,b,.top _,e=>by simp at e
 |p,_,x::a,z,b,.step f h,e=>by simp only[List.cons_append,List.cons.injEq]at e;exact Ch.suffix h e.2
theorem Ch.nodup{up:Nat->Option Nat}:∀{p:Nat}{l:List Nat},Ch up p l->l.Nodup
 |_,_,.top _=>by simp
 |p,_,.step (l:=l) e h=>by rw[List.nodup_cons];refine⟨λc=>?_,h.nodup⟩;obtain⟨a,b,rfl⟩:=List.append_of_mem c;have h1:=h.suffix rfl;have h2:Ch up p (p::(a++p::b)):=.step e h;have:=congrArg List.length (h1.uniq h2);simp at this;omega
def Zu(l:List Nat):Nat:=l.getLastD 0
theorem Qas(h:l≠[]):Zu (p::l)=Zu l:=by
 cases l with
 |nil=>exact absurd rfl h
 |cons x r=>simp[Zu,List.getLastD]
theorem Qre{a b:List Nat}(h:b≠[]):Zu (a++b)=Zu b:=by
 induction a with
 |nil=>rfl
 |cons x r c=>rw[List.cons_append,Qas (by simp[h]),c]
theorem Ch.Oh{z:Nat}(h:Ch up p l)(hz:z∈l):∃m,Ch up z m/\Zu m=Zu l:=by obtain⟨a,b,rfl⟩:=List.append_of_mem hz;exact⟨z::b,h.suffix Xb,by rw[Qre (by simp)]⟩
def Qc3(up:Nat->Option Nat)(p:Nat)(v:Nat):Nat->Option Nat:=λq=>if q=p then Ga v else up q
def Xi(up:Nat->Option Nat):Nat->List Nat->(Nat->Option Nat)
 |_,[]=>up
 |over,c::r=>Xi (Qc3 up c over) c r
theorem Ut:∀{l:List Nat}{up:Nat->Option Nat}{over q:Nat},q∉l->Xi up over l q=up q
 |[],_,_,_,_=>rfl
 |c::r,up,over,q,h=>by simp only[List.mem_cons,not_or]at h;show Xi (Qc3 up c over) c r q=_;rw[Ut h.2];unfold Qc3;rw[Gh h.1]
theorem Ch.Qcr{up:Nat->Option Nat}{low:List Nat}{over:Nat}:∀{p:Nat}{l:List Nat},Ch up p l->(∀z∈l,z∉low)->Ch (Xi up over low) p l
 |p,_,.top e,h=>.top (by rw[Ut (h p (by simp))];exact e)
 |p,_,.step e k,h=>.step (by rw[Ut (h p (by simp))];exact e) (Ch.Qcr k λz hz=>h z (by simp[hz]))
theorem Qfw:∀{low:List Nat}{up:Nat->Option Nat}{over:Nat}{m:List Nat},low.Nodup->Ch (Xi up over low) over m->∀z∈low,∃l,Ch (Xi up over low) z l/\Zu l=Zu m
 |[],_,_,_,_,_,z,hz=>by simp at hz
 |c::r,up,over,m,nd,b,z,hz=>by
  rw[List.nodup_cons]at nd;have d:Xi up over (c::r) c=Ga over:=by show Xi (Qc3 up c over) c r c=_;rw[Ut nd.1];unfold Qc3;rw[Gm rfl]
  have h1:Ch (Xi up over (c::r)) c (c::m):=.step d b;have a:Zu (c::m)=Zu m:=Qas b.ne;rcases List.mem_cons.mp hz with rfl|hz
  ·exact⟨_,h1,a⟩
  ·obtain⟨l,e,f⟩:=Qfw (low:=r) (up:=Qc3 up c over) (over:=c) (m:=c::m) nd.2 h1 z hz;exact⟨l,e,by rw[f,a]⟩
theorem Qsx{low:List Nat}{over:Nat}{m:List Nat}(nd:low.Nodup)(d:Ch (Xi up over low) over m):∀{p:Nat}{l:List Nat},Ch up p l->(∃z∈l,z∈low)->∃b,Ch (Xi up over low) p b/\Zu b=Zu m:=by
 intro p l h;induction h with
 |@top p e=>rintro⟨z,hz,a⟩;simp at hz;subst hz;exact Qfw nd d _ a
 |@step p q l e k g=>
  rintro⟨z,hz,a⟩;by_cases c:p∈low
  ·exact Qfw nd d p c
  ·rcases List.mem_cons.mp hz with rfl|hz
   ·exact absurd a c
   ·obtain⟨b,f,i⟩:=g ⟨z,hz,a⟩;exact⟨p::b,.step (by rw[Ut c];exact e) f,by rw[Qas f.ne,i]⟩
theorem Qdg:∀{l:List Nat}{up:Nat->Option Nat}{over p q:Nat},l.Nodup->Xi up over l p=Ga q->up p=Ga q\/(∃r,l=p::r/\q=over)\/∃a b,l=a++q::p::b
 |[],_,_,_,_,_,h=>.inl h
 |c::r,up,over,p,q,nd,h=>by
  rw[List.nodup_cons]at nd;have h:Xi (Qc3 up c over) c r p=Ga q:=h;rcases Qdg nd.2 h with h|⟨d,rfl,rfl⟩|⟨a,b,rfl⟩
  ·unfold Qc3 at h;by_cases e:p=c
   ·rw[Gm e]at h;cases h;subst e;exact .inr (.inl ⟨r,Xb,Xb⟩)
   ·rw[Gh e]at h;exact .inl h
  ·exact .inr (.inr ⟨[],d,Xb⟩)
  ·exact .inr (.inr ⟨c::a,b,Xb⟩)
theorem Ch.Qed{up:Nat->Option Nat}:∀{a:List Nat}{p x y:Nat}{b l:List Nat},Ch up p l->l=a++x::y::b->up x=Ga y
 |[],p,x,y,b,_,.top _,e=>by simp at e
 |[],p,x,y,b,_,.step f h,e=>by simp only[List.nil_append,List.cons.injEq]at e;obtain⟨rfl,rfl⟩:=e;obtain⟨r,c⟩:=h.head;cases c;exact f
 |z::a,p,x,y,b,_,.top _,e=>by simp at e
 |z::a,p,x,y,b,_,.step f h,e=>by simp only[List.cons_append,List.cons.injEq]at e;exact Ch.Qed h e.2
variable{α:Type}
inductive Cn(ls:List (Nat×Nat×α)):Nat->Nat->Prop
 |refl (p:Nat):Cn ls p p
 |symm {p q:Nat}:Cn ls p q->Cn ls q p
 |trans {p q r:Nat}:Cn ls p q->Cn ls q r->Cn ls p r
 |link {p q:Nat} {r:α}:(p,q,r)∈ls->Cn ls p q
theorem Cn.mono{ls a:List (Nat×Nat×α)}(h:∀x∈ls,x∈a):∀{p q:Nat},Cn ls p q->Cn a p q:=by
 intro p q c;induction c with
 |refl p=>exact .refl p
 |symm _ b=>exact .symm b
 |trans _ _ i1 i2=>exact .trans i1 i2
 |link m=>exact .link (h _ m)
theorem Cn.Qov{ls:List (Nat×Nat×α)}(h:m<=n)(c:Cn (ls.take m) p q):Cn (ls.take n) p q:=
 c.mono λx a=>by
  have:ls.take m=(ls.take n).take m:=by rw[List.take_take,E4 h]
  rw[this]at a;exact List.mem_of_mem_take a
structure Fst(S:List Nat)(ls:List (Nat×Nat×α))(Y9:Nat->Nat->Option Nat)(up:Nat->Option Nat):Prop where
 Qed:∀p q,up p=Ga q->∃n,Y9 p q=Ga n
 Qf0:∀p q n,Y9 p q=Ga n->∃r,ls[n]?=Ga (p,q,r)\/ls[n]?=Ga (q,p,r)
 all:∀(n p q:Nat)r,ls[n]?=Ga (p,q,r)->Y9 p q=Ga n/\Y9 q p=Ga n
 sep:∀(n p q:Nat)r,ls[n]?=Ga (p,q,r)->¬Cn (ls.take n) p q
 chain:∀p∈S,∃l,Ch up p l
 inS:∀p q,up p=Ga q->p∈S/\q∈S
theorem Fst.Qdt{ls:List (Nat×Nat×α)}{Y9:Nat->Nat->Option Nat}(F:Fst S ls Y9 up)(h:Y9 p q=Ga n):Y9 q p=Ga n:=by
 obtain⟨r,h|h⟩:=F.Qf0 p q n h
 ·exact(F.all _ _ _ _ h).2
 ·exact(F.all _ _ _ _ h).1
inductive Pth(Y9:Nat->Nat->Option Nat):Nat->List Nat->Nat->Prop
 |nil (p:Nat):Pth Y9 p [] p
 |cons {p q r n:Nat} {ns:List Nat}:Y9 p q=Ga n->Pth Y9 q ns r->Pth Y9 p (n::ns) r
theorem Pth.app{Y9:Nat->Nat->Option Nat}:∀{p q r:Nat}{a b:List Nat},Pth Y9 p a q->Pth Y9 q b r->Pth Y9 p (a++b) r
 |_,_,_,_,_,.nil _,k=>k
 |_,_,_,_,_,.cons e h,k=>.cons e (h.app k)
theorem Pth.rev{Y9:Nat->Nat->Option Nat}(b:∀p q n,Y9 p q=Ga n->Y9 q p=Ga n):∀{p q:Nat}{a:List Nat},Pth Y9 p a q->Pth Y9 q a.reverse p
 |_,_,_,.nil _=>.nil _
 |_,_,_,.cons e h=>by rw[List.reverse_cons];exact(h.rev b).app (.cons (b _ _ _ e) (.nil _))
theorem Pth.split{Y9:Nat->Nat->Option Nat}{n:Nat}{b:List Nat}:∀{a:List Nat}{p q:Nat}{l:List Nat},Pth Y9 p l q->l=a++n::b->∃x y,Pth Y9 p a x/\Y9 x y=Ga n/\Pth Y9 y b q
 |a,p,_,_,.nil _,e=>by simp at e
 |[],p,q,_,.cons f h,e=>by simp only[List.nil_append,List.cons.injEq]at e;obtain⟨rfl,rfl⟩:=e;exact⟨p,_,.nil p,f,h⟩
 |z::a,p,q,_,.cons f h,e=>by simp only[List.cons_append,List.cons.injEq]at e;obtain⟨rfl,e⟩:=e;obtain⟨x,y,h1,h2,c⟩:=h.split e;exact⟨x,y,.cons f h1,h2,c⟩
theorem Qdv:∀{l:List Nat},l≠[]->∃m∈l,∀k∈l,k<=m
 |[x],_=>⟨x,by simp,λk a=>by simp at a;omega⟩
 |x::y::r,_=>by
  obtain⟨m,h1,h2⟩:=Qdv (l:=y::r) (by simp);by_cases e:x<=m
  ·refine⟨m,List.mem_cons_of_mem _ h1,λk a=>?_⟩;rcases List.mem_cons.mp a with rfl|a
   ·exact e
   ·exact h2 k a
  ·refine⟨x,List.mem_cons_self,λk a=>?_⟩;rcases List.mem_cons.mp a with rfl|a
   ·exact Gn _
   ·have:=h2 k a;omega
section
variable{S:List Nat}{ls:List (Nat×Nat×α)}{Y9:Nat->Nat->Option Nat}{up:Nat->Option Nat}
theorem Fst.Qj9(F:Fst S ls Y9 up){M:Nat}:∀{p q:Nat}{a:List Nat},Pth Y9 p a q->(∀k∈a,k<M)->Cn (ls.take M) p q
 |_,_,_,.nil _,_=>.refl _
 |p,_,_,.cons (n:=n) e h,b=>by
  refine .trans ?_ (F.Qj9 h λk d=>b k (List.mem_cons_of_mem _ d));have c:=b n List.mem_cons_self;obtain⟨r,h1|h1⟩:=F.Qf0 _ _ _ e
  ·exact .link (r:=r) (List.mem_of_getElem? (i:=n) (by rw[List.getElem?_take,Gm c];exact h1))
  ·exact .symm (.link (r:=r) (List.mem_of_getElem? (i:=n) (by rw[List.getElem?_take,Gm c];exact h1)))
theorem Fst.early(F:Fst S ls Y9 up){a:List Nat}(h:Pth Y9 p a q)(nd:a.Nodup)(c:Cn (ls.take n) p q):∀k∈a,k<n:=by
 intro k g;obtain⟨M,w,f⟩:=Qdv (l:=a) (by intro z;rw[z]at g;simp at g);by_cases i:M<n
 ·exact Si (f k g) i
 exfalso;obtain⟨b,d,rfl⟩:=List.append_of_mem w;obtain⟨x,y,h1,h2,v⟩:=h.split rfl;rw[List.nodup_append]at nd;obtain⟨n1,n2,n3⟩:=nd;rw[List.nodup_cons]at n2;have m:∀k∈b,k<M:=λk g=>by have:=f k (List.mem_append_left _ g);have:=n3 k g M List.mem_cons_self;omega
 have u:∀k∈d,k<M:=λk g=>by have:=f k (List.mem_append_right _ (List.mem_cons_of_mem _ g));have:k≠M:=λz=>n2.1 (z▸g);omega
 have o:=F.Qj9 h1 m;have s:=F.Qj9 v u;have t:Cn (ls.take M) p q:=c.Qov (by omega);have j:Cn (ls.take M) x y:=.trans (.symm o) (.trans t (.symm s));obtain⟨r,e|e⟩:=F.Qf0 _ _ _ h2
 ·exact F.sep _ _ _ _ e j
 ·exact F.sep _ _ _ _ e (.symm j)
def num(Y9:Nat->Nat->Option Nat)(up:Nat->Option Nat)(x:Nat):Nat:=((up x).bind (Y9 x)).getD 0
theorem Fst.Qdb(F:Fst S ls Y9 up){y:Nat}(h:up x=Ga y):Y9 x y=Ga (num Y9 up x):=by obtain⟨n,a⟩:=F.Qed x y h;unfold num;rw[h];simp[a]
theorem Fst.Qt9(F:Fst S ls Y9 up){y i j:Nat}(h:up x=Ga i)(k:up y=Ga j)(e:num Y9 up x=num Y9 up y):x=y:=by
 have h1:=F.Qdb h;have n:=F.Qdb k;rw[e]at h1;obtain⟨r,h2⟩:=F.Qf0 _ _ _ h1;obtain⟨q,a⟩:=F.Qf0 _ _ _ n;have swap:x=j->i=y->x=y:=λo p=>by
  subst o p;exfalso;obtain⟨l,d⟩:=F.chain x (F.inS _ _ h).1;have nd:=d.nodup;cases d with
  |top f=>rw[h]at f;cases f
  |step f g=>
   rw[h]at f;cases f;cases g with
   |top b=>rw[k]at b;cases b
   |step b m=>rw[k]at b;cases b;obtain⟨s,c⟩:=m.head;subst c;simp at nd
 rcases h2 with h2|h2<;>rcases a with a|a<;>rw[h2]at a<;>simp only[N9,Df]at a
 ·exact a.1
 ·exact swap a.1 a.2.1
 ·exact swap a.2.1 a.1
 ·exact a.2.1
theorem Fst.Qj7(F:Fst S ls Y9 up){m:Nat}{s:List Nat}:∀{P:List Nat}{p:Nat}{l:List Nat},Ch up p l->l=P++m::s->Pth Y9 p (P.map (num Y9 up)) m
 |[],p,_,h,e=>by obtain⟨r,a⟩:=h.head;rw[e]at a;simp only[List.nil_append,List.cons.injEq]at a;rw[a.1];exact .nil _
 |z::P,p,_,.top _,e=>by simp at e
 |z::P,p,_,.step (q:=q) f h,e=>by simp only[List.cons_append,List.cons.injEq]at e;obtain⟨rfl,e⟩:=e;rw[List.map_cons];exact .cons (F.Qdb f) (F.Qj7 h e)
theorem Ch.Qr5{P:List Nat}{s:List Nat}(h:Ch up p l)(e:l=P++m::s)(c:x∈P):∃y,up x=Ga y:=by
 obtain⟨a,b,rfl⟩:=List.append_of_mem c;cases b with
 |nil=>exact⟨m,h.Qed (a:=a) (b:=s) (by rw[e];simp)⟩
 |cons y b=>exact⟨y,h.Qed (a:=a) (b:=b++m::s) (by rw[e];simp)⟩
theorem Os{f:Nat->Nat}:∀{l:List Nat},l.Nodup->(∀x∈l,∀y∈l,f x=f y->x=y)->(l.map f).Nodup
 |[],_,_=>by simp
 |x::r,nd,h=>by rw[List.nodup_cons]at nd;rw[List.map_cons,List.nodup_cons];refine⟨λz=>?_,Os nd.2 λa d b hb=>h a (List.mem_cons_of_mem _ d) b (List.mem_cons_of_mem _ hb)⟩;obtain⟨y,c,e⟩:=List.mem_map.mp z;exact nd.1 (h y (List.mem_cons_of_mem _ c) x List.mem_cons_self e▸c)
theorem Oe{x y:Nat}:∀{l:List Nat},(x,y)∈l.zip (l.drop 1)->∃a b,l=a++x::y::b
 |[],h=>by simp at h
 |[z],h=>by simp at h
 |z::w::r,h=>by
  simp only[List.drop_succ_cons,List.drop_zero,List.zip_cons_cons,List.mem_cons,Df]at h;rcases h with⟨rfl,rfl⟩|h
  ·exact⟨[],r,Xb⟩
  ·obtain⟨a,b,e⟩:=Oe (l:=w::r) (by simpa using h);exact⟨z::a,b,by rw[e];rfl⟩
theorem Fst.way(F:Fst S ls Y9 up){one f:Nat}{l1 l2 P Q s:List Nat}(h1:Ch up one l1)(h2:Ch up f l2)(l:l1=P++m::s)(o:l2=Q++m::s)(C:P=[]\/Q=[]\/P.getLast?≠Q.getLast?):
  ∀x y,(x,y)∈(P++m::Q.reverse).zip ((P++m::Q.reverse).drop 1)->∃k,Y9 x y=Ga k/\∀n,Cn (ls.take n) one f->k<n:=by
 have dis:∀z∈P,z∉Q:=λz V W=>by
  obtain⟨M,w,rfl⟩:=List.append_of_mem V;obtain⟨N,O,rfl⟩:=List.append_of_mem W;have R:=h1.suffix (a:=M) (z:=z) (b:=w++m::s) (by rw[l];simp);have T:=h2.suffix (a:=N) (z:=z) (b:=O++m::s) (by rw[o];simp);have e:=R.uniq T;simp only[List.cons.injEq,true_and]at e;have e:=List.append_cancel_right e;subst e;rcases C with h|h|h
  ·simp at h
  ·simp at h
  ·refine h ?_;rw[List.getLast?_append,List.getLast?_append];have:(z::w).getLast?=Ga ((z::w).getLast (by simp)):=List.getLast?_eq_some_getLast (by simp);rw[this];rfl
 have G:P.Nodup:=by have:=h1.nodup;rw[l,List.nodup_append]at this;exact this.1
 have H:Q.Nodup:=by have:=h2.nodup;rw[o,List.nodup_append]at this;exact this.1
 have v:∀x∈P++Q.reverse,∃y,up x=Ga y:=λx i=>by
  rcases List.mem_append.mp i with i|i
  ·exact h1.Qr5 l i
  ·exact h2.Qr5 o (List.mem_reverse.mp i)
 have nd:(P++Q.reverse).Nodup:=by rw[List.nodup_append];refine⟨G,by rw[List.Nodup,List.pairwise_reverse];exact H.imp λh=>Gp h,λa X b hb z=>?_⟩;subst z;exact dis a X (List.mem_reverse.mp hb)
 have I:((P++Q.reverse).map (num Y9 up)).Nodup:=Os nd λx i y E e=>by obtain⟨x',ex⟩:=v x i;obtain⟨y',U⟩:=v y E;exact F.Qt9 ex U e
 have J:Pth Y9 one ((P++Q.reverse).map (num Y9 up)) f:=by rw[List.map_append,List.map_reverse];exact(F.Qj7 h1 l).app ((F.Qj7 h2 o).rev λ_ _ _=>F.Qdt)
 intro x y D;obtain⟨a,b,e⟩:=Oe D;have fin:∀z L,up z=Ga L->z∈P++Q.reverse->Y9 x y=Ga (num Y9 up z)->∃k,Y9 x y=Ga k/\∀n,Cn (ls.take n) one f->k<n:=λz L _ hz Y=>⟨_,Y,λn c=>F.early J I c _ (List.mem_map.mpr ⟨z,hz,Xb⟩)⟩
 have p:(∃z,z∈P/\x=z/\up z=Ga y)\/(∃z,z∈Q/\y=z/\up z=Ga x):=by
  rcases Tk a.length P.length with B|A
  ·left;have i:P[a.length]?=Ga x:=by
    have:(P++m::Q.reverse)[a.length]?=(a++x::y::b)[a.length]?:=by rw[e]
    rw[List.getElem?_append_left B,List.getElem?_append_right (Gn _)]at this;simpa using this
   refine⟨x,List.mem_of_getElem? i,Xb,?_⟩;have g:P++[m]=a++x::y::(P++[m]).drop (a.length+2):=by
    have t:=congrArg (List.take (P.length+1)) e;have Z:(P++m::Q.reverse).take (P.length+1)=P++[m]:=by rw[show P++m::Q.reverse=(P++[m])++Q.reverse by simp,List.take_left' (by simp)]
    rw[Z]at t;have t2:(a++x::y::b).take (P.length+1)=a++x::y::b.take (P.length+1 - a.length - 2):=by rw[List.take_append,List.take_of_length_le (by omega)];congr 1;obtain⟨d,hd⟩:∃d,P.length+1 - a.length=d+2:=⟨P.length+1 - a.length - 2,by omega⟩;rw[hd];simp
    rw[t2]at t;rw[t];congr 3;rw[List.drop_append];simp
   exact h1.Qed (a:=a) (b:=(P++[m]).drop (a.length+2)++s) (by rw[l,show P++m::s=(P++[m])++s by simp,g];simp[List.append_assoc])
  ·right;obtain⟨j,rfl⟩:∃j,a=P++j:=by refine⟨a.drop P.length,?_⟩;have t:=congrArg (List.take P.length) e;rw[List.take_left' Xb,List.take_append_of_le_length A]at t;exact(List.take_append_drop P.length a).symm.trans (by rw[<-t])
   rw[List.append_assoc]at e;have e:=List.append_cancel_left e;have r:=congrArg List.reverse e;rw[List.reverse_cons,List.reverse_reverse]at r;simp only[List.reverse_append,List.reverse_cons,List.append_assoc,List.cons_append,List.nil_append]at r;have K:Q++m::s=b.reverse++y::x::(j.reverse++s):=by rw[show Q++m::s=(Q++[m])++s by simp,r];simp
   refine⟨y,?_,Xb,h2.Qed (a:=b.reverse) (b:=j.reverse++s) (by rw[o,K])⟩;have q:b.reverse.length<Q.length:=by have:=congrArg List.length r;simp at this;simp;omega
   have E:Q[b.reverse.length]?=Ga y:=by
    have:(Q++m::s)[b.reverse.length]?=(b.reverse++y::x::(j.reverse++s))[b.reverse.length]?:=by rw[K]
    rw[List.getElem?_append_left q,List.getElem?_append_right (Gn _)]at this;simpa using this
   exact List.mem_of_getElem? E
 rcases p with⟨z,hz,rfl,u⟩|⟨z,hz,rfl,u⟩
 ·exact fin x y u (List.mem_append_left _ hz) (F.Qdb u)
 ·exact fin y x u (List.mem_append_right _ (List.mem_reverse.mpr hz)) (F.Qdt (F.Qdb u))
end
variable{W ρ:Type}[DecidableEq W]
structure Nst(W ρ:Type) where
 S:List Nat
 lead:Nat->Nat
 mem:Nat->List Nat
 Xd:Nat->List Nat
 tab:W×List Nat->Option Nat
 links:List (Nat×Nat×Option ρ)
 Y9:Nat->Nat->Option Nat
 up:Nat->Option Nat
def Zj(wd:Nat->W)(pt:Nat->List Nat)(ld:Nat->Nat)(p:Nat):W×List Nat:=(wd p,(pt p).map ld)
inductive Cj(S:List Nat)(ld:Nat->Nat)(pend:List (Nat×Nat×Option ρ)):Nat->Nat->Prop
 |lead {p q:Nat}:p∈S->q∈S->ld p=ld q->Cj S ld pend p q
 |wait {p q:Nat} {r:Option ρ}:(p,q,r)∈pend->Cj S ld pend p q
 |symm {p q:Nat}:Cj S ld pend p q->Cj S ld pend q p
 |trans {p q r:Nat}:Cj S ld pend p q->Cj S ld pend q r->Cj S ld pend p r
theorem Cj.map{ld d:Nat->Nat}{pend pend':List (Nat×Nat×Option ρ)}(h1:∀p∈S,∀q∈S,ld p=ld q->Cj S d pend' p q)(h2:∀p q r,(p,q,r)∈pend->Cj S d pend' p q):∀{p q:Nat},Cj S ld pend p q->Cj S d pend' p q:=by
 intro p q c;induction c with
 |lead a b e=>exact h1 _ a _ b e
 |wait m=>exact h2 _ _ _ m
 |symm _ f=>exact .symm f
 |trans _ _ i1 i2=>exact .trans i1 i2
theorem Cj.nil{ld:Nat->Nat}(c:Cj (ρ:=ρ) S ld [] p q):ld p=ld q:=by
 induction c with
 |lead _ _ e=>exact e
 |wait m=>simp at m
 |symm _ a=>exact a.symm
 |trans _ _ i1 i2=>exact i1.trans i2
def Two(F:Nat->Nat->Prop)(ps a:List Nat):Prop:=ps.length=a.length/\∀(i p q:Nat),ps[i]?=Ga p->a[i]?=Ga q->F p q
theorem Qbo{f:Nat->Nat}{ps a:List Nat}:ps.map f=a.map f↔Two (λp q=>f p=f q) ps a:=by
 constructor
 ·intro h;have b:=congrArg List.length h;simp at b;refine⟨b,λi p q c d=>?_⟩;have:(ps.map f)[i]?=(a.map f)[i]?:=by rw[h]
  simpa[c,d]using this
 ·rintro⟨b,h⟩;refine List.ext_getElem? λi=>?_;rw[List.getElem?_map,List.getElem?_map];rcases Tk i ps.length with hi|hi
  ·have h1:=List.getElem?_eq_getElem hi;have h2:=List.getElem?_eq_getElem (show i<a.length by omega);rw[h1,h2,TZ,TZ,h i _ _ h1 h2]
  ·rw[List.getElem?_eq_none hi,List.getElem?_eq_none (by omega)]
structure Xz(wd:Nat->W)(pt:Nat->List Nat)(x:Nst W ρ)(pend:List (Nat×Nat×Option ρ)):Prop where
 nd:x.S.Nodup
 pt_:∀p∈x.S,∀q∈pt p,q∈x.S
 ld:∀p∈x.S,x.lead p∈x.S
 idem:∀p∈x.S,x.lead (x.lead p)=x.lead p
 Qbk:∀l∈x.S,x.lead l=l->∀p,p∈x.mem l↔p∈x.S/\x.lead p=l
 Qj0:∀l∈x.S,x.lead l=l->(x.mem l).Nodup
 Qii:∀l∈x.S,∀p∈x.Xd l,p∈x.S
 Qtk:∀p∈x.S,∀q∈pt p,p∈x.Xd (x.lead q)
 tabS:∀k u,x.tab k=Ga u->u∈x.S/\wd u=k.1/\(∀q∈k.2,q∈x.S)/\(pt u).map x.lead=k.2.map x.lead
 Qq4:∀p∈x.S,∃u,x.tab (Zj wd pt x.lead p)=Ga u/\Cj x.S x.lead pend u p
 pnd:∀a b r,(a,b,r)∈pend->a∈x.S/\b∈x.S/\(r=Gg->wd a=wd b/\(pt a).map x.lead=(pt b).map x.lead)
 fst:Fst x.S x.links x.Y9 x.up
 lnk:∀(n a b:Nat)r,x.links[n]?=Ga (a,b,r)->a∈x.S/\b∈x.S/\(r=Gg->wd a=wd b/\Two (Cn (x.links.take n)) (pt a) (pt b))
 conn:∀p∈x.S,∀q∈x.S,(x.lead p=x.lead q↔Cn x.links p q)
 root:∀p q l m,p∈x.S->q∈x.S->Ch x.up p l->Ch x.up q m->(x.lead p=x.lead q↔Zu l=Zu m)
def scan(ky:Nat->W×List Nat):List Nat->(W×List Nat->Option Nat)->List (Nat×Nat×Option ρ)->(W×List Nat->Option Nat)×List (Nat×Nat×Option ρ)
 |[],t,f=>(t,f)
 |u::r,t,f=>match t (ky u)with
  |some v=>scan ky r t (if v=u then f else f++[(u,v,Gg)])
  |none=>scan ky r (λk=>if k=ky u then Ga u else t k) f
theorem Uu{ky:Nat->W×List Nat}:∀{l:List Nat}{t:W×List Nat->Option Nat}{f:List (Nat×Nat×Option ρ)}{k:W×List Nat}{v:Nat},t k=Ga v->(scan ky l t f).1 k=Ga v
 |[],_,_,_,_,h=>h
 |u::r,t,f,k,v,h=>by
  unfold scan;cases e:t (ky u)with
  |some w=>exact Uu h
  |none=>
   refine Uu ?_;have:k≠ky u:=λz=>by rw[z,e]at h;cases h
   simp only[Gh this];exact h
theorem scan_keep{ky:Nat->W×List Nat}:∀{l:List Nat}{t:W×List Nat->Option Nat}{f:List (Nat×Nat×Option ρ)}{y},y∈f->y∈(scan ky l t f).2
 |[],_,_,_,h=>h
 |u::r,t,f,y,h=>by
  unfold scan;cases e:t (ky u)with
  |some w=>
   refine scan_keep ?_;split
   ·exact h
   ·exact List.mem_append_left _ h
  |none=>exact scan_keep h
theorem Qd0{ky:Nat->W×List Nat}:∀{l:List Nat}{t:W×List Nat->Option Nat}{f:List (Nat×Nat×Option ρ)}{u:Nat},u∈l->∃v,(scan ky l t f).1 (ky u)=Ga v/\(v=u\/(u,v,Gg)∈(scan ky l t f).2)
 |[],_,_,_,h=>by simp at h
 |z::r,t,f,u,h=>by
  unfold scan;rcases List.mem_cons.mp h with rfl|h
  ·cases e:t (ky u)with
   |some w=>
    refine⟨w,Uu e,?_⟩;by_cases hw:w=u
    ·exact .inl hw
    ·right;refine scan_keep ?_;rw[Gh hw];simp
   |none=>exact⟨u,Uu (by simp),.inl Xb⟩
  ·cases e:t (ky z)with
   |some w=>exact Qd0 h
   |none=>exact Qd0 h
theorem Qb9{ky:Nat->W×List Nat}:∀{l:List Nat}{t:W×List Nat->Option Nat}{f:List (Nat×Nat×Option ρ)}{k:W×List Nat}{v:Nat},(scan ky l t f).1 k=Ga v->t k=Ga v\/(v∈l/\k=ky v)
 |[],_,_,_,_,h=>.inl h
 |u::r,t,f,k,v,h=>by
  unfold scan at h;cases e:t (ky u)with
  |some w=>
   rw[e]at h;rcases Qb9 h with h|⟨h1,h2⟩
   ·exact .inl h
   ·exact .inr ⟨List.mem_cons_of_mem _ h1,h2⟩
  |none=>
   rw[e]at h;rcases Qb9 h with h|⟨h1,h2⟩
   ·by_cases a:k=ky u
    ·simp only[Gm a]at h;cases h;exact .inr ⟨List.mem_cons_self,a⟩
    ·simp only[Gh a]at h;exact .inl h
   ·exact .inr ⟨List.mem_cons_of_mem _ h1,h2⟩
theorem Vw{ky:Nat->W×List Nat}:∀{l:List Nat}{t:W×List Nat->Option Nat}{f:List (Nat×Nat×Option ρ)}{a b:Nat}{r:Option ρ},(a,b,r)∈(scan ky l t f).2->(a,b,r)∈f\/(r=Gg/\a∈l/\(scan ky l t f).1 (ky a)=Ga b)
 |[],_,_,_,_,_,h=>.inl h
 |u::l,t,f,a,b,r,h=>by
  unfold scan at h⊢;cases e:t (ky u)with
  |some w=>
   rw[e]at h;rcases Vw h with h|⟨h1,h2,c⟩
   ·split at h
    ·exact .inl h
    ·rcases List.mem_append.mp h with h|h
     ·exact .inl h
     ·simp at h;obtain⟨rfl,rfl,rfl⟩:=h;exact .inr ⟨Xb,List.mem_cons_self,Uu e⟩
   ·exact .inr ⟨h1,List.mem_cons_of_mem _ h2,c⟩
  |none=>
   rw[e]at h;rcases Vw h with h|⟨h1,h2,c⟩
   ·exact .inl h
   ·exact .inr ⟨h1,List.mem_cons_of_mem _ h2,c⟩
theorem scan_len{ky:Nat->W×List Nat}:∀{l:List Nat}{t:W×List Nat->Option Nat}{f:List (Nat×Nat×Option ρ)},(scan ky l t f).2.length<=f.length+l.length
 |[],_,_=>by simp[scan]
 |u::l,t,f=>by
  unfold scan;cases e:t (ky u)with
  |some w=>
   have:=scan_len (ky:=ky) (l:=l) (t:=t) (f:=if w=u then f else f++[(u,w,Gg)]);simp only[List.length_cons];split at this
   ·rename_i h
    simp only[Gm h];omega
   ·rename_i h
    simp only[Gh h];rw[List.length_append,List.length_singleton]at this;omega
  |none=>have:=scan_len (ky:=ky) (l:=l) (t:=λk=>if k=ky u then Ga u else t k) (f:=f);simp only[List.length_cons];omega
def Q7(x:Nst W ρ)(a kept:Nat):Nat->Nat:=λp=>if p∈x.mem a then kept else x.lead p
def Vz(wd:Nat->W)(pt:Nat->List Nat)(x:Nst W ρ)(a kept:Nat):Nst W ρ×List (Nat×Nat×Option ρ):=
 ({x with lead:=Q7 x a kept,mem:=(λp=>if p=kept then x.mem kept++x.mem a else x.mem p),Xd:=(λp=>if p=kept then x.Xd kept++x.Xd a else x.Xd p),tab:=(scan (ρ:=ρ) (Zj wd pt (Q7 x a kept)) (x.Xd a) x.tab []).1},(scan (Zj wd pt (Q7 x a kept)) (x.Xd a) x.tab []).2)
def O2(Y9:Nat->Nat->Option Nat)(a b n:Nat):Nat->Nat->Option Nat:=λp q=>if(p=a/\q=b)\/(p=b/\q=a)then Ga n else Y9 p q
def Yh(wd:Nat->W)(pt:Nat->List Nat)(x:Nst W ρ)(a b:Nat)(r:Option ρ)(lo hi:Nat)(cl:List Nat):Nst W ρ×List (Nat×Nat×Option ρ):=
 Vz wd pt {x with links:=x.links++[(a,b,r)],Y9:=O2 x.Y9 a b x.links.length,up:=Xi x.up hi cl} (x.lead lo) (x.lead hi)
section
variable{wd:Nat->W}{pt:Nat->List Nat}{x:Nst W ρ}{pend:List (Nat×Nat×Option ρ)}
theorem Qu3{ls:List (Nat×Nat×Option ρ)}{r:Option ρ}(c:Cn (ls++[(a,b,r)]) p q):Cn ls p q\/(Cn ls p a/\Cn ls b q)\/(Cn ls p b/\Cn ls a q):=by
 induction c with
 |refl p=>exact .inl (.refl p)
 |symm _ f=>
  rcases f with h|⟨h1,h2⟩|⟨h1,h2⟩
  ·exact .inl (.symm h)
  ·exact .inr (.inr ⟨.symm h2,.symm h1⟩)
  ·exact .inr (.inl ⟨.symm h2,.symm h1⟩)
 |trans _ _ i1 i2=>
  rcases i1 with h|⟨h1,h2⟩|⟨h1,h2⟩<;>rcases i2 with k|⟨e,d⟩|⟨e,d⟩
  ·exact .inl (.trans h k)
  ·exact .inr (.inl ⟨.trans h e,d⟩)
  ·exact .inr (.inr ⟨.trans h e,d⟩)
  ·exact .inr (.inl ⟨h1,.trans h2 k⟩)
  ·exact .inr (.inl ⟨h1,d⟩)
  ·exact .inl (.trans h1 d)
  ·exact .inr (.inr ⟨h1,.trans h2 k⟩)
  ·exact .inl (.trans h1 d)
  ·exact .inr (.inr ⟨h1,d⟩)
 |link m=>
  rcases List.mem_append.mp m with m|m
  ·exact .inl (.link m)
  ·simp at m;obtain⟨rfl,rfl,rfl⟩:=m;exact .inr (.inl ⟨.refl _,.refl _⟩)
theorem Xz.Qq9(I:Xz wd pt x pend){g k:Nat}(b:g∈x.S)(a:x.lead g=g)(c:p∈x.S):Q7 x g k p=if x.lead p=g then k else x.lead p:=by
 unfold Q7;by_cases h:x.lead p=g
 ·rw[Gm h,Gm ((I.Qbk g b a p).mpr ⟨c,h⟩)]
 ·rw[Gh h,Gh λz=>h ((I.Qbk g b a p).mp z).2]
end
variable{W ρ:Type}[DecidableEq W]
section
variable{wd:Nat->W}{pt:Nat->List Nat}{x:Nst W ρ}{pend:List (Nat×Nat×Option ρ)}
theorem Xz.join(I:Xz wd pt x (pend++[(a,b,r)]))(ac:x.lead a≠x.lead b)(Q:(lo=a/\hi=b)\/(lo=b/\hi=a))(W:Ch x.up lo cl):
  Xz wd pt (Yh wd pt x a b r lo hi cl).1 (pend++(Yh wd pt x a b r lo hi cl).2)/\(∀p∈x.S,(Yh wd pt x a b r lo hi cl).1.lead p=if x.lead p=x.lead lo then x.lead hi else x.lead p):=by
 obtain⟨aS,bS,N⟩:=I.pnd a b r (by simp);have M:lo∈x.S:=by rcases Q with⟨h,_⟩|⟨h,_⟩<;>rw[h]<;>assumption
 have G:hi∈x.S:=by rcases Q with⟨_,h⟩|⟨_,h⟩<;>rw[h]<;>assumption
 have s:x.lead lo≠x.lead hi:=by
  rcases Q with⟨h1,h2⟩|⟨h1,h2⟩<;>rw[h1,h2]
  ·exact ac
  ·exact Gp ac
 obtain⟨lh,D⟩:=I.fst.chain hi G;have gS:=I.ld lo M;have gg:=I.idem lo M;have kS:=I.ld hi G;have kk:=I.idem hi G;generalize hG:x.lead lo=g at*;generalize hK:x.lead hi=k at*;have ab:(x.lead a=g/\x.lead b=k)\/(x.lead a=k/\x.lead b=g):=by
  rcases Q with⟨h1,h2⟩|⟨h1,h2⟩
  ·left;rw[<-h1,<-h2];exact⟨hG,hK⟩
  ·right;rw[<-h1,<-h2];exact⟨hK,hG⟩
 have L:∀p∈x.S,Q7 x g k p=if x.lead p=g then k else x.lead p:=λp d=>I.Qq9 gS gg d;have eJ:Yh wd pt x a b r lo hi cl=Vz wd pt {x with links:=x.links++[(a,b,r)],Y9:=O2 x.Y9 a b x.links.length,up:=Xi x.up hi cl} g k:=by unfold Yh;rw[hG,hK]
 rw[eJ];have nC:¬Cn x.links a b:=λc=>ac ((I.conn a aS b bS).mpr c);have Y:∀p∈x.S,∀q∈x.S,x.lead p=x.lead q->Q7 x g k p=Q7 x g k q:=λp d q j e=>by rw[L p d,L q j,e]
 have LS:∀p∈x.S,Q7 x g k p∈x.S:=λp d=>by
  rw[L p d];split
  ·exact kS
  ·exact I.ld p d
 have Lk:Q7 x g k k=k:=by rw[L k kS,kk,Gh (Gp s)]
 have Li:∀p∈x.S,Q7 x g k (Q7 x g k p)=Q7 x g k p:=λp d=>by
  by_cases h:x.lead p=g
  ·rw[L p d,Gm h,Lk]
  ·rw[L p d,Gh h,L _ (I.ld p d),I.idem p d,Gh h]
 have Mp:∀p∈x.S,∀q∈x.S,(pt p).map x.lead=(pt q).map x.lead->(pt p).map (Q7 x g k)=(pt q).map (Q7 x g k):=λp d q j e=>by rw[Qbo]at e⊢;exact⟨e.1,λi u v F K=>Y u (I.pt_ p d u (List.mem_of_getElem? F)) v (I.pt_ q j v (List.mem_of_getElem? K)) (e.2 i u v F K)⟩
 have TS:∀ky u,(scan (ρ:=ρ) (Zj wd pt (Q7 x g k)) (x.Xd g) x.tab []).1 ky=Ga u->u∈x.S/\wd u=ky.1/\(∀q∈ky.2,q∈x.S)/\(pt u).map (Q7 x g k)=ky.2.map (Q7 x g k):=λky u h=>by
  rcases Qb9 h with h|⟨h1,h2⟩
  ·obtain⟨k1,k2,k3,k4⟩:=I.tabS ky u h;refine⟨k1,k2,k3,?_⟩;rw[Qbo]at k4⊢;exact⟨k4.1,λi u' v F K=>Y u' (I.pt_ u k1 u' (List.mem_of_getElem? F)) v (k3 v (List.mem_of_getElem? K)) (k4.2 i u' v F K)⟩
  ·have uS:=I.Qii g gS u h1;subst h2;refine⟨uS,Xb,λq j=>?_,?_⟩
   ·obtain⟨q',B,rfl⟩:=List.mem_map.mp j;exact LS q' (I.pt_ u uS q' B)
   ·show(pt u).map (Q7 x g k)=((pt u).map (Q7 x g k)).map (Q7 x g k);rw[List.map_map];refine List.map_congr_left λq j=>?_;exact(Li q (I.pt_ u uS q j)).symm
 have dis:∀z∈lh,z∉cl:=λz hz T=>by
  obtain⟨m1,Z,O⟩:=D.Oh hz;obtain⟨m2,c2,J⟩:=W.Oh T;have:Zu lh=Zu cl:=by rw[<-O,<-J,Z.uniq c2]
  exact s ((I.root lo hi cl lh M G W D).mpr this.symm|>λe=>by rw[hG,hK]at e;exact e)
 have hh:Ch (Xi x.up hi cl) hi lh:=D.Qcr dis;have R:∀p∈x.S,∀lp,Ch x.up p lp->∃l,Ch (Xi x.up hi cl) p l/\(x.lead p=g->Zu l=Zu lh)/\(x.lead p≠g->Zu l=Zu lp):=λp d lp w=>by
  by_cases h:∃z∈lp,z∈cl
  ·obtain⟨l,h1,h2⟩:=Qsx W.nodup hh w h;refine⟨l,h1,λ_=>h2,λA=>?_⟩;exfalso;obtain⟨z,hz,T⟩:=h;obtain⟨m1,Z,O⟩:=w.Oh hz;obtain⟨m2,c2,J⟩:=W.Oh T;have:Zu lp=Zu cl:=by rw[<-O,<-J,Z.uniq c2]
   exact A (by rw[<-hG];exact(I.root p lo lp cl d M w W).mpr this)
  ·have h1:Ch (Xi x.up hi cl) p lp:=w.Qcr λz hz T=>h ⟨z,hz,T⟩;refine⟨lp,h1,λe=>?_,λ_=>rfl⟩;exfalso;have:=(I.root p lo lp cl d M w W).mp (by rw[hG];exact e);have m1:Zu lp∈lp:=by have:=w.ne;unfold Zu;rw[List.getLastD_eq_getLast?,List.getLast?_eq_some_getLast this];exact List.getLast_mem this
   have m2:Zu cl∈cl:=by have:=W.ne;unfold Zu;rw[List.getLastD_eq_getLast?,List.getLast?_eq_some_getLast this];exact List.getLast_mem this
   exact h ⟨_,m1,by rw[this];exact m2⟩
 have C1:∀p∈x.S,∀q∈x.S,(Q7 x g k p=Q7 x g k q↔Cn (x.links++[(a,b,r)]) p q):=λp d q j=>by
  have mono:∀{u v:Nat},Cn x.links u v->Cn (x.links++[(a,b,r)]) u v:=λc=>c.mono λy hy=>List.mem_append_left _ hy;have lk:Cn (x.links++[(a,b,r)]) a b:=.link (r:=r) (by simp);have gk:∀u∈x.S,∀v∈x.S,x.lead u=g->x.lead v=k->Cn (x.links++[(a,b,r)]) u v:=λu F v K O J=>by
   rcases ab with⟨h1,h2⟩|⟨h1,h2⟩
   ·exact .trans (mono ((I.conn u F a aS).mp (O.trans h1.symm))) (.trans lk (mono ((I.conn b bS v K).mp (h2.trans J.symm))))
   ·exact .trans (mono ((I.conn u F b bS).mp (O.trans h2.symm))) (.trans (.symm lk) (mono ((I.conn a aS v K).mp (h1.trans J.symm))))
  constructor
  ·intro e;rw[L p d,L q j]at e;by_cases h1:x.lead p=g<;>by_cases h2:x.lead q=g
   ·exact mono ((I.conn p d q j).mp (h1.trans h2.symm))
   ·rw[Gm h1,Gh h2]at e;exact gk p d q j h1 e.symm
   ·rw[Gh h1,Gm h2]at e;exact .symm (gk q j p d h2 e)
   ·rw[Gh h1,Gh h2]at e;exact mono ((I.conn p d q j).mp e)
  ·intro c;have ae:Q7 x g k a=Q7 x g k b:=by
    rw[L a aS,L b bS];rcases ab with⟨h1,h2⟩|⟨h1,h2⟩
    ·rw[Gm h1,Gh (by rw[h2];exact Gp s),h2]
    ·rw[Gm h2,Gh (by rw[h1];exact Gp s),h1]
   rcases Qu3 c with c|⟨Z,c2⟩|⟨Z,c2⟩
   ·exact Y p d q j ((I.conn p d q j).mpr c)
   ·exact(Y p d a aS ((I.conn p d a aS).mpr Z)).trans (ae.trans (Y b bS q j ((I.conn b bS q j).mpr c2)))
   ·exact(Y p d b bS ((I.conn p d b bS).mpr Z)).trans (ae.symm.trans (Y a aS q j ((I.conn a aS q j).mpr c2)))
 have tk:∀{n:Nat},n<=x.links.length->(x.links++[(a,b,r)]).take n=x.links.take n:=λh=>List.take_append_of_le_length h;have gl:∀{n:Nat}{y},(x.links++[(a,b,r)])[n]?=Ga y->(n<x.links.length/\x.links[n]?=Ga y)\/(n=x.links.length/\y=(a,b,r)):=λ{n y}h=>by
  rcases Tk n x.links.length with A|A
  ·rw[List.getElem?_append_left A]at h;exact .inl ⟨A,h⟩
  ·rw[List.getElem?_append_right A]at h;have:n - x.links.length=0:=by have:=(List.getElem?_eq_some_iff.mp h).1;simp at this;omega
   rw[this]at h;simp at h;exact .inr ⟨by omega,h.symm⟩
 have P:∀p q,Xi x.up hi cl p=Ga q->x.up p=Ga q\/(p=lo/\q=hi)\/x.up q=Ga p:=λp q h=>by
  rcases Qdg W.nodup h with h|⟨C,e,J⟩|⟨H,U,e⟩
  ·exact .inl h
  ·obtain⟨ag,e3⟩:=W.head;rw[e]at e3;cases e3;exact .inr (.inl ⟨Xb,J⟩)
  ·exact .inr (.inr (W.Qed e))
 refine⟨⟨I.nd,I.pt_,LS,Li,λl X e p=>?_,λl X e=>?_,λl X p d=>?_,λp d q j=>?_,TS,λp d=>?_,λH U C h=>?_,⟨λp q h=>?_,λp q n h=>?_,λn p q C h=>?_,λn p q C h=>?_,λp d=>?_,λp q h=>?_⟩,λn H U C h=>?_,C1,λp q l m d j h1 h2=>?_⟩,λp d=>L p d⟩
 ·
  have e:Q7 x g k l=l:=e;have lg:x.lead l≠g:=λz=>by rw[L l X,Gm z]at e;rw[<-e,kk]at z;exact s z.symm
  have ll:x.lead l=l:=by rw[L l X,Gh lg]at e;exact e
  show p∈(if l=k then x.mem k++x.mem g else x.mem l)↔p∈x.S/\Q7 x g k p=l;by_cases E:l=k
  ·rw[Gm E,List.mem_append,I.Qbk k kS kk,I.Qbk g gS gg];constructor
   ·rintro(⟨h1,h2⟩|⟨h1,h2⟩)
    ·exact⟨h1,by rw[L p h1,h2,Gh (Gp s),E]⟩
    ·exact⟨h1,by rw[L p h1,Gm h2,E]⟩
   ·rintro⟨h1,h2⟩;rw[L p h1]at h2;by_cases V:x.lead p=g
    ·exact .inr ⟨h1,V⟩
    ·rw[Gh V]at h2;exact .inl ⟨h1,h2.trans E⟩
  ·rw[Gh E,I.Qbk l X ll];constructor
   ·rintro⟨h1,h2⟩;exact⟨h1,by rw[L p h1,Gh (by rw[h2,<-ll];exact lg),h2]⟩
   ·rintro⟨h1,h2⟩;rw[L p h1]at h2;by_cases V:x.lead p=g
    ·rw[Gm V]at h2;exact absurd h2.symm E
    ·rw[Gh V]at h2;exact⟨h1,h2⟩
 ·have e:Q7 x g k l=l:=e;have lg:x.lead l≠g:=λz=>by rw[L l X,Gm z]at e;rw[<-e,kk]at z;exact s z.symm
  have ll:x.lead l=l:=by rw[L l X,Gh lg]at e;exact e
  show(if l=k then x.mem k++x.mem g else x.mem l).Nodup;by_cases E:l=k
  ·rw[Gm E,List.nodup_append];refine⟨I.Qj0 k kS kk,I.Qj0 g gS gg,λu F v K z=>?_⟩;subst z;have h1:=((I.Qbk k kS kk u).mp F).2;have h2:=((I.Qbk g gS gg u).mp K).2;exact s (h2.symm.trans h1)
  ·rw[Gh E];exact I.Qj0 l X ll
 ·have d:p∈(if l=k then x.Xd k++x.Xd g else x.Xd l):=d;by_cases E:l=k
  ·rw[Gm E]at d;rcases List.mem_append.mp d with h|h
   ·exact I.Qii k kS p h
   ·exact I.Qii g gS p h
  ·rw[Gh E]at d;exact I.Qii l X p d
 ·show p∈(if Q7 x g k q=k then x.Xd k++x.Xd g else x.Xd (Q7 x g k q));have o:=I.Qtk p d q j;have qS:=I.pt_ p d q j;by_cases h:x.lead q=g
  ·rw[L q qS,Gm h,Gm rfl];rw[h]at o;exact List.mem_append_right _ o
  ·rw[L q qS,Gh h];by_cases E:x.lead q=k
   ·rw[Gm E];rw[E]at o;exact List.mem_append_left _ o
   ·rw[Gh E];exact o
 ·
  show∃u,(scan (ρ:=ρ) (Zj wd pt (Q7 x g k)) (x.Xd g) x.tab []).1 (Zj wd pt (Q7 x g k) p)=Ga u/\Cj x.S (Q7 x g k) (pend++(scan (Zj wd pt (Q7 x g k)) (x.Xd g) x.tab []).2) u p;by_cases h:∃q∈pt p,x.lead q=g
  ·obtain⟨q,j,e⟩:=h;have F:=I.Qtk p d q j;rw[e]at F;obtain⟨v,h1,h2⟩:=Qd0 (ρ:=ρ) (ky:=Zj wd pt (Q7 x g k)) (t:=x.tab) (f:=[]) F;refine⟨v,h1,?_⟩;rcases h2 with rfl|h2
   ·exact .lead d d rfl
   ·exact .symm (.wait (r:=Gg) (List.mem_append_right _ h2))
  ·obtain⟨u,h1,h2⟩:=I.Qq4 p d;have ek:Zj wd pt (Q7 x g k) p=Zj wd pt x.lead p:=by unfold Zj;refine LW rfl (List.map_congr_left λq j=>?_);rw[L q (I.pt_ p d q j),Gh λz=>h ⟨q,j,z⟩]
   refine⟨u,by rw[ek];exact Uu h1,h2.map (λp d q j e=>.lead d j (Y p d q j e)) λp q C m=>?_⟩;rcases List.mem_append.mp m with m|m
   ·exact .wait (List.mem_append_left _ m)
   ·simp at m;obtain⟨rfl,rfl,rfl⟩:=m;exact .lead aS bS ((C1 _ aS _ bS).mpr (.link (r:=C) (by simp)))
 ·
  rcases List.mem_append.mp h with h|h
  ·obtain⟨h1,h2,V⟩:=I.pnd H U C (List.mem_append_left _ h);exact⟨h1,h2,λe=>⟨(V e).1,Mp H h1 U h2 (V e).2⟩⟩
  ·rcases Vw (show(H,U,C)∈(scan (Zj wd pt (Q7 x g k)) (x.Xd g) x.tab []).2 from h)with h|⟨h1,h2,V⟩
   ·simp at h
   ·have ad:=I.Qii g gS H h2;obtain⟨k1,k2,k3,k4⟩:=TS _ _ V;refine⟨ad,k1,λ_=>⟨k2.symm,?_⟩⟩;show(pt H).map (Q7 x g k)=(pt U).map (Q7 x g k);rw[k4];show _=((pt H).map (Q7 x g k)).map (Q7 x g k);rw[List.map_map];exact List.map_congr_left λq j=>(Li q (I.pt_ H ad q j)).symm
 ·
  show∃n,O2 x.Y9 a b x.links.length p q=Ga n;unfold O2;by_cases A:(p=a/\q=b)\/(p=b/\q=a)
  ·exact⟨_,Gm A⟩
  ·rw[Gh A];rcases P p q h with h|⟨O,J⟩|h
   ·exact I.fst.Qed p q h
   ·exfalso;apply A;rcases Q with⟨h1,h2⟩|⟨h1,h2⟩
    ·exact .inl ⟨O.trans h1,J.trans h2⟩
    ·exact .inr ⟨O.trans h1,J.trans h2⟩
   ·obtain⟨n,A⟩:=I.fst.Qed q p h;exact⟨n,I.fst.Qdt A⟩
 ·have h:O2 x.Y9 a b x.links.length p q=Ga n:=h;unfold O2 at h;show∃C,(x.links++[(a,b,r)])[n]?=Ga (p,q,C)\/(x.links++[(a,b,r)])[n]?=Ga (q,p,C);by_cases A:(p=a/\q=b)\/(p=b/\q=a)
  ·rw[Gm A]at h;cases h;refine⟨r,?_⟩;rcases A with⟨rfl,rfl⟩|⟨rfl,rfl⟩
   ·left;simp
   ·right;simp
  ·rw[Gh A]at h;obtain⟨C,h|h⟩:=I.fst.Qf0 p q n h
   ·exact⟨C,.inl (by rw[List.getElem?_append_left (List.getElem?_eq_some_iff.mp h).1];exact h)⟩
   ·exact⟨C,.inr (by rw[List.getElem?_append_left (List.getElem?_eq_some_iff.mp h).1];exact h)⟩
 ·show O2 x.Y9 a b x.links.length p q=Ga n/\O2 x.Y9 a b x.links.length q p=Ga n;rcases gl h with⟨A,h'⟩|⟨A,h⟩
  ·have no:¬((p=a/\q=b)\/(p=b/\q=a)):=by
    rintro(⟨rfl,rfl⟩|⟨rfl,rfl⟩)
    ·exact nC (.link (List.mem_of_getElem? h'))
    ·exact nC (.symm (.link (List.mem_of_getElem? h')))
   have af:¬((q=a/\p=b)\/(q=b/\p=a)):=λz=>no (z.elim (λ⟨y1,y2⟩=>.inr ⟨y2,y1⟩) λ⟨y1,y2⟩=>.inl ⟨y2,y1⟩);unfold O2;rw[Gh no,Gh af];exact I.fst.all n p q C h'
  ·simp only[Df]at h;obtain⟨rfl,rfl,rfl⟩:=h;subst A;unfold O2;exact⟨Gm (.inl ⟨Xb,Xb⟩),Gm (.inr ⟨Xb,Xb⟩)⟩
 ·show¬Cn ((x.links++[(a,b,r)]).take n) p q;rcases gl h with⟨A,h⟩|⟨A,h⟩
  ·rw[tk (by omega)];exact I.fst.sep n p q C h
  ·simp only[Df]at h;obtain⟨rfl,rfl,rfl⟩:=h;rw[tk (by omega),A,List.take_length];exact nC
 ·obtain⟨lp,w⟩:=I.fst.chain p d;obtain⟨l,h1,_⟩:=R p d lp w;exact⟨l,h1⟩
 ·rcases P p q h with h|⟨O,J⟩|h
  ·exact I.fst.inS p q h
  ·rw[O,J];exact⟨M,G⟩
  ·exact(I.fst.inS q p h).symm
 ·show H∈x.S/\U∈x.S/\(C=Gg->wd H=wd U/\Two (Cn ((x.links++[(a,b,r)]).take n)) (pt H) (pt U));rcases gl h with⟨A,h⟩|⟨A,h⟩
  ·rw[tk (by omega)];exact I.lnk n H U C h
  ·simp only[Df]at h;obtain⟨rfl,rfl,rfl⟩:=h;rw[tk (by omega),A,List.take_length];refine⟨aS,bS,λe=>⟨(N e).1,?_⟩⟩;have t:=Qbo.mp (N e).2;exact⟨t.1,λi u v F K=>(I.conn u (I.pt_ _ aS u (List.mem_of_getElem? F)) v (I.pt_ _ bS v (List.mem_of_getElem? K))).mp (t.2 i u v F K)⟩
 ·show Q7 x g k p=Q7 x g k q↔Zu l=Zu m;obtain⟨lp,w⟩:=I.fst.chain p d;obtain⟨lq,aa⟩:=I.fst.chain q j;obtain⟨l',p1,p2,p3⟩:=R p d lp w;obtain⟨m',q1,q2,q3⟩:=R q j lq aa;have el:=Ch.uniq (show Ch (Xi x.up hi cl) p l from h1) p1;have em:=Ch.uniq (show Ch (Xi x.up hi cl) q m from h2) q1;subst el em;have rp:=I.root p hi lp lh d G w D;have rq:=I.root q hi lq lh j G aa D;rw[hK]at rp rq;rw[L p d,L q j];by_cases o:x.lead p=g<;>by_cases B:x.lead q=g
  ·rw[Gm o,Gm B,p2 o,q2 B];exact⟨λ_=>rfl,λ_=>rfl⟩
  ·rw[Gm o,Gh B,p2 o,q3 B];exact⟨λe=>(rq.mp e.symm).symm,λe=>(rq.mpr e.symm).symm⟩
  ·rw[Gh o,Gm B,p3 o,q2 B];exact rp
  ·rw[Gh o,Gh B,p3 o,q3 B];exact I.root p q lp lq d j w aa
end
variable{W ρ:Type}[DecidableEq W]
section
variable{wd:Nat->W}{pt:Nat->List Nat}{x:Nst W ρ}{pend pend':List (Nat×Nat×Option ρ)}
theorem Xz.Ql3(I:Xz wd pt x pend)(h1:∀p q r,(p,q,r)∈pend->Cj x.S x.lead pend' p q)(h2:∀a b r,(a,b,r)∈pend'->a∈x.S/\b∈x.S/\(r=Gg->wd a=wd b/\(pt a).map x.lead=(pt b).map x.lead)):Xz wd pt x pend':=
 ⟨I.nd,I.pt_,I.ld,I.idem,I.Qbk,I.Qj0,I.Qii,I.Qtk,I.tabS,λp d=>by obtain⟨u,e,c⟩:=I.Qq4 p d;exact⟨u,e,c.map (λp d q f e=>.lead d f e) h1⟩,h2,I.fst,I.lnk,I.conn,I.root⟩
theorem Xz.drop{r:Option ρ}(I:Xz wd pt x (pend++[(a,b,r)]))(e:x.lead a=x.lead b):Xz wd pt x pend:=by
 obtain⟨aS,bS,_⟩:=I.pnd a b r (by simp);refine I.Ql3 (λp q c m=>?_) λd f c m=>I.pnd d f c (List.mem_append_left _ m);rcases List.mem_append.mp m with m|m
 ·exact .wait m
 ·simp at m;obtain⟨rfl,rfl,rfl⟩:=m;exact .lead aS bS e
theorem Xz.cong(I:Xz wd pt x [])(a:p∈x.S)(b:q∈x.S)(e:Zj wd pt x.lead p=Zj wd pt x.lead q):x.lead p=x.lead q:=by obtain⟨u,h1,h2⟩:=I.Qq4 p a;obtain⟨v,c,d⟩:=I.Qq4 q b;rw[e,c]at h1;cases h1;exact h2.nil.symm.trans d.nil
structure Ec(wd:Nat->W)(pt:Nat->List Nat)(S:List Nat)(E:Nat->Nat->Prop):Prop where
 refl:∀p,E p p
 symm:∀p q,E p q->E q p
 trans:∀p q r,E p q->E q r->E p r
 cong:∀p∈S,∀q∈S,wd p=wd q->Two E (pt p) (pt q)->E p q
def Snd(E:Nat->Nat->Prop)(x:Nst W ρ)(pend:List (Nat×Nat×Option ρ)):Prop:=(∀p∈x.S,∀q∈x.S,x.lead p=x.lead q->E p q)/\∀a b r,(a,b,r)∈pend->E a b
theorem Snd.join{E:Nat->Nat->Prop}{a b:Nat}{r:Option ρ}(H:Snd E x (pend++[(a,b,r)]))(X:Ec wd pt x.S E)(I:Xz wd pt x (pend++[(a,b,r)]))(A:x.lead a≠x.lead b){lo hi:Nat}{cl:List Nat}(c:(lo=a/\hi=b)\/(lo=b/\hi=a))(F:Ch x.up lo cl):
  Snd E (Yh wd pt x a b r lo hi cl).1 (pend++(Yh wd pt x a b r lo hi cl).2):=by
 obtain⟨J,L⟩:=I.join A c F;obtain⟨aS,bS,_⟩:=I.pnd a b r (by simp);have g:E a b:=H.2 a b r (by simp);have B:lo∈x.S:=by rcases c with⟨h,_⟩|⟨h,_⟩<;>rw[h]<;>assumption
 have z:hi∈x.S:=by rcases c with⟨_,h⟩|⟨_,h⟩<;>rw[h]<;>assumption
 have y:E lo hi:=by
  rcases c with⟨h1,h2⟩|⟨h1,h2⟩<;>rw[h1,h2]
  ·exact g
  ·exact X.symm _ _ g
 have C:∀u∈x.S,∀v∈x.S,x.lead u=x.lead lo->x.lead v=x.lead hi->E u v:=λu l v n s w=>X.trans _ _ _ (H.1 u l lo B s) (X.trans _ _ _ y (H.1 hi z v n w.symm));have S1:∀p∈x.S,∀q∈x.S,(Yh wd pt x a b r lo hi cl).1.lead p=(Yh wd pt x a b r lo hi cl).1.lead q->E p q:=λp j q k e=>by
  rw[L p j,L q k]at e;by_cases h1:x.lead p=x.lead lo<;>by_cases h2:x.lead q=x.lead lo
  ·exact H.1 p j q k (h1.trans h2.symm)
  ·rw[Gm h1,Gh h2]at e;exact C p j q k h1 e.symm
  ·rw[Gh h1,Gm h2]at e;exact X.symm _ _ (C q k p j h2 e)
  ·rw[Gh h1,Gh h2]at e;exact H.1 p j q k e
 refine⟨S1,λd f o m=>?_⟩;rcases List.mem_append.mp m with h|h
 ·exact H.2 d f o (List.mem_append_left _ h)
 ·obtain⟨h1,h2,D⟩:=J.pnd d f o m;have G:o=Gg:=by
   rcases Vw (show(d,f,o)∈(scan _ _ _ []).2 from h)with h|⟨h1,_⟩
   ·simp at h
   ·exact h1
  obtain⟨s,w⟩:=D G;have t:=Qbo.mp w;exact X.cong d h1 f h2 s ⟨t.1,λi u v l n=>S1 u (I.pt_ d h1 u (List.mem_of_getElem? l)) v (I.pt_ f h2 v (List.mem_of_getElem? n)) (t.2 i u v l n)⟩
theorem Qk8{r:Option ρ}{d e:Nat}{c:Option ρ}(h:(d,e,c)∈(Yh wd pt x a b r lo hi cl).2):c=Gg:=by
 rcases Vw (show(d,e,c)∈(scan _ _ _ []).2 from h)with h|⟨h1,_⟩
 ·simp at h
 ·exact h1
def cls(x:Nst W ρ):Nat:=x.S.countP λp=>decide (x.lead p=p)
def Vs(x:Nst W ρ):Nat:=(x.S.map λp=>if x.lead p=p then(x.Xd p).length else 0).sum
theorem Qdj{α:Type}{p q:α->Bool}:∀{l:List α},(∀x∈l,p x=Gf->q x=Gf)->l.countP p<=l.countP q
 |[],_=>by simp
 |x::r,h=>by
  have b:=Qdj (l:=r) (λy a=>h y (List.mem_cons_of_mem _ a));have h1:=h x List.mem_cons_self;rw[List.countP_cons,List.countP_cons];cases e:p x with
  |true=>rw[h1 e];simp;exact b
  |false=>simp;omega
theorem Qc7{α:Type}{p q:α->Bool}:∀{l:List α},(∀x∈l,p x=Gf->q x=Gf)->(∃x∈l,q x=Gf/\p x=Gq)->l.countP p<l.countP q
 |[],_,h=>by obtain⟨x,c,_⟩:=h;simp at c
 |x::r,h,⟨y,a,h1,h2⟩=>by
  rw[List.countP_cons,List.countP_cons];rcases List.mem_cons.mp a with rfl|a
  ·have:=Qdj (l:=r) (λy a=>h y (List.mem_cons_of_mem _ a));rw[h1,h2];simp;omega
  ·have d:=Qc7 (l:=r) (λy a=>h y (List.mem_cons_of_mem _ a)) ⟨y,a,h1,h2⟩;have b:=h x List.mem_cons_self;cases e:p x with
   |true=>rw[b e];simp;exact d
   |false=>simp;omega
theorem Qrs{f a:Nat->Nat}:∀{S:List Nat},(∀p∈S,f p=a p)->(S.map f).sum=(S.map a).sum:=λh=>by rw[List.map_congr_left h]
theorem Qnb{f b:Nat->Nat}{g k:Nat}(d:g≠k):∀{S:List Nat},S.Nodup->g∈S->k∈S->b g+b k=f g+f k->(∀p∈S,p≠g->p≠k->b p=f p)->(S.map b).sum=(S.map f).sum
 |[],_,h,_,_,_=>by simp at h
 |x::r,nd,q,t,e,h=>by
  rw[List.nodup_cons]at nd;have one:∀{u v:Nat}{S:List Nat},S.Nodup->v∈S->u∉S->(∀p∈S,p≠u->p≠v->b p=f p)->(S.map b).sum+f v=(S.map f).sum+b v:=by
   intro u v S;induction S with
   |nil=>intro _ h;simp at h
   |cons z s w=>
    intro nd n m o;rw[List.nodup_cons]at nd;simp only[List.mem_cons,not_or]at m;simp only[List.map_cons,List.sum_cons];rcases List.mem_cons.mp n with rfl|n
    ·have:(s.map b).sum=(s.map f).sum:=Qrs λp a=>o p (List.mem_cons_of_mem _ a) (λz=>m.2 (z▸a)) (λz=>nd.1 (z▸a));omega
    ·have:=w nd.2 n m.2 λp a=>o p (List.mem_cons_of_mem _ a);have hz:=o z List.mem_cons_self (Gp m.1) (λy=>nd.1 (y▸n));omega
  simp only[List.map_cons,List.sum_cons];by_cases j:x=g
  ·subst j;have i:k∈r:=(List.mem_cons.mp t).resolve_left (Gp d);have:=one (u:=x) nd.2 i nd.1 λp a h1 h2=>h p (List.mem_cons_of_mem _ a) h1 h2;omega
  ·by_cases l:x=k
   ·subst l;have c:g∈r:=(List.mem_cons.mp q).resolve_left d;have:=one (u:=x) nd.2 c nd.1 λp a h1 h2=>h p (List.mem_cons_of_mem _ a) h2 h1;omega
   ·have c:g∈r:=(List.mem_cons.mp q).resolve_left (Gp j);have i:k∈r:=(List.mem_cons.mp t).resolve_left (Gp l);have:=Qnb d nd.2 c i e λp a=>h p (List.mem_cons_of_mem _ a);have:=h x List.mem_cons_self j l;omega
theorem Jg{f:Nat->Nat}:∀{S:List Nat}{p:Nat},p∈S->f p<=(S.map f).sum
 |x::r,p,h=>by
  simp only[List.map_cons,List.sum_cons];rcases List.mem_cons.mp h with rfl|h
  ·omega
  ·have:=Jg (f:=f) h;omega
theorem Xz.less{r:Option ρ}(I:Xz wd pt x (pend++[(a,b,r)]))(i:x.lead a≠x.lead b)(d:(lo=a/\hi=b)\/(lo=b/\hi=a))(y:Ch x.up lo cl):
  cls (Yh wd pt x a b r lo hi cl).1<cls x/\Vs (Yh wd pt x a b r lo hi cl).1=Vs x/\(Yh wd pt x a b r lo hi cl).2.length<=Vs x/\(Yh wd pt x a b r lo hi cl).1.links.length=x.links.length+1:=by
 obtain⟨J,L⟩:=I.join i d y;obtain⟨aS,bS,_⟩:=I.pnd a b r (by simp);have n:lo∈x.S:=by rcases d with⟨h,_⟩|⟨h,_⟩<;>rw[h]<;>assumption
 have m:hi∈x.S:=by rcases d with⟨_,h⟩|⟨_,h⟩<;>rw[h]<;>assumption
 have c:x.lead lo≠x.lead hi:=by
  rcases d with⟨h1,h2⟩|⟨h1,h2⟩<;>rw[h1,h2]
  ·exact i
  ·exact Gp i
 have k:=I.ld lo n;have q:=I.idem lo n;have u:=I.ld hi m;have s:=I.idem hi m;have g:∀p∈x.S,(Yh wd pt x a b r lo hi cl).1.lead p=p->x.lead p=p/\p≠x.lead lo:=λp j e=>by
  rw[L p j]at e;by_cases h:x.lead p=x.lead lo
  ·rw[Gm h]at e;rw[<-e,s]at h;exact absurd h.symm c
  ·rw[Gh h]at e;exact⟨e,λz=>h (by rw[e];exact z)⟩
 refine⟨Qc7 (λp j e=>GX (g p j (TJ e)).1) ⟨x.lead lo,k,GX q,Gz λz=>(g _ k z).2 Xb⟩,?_,?_,by simp[Yh,Vz]⟩
 ·refine Qnb c I.nd k u ?_ λp j h1 h2=>?_
  ·have v:¬(Yh wd pt x a b r lo hi cl).1.lead (x.lead lo)=x.lead lo:=λz=>(g _ k z).2 rfl;have w:(Yh wd pt x a b r lo hi cl).1.lead (x.lead hi)=x.lead hi:=by rw[L _ u,s,Gh (Gp c)]
   rw[Gh v,Gm w,Gm q,Gm s];have:(Yh wd pt x a b r lo hi cl).1.Xd (x.lead hi)=x.Xd (x.lead hi)++x.Xd (x.lead lo):=by simp[Yh,Vz]
   rw[this,List.length_append];omega
  ·have:(Yh wd pt x a b r lo hi cl).1.Xd p=x.Xd p:=by simp[Yh,Vz,h2]
   rw[this];by_cases e:x.lead p=p
   ·have o:(Yh wd pt x a b r lo hi cl).1.lead p=p:=by rw[L p j,Gh (by rw[e];exact h1),e]
    rw[Gm e,Gm o]
   ·have o:¬(Yh wd pt x a b r lo hi cl).1.lead p=p:=λz=>e (g p j z).1;rw[Gh e,Gh o]
 ·have h1:=scan_len (ρ:=ρ) (ky:=Zj wd pt (Q7 {x with links:=x.links++[(a,b,r)],Y9:=O2 x.Y9 a b x.links.length,up:=Xi x.up hi cl} (x.lead lo) (x.lead hi))) (l:=x.Xd (x.lead lo)) (t:=x.tab) (f:=[]);have h2:=Jg (f:=λp=>if x.lead p=p then(x.Xd p).length else 0) k;simp only[q,Gm]at h2;refine TY h1 (by simpa[Vs]using h2)
end
variable{W ρ:Type}[DecidableEq W]
def Yw(pt:Nat->List Nat)(S:List Nat)(q:Nat):List Nat:=S.flatMap λp=>List.replicate ((pt p).count q) p
def Qa5(wd:Nat->W)(pt:Nat->List Nat)(S:List Nat)(k:W×List Nat):Option Nat:=S.find? λp=>decide (Zj wd pt id p=k)
def fresh(wd:Nat->W)(pt:Nat->List Nat)(S:List Nat):Nst W ρ:=⟨S,id,λp=>[p],Yw pt S,Qa5 wd pt S,[],λ_ _=>Gg,λ_=>Gg⟩
theorem Qyc{α:Type}(c:Cn (α:=α) [] p q):p=q:=by
 induction c with
 |refl _=>rfl
 |symm _ a=>exact a.symm
 |trans _ _ i1 i2=>exact i1.trans i2
 |link m=>simp at m
theorem Qny{wd:Nat->W}{pt:Nat->List Nat}(nd:S.Nodup)(cl:∀p∈S,∀q∈pt p,q∈S)(inj:∀p∈S,∀q∈S,wd p=wd q->pt p=pt q->p=q):Xz (ρ:=ρ) wd pt (fresh wd pt S) [] where
 nd:=nd
 pt_:=cl
 ld:=λp h=>h
 idem:=λ_ _=>rfl
 Qbk:=λl g _ p=>by show p∈[l]↔p∈S/\p=l;simp only[List.mem_singleton];exact⟨λe=>⟨e▸g,e⟩,λe=>e.2⟩
 Qj0:=λl _ _=>by simp[fresh]
 Qii:=λl _ p a=>by obtain⟨u,i,h⟩:=List.mem_flatMap.mp a;rw[List.mem_replicate]at h;rw[h.2];exact i
 Qtk:=λp a q b=>List.mem_flatMap.mpr ⟨p,a,List.mem_replicate.mpr ⟨by have:=List.count_pos_iff.mpr b;show(pt p).count q≠0;omega,Xb⟩⟩
 tabS:=λk u h=>by
  have h:S.find? (λp=>decide (Zj wd pt id p=k))=Ga u:=h;have h1:=List.mem_of_find?_eq_some h;have h2:Zj wd pt id u=k:=TJ (by simpa using List.find?_some h);subst h2;refine⟨h1,Xb,λq b=>?_,?_⟩
  ·simp only[Zj,List.map_id]at b;exact cl u h1 q b
  ·simp[Zj,fresh]
 Qq4:=λp a=>by
  show∃u,S.find? (λq=>decide (Zj wd pt id q=Zj wd pt id p))=Ga u/\_;cases e:S.find? (λq=>decide (Zj wd pt id q=Zj wd pt id p))with
  |none=>have:=List.find?_eq_none.mp e p a;simp at this
  |some u=>have h1:=List.mem_of_find?_eq_some e;have h2:Zj wd pt id u=Zj wd pt id p:=TJ (by simpa using List.find?_some e);simp only[Zj,List.map_id,Df]at h2;exact⟨u,Xb,.lead h1 a (inj u h1 p a h2.1 h2.2)⟩
 pnd:=λ_ _ _ h=>by simp at h
 fst:=⟨λ_ _ h=>by simp[fresh]at h,λ_ _ _ h=>by simp[fresh]at h,λ_ _ _ _ h=>by simp[fresh]at h,λ_ _ _ _ h=>by simp[fresh]at h,λp _=>⟨[p],.top Xb⟩,λ_ _ h=>by simp[fresh]at h⟩
 lnk:=λ_ _ _ _ h=>by simp[fresh]at h
 conn:=λp _ q _=>⟨λ(e:p=q)=>by subst e;exact .refl _,λc=>Qyc c⟩
 root:=λp q l m _ _ h1 h2=>by have d:l=[p]:=h1.uniq (.top Xb);have f:m=[q]:=h2.uniq (.top Xb);subst d f;simp[Zu,fresh]
theorem Qpk(pt:Nat->List Nat)(S:List Nat)(p q:Nat):Yw pt (S++[p]) q=Yw pt S q++List.replicate ((pt p).count q) p:=by simp[Yw]
theorem Qph(wd:Nat->W)(pt:Nat->List Nat)(new:∀q∈S,Zj wd pt id q≠Zj wd pt id p)(k:W×List Nat):Qa5 wd pt (S++[p]) k=if k=Zj wd pt id p then Ga p else Qa5 wd pt S k:=by
 unfold Qa5;rw[List.find?_append];by_cases h:k=Zj wd pt id p
 ·rw[Gm h];have:S.find? (λp=>decide (Zj wd pt id p=k))=Gg:=List.find?_eq_none.mpr λq a=>by have:=new q a;simp[h,this]
  rw[this];simp[h]
 ·rw[Gh h];have:[p].find? (λp=>decide (Zj wd pt id p=k))=Gg:=by simp[Gp h]
  rw[this,Option.or_none]
end Nt
namespace Sb
open PySem PySem.Spec PyProof.Rows L2 Nt
variable{p:Nat}{S:List Nat}{f:Nat->V}{b:Gc}
def ki(p:Nat):Xs:=.inl (p:Int)
def dS(S:List Nat)(f:Nat->V):List (Xs×V):=S.map λp=>(ki p,f p)
theorem U8{q:Nat}(h:ki p=ki q):p=q:=by unfold ki at h;injection h with h;omega
theorem Q0h(p:Nat):kV (ki p)=jv p:=rfl
theorem Qfp(h:p∈S):Yy (dS S f) (ki p)=Ga (f p):=by
 induction S with
 |nil=>simp at h
 |cons q r b=>
  by_cases e:q=p
  ·subst e;exact Xm (p:=(ki q,f q)) rfl
  ·have a:¬(ki q=ki p):=λz=>e (U8 z);show Yy ((ki q,f q)::dS r f) (ki p)=_;rw[Xe (p:=(ki q,f q)) a];exact b ((List.mem_cons.mp h).resolve_left λz=>e z.symm)
theorem Qks(h:p∉S):Yy (dS S f) (ki p)=Gg:=by
 induction S with
 |nil=>exact Qb7
 |cons q r b=>simp only[List.mem_cons,not_or]at h;have a:¬(ki q=ki p):=λz=>h.1 (U8 z).symm;show Yy ((ki q,f q)::dS r f) (ki p)=_;rw[Xe (p:=(ki q,f q)) a];exact b h.2
theorem Qmo:(Yy (dS S f) (ki p)).isSome=decide (p∈S):=by
 by_cases h:p∈S
 ·rw[Qfp h,GX h];rfl
 ·rw[Qks h,Gz h];rfl
theorem Wz(S:List Nat)(f:Nat->V):(dS S f).length=S.length:=by simp[dS]
theorem Qki{v:V}(h:p∈S):Ww (dS S f) (ki p) v=dS S (λq=>if q=p then v else f q):=by
 unfold Ww;have a:((dS S f).any λb=>decide (b.1=ki p))=Gf:=by rw[Ux,Qfp h];rfl
 rw[Gm a];unfold dS;rw[List.map_map];refine List.map_congr_left λq _=>?_;show(if ki q=ki p then(ki q,v)else(ki q,f q))=(ki q,if q=p then v else f q);by_cases e:q=p
 ·subst e;rw[Gm Xb,Gm rfl]
 ·rw[Gh (λz=>e (U8 z)),Gh e]
theorem Qad{v:V}(h:p∉S):Ww (dS S f) (ki p) v=dS (S++[p]) (λq=>if q=p then v else f q):=by rw[Qru _ (Qks h)];unfold dS;rw[List.map_append,List.map_cons,List.map_nil];show _=_++[(ki p,if p=p then v else f p)];rw[Gm rfl];congr 1;refine List.map_congr_left λq a=>?_;show _=(ki q,if q=p then v else f q);rw[Gh (λz:q=p=>h (z▸a))]
theorem Wk{g:Nat->V}(h:∀p∈S,f p=g p):dS S f=dS S g:=List.map_congr_left λp a=>by rw[h p a]
inductive U3 where
 |told (n:Nat)
 |asked
def Qnf(H:Hp)(v:V):Option U3->Prop
 |none=>v=.non
 |some (.told n)=>∃c,v=.ref c/\H c=Ga (.tup [.str "told",jv n])
 |some .asked=>∃c,v=.ref c/\H c=Ga (.tup [.str "asked"])
theorem Qnf.Ql{H H':Hp}(e:Qt H H'){v:V}:∀{r:Option U3},Qnf H v r->Qnf H' v r
 |none,h=>h
 |some (.told n),⟨c,h1,h2⟩=>⟨c,h1,e _ _ h2⟩
 |some .asked,⟨c,h1,h2⟩=>⟨c,h1,e _ _ h2⟩
abbrev Lk:=Nat×Nat×Option U3
def Rw(H:Hp)(v:V)(l:Lk):Prop:=∃c r,v=.ref c/\H c=Ga (.tup [jv l.1,jv l.2.1,r])/\Qnf H r l.2.2
theorem Rw.Ql{H H':Hp}(e:Qt H H'){v:V}{l:Lk}(h:Rw H v l):Rw H' v l:=by obtain⟨c,r,h1,h2,a⟩:=h;exact⟨c,r,h1,e _ _ h2,a.Ql e⟩
abbrev Nn:=Nst Ta U3
def Yc(fs:List Fm)(p:Nat):Ta:=(fs.getD p (Em,[])).1
def Zk(fs:List Fm)(p:Nat):List Nat:=(fs.getD p (Em,[])).2
theorem Qfn{fs:List Fm}(h:p<fs.length):fs[p]?=Ga (Yc fs p,Zk fs p):=by unfold Yc Zk;rw[List.getD_eq_getElem?_getD,List.getElem?_eq_getElem h];rfl
structure Na where
 f:Gc
 l:Gc
 m:Gc
 u:Gc
 t:Gc
 k:Gc
 a:Gc
 v:Gc
 ml:Nat->Gc
 ul:Nat->Gc
def Y0(A:Na):List (Ta×V):=[("forms",.ref A.f),("leads",.ref A.l),("members",.ref A.m),("users",.ref A.u),("table",.ref A.t),("links",.ref A.k),("link_at",.ref A.a),("above",.ref A.v)]
def ov:Option Nat->V
 |none=>.non
 |some p=>jv p
structure Ap(A:Na)(S:List Nat):Prop where
 lm:A.l≠A.m
 lu:A.l≠A.u
 lv:A.l≠A.v
 mu:A.m≠A.u
 mv:A.m≠A.v
 uv:A.u≠A.v
 kf:A.k≠A.f
 mm:∀p∈S,∀q∈S,A.ml p=A.ml q->p=q
 uu:∀p∈S,∀q∈S,A.ul p=A.ul q->p=q
 mul:∀p∈S,∀q∈S,A.ml p≠A.ul q
 mkf:∀p∈S,A.ml p≠A.k/\A.ml p≠A.f
 ukf:∀p∈S,A.ul p≠A.k/\A.ul p≠A.f
structure Z5(P:Gk)(w:Gv)(C:Gc)(H:Hp)(n:Gc)(A:Na)(fs:List Fm)(tb:Nat)(x:Nn):Prop where
 ob:∃dx,H n=Ga (.ins C dx (Y0 A))
 fo:∃ws,H A.f=Ga (.lst ws)/\Paired (Rm H) ws fs
 le:H A.l=Ga (.dK (dS x.S λp=>jv (x.lead p)))
 me:H A.m=Ga (.dK (dS x.S λp=>.ref (A.ml p)))
 us:H A.u=Ga (.dK (dS x.S λp=>.ref (A.ul p)))
 ta:∃kvs,DH P w H A.t kvs/\kvs.length<=tb/\∀k:Fm,Yd kvs (Yx k)=(x.tab k).map jv
 li:∃ls,H A.k=Ga (.lst ls)/\Paired (Rw H) ls x.links
 at_:∃kvs,H A.a=Ga (.dT kvs)/\kvs.length<=2*x.links.length/\∀i j:Nat,Yy kvs [ki i,ki j]=(x.Y9 i j).map jv
 ab:H A.v=Ga (.dK (dS x.S λp=>ov (x.up p)))
 ml:∀p∈x.S,H (A.ml p)=Ga (.lst ((x.mem p).map jv))
 ul:∀p∈x.S,H (A.ul p)=Ga (.lst ((x.Xd p).map jv))
 ap:Ap A x.S
def Own(A:Na)(S:List Nat)(b:Gc):Prop:=b=A.l\/b=A.m\/b=A.u\/b=A.t\/b=A.k\/b=A.a\/b=A.v\/∃p∈S,b=A.ml p\/b=A.ul p
structure Rb(A:Na)(S:List Nat)(H H':Hp):Prop where
 keep:∀b o,H b=Ga o->¬Own A S b->H' b=Ga o
 there:∀b,H' b=Gg->H b=Gg
theorem Rb.trans{A:Na}{H H1 H2:Hp}(x:Rb A S H H1)(y:Rb A S H1 H2):Rb A S H H2:=⟨λb o e h=>y.keep b o (x.keep b o e h) h,λb h=>x.there b (y.there b h)⟩
theorem Rb.of{A:Na}{H H':Hp}(g:Qz H H'):Rb A S H H':=⟨λb o e _=>g b o e,λb h=>g.free h⟩
theorem Rb.upd{A:Na}{S:List Nat}{H:Hp}{b:Gc}{o:HO}(h:Own A S b):Rb A S H (upd H b o):=⟨λc u e a=>by rw[Qf (show c≠b fromλz=>a (by rw[z];exact h))];exact e,λc a=>by
 by_cases e:c=b
 ·subst e;rw[Qb]at a;cases a
 ·rw[Qf e]at a;exact a⟩
section
variable{P:Gk}{w:Gv}{C:Gc}{H H':Hp}{n:Gc}{A:Na}{fs:List Fm}{tb:Nat}{x:Nn}
theorem Z5.own(X:Z5 P w C H n A fs tb x)(h:Own A x.S b):(∃kvs,H b=Ga (.dK kvs))\/(∃kvs,H b=Ga (.dT kvs))\/(∃o,H b=Ga (.ext o))\/∃xs,H b=Ga (.lst xs):=by
 obtain⟨kvs,D,_⟩:=X.ta;obtain⟨ls,L,_⟩:=X.li;obtain⟨c,T,_⟩:=X.at_;rcases h with rfl|rfl|rfl|rfl|rfl|rfl|rfl|⟨p,a,rfl|rfl⟩
 ·exact .inl ⟨_,X.le⟩
 ·exact .inl ⟨_,X.me⟩
 ·exact .inl ⟨_,X.us⟩
 ·exact .inr (.inr (.inl ⟨_,D.at_⟩))
 ·exact .inr (.inr (.inr ⟨_,L⟩))
 ·exact .inr (.inl ⟨_,T⟩)
 ·exact .inl ⟨_,X.ab⟩
 ·exact .inr (.inr (.inr ⟨_,X.ml p a⟩))
 ·exact .inr (.inr (.inr ⟨_,X.ul p a⟩))
theorem Z5.Qk4(X:Z5 P w C H n A fs tb x){xs:List V}(h:H b=Ga (.tup xs)):¬Own A x.S b:=λz=>by rcases X.own z with⟨_,e⟩|⟨_,e⟩|⟨_,e⟩|⟨_,e⟩<;>rw[h]at e<;>cases e
theorem Z5.Qxg(X:Z5 P w C H n A fs tb x)(h:H b=Gg):¬Own A x.S b:=λz=>by rcases X.own z with⟨_,e⟩|⟨_,e⟩|⟨_,e⟩|⟨_,e⟩<;>rw[h]at e<;>cases e
theorem Z5.same(g:Qz H H')(X:Z5 P w C H n A fs tb x):Z5 P w C H' n A fs tb x:=by obtain⟨dx,l⟩:=X.ob;obtain⟨m,i,j⟩:=X.fo;obtain⟨kvs,D,e,f⟩:=X.ta;obtain⟨ls,l1,l2⟩:=X.li;obtain⟨k,c,d⟩:=X.at_;have b:=Qt.of g;exact⟨⟨dx,g _ _ l⟩,⟨m,g _ _ i,L2.Paired.Z7 j λ_ _ h=>h.Ql b⟩,g _ _ X.le,g _ _ X.me,g _ _ X.us,⟨kvs,⟨g _ _ D.at_,Zg b D.keys⟩,e,f⟩,⟨ls,g _ _ l1,L2.Paired.Z7 l2 λ_ _ h=>h.Ql b⟩,⟨k,g _ _ c,d⟩,g _ _ X.ab,λp a=>g _ _ (X.ml p a),λp a=>g _ _ (X.ul p a),X.ap⟩
theorem Z5.keep(X:Z5 P w C H n A fs tb x)(a:∀b o,H b=Ga o->(Own A x.S b\/b=A.f\/b=n)->H' b=Ga o)(d:Qt H H'):Z5 P w C H' n A fs tb x:=by
 obtain⟨dx,q⟩:=X.ob;obtain⟨r,k,l⟩:=X.fo;obtain⟨kvs,D,i,j⟩:=X.ta;obtain⟨ls,l1,l2⟩:=X.li;obtain⟨m,e,g⟩:=X.at_;refine⟨⟨dx,a _ _ q (.inr (.inr Xb))⟩,⟨r,a _ _ k (.inr (.inl Xb)),L2.Paired.Z7 l λ_ _ h=>h.Ql d⟩,a _ _ X.le (.inl (.inl Xb)),a _ _ X.me (.inl (.inr (.inl Xb))),a _ _ X.us (.inl (.inr (.inr (.inl Xb)))),⟨kvs,⟨a _ _ D.at_ (.inl (.inr (.inr (.inr (.inl Xb))))),Zg d D.keys⟩,i,j⟩,
  ⟨ls,a _ _ l1 (.inl (.inr (.inr (.inr (.inr (.inl Xb)))))),L2.Paired.Z7 l2 λ_ _ h=>h.Ql d⟩,⟨m,a _ _ e (.inl (.inr (.inr (.inr (.inr (.inr (.inl Xb))))))),g⟩,a _ _ X.ab (.inl (.inr (.inr (.inr (.inr (.inr (.inr (.inl Xb)))))))),λp c=>?_,λp c=>?_,X.ap⟩
 ·exact a _ _ (X.ml p c) (.inl (.inr (.inr (.inr (.inr (.inr (.inr (.inr ⟨p,c,.inl Xb⟩))))))))
 ·exact a _ _ (X.ul p c) (.inl (.inr (.inr (.inr (.inr (.inr (.inr (.inr ⟨p,c,.inr Xb⟩))))))))
theorem Z5.mono{a:Nat}(h:tb<=a)(X:Z5 P w C H n A fs tb x):Z5 P w C H n A fs a x:=by obtain⟨kvs,D,c,b⟩:=X.ta;exact⟨X.ob,X.fo,X.le,X.me,X.us,⟨kvs,D,by omega,b⟩,X.li,X.at_,X.ab,X.ml,X.ul,X.ap⟩
end
end Sb
namespace L2
open PySem PySem.Spec PyProof.Rows
variable{X:Cx}{σ:St}{H:Hp}
def Qrx(P:Gk)(w:Gv):V->List V->Hp->VK->Prop:=λx vs H Q=>∃d b a kvs k,x=.ref d/\vs=[.ref b,a]/\DH P w H d kvs/\Qai H b k/\kvs.length<Gi/\
 (∀v,Yd kvs k=Ga v->Q v H)/\(Yd kvs k=Gg->Q a (upd H d (Um P w d (kvs++[(k,b,a)]))))
theorem Qkm(M:X.A.units+64<DP):MtR X "dict.setdefault" (Qrx X.prog X.w):=by
 intro pins s σ H x vs v us Q I K rv h;obtain⟨d,b,f,kvs,k,rfl,rfl,D,r,hz,E,G⟩:=h;cases(show v=Value.ref d from K);obtain⟨L,l,rfl,J,j⟩:=vals2 rv;cases(show L=Value.ref b from J);obtain⟨z,hd,xs,rel,g⟩:=Qho I D.at_ D.keys;have C:kvs.length=xs.length:=Gr rel;refine L1 F.slot_dict_setdefault g.typeIs F.entry_dict_setdefault (F.args_dict_setdefault_3 _ _ _) (Wp (Vg X.prog X.w) d b hd l) ⟨by first|(show X.A.units+1+10<DP;omega)|(show X.A.units+1+1+10<DP;omega),k,xs,r.is I,g,by omega,λp u=>?_,λt h' e B=>?_⟩
 ·have a:=rel.val k;rw[u]at a;cases q:Yd kvs k with
  |none=>rw[q]at a;exact(show False from a).elim
  |some y=>rw[q]at a;exact⟨y,H,I.tok _,a,E y q⟩
 ·have a:=rel.val k;rw[t]at a;cases q:Yd kvs k with
  |some y=>rw[q]at a;exact(show False from a).elim
  |none=>obtain⟨ob,es,ep,i,h2,m,n,_,o⟩:=e;have c:KX (kvs++[(k,b,f)]) (xs++[(k,b,l)]):=DE rel ⟨Xb,Xb,j⟩;refine⟨f,_,Ip (ob:=Um X.prog X.w d (kvs++[(k,b,f)])) I (by rw[D.at_];exact TC) B ⟨ob,i⟩ (Qkb ⟨by rw[List.length_append,List.length_singleton];omega,hd,_,c,ob,es,ep,i,h2,m,n,o⟩),j,G q⟩
section
variable{X:Cx}{o e:T1}{es:List T1}{to:TE}{t:TA}{name:Ta}{apos cpos:SW}{id:String}{r:V->List V->Hp->VK->Prop}
theorem Qig{pins:List (Gc×Ee)}{s:Gj}{d:Gc}{kvs:List KE}(I:Inv X pins σ H s)(e:H d=Ga (Um X.prog X.w d kvs)):
  s.TypeIs (.ref d) "dict"/\∀a,Value.ref d=.ref a->∃ob,s.heap.get? a=Ga ob/\ob.dict=Gg:=by
 obtain⟨z,y,xs,r,o,es,ep,h1,h2,b,c,f⟩:=Qaj I e;exact⟨⟨o,h1,h2.1⟩,λa e=>by cases e;exact⟨o,h1,h2.2.1⟩⟩
def Q13(P:Gk)(w:Gv)(r:V->List V->Hp->VK->Prop)(to:TE)(t:TA):TE:=λσ H Q=>to σ H λx H1=>(∃d kvs,x=.ref d/\H1 d=Ga (Um P w d kvs))/\t σ H1 λxs H2=>r x xs H2 Q
theorem Qxn(slot:Slot "dict" name id)(g:typeOf (.builtin id)=pure (.type "method_descriptor"))(n:MtR X id r)(p:PE X o to)(m:PA X (e::es) t)
  (b:attributeBase o name X.env (eval o X.env)=eval o X.env:=by rfl)
  (f:((DN cpos (Td (e::es) X.env)).all (λx=>!x.1)&&(backToKw cpos (keywordEach [] X.env)).all (λx=>x.1.isSome)
   &&decide ((e::es).length+([]:List LX).length+(if([]:List LX).isEmpty then 0 else 1)<30))=Gf:=by rfl)
  (c:(apos.endLine==cpos.line)=Gf:=by rfl)(q:Td (e::es) X.env=(Gq,eval e X.env)::Td es X.env:=by rfl)(a:(DN cpos (Td es X.env)).any (·.1)=Gq:=by rfl):
  PE X (.Call (.Attribute o name apos) (e::es) [] cpos) (Q13 X.prog X.w r to t):=by
 intro pins s σ H Q I h;refine SU b f c rfl (Yp (p pins s σ H _ I h) λv s1⟨x,H1,i,z,ty,u⟩=>?_);obtain⟨d,kvs,rfl,l⟩:=ty;cases(show v=Value.ref d from z);obtain⟨h1,h2⟩:=Qig i l;refine⟨"dict",id,Ed,slot,g,h1,h2,?_⟩;have j:=m cpos pins s1 σ H1 _ i u;rw[q]at j⊢;refine Eh (by show(Gq||(DN cpos (Td es X.env)).any (·.1))=Gq;rw[a]<;>rfl) (Lg ?_);exact Yp j λus s2⟨vs,H2,k,A,y⟩=>n pins s2 σ H2 (.ref d) vs _ us Q k rfl A y
end
theorem Qc4{c:TT}{tb:TS}{D:Ends}(Pv:Nat->St->Hp->Prop)(f:∃m,Pv m σ H)
  (g:∀m σ H,Pv m σ H->c σ H λb H1=>if b=Gf then tb {D with nx:=λa H'=>∃d,d<m/\Pv d a H',ct:=λa H'=>∃d,d<m/\Pv d a H',bk:=D.nx} σ H1 else D.nx σ H1)
  (mono:∀σ H Q e,(∀b H1,Q b H1->e b H1)->c σ H Q->c σ H e):Qqe c tb D σ H:=by
 refine⟨Pv,f,λm σ H p=>mono σ H _ _ (λb H1 q=>?_) (g m σ H p)⟩;cases b with
 |true=>exact⟨_,λa H' h=>h,q⟩
 |false=>exact q
theorem Inv.turns{pins:List (Gc×Ee)}{σ:List (Option V)}{s:Gj}{h':Heap}{t':Nat}{fp:List Gc}(I:Inv X pins σ H s)(k:∀b o,b∉fp->s.heap.get? b=Ga o->h'.get? b=Ga o)(f:∀b∈fp,O9 X pins H b):
  Inv X pins σ H {s with heap:=h',toks:=t'}:=by
 have d:∀b u,H b=Ga u->b∉fp:=λb u e z=>by rw[(f b z).1]at e;cases e
 refine I.step (g':=s.gens) (d':=s.drawn) (ch:=fp) (λb hb=>?_) (λb o _ _ a e _=>k b o a e) (λb o _ _ a e _=>⟨o.slots,k b o a e⟩) (λ_ _ _ _ n=>n)
  (λb o a e=>⟨o,k b o a e⟩) (λ_ _ e=>e) (λ_ _ _ e=>e) (λb ps e=>⟨#[],by rw[e];simp⟩) (λm l=>?_) (λb u e=>?_) I.bare
 ·obtain⟨t,g,w,h,i,j⟩:=f b hb;exact⟨h,g,i,j⟩
 ·obtain⟨o,es,ep,p,r⟩:=l;exact⟨o,es,ep,k _ o (λz=>(f _ z).2.1 Xb) p,r⟩
 ·refine(I.Zw b u e).Qh9 (λc v a q=>k c v ?_ q) (λ_ q=>q) λ_ _ q=>q;rcases a with z|z
  ·rw[z];exact d b u e
  ·exact d c _ z
def ItE(K:Gd)(a:Gc):It:=
 ⟨λi H=>∃xs x,Zc K H a xs/\xs[i]?=Ga x,λi H v H'=>∃c x,v=.ref c/\H c=Gg/\(∀xs,Zc K H a xs->xs[i]?=Ga x)/\H'=upd H c (.tup [.int (i:Int),x]),λi H=>∃xs,Zc K H a xs/\xs.length<=i⟩
theorem Qnv{P:Gk}{w:Gv}{K:Gd}{l:List T1}{k:Nat}{pos:SW}(a e it:Gc)(r:e≠it):Qg6 P w K (.Tuple l k pos) (ItE K a) [e,it] e (λi h=>(∃c,IsEnum h e it i c)/\h.IsListIter it a i) where
 mem:=by simp
 obj:=λi h st b hb=>by
  obtain⟨⟨c,f⟩,o,S,M,hd⟩:=st;rcases List.mem_cons.mp hb with rfl|hb
  ·exact⟨_,f,λv z=>nomatch z⟩
  ·have:b=it:=by simpa using hb
   subst this;exact⟨o,S,λv z=>by rw[hd]at z;cases z⟩
 keep:=λi h h' st k=>by obtain⟨⟨c,f⟩,d⟩:=st;exact⟨⟨c,k e (by simp) _ f⟩,d.at λo x=>k it (by simp) o x⟩
 item:=by
  intro X J hw G M i pins s σ H E I B st O;subst J hw G;obtain⟨⟨c,f⟩,d⟩:=st;obtain⟨xs,x,C,D⟩:=O;obtain⟨its,rv,p,hz⟩:=I.list C;obtain⟨u,hu,ru⟩:=rv.get D;refine wpAny_pyNext_enum_item f d p.isList (x:=u) (by simpa using hu) r λh' S A U hsz hk=>⟨_,Xb,?_⟩;refine wpAny_letOwnedTupleGo_enum S λm N j=>?_;have g:e<s.heap.objs.size:=Heap.lt_size f;have t:it<s.heap.objs.size:=by obtain⟨_,x,_⟩:=d;exact Heap.lt_size x
  have V:m.get? s.heap.objs.size=Ga {cls:=.type "tuple",data:=.seq #[.int i s.toks,u]}:=(j.2 _ (Ts g)).trans U;have R:H s.heap.objs.size=Gg:=I.Zw.fresh (Gn _);have Y:Inv X pins σ (upd H s.heap.objs.size (.tup [.int (i:Int),x])) {s with heap:=s.heap.push {cls:=.type "tuple",data:=.seq #[.int i s.toks,u]},toks:=s.toks}:=
   I.laid (a:=s.heap.objs.size) (o:=.tup [.int (i:Int),x]) (t':=s.toks) (λ_ _ q=>Heap.get?_push_of_some _ q) (Gn _) ⟨by show 2<=Gi;decide,[.int i s.toks,u],.cons ⟨_,Xb⟩ (.cons ru .nil),_,Heap.get?_push_size _ Xb,Xb,_,Xb⟩
  have T:∀b∈[e,it],O9 X pins (upd H s.heap.objs.size (.tup [.int (i:Int),x])) b:=λb hb=>by
   have Q:b<s.heap.objs.size:=by
    rcases List.mem_cons.mp hb with rfl|hb
    ·exact g
    ·have:b=it:=by simpa using hb
     subst this;exact t
   refine⟨?_,(B b hb).2⟩;rw[Qf (Tc Q)];exact(B b hb).1
  have Z:=Y.turns (h':=m) (t':=s.toks+1) (fp:=[e,it]) (λb o hb F=>?_) T
  ·refine⟨.ref s.heap.objs.size,_,Z,Xb,⟨_,x,Xb,R,λys hy=>by rw[I.Qdf hy C];exact D,Xb⟩,⟨⟨u,by simpa using N⟩,A.at λo y=>(j.2 it r.symm).trans y⟩,λb hb=>(T b hb).1⟩
  ·have n:b≠e:=λz=>hb (by simp[z]);have L:b≠it:=λz=>hb (by simp[z]);refine(j.2 b n).trans ?_;rcases Heap.get?_push_cases (show(s.heap.push {cls:=.type "tuple",data:=.seq #[.int i s.toks,u]}).get? b=Ga o from F)with⟨rfl,rfl⟩|e0
   ·exact U
   ·exact hk b o n L e0
 done:=by intro X J hw G M i pins s σ H E I B st O;subst J hw G;obtain⟨⟨c,f⟩,d⟩:=st;obtain⟨xs,C,hn⟩:=O;obtain⟨its,rv,p,hz⟩:=I.list C;have hl:=rv.length;refine wpAny_pyNext_enum_end (I.ok.hd M) f d p.isList (Dh (by rw[List.size_toArray];omega)) λh' D=>⟨Xb,?_⟩;exact I.turns (t':=s.toks) (fp:=[e,it]) (λb o hb F=>D b o (λz=>hb (by simp[z])) F) B
 self:=λ_ _ _ _ _ st h=>by obtain⟨⟨c,f⟩,_⟩:=st;exact L8 f h
def Qz4(K:Gd)(ta:TA):TI:=λσ H R=>ta σ H λvs H1=>∃a xs,vs=[.ref a]/\Zc K H1 a xs/\R (ItE K a) H1
theorem Qm4{d:List T1}{k:Nat}{tpos:SW}{a:T1}{ta:TA}{p pos:SW}(r:Gl X "enumerate")(v:X.mg "enumerate"=Gg)(n:PA X [a] ta)(x:Td [a] X.env=[(Gq,eval a X.env)]:=by rfl):PI X (.Tuple d k tpos) (.Call (.Name "enumerate" p) [a] [] pos) (Qz4 X.K ta):=by
 intro pins s σ H R I h;refine RU (Vu I r v boot_enumerate (Du (Yp (n pos pins s σ H _ I h) λus s1⟨vs,H1,g,z,y⟩=>?_) x Xb));obtain⟨b,xs,e,w,q⟩:=y;subst e;obtain⟨u,rfl,A⟩:=vals1 z;cases(show u=Value.ref b from A);obtain⟨its,rv,pt,hz⟩:=g.list w;refine call_enumerate_list pt.isList λh' l j hsz t=>?_;have m:Inv X pins σ H1 {s1 with heap:=h',toks:=s1.toks}:=g.kept λb o e=>t b o e;refine L8 l ⟨s1.heap.objs.size+1,[s1.heap.objs.size+1,s1.heap.objs.size],_,_,H1,Xb,m,Qnv b (s1.heap.objs.size+1) s1.heap.objs.size (Fq _),⟨⟨_,l⟩,j⟩,λc i=>?_,q⟩;have f:s1.heap.objs.size<=c:=by
  rcases List.mem_cons.mp i with e|i
  ·rw[e];exact EF _
  ·have:c=s1.heap.objs.size:=by simpa using i
   rw[this];exact Gn _
 exact g.Qhg f (g.Zw.fresh f)
theorem Qh4{K:Gd}{a:Gc}{xs:List V}{g:TG}{tb:TS}{D:Ends}(Pv:Nat->St->Hp->Prop)(j:Pv 0 σ H)
  (k:∀i σ H,i<=xs.length->Pv i σ H->Zc K H a xs)
  (n:∀i x c σ H,xs[i]?=Ga x->Pv i σ H->H c=Gg->g (.ref c) σ (upd H c (.tup [.int (i:Int),x])) λd H2=>tb {D with nx:=Pv (i+1),ct:=Pv (i+1),bk:=D.nx} d H2)
  (hd:∀σ H,Pv xs.length σ H->D.nx σ H):
  ∃W:Nat->Nat->St->Hp->Prop,(∃m,W 0 m σ H)/\∀i m σ H,W i m σ H->((ItE K a).stop i H/\D.nx σ H)\/((ItE K a).go i H/\∃N:St->Hp->Prop,(∀b H',N b H'->∃h,h<m/\W (i+1) h b H')/\∀x H',(ItE K a).yld i H x H'->g x σ H' λd H2=>tb {D with nx:=N,ct:=N,bk:=D.nx} d H2):=by
 refine⟨λi m σ H=>m=xs.length - i/\i<=xs.length/\Pv i σ H,⟨_,Xb,Gx _,j⟩,?_⟩;rintro i m σ H ⟨rfl,hi,pv⟩;have q:=k i σ H hi pv;by_cases f:i<xs.length
 ·refine .inr ⟨⟨xs,xs[i],q,by simp[f]⟩,Pv (i+1),λb H' p=>⟨xs.length - (i+1),by omega,Xb,f,p⟩,λv H' y=>?_⟩;obtain⟨c,x,rfl,l,o,rfl⟩:=y;exact n i x c σ H (o xs q) pv l
 ·have e:i=xs.length:=by omega
  subst e;exact .inl ⟨⟨xs,q,Gn _⟩,hd σ H pv⟩
end L2
namespace K05
open PySem L2 Sb Nt
variable{f C:Gc}{fd:Tt}
structure V5(K:Gd)(mg:Ta->Option Value)(C:Gc):Prop where
 cl:Cls K C
 Qd4:Yn K C "forms"
 Ws:Yn K C "leads"
 members:Yn K C "members"
 Qey:Yn K C "users"
 table:Yn K C "table"
 links:Yn K C "links"
 Qby:Yn K C "link_at"
 above:Yn K C "above"
 mgC:mg "Net"=Ga (.ref C)
theorem Up(A:Na):(Y0 A).lookup ("forms":Ta)=Ga (.ref A.f):=by rfl
theorem Ym(A:Na):(Y0 A).lookup ("leads":Ta)=Ga (.ref A.l):=by rfl
theorem Wy(A:Na):(Y0 A).lookup ("members":Ta)=Ga (.ref A.m):=by rfl
theorem J0(A:Na):(Y0 A).lookup ("users":Ta)=Ga (.ref A.u):=by rfl
theorem Qia(A:Na):(Y0 A).lookup ("table":Ta)=Ga (.ref A.t):=by rfl
theorem Uy(A:Na):(Y0 A).lookup ("links":Ta)=Ga (.ref A.k):=by rfl
theorem Qaq(A:Na):(Y0 A).lookup ("link_at":Ta)=Ga (.ref A.a):=by rfl
theorem Ry(A:Na):(Y0 A).lookup ("above":Ta)=Ga (.ref A.v):=by rfl
theorem Qag(A:Na):(Y0 A).lookup ("take_in":Ta)=Gg:=by rfl
theorem Qcn(A:Na):(Y0 A).lookup ("key_of":Ta)=Gg:=by rfl
theorem Qdy(A:Na):(Y0 A).lookup ("equal":Ta)=Gg:=by rfl
theorem Qji(A:Na):(Y0 A).lookup ("merge":Ta)=Gg:=by rfl
theorem Qgy(A:Na):(Y0 A).lookup ("merge_link":Ta)=Gg:=by rfl
theorem Qm8(A:Na):(Y0 A).lookup ("hang":Ta)=Gg:=by rfl
theorem Qa7(A:Na):(Y0 A).lookup ("give_over":Ta)=Gg:=by rfl
theorem Qle(A:Na):(Y0 A).lookup ("way":Ta)=Gg:=by rfl
theorem Qjg(A:Na):(Y0 A).lookup ("way_up":Ta)=Gg:=by rfl
theorem Qm2(A:Na):(Y0 A).lookup ("rows":Ta)=Gg:=by rfl
theorem Xg{H:Hp}{a:Gc}{S:List Nat}{f:Nat->V}{p:Nat}(h:H a=Ga (.dK (dS S f)))(b:p∈S):Wr H a (jv p) (Ga (f p)):=by have:=Wr.k (k:=ki p) h;rw[Qfp b,Q0h]at this;exact this
theorem Qg2{i j:Nat}:decide (jv i=jv j)=decide (i=j):=by
 by_cases h:i=j
 ·subst h;simp
 ·rw[Gz h,Gz λz=>h (Qym z)]
def Qbs(P:Gk)(w:Gv)(C:Gc):Sp:=λvs H Q _=>∃(n:Gc)(A:Na)(fs:List Fm)(tb:Nat)(x:Nn)(p q:Nat),vs=[.ref n,jv p,jv q]/\Z5 P w C H n A fs tb x/\p∈x.S/\q∈x.S/\Q (.bl (decide (x.lead p=x.lead q))) H
def Qb5(P:Gk)(w:Gv)(C:Gc):Sp:=λvs H Q _=>∃(n:Gc)(A:Na)(fs:List Fm)(tb:Nat)(x:Nn)(p:Nat),vs=[.ref n,jv p]/\Z5 P w C H n A fs tb x/\p<fs.length/\(∀q∈Zk fs p,q∈x.S)/\(Zk fs p).length<=1000000/\
 ∀(c:Gc)(H':Hp),Qz H H'->H c=Gg->Rm H' (.ref c) (Zj (Yc fs) (Zk fs) x.lead p)->Q (.ref c) H'
def Qlh(P:Gk)(w:Gv)(C:Gc):Sp:=λvs H Q _=>∃(n:Gc)(A:Na)(fs:List Fm)(tb:Nat)(x:Nn)(lo hi:Nat)(cl:List Nat),vs=[.ref n,jv lo,jv hi]/\Z5 P w C H n A fs tb x/\Ch x.up lo cl/\(∀p∈cl,p∈x.S)/\x.S.length<=1000000/\
 ∀(H':Hp),Z5 P w C H' n A fs tb {x with up:=Xi x.up hi cl}->(∀b o,H b=Ga o->b≠A.v->H' b=Ga o)->(∀b,H' b=Gg->H b=Gg)->Q .non H'
def Ql6(P:Gk)(w:Gv)(C:Gc):Sp:=λvs H Q _=>∃(n:Gc)(A:Na)(fs:List Fm)(tb:Nat)(x:Nn)(p:Nat)(l:List Nat),vs=[.ref n,jv p]/\Z5 P w C H n A fs tb x/\Ch x.up p l/\(∀q∈l,q∈x.S)/\l.length<=1000000/\
 ∀(r:Gc)(H':Hp),Qz H H'->H r=Gg->H' r=Ga (.lst (l.map jv))->Q (.ref r) H'
section
variable{P:Gk}{w:Gv}{K:Gd}{mg:Ta->Option Value}{base:Heap}
theorem Qtq:Qv ["self","one","other"] ["self","one","other"] (Qk Qgm):=by eq_refl
theorem Qpi(F:Wu K "equal" "Net.equal" Qgm f fd)(T:V5 K mg C):Qr P w K mg base Z3 1 f fd ["self","one","other"] (Qbs P w C):=by
 refine F.ok Qtq (λvs H Q E h=>?_) (λcdv A outer s H vs Q E e h=>?_)
 ·obtain⟨n,A,fs,tb,x,p,q,rfl,_⟩:=h;rfl
 obtain⟨n,A,fs,tb,x,p,q,rfl,X,c,d,g⟩:=h;have a:=Ul e;refine⟨_,Qh (Qu (Qu7 Wi (Zr a (Qm (pv 0) rfl) (pv 1) (λ_ _=>rfl)) (Zr a (Qm (pv 0) rfl) (pv 2) (λ_ _=>rfl)) (Q3 _))),?_⟩;obtain⟨dx,b⟩:=X.ob;refine⟨_,Xb,n,C,dx,_,_,Xb,b,T.cl,T.Ws,Ym _,_,Xb,A.l,_,Xb,Xg X.le c,_,Xb,n,C,dx,_,_,Xb,b,T.cl,T.Ws,Ym _,_,Xb,A.l,_,Xb,Xg X.le d,Xb,?_⟩;rw[Qg2];exact g
theorem Qbn:Qv ["self","place","form"] ["self","place"] (Qk Ru):=by eq_refl
theorem Qzc:(["part","self"]:List Ta).Nodup:=by decide+kernel
theorem Qsz(F:Wu K "key_of" "Net.key_of" Ru f fd)(T:V5 K mg C)(B:Jl mg):Qr P w K mg base Z3 1 f fd ["self","place"] (Qb5 P w C):=by
 refine F.ok Qbn (λvs H Q E h=>?_) (λcdv A outer s H vs Q E hr h=>?_)
 ·obtain⟨n,A,fs,tb,x,p,rfl,_⟩:=h;rfl
 obtain⟨n,A,fs,tb,x,p,rfl,X,J,v,hl,g⟩:=h;have hu:=Ul hr;have nd:=Qbn.nd;refine⟨_,Qd (Qs 2 nd (Qn Zi (Qm (pv 0) rfl) (pv 1)))
  (Qh (Qu (Za (Qa (Qn Q5 (pv 2) Qj) (Qa (Xn W8 rfl B.tuple TX (Qa
   (Vm (te:=Qh8 (Qvh K (V2 1) "leads") (V2 0)) (own:=["part"]) (fv:=[(0,"self")]) rfl (S:=(by eq_refl:X8 (Qk Ru) _)) (.cons rfl (Dj Xb) rfl .nil) (Ue (Qn Q5 (pv 2) Qj))
    (λ_ _ _ _ _=>Xc (i:=0) Qzc rfl (Dj Xb) (Er Xb)) (λ_ _ _ _ _=>Wh) (λ_ _ _ _ _=>Zr hu (Qm (pv 1) rfl) (pv 0) (λ_ _=>rfl))) Qe)) Qe))))),?_⟩
 obtain⟨dx,M⟩:=X.ob;obtain⟨O,Y,I⟩:=X.fo;have hw:p<O.length:=by rw[Gr I];exact J
 obtain⟨y,L,c,e,W,h1,h2⟩:=Qx I (List.getElem?_eq_getElem hw);rw[Qfn J]at L;cases L;have U:atI [V.str (Yc fs p),V.ref e] (1:Int)=Ga (.ref e):=Qy (j:=1) rfl;refine⟨_,Xb,n,C,dx,_,_,Xb,M,T.cl,T.Qd4,Up _,_,Xb,A.f,O,_,_,Xb,Xb,Zc.of Y,Qy (List.getElem?_eq_getElem hw),?_⟩;rw[W];refine⟨_,Xb,c,_,_,_,Xb,Xb,Z2.of h1,Ri _ _,_,Xb,c,_,_,_,Xb,Xb,Z2.of h1,U,e,Xb,⟨_,Z2.of h2⟩,λr t=>?_⟩;have s3:=Qg t (.lst []);refine Ia (K:=K) (a:=e) (xs:=(Zk fs p).map jv) (small (by rw[List.length_map];omega)) (λi ys σ H2=>(∃R,σ=[R,Ga (.ref n)])/\Qz H H2/\ys=((Zk fs p).take i).map λq=>jv (x.lead q))
  ⟨⟨_,Xb⟩,s3,by simp⟩ (λi ys σ H2 _ h=>Z2.of (h.2.1 _ _ h2)) ?_ ?_
 ·rintro i y ys σ H2 hi z ⟨⟨R,rfl⟩,d,rfl⟩ u;rw[List.getElem?_map]at hi;cases eq:(Zk fs p)[i]? with
  |none=>rw[eq]at hi;cases hi
  |some q=>
   rw[eq]at hi;cases hi;refine⟨_,Xb,n,C,dx,_,_,Xb,d _ _ M,T.cl,T.Ws,Ym _,_,Xb,A.l,_,Xb,Xg (d _ _ X.le) (v q (List.mem_of_getElem? eq)),u,⟨_,Xb⟩,λb o G=>?_,?_⟩
   ·rw[Qf (Qc G t)];exact d _ _ G
   ·rw[List.take_add_one,eq,List.map_append];rfl
 ·rintro ys σ H2 z ⟨_,d,rfl⟩ u;rw[List.length_map,List.take_length]at u;refine⟨r,_,Xb,.inl ⟨Zc.of u,λm Z=>?_⟩⟩;have s4:=Qg Z (.tup ((Zk fs p).map λq=>jv (x.lead q)));refine⟨by show 2<=Gi;decide,λD k=>?_⟩;have N:=Qg k (.tup [.str (Yc fs p),.ref m]);refine g D _ ((d.trans s4).trans N) (d.free (s4.free k)) ⟨D,m,Xb,Qb,?_⟩;rw[N _ _ Qb];simp only[Zj,List.map_map];rfl
theorem Qmm:Qv ["self","place","found","stop"] ["self","place"] (Qk Qf3):=by eq_refl
theorem Qgq{o:Option Nat}:decide (ov o=V.non)= !o.isSome:=by
 cases o with
 |none=>rfl
 |some p=>rfl
theorem Qm1{up:Nat->Option Nat}{p:Nat}{l:List Nat}(h:Ch up p l){i:Nat}(hi:i<l.length):up l[i]=l[i+1]?:=by
 induction h generalizing i with
 |@top p e=>
  have:i=0:=by simpa using hi
  subst this;simpa using e
 |@step p q l e k b=>
  cases i with
  |zero=>obtain⟨r,a⟩:=k.head;subst a;simpa using e
  |succ j=>simp only[List.length_cons]at hi;simpa using b (i:=j) (by omega)
theorem Qr1(F:Wu K "way_up" "Net.way_up" Qf3 f fd)(T:V5 K mg C):Qr P w K mg base Z3 1 f fd ["self","place"] (Ql6 P w C):=by
 refine F.ok Qmm (λvs H Q E h=>?_) (λcdv A outer s H vs Q E J h=>?_)
 ·obtain⟨n,A,fs,tb,x,p,l,rfl,_⟩:=h;rfl
 obtain⟨n,A,fs,tb,x,p,l,rfl,X,o,I,q,g⟩:=h;have L:=Ul J;have nd:=Qmm.nd;refine⟨_,Qd (Qs 2 nd (Zt Qe))
  (Qd (Qs 3 nd (pv 1))
  (Qd (Vb Gy (Qp Oc (pv 3) Uh (Q3 _))
   (Qd (Ze (Xq Gs GF GV Z0 (pv 2) (Qa (pv 3) Qe)))
   (Qh (Qs 3 nd (Zr L (Qm (pv 0) rfl) (pv 3) (λ_ _=>rfl))))))
  (Qh (Qu (pv 2))))),?_⟩
 obtain⟨dx,M⟩:=X.ob;refine⟨Gx _,λr b=>⟨_,Xb,?_⟩⟩;have R:=Qg b (.lst []);obtain⟨O,B⟩:=o.head;have D:l[0]?=Ga p:=by rw[B];rfl
 refine Qc4 (λm σ H2=>∃i,m=l.length+1 - i/\i<=l.length/\σ=[Ga (.ref n),Ga (jv p),Ga (.ref r),Ga (ov l[i]?)]/\H2=upd H r (.lst ((l.take i).map jv)))
  ⟨_,0,Xb,Gx _,by rw[D];rfl,by simp⟩ ?_ (λσ H Q N G=>λh=>by obtain⟨v,c,t,u,y,z⟩:=h;exact⟨v,c,t,u,y,G _ _ z⟩)
 rintro m σ H2 ⟨i,rfl,hi,rfl,rfl⟩;refine⟨_,Xb,Xb,_,Xb,?_⟩;rw[Qgq];rcases Tk i l.length with a|j
 ·have c:l[i]?=Ga l[i]:=List.getElem?_eq_getElem a;have d:l[i]∈l:=List.getElem_mem a;rw[c];refine Yr ?_;refine⟨_,Xb,.inl ⟨Xb,_,Zc.of Qb⟩,_,Xb,r,_,_,Xb,Xb,Qb,by rw[List.length_map,List.length_take,GQ];omega,?_⟩;have e:Qz H (upd (upd H r (.lst ((l.take i).map jv))) r (.lst ((l.take i).map jv++[jv l[i]]))):=by rw[U7];exact Qg b _
  refine⟨_,Xb,n,C,dx,_,_,Xb,e _ _ M,T.cl,T.above,Ry _,_,Xb,A.v,_,Xb,Xg (e _ _ X.ab) (I _ d),_,by omega,i+1,Xb,a,?_,?_⟩
  ·rw[Qm1 o a];rfl
  ·rw[U7,List.take_add_one,c,List.map_append];rfl
 ·have c:l[i]?=Gg:=List.getElem?_eq_none j;have k:i=l.length:=by omega
  subst k;rw[c];refine Zp ?_;rw[List.take_length];exact⟨_,Xb,g r _ (Qg b _) b Qb⟩
theorem Qsd:Qv ["self","low","high","over","place","old_over"] ["self","low","high"] (Qk Qlu):=by eq_refl
theorem Quy(F:Wu K "hang" "Net.hang" Qlu f fd)(T:V5 K mg C):Qr P w K mg base Z3 1 f fd ["self","low","high"] (Qlh P w C):=by
 refine F.ok Qsd (λvs H Q E h=>?_) (λcdv A outer s H vs Q E hr h=>?_)
 ·obtain⟨n,A,fs,tb,x,lo,hi,cl,rfl,_⟩:=h;rfl
 obtain⟨n,A,fs,tb,x,lo,hi,cl,rfl,X,G,I,W,g⟩:=h;have Y:=Ul hr;have nd:=Qsd.nd;refine⟨_,Qd (Qs 3 nd (pv 2))
  (Qd (Qs 4 nd (pv 1))
  (Qh (Vb Gy (Qp Oc (pv 4) Uh (Q3 _))
   (Qd (Qs 5 nd (Zr Y (Qm (pv 0) rfl) (pv 4) (λ_ _=>rfl)))
   (Qd (Wm Y (Qm (pv 0) rfl) (pv 4) (pv 3) rfl)
   (Qd (Qs 3 nd (pv 4))
   (Qh (Qs 4 nd (pv 5))))))))),?_⟩
 obtain⟨dx,L⟩:=X.ob;obtain⟨aa,d⟩:=G.head;refine⟨_,Xb,_,Xb,?_⟩;have Z:n≠A.v:=Zh L X.ab (by intro z;cases z);refine Qc4 (λm σ H2=>∃(u:Nat->Option Nat)(over:Nat)(Xy:List Nat)(x5:Option V),m=Xy.length/\(∀q∈Xy,u q=x.up q)/\(∀c r,Xy=c::r->Ch x.up c Xy)/\Xy.Nodup/\(∀q∈Xy,q∈x.S)/\Xi u over Xy=Xi x.up hi cl/\σ=[Ga (.ref n),Ga (jv lo),Ga (jv hi),Ga (jv over),Ga (ov Xy.head?),x5]/\H2=upd H A.v (.dK (dS x.S λp=>ov (u p))))
  ⟨_,x.up,hi,cl,Gg,Xb,λ_ _=>rfl,λc r e=>?_,G.nodup,I,Xb,?_,?_⟩ ?_ (λσ H Q Q' hQ=>λh=>by obtain⟨v,e1,B,e3,e4,e5⟩:=h;exact⟨v,e1,B,e3,e4,hQ _ _ e5⟩)
 ·rw[d]at e;cases e;exact G
 ·rw[d];rfl
 ·funext b
  by_cases hb:b=A.v
  ·subst hb;rw[Qb];exact X.ab
  ·rw[Qf hb]
 rintro m σ H2 ⟨u,over,Xy,x5,rfl,l,t,nd2,hS,J,rfl,rfl⟩;refine⟨_,Xb,Xb,_,Xb,?_⟩;rw[Qgq];cases Xy with
 |nil=>
  refine Zp ?_;have e:Xi u over []=u:=rfl;rw[e]at J;refine g _ ?_ (λb o eb hb=>by rw[Qf hb];exact eb) (λb hb=>?_)
  ·rw[<-J];have M:Qt H (upd H A.v (.dK (dS x.S λp=>ov (u p)))):=Zs λxs e=>by rw[X.ab]at e;cases e
   obtain⟨ws,R,f2⟩:=X.fo;obtain⟨kvs,D,d2,d3⟩:=X.ta;obtain⟨ls,l1,l2⟩:=X.li;obtain⟨kv,N,a2⟩:=X.at_;refine⟨⟨dx,by rw[Qf Z];exact L⟩,⟨ws,by rw[Qf (Zh R X.ab (by intro z;cases z))];exact R,L2.Paired.Z7 f2 λ_ _ h=>h.Ql M⟩,by rw[Qf X.ap.lv];exact X.le,by rw[Qf X.ap.mv];exact X.me,by rw[Qf X.ap.uv];exact X.us,
    ⟨kvs,⟨by rw[Qf (Zh D.at_ X.ab (by intro z;cases z))];exact D.at_,Zg M D.keys⟩,d2,d3⟩,⟨ls,by rw[Qf (Zh l1 X.ab (by intro z;cases z))];exact l1,L2.Paired.Z7 l2 λ_ _ h=>h.Ql M⟩,⟨kv,by rw[Qf (Zh N X.ab (by intro z;cases z))];exact N,a2⟩,Qb,
    λp j=>by rw[Qf (Zh (X.ml p j) X.ab (by intro z;cases z))];exact X.ml p j,λp j=>by rw[Qf (Zh (X.ul p j) X.ab (by intro z;cases z))];exact X.ul p j,X.ap⟩
  ·by_cases e:b=A.v
   ·subst e;rw[Qb]at hb;cases hb
   ·rw[Qf e]at hb;exact hb
 |cons c r=>
  refine Yr ?_;have O:=hS c (by simp);have o2:(upd H A.v (.dK (dS x.S λp=>ov (u p)))) n=Ga (.ins C dx (Y0 A)):=by rw[Qf Z];exact L
  have uc:u c=r.head?:=by rw[l c (by simp)];have:=Qm1 (t c r Xb) (i:=0) (by simp);simp only[List.getElem_cons_zero]at this;rw[this];cases r<;>rfl
  rw[List.nodup_cons]at nd2;have U:=Iv.k (k:=ki c) (v:=jv over) (@Qb H A.v (.dK (dS x.S λp=>ov (u p)))) (by rw[Wz,GQ];omega);rw[U7,Qki O]at U;refine⟨_,Xb,n,C,dx,_,_,Xb,o2,T.cl,T.above,Ry _,_,Xb,A.v,_,Xb,Xg Qb O,_,Xb,_,Xb,n,C,dx,_,_,Xb,o2,T.cl,T.above,Ry _,_,Xb,A.v,_,Xb,U,_,Xb,_,Xb,r.length,by simp,Qc3 u c over,c,r,Ga (ov (u c)),Xb,λq y=>?_,λc2 r2 B=>?_,nd2.2,λq y=>hS q (by simp[y]),J,?_,?_⟩
  ·unfold Qc3;rw[Gh (λz:q=c=>nd2.1 (z▸y))];exact l q (by simp[y])
  ·have:=t c r rfl;subst B;exact this.suffix (a:=[c]) rfl
  ·rw[uc];rfl
  ·congr 2;refine Wk λq _=>?_;unfold Qc3;by_cases e:q=c
   ·rw[Gm e,Gm e];rfl
   ·rw[Gh e,Gh e]
end
end K05
namespace Sb
open PySem PySem.Spec PyProof.Rows L2 Nt
theorem Yb{H:Hp}{a b:Gc}{o u:HO}(h:H a=Ga o)(k:H b=Ga u)(d:∀z:o=u,False):a≠b:=λz=>by subst z;rw[h]at k;exact d (Tj k)
section
variable{P:Gk}{w:Gv}{C:Gc}{H:Hp}{n:Gc}{A:Na}{fs:List Fm}{tb:Nat}{x:Nn}
theorem Z5.Qtu(X:Z5 P w C H n A fs tb x)(ld:Nat->Nat):Z5 P w C (upd H A.l (.dK (dS x.S λp=>jv (ld p)))) n A fs tb {x with lead:=ld}:=by
 obtain⟨dx,g⟩:=X.ob;obtain⟨r,f,m⟩:=X.fo;obtain⟨kvs,D,j,k⟩:=X.ta;obtain⟨ls,l1,l2⟩:=X.li;obtain⟨q,d,i⟩:=X.at_;have c:Qt H (upd H A.l (.dK (dS x.S λp=>jv (ld p)))):=Zs λxs e=>by rw[X.le]at e;cases e
 have u:∀{b o},H b=Ga o->b≠A.l->(upd H A.l (.dK (dS x.S λp=>jv (ld p)))) b=Ga o:=λe h=>by rw[Qf h];exact e
 exact⟨⟨dx,u g (Yb g X.le nofun)⟩,⟨r,u f (Yb f X.le nofun),L2.Paired.Z7 m λ_ _ h=>h.Ql c⟩,Qb,u X.me (Gp X.ap.lm),u X.us (Gp X.ap.lu),⟨kvs,⟨u D.at_ (Yb D.at_ X.le nofun),Zg c D.keys⟩,j,k⟩,
  ⟨ls,u l1 (Yb l1 X.le nofun),L2.Paired.Z7 l2 λ_ _ h=>h.Ql c⟩,⟨q,u d (Yb d X.le nofun),i⟩,u X.ab (Gp X.ap.lv),λp a=>u (X.ml p a) (Yb (X.ml p a) X.le nofun),λp a=>u (X.ul p a) (Yb (X.ul p a) X.le nofun),X.ap⟩
theorem Z5.Qww(X:Z5 P w C H n A fs tb x){k:Nat}(a:k∈x.S)(l:List Nat):Z5 P w C (upd H (A.ml k) (.lst (l.map jv))) n A fs tb {x with mem:=λp=>if p=k then l else x.mem p}:=by
 obtain⟨dx,g⟩:=X.ob;obtain⟨v,r,s⟩:=X.fo;obtain⟨kvs,D,j,q⟩:=X.ta;obtain⟨ls,l1,l2⟩:=X.li;obtain⟨t,f,i⟩:=X.at_;have m:=X.ml k a;have d:Qt H (upd H (A.ml k) (.lst (l.map jv))):=Zs λxs e=>by rw[m]at e;cases e
 have u:∀{b o},H b=Ga o->b≠A.ml k->(upd H (A.ml k) (.lst (l.map jv))) b=Ga o:=λe h=>by rw[Qf h];exact e
 refine⟨⟨dx,u g (Yb g m nofun)⟩,⟨v,u r (Gp (X.ap.mkf k a).2),L2.Paired.Z7 s λ_ _ h=>h.Ql d⟩,u X.le (Yb X.le m nofun),u X.me (Yb X.me m nofun),u X.us (Yb X.us m nofun),⟨kvs,⟨u D.at_ (Yb D.at_ m nofun),Zg d D.keys⟩,j,q⟩,
  ⟨ls,u l1 (Gp (X.ap.mkf k a).1),L2.Paired.Z7 l2 λ_ _ h=>h.Ql d⟩,⟨t,u f (Yb f m nofun),i⟩,u X.ab (Yb X.ab m nofun),λp c=>?_,λp c=>u (X.ul p c) (Gp (X.ap.mul k a p c)),X.ap⟩
 by_cases e:p=k
 ·subst e;show _=Ga (HO.lst ((if p=p then l else x.mem p).map jv));rw[Qb,Gm rfl]
 ·show _=Ga (HO.lst ((if p=k then l else x.mem p).map jv));rw[Gh e];exact u (X.ml p c) (λz=>e (X.ap.mm p c k a z))
theorem Z5.Qrz(X:Z5 P w C H n A fs tb x){k:Nat}(a:k∈x.S)(l:List Nat):Z5 P w C (upd H (A.ul k) (.lst (l.map jv))) n A fs tb {x with Xd:=λp=>if p=k then l else x.Xd p}:=by
 obtain⟨dx,g⟩:=X.ob;obtain⟨v,r,s⟩:=X.fo;obtain⟨kvs,D,j,q⟩:=X.ta;obtain⟨ls,l1,l2⟩:=X.li;obtain⟨t,f,i⟩:=X.at_;have m:=X.ul k a;have d:Qt H (upd H (A.ul k) (.lst (l.map jv))):=Zs λxs e=>by rw[m]at e;cases e
 have u:∀{b o},H b=Ga o->b≠A.ul k->(upd H (A.ul k) (.lst (l.map jv))) b=Ga o:=λe h=>by rw[Qf h];exact e
 refine⟨⟨dx,u g (Yb g m nofun)⟩,⟨v,u r (Gp (X.ap.ukf k a).2),L2.Paired.Z7 s λ_ _ h=>h.Ql d⟩,u X.le (Yb X.le m nofun),u X.me (Yb X.me m nofun),u X.us (Yb X.us m nofun),⟨kvs,⟨u D.at_ (Yb D.at_ m nofun),Zg d D.keys⟩,j,q⟩,
  ⟨ls,u l1 (Gp (X.ap.ukf k a).1),L2.Paired.Z7 l2 λ_ _ h=>h.Ql d⟩,⟨t,u f (Yb f m nofun),i⟩,u X.ab (Yb X.ab m nofun),λp c=>u (X.ml p c) (X.ap.mul p c k a),λp c=>?_,X.ap⟩
 by_cases e:p=k
 ·subst e;show _=Ga (HO.lst ((if p=p then l else x.Xd p).map jv));rw[Qb,Gm rfl]
 ·show _=Ga (HO.lst ((if p=k then l else x.Xd p).map jv));rw[Gh e];exact u (X.ul p c) (λz=>e (X.ap.uu p c k a z))
theorem Z5.Qsh(X:Z5 P w C H n A fs tb x){kvs kvs':List KE}(D:DH P w H A.t kvs)(q:kvs'.length<=tb+1)(i:Ub H kvs'){t':Fm->Option Nat}(r:∀k:Fm,Yd kvs' (Yx k)=(t' k).map jv):Z5 P w C (upd H A.t (Um P w A.t kvs')) n A fs (tb+1) {x with tab:=t'}:=by
 obtain⟨dx,g⟩:=X.ob;obtain⟨v,f,l⟩:=X.fo;obtain⟨ls,l1,l2⟩:=X.li;obtain⟨s,d,j⟩:=X.at_;have m:=D.at_;have c:Qt H (upd H A.t (Um P w A.t kvs')):=Zs λxs e=>by rw[m]at e;cases e
 have u:∀{b o},H b=Ga o->b≠A.t->(upd H A.t (Um P w A.t kvs')) b=Ga o:=λe h=>by rw[Qf h];exact e
 exact⟨⟨dx,u g (Yb g m nofun)⟩,⟨v,u f (Yb f m nofun),L2.Paired.Z7 l λ_ _ h=>h.Ql c⟩,u X.le (Yb X.le m nofun),u X.me (Yb X.me m nofun),u X.us (Yb X.us m nofun),⟨kvs',⟨Qb,Zg c i⟩,q,r⟩,
  ⟨ls,u l1 (Yb l1 m nofun),L2.Paired.Z7 l2 λ_ _ h=>h.Ql c⟩,⟨s,u d (Yb d m nofun),j⟩,u X.ab (Yb X.ab m nofun),λp a=>u (X.ml p a) (Yb (X.ml p a) m nofun),λp a=>u (X.ul p a) (Yb (X.ul p a) m nofun),X.ap⟩
theorem Z5.Qvs(X:Z5 P w C H n A fs tb x){kv2:List (List Xs×V)}{ls':List V}{lks:List Lk}{lat':Nat->Nat->Option Nat}(h1:kv2.length<=2*lks.length)(h2:∀i j:Nat,Yy kv2 [ki i,ki j]=(lat' i j).map jv)(s:Paired (Rw H) ls' lks):
  Z5 P w C (upd (upd H A.a (.dT kv2)) A.k (.lst ls')) n A fs tb {x with links:=lks,Y9:=lat'}:=by
 obtain⟨dx,f⟩:=X.ob;obtain⟨t,l,r⟩:=X.fo;obtain⟨kvs,D,m,q⟩:=X.ta;obtain⟨ls,l1,l2⟩:=X.li;obtain⟨y,c,v⟩:=X.at_;have g:Qt H (upd (upd H A.a (.dT kv2)) A.k (.lst ls')):=λb xs e=>by rw[Qf (Yb e l1 nofun),Qf (Yb e c nofun)];exact e
 have u:∀{b o},H b=Ga o->b≠A.k->b≠A.a->(upd (upd H A.a (.dT kv2)) A.k (.lst ls')) b=Ga o:=λe h h'=>by rw[Qf h,Qf h'];exact e
 refine⟨⟨dx,u f (Yb f l1 nofun) (Yb f c nofun)⟩,⟨t,u l (Gp X.ap.kf) (Yb l c nofun),L2.Paired.Z7 r λ_ _ h=>h.Ql g⟩,u X.le (Yb X.le l1 nofun) (Yb X.le c nofun),u X.me (Yb X.me l1 nofun) (Yb X.me c nofun),u X.us (Yb X.us l1 nofun) (Yb X.us c nofun),
  ⟨kvs,⟨u D.at_ (Yb D.at_ l1 nofun) (Yb D.at_ c nofun),Zg g D.keys⟩,m,q⟩,⟨ls',Qb,L2.Paired.Z7 s λ_ _ h=>h.Ql g⟩,⟨kv2,?_,h1,h2⟩,u X.ab (Yb X.ab l1 nofun) (Yb X.ab c nofun),λp d=>u (X.ml p d) (X.ap.mkf p d).1 (Yb (X.ml p d) c nofun),λp d=>u (X.ul p d) (X.ap.ukf p d).1 (Yb (X.ul p d) c nofun),X.ap⟩
 rw[Qf (Yb c l1 nofun),Qb]
end
end Sb
namespace K05
open PySem L2 Sb Nt
structure Qel(fs:List Fm)(S:List Nat):Prop where
 str:∀p,TU (Yc fs p)=Gf
 lt:∀p∈S,p<fs.length
 pts:∀p∈S,∀q∈Zk fs p,q∈S
 few:∀p,(Zk fs p).length<=100000
def Qj1(P:Gk)(w:Gv)(C:Gc):Sp:=λvs H Q _=>∃(n:Gc)(A:Na)(fs:List Fm)(tb:Nat)(x:Nn)(g k:Nat),vs=[.ref n,jv g,jv k]/\Z5 P w C H n A fs tb x/\Qel fs x.S/\g∈x.S/\k∈x.S/\g≠k/\(∀p∈x.mem g,p∈x.S)/\(∀p∈x.Xd g,p∈x.S)/\
 x.S.length<=100000/\(x.mem k).length+(x.mem g).length<=100000/\(x.Xd k).length+(x.Xd g).length<=100000/\tb+(x.Xd g).length<=1000000/\
 ∀(r:Gc)(es:List V)(H':Hp),Z5 P w C H' n A fs (tb+(x.Xd g).length) (Vz (Yc fs) (Zk fs) x g k).1->Rb A x.S H H'->H r=Gg->H' r=Ga (.lst es)->Paired (Rw H') es (Vz (Yc fs) (Zk fs) x g k).2->Q (.ref r) H'
section
variable{P:Gk}{w:Gv}{K:Gd}{mg:Ta->Option Value}{base:Heap}
theorem Qqz:Qv ["self","gone","kept","place","found","user","twin"] ["self","gone","kept"] (Qk Ik):=by eq_refl
theorem Qod{ky:Nat->Ta×List Nat}{l:List Nat}{t:Ta×List Nat->Option Nat}{i u:Nat}(h:l[i]?=Ga u):scan (ρ:=U3) ky (l.take (i+1)) t []=(match(scan (ρ:=U3) ky (l.take i) t []).1 (ky u)with
  |some v=>((scan (ρ:=U3) ky (l.take i) t []).1,if v=u then(scan (ρ:=U3) ky (l.take i) t []).2 else(scan (ρ:=U3) ky (l.take i) t []).2++[(u,v,Gg)])
  |none=>((λk=>if k=ky u then Ga u else(scan (ρ:=U3) ky (l.take i) t []).1 k),(scan (ρ:=U3) ky (l.take i) t []).2)):=by
 have gen:∀(a:List Nat)(t:Ta×List Nat->Option Nat)(f:List (Nat×Nat×Option U3)),scan (ρ:=U3) ky (a++[u]) t f=(match(scan (ρ:=U3) ky a t f).1 (ky u)with
  |some v=>((scan (ρ:=U3) ky a t f).1,if v=u then(scan (ρ:=U3) ky a t f).2 else(scan (ρ:=U3) ky a t f).2++[(u,v,Gg)])
  |none=>((λk=>if k=ky u then Ga u else(scan (ρ:=U3) ky a t f).1 k),(scan (ρ:=U3) ky a t f).2)):=by
  intro a;induction a with
  |nil=>intro t f;simp only[List.nil_append,scan];all_goals (cases t (ky u)<;>rfl)
  |cons z a b=>
   intro t f;simp only[List.cons_append,scan];cases t (ky z)with
   |some v=>exact b _ _
   |none=>exact b _ _
 rw[List.take_add_one,h];exact gen _ _ _
theorem Qvf{f fK C:Gc}{fd ag:Tt}(F:Wu K "give_over" "Net.give_over" Ik f fd)(T:V5 K mg C)(mK:Z8 K C "key_of" fK)(GK:Qr P w K mg base Z3 1 fK ag ["self","place"] (Qb5 P w C))(bK:Binds K ag ["self","place"] []):
  Qr P w K mg base Z3 2 f fd ["self","gone","kept"] (Qj1 P w C):=by
 refine F.ok Qqz (λvs H Q E h=>?_) (λcdv A outer s H vs Q E hr h=>?_)
 ·obtain⟨n,A,fs,tb,x,g,k,rfl,_⟩:=h;rfl
 obtain⟨n,A,fs,tb,x,g,k,rfl,X,fok,I,J,ar,mS,uS,hS,hm,aA,az,q⟩:=h;have hu:=Ul hr;have ai:=hr.units;have av:Z9 1 _:=hr.mono (by omega);have nd:=Qqz.nd;refine⟨_,Qd (Ye Gy rfl (Y2 (Zr hu (Qm (pv 0) rfl) (pv 1) (λ_ _=>rfl))) (Ya 3 nd)
   (Qh (Wm hu (Qm (pv 0) rfl) (pv 3) (pv 2) rfl)))
  (Qd (Ze (Xq Gs EB EC O8 (Zr hu (Qm (pv 0) rfl) (pv 2) (λ_ _=>rfl)) (Qa (Zr hu (Qm (pv 0) rfl) (pv 1) (λ_ _=>rfl)) Qe)))
  (Qd (Ze (Xq Gs EB EC O8 (Zr hu (Qm (pv 0) rfl) (pv 2) (λ_ _=>rfl)) (Qa (Zr hu (Qm (pv 0) rfl) (pv 1) (λ_ _=>rfl)) Qe)))
  (Qd (Qs 4 nd (Zt Qe))
  (Qd (Ye Gy rfl (Y2 (Zr hu (Qm (pv 0) rfl) (pv 1) (λ_ _=>rfl))) (Ya 5 nd)
   (Qd (Qs 6 nd (Qxn Ek El (Qkm ai) (Qm (pv 0) rfl) (Qa (Q9 (pv 0) T.cl mK GK av bK .nil Q4 (Qa (pv 5) Qe)) (Qa (pv 5) Qe))))
   (Qh (Zn (Qp J1 (pv 6) (pv 5) (Q3 _))
    (Qh (Ze (Xq Gs GF GV Z0 (pv 4) (Qa (Za (Qa (pv 5) (Qa (pv 6) (Qa Uh Qe)))) Qe)))) Q6))))
  (Qh (Qu (pv 4))))))),?_⟩
 obtain⟨dx,o1⟩:=X.ob;have nl:n≠A.l:=Yb o1 X.le nofun;refine⟨_,Xb,n,C,dx,_,_,Xb,o1,T.cl,T.members,Wy _,_,Xb,A.m,_,Xb,Xg X.me I,A.ml g,Xb,⟨_,Zc.of (X.ml g I)⟩,Xh (K:=K) (a:=A.ml g) (xs:=(x.mem g).map jv)
  (λi σ H2=>(∃x3,σ=[Ga (.ref n),Ga (jv g),Ga (jv k),x3,Gg,Gg,Gg])/\H2=upd H A.l (.dK (dS x.S λp=>jv (if p∈(x.mem g).take i then k else x.lead p))))
  ⟨⟨_,Xb⟩,?_⟩ (λi σ H2 _⟨_,e⟩=>by rw[e];exact Zc.of (by rw[Qf (Yb (X.ml g I) X.le nofun)];exact X.ml g I)) ?_ ?_⟩
 ·funext b
  by_cases hb:b=A.l
  ·subst hb;rw[Qb,X.le];simp
  ·rw[Qf hb]
 ·rintro i y σ H2 hi ⟨⟨x3,rfl⟩,rfl⟩;rw[List.getElem?_map]at hi;cases eq:(x.mem g)[i]? with
  |none=>rw[eq]at hi;cases hi
  |some p=>
   rw[eq]at hi;cases hi;have pS:=mS p (List.mem_of_getElem? eq);have o2:(upd H A.l (.dK (dS x.S λp=>jv (if p∈(x.mem g).take i then k else x.lead p)))) n=Ga (.ins C dx (Y0 A)):=by rw[Qf nl];exact o1
   have hk:=Iv.k (k:=ki p) (v:=jv k) (@Qb H A.l (.dK (dS x.S λp=>jv (if p∈(x.mem g).take i then k else x.lead p)))) (by rw[Wz,GQ];omega);rw[U7,Qki pS]at hk;refine⟨_,Xb,_,Xb,n,C,dx,_,_,Xb,o2,T.cl,T.Ws,Ym _,_,Xb,A.l,_,Xb,hk,⟨_,Xb⟩,?_⟩;congr 2;refine Wk λr _=>?_;rw[List.take_add_one,eq];by_cases e:r=p
   ·subst e;rw[Gm Xb,Gm (by simp)]
   ·rw[Gh e];by_cases hm:r∈(x.mem g).take i
    ·rw[Gm hm,Gm (List.mem_append_left _ hm)]
    ·rw[Gh hm,Gh (by simp[hm,e])]
 rintro σ H2 ⟨⟨x3,rfl⟩,rfl⟩;rw[List.length_map,List.take_length];have O:=X.Qtu (Q7 x g k);have eL:(dS x.S λp=>jv (if p∈x.mem g then k else x.lead p))=dS x.S λp=>jv (Q7 x g k p):=rfl;rw[eL];have F1:Rb A x.S H (upd H A.l (.dK (dS x.S λp=>jv (Q7 x g k p)))):=Rb.upd (.inl Xb);generalize upd H A.l (.dK (dS x.S λp=>jv (Q7 x g k p)))=H1 at O F1⊢;obtain⟨ad,ak⟩:=O.ob;refine⟨_,Xb,n,C,ad,_,_,Xb,ak,T.cl,T.members,Wy _,_,Xb,A.m,_,Xb,Xg O.me J,.inl ⟨Xb,_,Zc.of (O.ml k J)⟩,_,Xb,n,C,ad,_,_,Xb,ak,T.cl,T.members,Wy _,_,Xb,A.m,_,Xb,Xg O.me I,A.ml k,A.ml g,_,_,Xb,Xb,O.ml k J,O.ml g I,small (by rw[List.length_map,List.length_map];show(x.mem k).length+(x.mem g).length<=_;omega),?_⟩;have R:=O.Qww J (x.mem k++x.mem g);have F2:Rb A x.S H1 (upd H1 (A.ml k) (.lst ((x.mem k++x.mem g).map jv))):=Rb.upd (.inr (.inr (.inr (.inr (.inr (.inr (.inr ⟨k,J,.inl Xb⟩)))))));have e2:((x.mem k).map jv++(x.mem g).map jv)=(x.mem k++x.mem g).map jv:=(List.map_append ..).symm;rw[e2];generalize upd H1 (A.ml k) (.lst ((x.mem k++x.mem g).map jv))=H2 at R F2⊢;obtain⟨ae,al⟩:=R.ob;refine⟨_,Xb,n,C,ae,_,_,Xb,al,T.cl,T.Qey,J0 _,_,Xb,A.u,_,Xb,Xg R.us J,.inl ⟨Xb,_,Zc.of (R.ul k J)⟩,_,Xb,n,C,ae,_,_,Xb,al,T.cl,T.Qey,J0 _,_,Xb,A.u,_,Xb,Xg R.us I,A.ul k,A.ul g,_,_,Xb,Xb,R.ul k J,R.ul g I,small (by rw[List.length_map,List.length_map];show(x.Xd k).length+(x.Xd g).length<=_;omega),?_⟩;have X3:=R.Qrz J (x.Xd k++x.Xd g);have F3:Rb A x.S H2 (upd H2 (A.ul k) (.lst ((x.Xd k++x.Xd g).map jv))):=Rb.upd (.inr (.inr (.inr (.inr (.inr (.inr (.inr ⟨k,J,.inr Xb⟩)))))));have e3:((x.Xd k).map jv++(x.Xd g).map jv)=(x.Xd k++x.Xd g).map jv:=(List.map_append ..).symm;rw[e3];generalize upd H2 (A.ul k) (.lst ((x.Xd k++x.Xd g).map jv))=H3 at X3 F3⊢;have ab:=(F1.trans F2).trans F3;refine⟨Gx _,λr ah=>?_⟩;have s4:=Qg ah (.lst []);have X4:=X3.same s4;obtain⟨ao,ax⟩:=X4.ob;have U:H r=Gg:=ab.there r ah;have ap:(λp=>if p=k then x.Xd k++x.Xd g else x.Xd p) g=x.Xd g:=Gh ar;have ug:∀{j:Hp}{t':Fm->Option Nat}{m:Nat},Z5 P w C j n A fs m {x with lead:=Q7 x g k,mem:=(λp=>if p=k then x.mem k++x.mem g else x.mem p),Xd:=(λp=>if p=k then x.Xd k++x.Xd g else x.Xd p),tab:=t'}->j (A.ul g)=Ga (.lst ((x.Xd g).map jv)):=λY=>by have:=Y.ul g I;rw[this];show Ga (HO.lst (((λp=>if p=k then x.Xd k++x.Xd g else x.Xd p) g).map jv))=_;rw[ap]
 refine⟨_,Xb,n,C,ao,_,_,Xb,ax,T.cl,T.Qey,J0 _,_,Xb,A.u,_,Xb,Xg X4.us I,A.ul g,Xb,⟨_,Zc.of (ug X4)⟩,Xh (K:=K) (a:=A.ul g) (xs:=(x.Xd g).map jv)
  (λi σ j=>∃(x5 x6:Option V)(es:List V),σ=[Ga (.ref n),Ga (jv g),Ga (jv k),x3,Ga (.ref r),x5,x6]/\
   Z5 P w C j n A fs (tb+i) {x with lead:=Q7 x g k,mem:=(λp=>if p=k then x.mem k++x.mem g else x.mem p),Xd:=(λp=>if p=k then x.Xd k++x.Xd g else x.Xd p),tab:=(scan (ρ:=U3) (Zj (Yc fs) (Zk fs) (Q7 x g k)) ((x.Xd g).take i) x.tab []).1}/\
   Rb A x.S H j/\j r=Ga (.lst es)/\Paired (Rw j) es (scan (ρ:=U3) (Zj (Yc fs) (Zk fs) (Q7 x g k)) ((x.Xd g).take i) x.tab []).2)
  ⟨_,_,[],Xb,?_,ab.trans (Rb.of s4),Qb,.nil⟩ (λi σ j _⟨_,_,_,_,Y,_⟩=>Zc.of (ug Y)) ?_ ?_⟩
 ·exact X4
 ·rintro i y σ j hi ⟨x5,x6,es,rfl,Y,F5,N,l5⟩;rw[List.getElem?_map]at hi;cases eq:(x.Xd g)[i]? with
  |none=>rw[eq]at hi;cases hi
  |some u=>
   rw[eq]at hi;cases hi;have an:=uS u (List.mem_of_getElem? eq);have il:i<(x.Xd g).length:=(List.getElem?_eq_some_iff.mp eq).1;obtain⟨af,am⟩:=Y.ob;obtain⟨kvs,D,d2,d3⟩:=Y.ta;have aB:es.length<=i:=by rw[Gr l5];have:=scan_len (ρ:=U3) (ky:=Zj (Yc fs) (Zk fs) (Q7 x g k)) (l:=(x.Xd g).take i) (t:=x.tab) (f:=[]);rw[List.length_take]at this;simp at this;omega
   refine⟨_,Xb,n,C,af,_,_,Xb,am,T.cl,T.table,Qia _,⟨A.t,kvs,Xb,D.at_⟩,_,Xb,n,af,_,Xb,am,Qcn _,_,Xb,n,A,fs,_,_,u,Xb,Y,fok.lt u an,λq hq=>fok.pts u an q hq,by have:=fok.few u;omega,λc H6 B c6 aq=>⟨_,Xb,?_⟩⟩;have Y6:=Y.same B;obtain⟨d,D6,ay,ac⟩:=Y6.ta;have kc:=aq.key (fok.str u);have kk:Yd d (Yx (Zj (Yc fs) (Zk fs) (Q7 x g k) u))=((scan (ρ:=U3) (Zj (Yc fs) (Zk fs) (Q7 x g k)) ((x.Xd g).take i) x.tab []).1 (Zj (Yc fs) (Zk fs) (Q7 x g k) u)).map jv:=ac (Zj (Yc fs) (Zk fs) (Q7 x g k) u);have W:=Qod (ky:=Zj (Yc fs) (Zk fs) (Q7 x g k)) (t:=x.tab) eq;have rO:¬Own A x.S r:=λz=>by rcases X.own z with⟨_,e⟩|⟨_,e⟩|⟨_,e⟩|⟨_,e⟩<;>rw[U]at e<;>cases e
   refine⟨A.t,c,jv u,d,_,Xb,Xb,D6,kc,by rw[GQ];omega,λv hv=>?_,λhn=>?_⟩
   ·
    rw[kk]at hv;cases ev:(scan (ρ:=U3) (Zj (Yc fs) (Zk fs) (Q7 x g k)) ((x.Xd g).take i) x.tab []).1 (Zj (Yc fs) (Zk fs) (Q7 x g k) u)with
    |none=>rw[ev]at hv;cases hv
    |some v0=>
     rw[ev]at hv;cases hv;rw[ev]at W;refine⟨_,Xb,_,Xb,Xb,_,Xb,?_⟩;rw[Qg2];by_cases M:v0=u
     ·rw[GX M];refine Zp ⟨_,_,es,Xb,?_,F5.trans (Rb.of B),B _ _ N,?_⟩
      ·rw[W];exact Y6.mono (by omega)
      ·rw[W];simp only[Gm M];exact L2.Paired.Z7 l5 λ_ _ h=>h.Ql (Qt.of B)
     ·rw[Gz M];refine Yr ?_;refine⟨_,Xb,.inl ⟨Xb,_,Zc.of (B _ _ N)⟩,_,Xb,_,Xb,by show 3<=Gi;decide,λL Z=>?_⟩;have s7:=Qg Z (.tup [jv u,jv v0,.non]);refine⟨r,es,.ref L,Xb,Xb,s7 _ _ (B _ _ N),by rw[GQ];omega,?_⟩;have G:=B.trans s7;have Y7:=Y.same G;have aw:=G _ _ N;have aa:Qt j (upd (upd H6 L (.tup [jv u,jv v0,.non])) r (.lst (es++[.ref L]))):=λb xs e=>by rw[Qf (Yb e N nofun)];exact G _ _ e
      have aj:(upd (upd H6 L (.tup [jv u,jv v0,.non])) r (.lst (es++[.ref L]))) L=Ga (.tup [jv u,jv v0,.non]):=by rw[Qf (λz=>by rw[z,B _ _ N]at Z;cases Z),Qb]
      have Y8:Z5 P w C (upd (upd H6 L (.tup [jv u,jv v0,.non])) r (.lst (es++[.ref L]))) n A fs (tb+i) _:=Y7.keep (λb o e hb=>by
       rw[Qf λz=>?_]
       ·exact e
       ·subst z;rcases hb with hb|hb|hb
        ·exact rO hb
        ·obtain⟨ws,f1,_⟩:=X.fo;rw[hb,f1]at U;cases U
        ·rw[hb,o1]at U;cases U) (Zs λxs e=>by rw[aw]at e;cases e)
      refine⟨_,_,_,Xb,?_,⟨λb o e hb=>?_,λb hb=>?_⟩,Qb,?_⟩
      ·rw[W];exact Y8.mono (by omega)
      ·rw[Qf (Qc e U)];exact G _ _ (F5.keep b o e hb)
      ·by_cases e:b=r
       ·subst e;exact U
       ·rw[Qf e]at hb;exact F5.there b (G.free hb)
      ·rw[W];simp only[Gh M];exact Yq (L2.Paired.Z7 l5 λ_ _ h=>h.Ql aa) (.cons ⟨L,.non,Xb,aj,Xb⟩ .nil)
   ·
    rw[kk]at hn;have ev:(scan (ρ:=U3) (Zj (Yc fs) (Zk fs) (Q7 x g k)) ((x.Xd g).take i) x.tab []).1 (Zj (Yc fs) (Zk fs) (Q7 x g k) u)=Gg:=by
     cases ev:(scan (ρ:=U3) (Zj (Yc fs) (Zk fs) (Q7 x g k)) ((x.Xd g).take i) x.tab []).1 (Zj (Yc fs) (Zk fs) (Q7 x g k) u)with
     |none=>rfl
     |some v0=>rw[ev]at hn;cases hn
    rw[ev]at W;refine⟨_,Xb,_,Xb,Xb,_,Xb,?_⟩;rw[Qg2,GX rfl];have au:Yd d (Yx (Zj (Yc fs) (Zk fs) (Q7 x g k) u))=Gg:=by rw[kk];exact hn
    have Y8:=Y6.Qsh (kvs':=d++[(Yx (Zj (Yc fs) (Zk fs) (Q7 x g k) u),c,jv u)]) D6 (by rw[List.length_append,List.length_singleton];omega) (λp hp=>by
     rcases List.mem_append.mp hp with hp|hp
     ·exact D6.keys p hp
     ·rw[List.mem_singleton]at hp;subst hp;exact kc) (t':=λk'=>if k'=Zj (Yc fs) (Zk fs) (Q7 x g k) u then Ga u else(scan (ρ:=U3) (Zj (Yc fs) (Zk fs) (Q7 x g k)) ((x.Xd g).take i) x.tab []).1 k') (λk'=>by
     rw[Qan _ _ _ _ _ au];by_cases e:k'=Zj (Yc fs) (Zk fs) (Q7 x g k) u
     ·rw[Gm (by rw[e]),Gm e];rfl
     ·rw[Gh (λz=>e (U1 z)),Gh e];exact ac k')
    have rt:r≠A.t:=λz=>rO (by rw[z];exact .inr (.inr (.inr (.inl Xb))));have aa:Qt j (upd H6 A.t (Um P w A.t (d++[(Yx (Zj (Yc fs) (Zk fs) (Q7 x g k) u),c,jv u)]))):=λb xs e=>by rw[Qf (Yb (B _ _ e) D6.at_ nofun)];exact B _ _ e
    refine Zp ⟨_,_,es,Xb,?_,F5.trans ((Rb.of B).trans (Rb.upd (.inr (.inr (.inr (.inl Xb)))))),?_,?_⟩
    ·rw[W];exact Y8
    ·rw[Qf rt];exact B _ _ N
    ·rw[W];exact L2.Paired.Z7 l5 λ_ _ h=>h.Ql aa
 ·rintro σ j ⟨x5,x6,es,rfl,Y,F5,N,l5⟩;rw[List.length_map,List.take_length]at Y l5;exact⟨_,Xb,q r es j Y F5 U N l5⟩
end
end K05
namespace Nt
theorem Xf{l S:List Nat}(nd:l.Nodup)(h:∀p∈l,p∈S):l.length<=S.length:=by
 induction l generalizing S with
 |nil=>simp
 |cons a r e=>rw[List.nodup_cons]at nd;have b:=h a (by simp);have:=e (S:=S.erase a) nd.2 λp c=>(List.mem_erase_of_ne (show p≠a fromλz=>nd.1 (by rw[<-z];exact c))).mpr (h p (by simp[c]));rw[List.length_erase_of_mem b]at this;have d:=List.length_pos_of_mem b;simp only[List.length_cons];omega
theorem Qdk{f:Nat->Nat}{g k:Nat}(a:g≠k):∀{S:List Nat},g∈S->k∈S->f g+f k<=(S.map f).sum
 |[],h,_=>by simp at h
 |x::r,d,e=>by
  simp only[List.map_cons,List.sum_cons];by_cases b:x=g
  ·subst b;have:=Jg (f:=f) ((List.mem_cons.mp e).resolve_left (Gp a));omega
  ·by_cases c:x=k
   ·subst c;have:=Jg (f:=f) ((List.mem_cons.mp d).resolve_left a);omega
   ·have:=Qdk (f:=f) a ((List.mem_cons.mp d).resolve_left (Gp b)) ((List.mem_cons.mp e).resolve_left (Gp c));omega
theorem Fst.chS{α:Type}{S:List Nat}{ls:List (Nat×Nat×α)}{Y9:Nat->Nat->Option Nat}{up:Nat->Option Nat}(F:Fst S ls Y9 up):∀{p:Nat}{l:List Nat},Ch up p l->p∈S->∀q∈l,q∈S
 |_,_,.top _,b,q,a=>by simp at a;subst a;exact b
 |_,_,.step e h,b,q,a=>by
  rcases List.mem_cons.mp a with rfl|a
  ·exact b
  ·exact F.chS h (F.inS _ _ e).2 q a
theorem Qq3{W ρ:Type}(x:Nst W ρ):cls x<=x.S.length:=List.countP_le_length
end Nt
namespace K05
open PySem L2 Sb Nt
variable{C:Gc}{fd:Tt}
def Qbc(P:Gk)(w:Gv)(C:Gc):Sp:=λvs H Q _=>∃(n:Gc)(A:Na)(fs:List Fm)(tb:Nat)(x:Nn)(c:Gc)(a b:Nat)(r:Option U3)(pend:List Lk),vs=[.ref n,.ref c]/\Z5 P w C H n A fs tb x/\Qel fs x.S/\Rw H (.ref c) (a,b,r)/\
 Xz (Yc fs) (Zk fs) x (pend++[(a,b,r)])/\x.lead a≠x.lead b/\x.S.length<=10000/\Vs x<=10000/\x.links.length<=100000/\tb+Vs x<=1000000/\
 ∀(lo hi:Nat)(cl:List Nat)(l:Gc)(es:List V)(H':Hp),((lo=a/\hi=b)\/(lo=b/\hi=a))->Ch x.up lo cl->Z5 P w C H' n A fs (tb+Vs x) (Yh (Yc fs) (Zk fs) x a b r lo hi cl).1->Rb A x.S H H'->H l=Gg->H' l=Ga (.lst es)->
  Paired (Rw H') es (Yh (Yc fs) (Zk fs) x a b r lo hi cl).2->Q (.ref l) H'
section
variable{P:Gk}{w:Gv}{K:Gd}{mg:Ta->Option Value}{base:Heap}
theorem Qbd:Qv ["self","link","one","other"] ["self","link"] (Qk Jc):=by eq_refl
theorem Qsu{H:Hp}{a b:Gc}{o u:HO}(h:a≠b):upd (upd H a o) b u=upd (upd H b u) a o:=by
 funext c
 by_cases h1:c=b
 ·subst h1;rw[Qb,Qf (Gp h),Qb]
 ·rw[Qf h1];by_cases h2:c=a
  ·subst h2;rw[Qb,Qb]
  ·rw[Qf h2,Qf h2,Qf h1]
theorem Iw(x y:V)(vs:List V):atI (x::y::vs) (1:Int)=Ga y:=Qy (xs:=x::y::vs) (j:=1) rfl
theorem Qhs(x y z:V)(vs:List V):atI (x::y::z::vs) (2:Int)=Ga z:=Qy (xs:=x::y::z::vs) (j:=2) rfl
theorem Qgi{f fH fG:Gc}{ah ag:Tt}(F:Wu K "merge_link" "Net.merge_link" Jc f fd)(T:V5 K mg C)(B:Jl mg)(mH:Z8 K C "hang" fH)(GH:Qr P w K mg base Z3 1 fH ah ["self","low","high"] (Qlh P w C))(bH:Binds K ah ["self","low","high"] [])
  (mG:Z8 K C "give_over" fG)(GG:Qr P w K mg base Z3 2 fG ag ["self","gone","kept"] (Qj1 P w C))(bG:Binds K ag ["self","gone","kept"] []):
  Qr P w K mg base Z3 3 f fd ["self","link"] (Qbc P w C):=by
 refine F.ok Qbd (λvs H Q E h=>?_) (λcdv A outer s H vs Q E hr h=>?_)
 ·obtain⟨n,A,fs,tb,x,c,a,b,r,pend,rfl,_⟩:=h;rfl
 obtain⟨n,A,fs,tb,x,c,a,b,r,pend,rfl,X,fok,hc,I,al,hS,hT,hL,az,q⟩:=h;have L:=Ul hr;have am:Z9 1 _:=hr.mono (by omega);have an:Z9 2 _:=hr.mono (by omega);have nd:=Qbd.nd;refine⟨_,Qd (Qs 2 nd (Qn Q5 (pv 1) Qj))
  (Qd (Qs 3 nd (Qn Q5 (pv 1) Qj))
  (Qd (Wm L (Qm (pv 0) rfl) (Za (Qa (pv 2) (Qa (pv 3) Qe))) (Qo Zb rfl B.len GO (Qa (Qm (pv 0) rfl) Qe)) rfl)
  (Qd (Wm L (Qm (pv 0) rfl) (Za (Qa (pv 3) (Qa (pv 2) Qe))) (Qo Zb rfl B.len GO (Qa (Qm (pv 0) rfl) Qe)) rfl)
  (Qd (Ze (Xq Gs GF GV Z0 (Qm (pv 0) rfl) (Qa (pv 1) Qe)))
  (Qd (Zn (Qp Ql7 (Qo Zb rfl B.len GO (Qa (Zr L (Qm (pv 0) rfl) (Zr L (Qm (pv 0) rfl) (pv 2) (λ_ _=>rfl)) (λ_ _=>rfl)) Qe)) (Qo Zb rfl B.len GO (Qa (Zr L (Qm (pv 0) rfl) (Zr L (Qm (pv 0) rfl) (pv 3) (λ_ _=>rfl)) (λ_ _=>rfl)) Qe)) (Q3 _))
   (Qd (Ze (Q9 (pv 0) T.cl mH GH am bH .nil Q4 (Qa (pv 2) (Qa (pv 3) Qe))))
    (Qh (Qu (Q9 (pv 0) T.cl mG GG an bG .nil Q4 (Qa (Zr L (Qm (pv 0) rfl) (pv 2) (λ_ _=>rfl)) (Qa (Zr L (Qm (pv 0) rfl) (pv 3) (λ_ _=>rfl)) Qe)))))) Q6)
  (Qd (Ze (Q9 (pv 0) T.cl mH GH am bH .nil Q4 (Qa (pv 3) (Qa (pv 2) Qe))))
   (Qh (Qu (Q9 (pv 0) T.cl mG GG an bG .nil Q4 (Qa (Zr L (Qm (pv 0) rfl) (pv 3) (λ_ _=>rfl)) (Qa (Zr L (Qm (pv 0) rfl) (pv 2) (λ_ _=>rfl)) Qe))))))))))),?_⟩
 obtain⟨dx,o1⟩:=X.ob;obtain⟨c',rv,ec,ai,ay⟩:=id hc;cases ec;obtain⟨ls,l1,l2⟩:=X.li;obtain⟨kv,a1,a2,a3⟩:=X.at_;have ll:ls.length=x.links.length:=Gr l2;obtain⟨aS,bS,_⟩:=I.pnd a b r (by simp);have lv:(V.int (ls.length:Int))=jv x.links.length:=by rw[ll];rfl
 refine⟨_,Xb,c,_,_,_,Xb,Xb,Z2.of ai,Ri _ _,_,Xb,c,_,_,_,Xb,Xb,Z2.of ai,Iw _ _ _,?_⟩;refine⟨_,Xb,n,C,dx,_,_,Xb,o1,T.cl,T.links,Uy _,A.k,ls,Xb,.inl (Zc.of l1),?_⟩;rw[lv];refine⟨_,Xb,n,C,dx,_,_,Xb,o1,T.cl,T.Qby,Qaq _,_,Xb,_,Xb,by show 2<=Gi;decide,λc1 D=>?_⟩;have s1:=Qg D (.tup [jv a,jv b]);refine⟨A.a,_,Xb,Iv.t (k:=[ki a,ki b]) (s1 _ _ a1) Qb (by rw[GQ];omega),?_⟩;have aw:c1≠A.a:=λz=>by rw[z,a1]at D;cases D
 have nA:n≠A.a:=Yb o1 a1 nofun;have kA:A.k≠A.a:=Yb l1 a1 nofun;generalize R:Ww kv [ki a,ki b] (jv x.links.length)=G;have o2:(upd (upd H c1 (.tup [jv a,jv b])) A.a (.dT G)) n=Ga (.ins C dx (Y0 A)):=by rw[Qf nA];exact s1 _ _ o1
 have au:(upd (upd H c1 (.tup [jv a,jv b])) A.a (.dT G)) A.k=Ga (.lst ls):=by rw[Qf kA];exact s1 _ _ l1
 refine⟨_,Xb,n,C,dx,_,_,Xb,o2,T.cl,T.links,Uy _,A.k,ls,Xb,.inl (Zc.of au),?_⟩;rw[lv];refine⟨_,Xb,n,C,dx,_,_,Xb,o2,T.cl,T.Qby,Qaq _,_,Xb,_,Xb,by show 2<=Gi;decide,λc2 u=>?_⟩;have s2:=Qg u (.tup [jv b,jv a]);have af:c2≠A.a:=λz=>by rw[z,Qb]at u;cases u
 have aA:G.length<=2*x.links.length+1:=by rw[<-R];have:=Wd kv [ki a,ki b] (jv x.links.length);omega
 refine⟨A.a,_,Xb,Iv.t (k:=[ki b,ki a]) (s2 _ _ Qb) Qb (by rw[GQ];omega),?_⟩;generalize U:Ww G [ki b,ki a] (jv x.links.length)=kv2;have av:kv2.length<=2*(x.links.length+1):=by rw[<-U];have:=Wd G [ki b,ki a] (jv x.links.length);omega
 rw[Qsu (a:=A.a) (b:=c2) (Gp af),U7];have aj:(upd H c1 (.tup [jv a,jv b])) c2=Gg:=by rw[Qf af]at u;exact u
 have v:Qz H (upd (upd H c1 (.tup [jv a,jv b])) c2 (.tup [jv b,jv a])):=s1.trans (Qg aj _);generalize ax:upd (upd H c1 (.tup [jv a,jv b])) c2 (.tup [jv b,jv a])=Ha at v;have o3:(upd Ha A.a (.dT kv2)) n=Ga (.ins C dx (Y0 A)):=by rw[Qf nA];exact v _ _ o1
 have l3:(upd Ha A.a (.dT kv2)) A.k=Ga (.lst ls):=by rw[Qf kA];exact v _ _ l1
 refine⟨_,Xb,n,C,dx,_,_,Xb,o3,T.cl,T.links,Uy _,.inl ⟨Xb,_,Zc.of l3⟩,_,Xb,A.k,ls,_,Xb,Xb,l3,by rw[GQ];omega,?_⟩;have Xa:=X.same v;have M:=Xa.Qvs (kv2:=kv2) (ls':=ls++[.ref c]) (lks:=x.links++[(a,b,r)]) (lat':=O2 x.Y9 a b x.links.length) (by rw[List.length_append,List.length_singleton];exact av) (λi j=>by
  rw[<-U,Qc1,<-R,Qc1,a3];unfold O2;by_cases h1:(i=a/\j=b)\/(i=b/\j=a)
  ·rw[Gm h1];rcases h1 with⟨rfl,rfl⟩|⟨rfl,rfl⟩
   ·rw[Gm rfl];split<;>rfl
   ·rw[Gm rfl];rfl
  ·rw[Gh h1,Gh (λz=>h1 (by simp only[List.cons.injEq,FJ]at z;exact .inr ⟨U8 z.1,U8 z.2⟩)),Gh (λz=>h1 (by simp only[List.cons.injEq,FJ]at z;exact .inl ⟨U8 z.1,U8 z.2⟩))])
  (Yq (L2.Paired.Z7 l2 λ_ _ h=>h.Ql (Qt.of v)) (.cons (hc.Ql (Qt.of v)) .nil))
 have Fb:Rb A x.S H (upd (upd Ha A.a (.dT kv2)) A.k (.lst (ls++[.ref c]))):=((Rb.of v).trans (Rb.upd (.inr (.inr (.inr (.inr (.inr (.inl Xb)))))))).trans (Rb.upd (.inr (.inr (.inr (.inr (.inl Xb))))));generalize upd (upd Ha A.a (.dT kv2)) A.k (.lst (ls++[.ref c]))=Hb at M Fb;obtain⟨y,ob⟩:=M.ob;have ao:=I.ld a aS;have ap:=I.ld b bS;have go:∀lo hi,((lo=a/\hi=b)\/(lo=b/\hi=a))->Qlh P w C [.ref n,jv lo,jv hi] Hb (λ_ H1=>∃d,H1 n=Ga (.ins C d (Y0 A))/\H1 A.l=Ga (.dK (dS x.S λp=>jv (x.lead p)))/\Qj1 P w C [.ref n,jv (x.lead lo),jv (x.lead hi)] H1 Q E) E:=by
  intro lo hi N;have O:lo∈x.S:=by rcases N with⟨h,_⟩|⟨h,_⟩<;>rw[h]<;>assumption
  have ak:hi∈x.S:=by rcases N with⟨_,h⟩|⟨_,h⟩<;>rw[h]<;>assumption
  have W:x.lead lo≠x.lead hi:=by
   rcases N with⟨h1,h2⟩|⟨h1,h2⟩<;>rw[h1,h2]
   ·exact al
   ·exact Gp al
  have gS:=I.ld lo O;have gg:=I.idem lo O;have kS:=I.ld hi ak;have kk:=I.idem hi ak;obtain⟨cl,aa⟩:=I.fst.chain lo O;refine⟨n,A,fs,tb,_,lo,hi,cl,Xb,M,aa,I.fst.chS aa O,by show x.S.length<=_;omega,λH1 X1 k1 t1=>?_⟩;obtain⟨d,g⟩:=X1.ob;have F1:Rb A x.S Hb H1:=⟨λb o e hb=>k1 b o e (λz=>hb (z▸.inr (.inr (.inr (.inr (.inr (.inr (.inl Xb)))))))),t1⟩;have aB:=Xf (I.Qj0 _ gS gg) λp hp=>((I.Qbk _ gS gg p).mp hp).1;have aC:=Xf (I.Qj0 _ kS kk) λp hp=>((I.Qbk _ kS kk p).mp hp).1;have ae:=Qdk (f:=λp=>if x.lead p=p then(x.Xd p).length else 0) W gS kS;rw[Gm gg,Gm kk]at ae;have ae:(x.Xd (x.lead lo)).length+(x.Xd (x.lead hi)).length<=Vs x:=ae;refine⟨d,g,X1.le,n,A,fs,tb,_,x.lead lo,x.lead hi,Xb,X1,fok,gS,kS,W,λp hp=>((I.Qbk _ gS gg p).mp hp).1,λp hp=>I.Qii _ gS p hp,by show x.S.length<=_;omega,?_,?_,?_,λl es H' Y FY lY rY pY=>?_⟩
  ·show(x.mem (x.lead hi)).length+(x.mem (x.lead lo)).length<=_;omega
  ·show(x.Xd (x.lead hi)).length+(x.Xd (x.lead lo)).length<=_;omega
  ·show tb+(x.Xd (x.lead lo)).length<=_;omega
  ·refine q lo hi cl l es H' N aa (Z5.mono ?_ Y) ((Fb.trans F1).trans FY) (Fb.there l (t1 l lY)) rY pY;show tb+(x.Xd (x.lead lo)).length<=_;omega
 have aq:=go a b (.inl ⟨Xb,Xb⟩);have ar:=go b a (.inr ⟨Xb,Xb⟩);refine⟨_,Xb,n,C,y,_,_,Xb,ob,T.cl,T.members,Wy _,_,Xb,n,C,y,_,_,Xb,ob,T.cl,T.Ws,Ym _,_,Xb,A.l,_,Xb,Xg M.le aS,A.m,_,Xb,Xg M.me ao,_,_,Xb,.inl (Zc.of (M.ml _ ao)),_,Xb,n,C,y,_,_,Xb,ob,T.cl,T.members,Wy _,_,Xb,n,C,y,_,_,Xb,ob,T.cl,T.Ws,Ym _,_,Xb,A.l,_,Xb,Xg M.le bS,A.m,_,Xb,Xg M.me ap,_,_,Xb,.inl (Zc.of (M.ml _ ap)),_,_,Xb,Xb,_,Xb,?_⟩;refine Va (λ_=>?_) (λ_=>?_)
 ·obtain⟨n',A',fs',ad,x',ac,ab,Z,e1,e2,e3,e4,e5,e6⟩:=aq;refine⟨_,Xb,n,y,_,Xb,ob,Qm8 _,_,Xb,_,Xb,n',A',fs',ad,x',ac,ab,Z,e1,e2,e3,e4,e5,λH1 y1 y2 y3=>?_⟩;obtain⟨d,g,J,g1⟩:=e6 H1 y1 y2 y3;exact⟨_,Xb,n,d,_,Xb,g,Qa7 _,_,Xb,n,C,d,_,_,Xb,g,T.cl,T.Ws,Ym _,_,Xb,A.l,_,Xb,Xg J aS,_,Xb,n,C,d,_,_,Xb,g,T.cl,T.Ws,Ym _,_,Xb,A.l,_,Xb,Xg J bS,g1⟩
 ·obtain⟨n',A',fs',ad,x',ac,ab,Z,e1,e2,e3,e4,e5,e6⟩:=ar;refine⟨_,Xb,n,y,_,Xb,ob,Qm8 _,_,Xb,_,Xb,n',A',fs',ad,x',ac,ab,Z,e1,e2,e3,e4,e5,λH1 y1 y2 y3=>?_⟩;obtain⟨d,g,J,g1⟩:=e6 H1 y1 y2 y3;exact⟨_,Xb,n,d,_,Xb,g,Qa7 _,_,Xb,n,C,d,_,_,Xb,g,T.cl,T.Ws,Ym _,_,Xb,A.l,_,Xb,Xg J bS,_,Xb,n,C,d,_,_,Xb,g,T.cl,T.Ws,Ym _,_,Xb,A.l,_,Xb,Xg J aS,g1⟩
end
structure Mgd(fs:List Fm)(x x':Nn)(a b:Nat)(r:Option U3)(pend:List Lk):Prop where
 inv:Xz (Yc fs) (Zk fs) x' pend
 S:x'.S=x.S
 Vs:Vs x'=Vs x
 eq:Cj x.S x'.lead pend a b
 mono:∀p∈x.S,∀q∈x.S,x.lead p=x.lead q->x'.lead p=x'.lead q
 snd:∀E,Ec (Yc fs) (Zk fs) x.S E->Snd E x [(a,b,r)]->Snd E x' pend
 rsn:∀y∈x'.links,y∈x.links\/y=(a,b,r)\/y.2.2=Gg
 pnd:∀y∈pend,y=(a,b,r)\/y.2.2=Gg
 less:cls x'+x'.links.length<=cls x+x.links.length
 more:x.links.length<=x'.links.length
def Qf9(P:Gk)(w:Gv)(C:Gc):Sp:=λvs H Q _=>∃(n:Gc)(A:Na)(fs:List Fm)(tb:Nat)(x:Nn)(a b:Nat)(rv:V)(r:Option U3),vs=[.ref n,jv a,jv b,rv]/\Z5 P w C H n A fs tb x/\Qel fs x.S/\Qnf H rv r/\r≠Gg/\a∈x.S/\b∈x.S/\
 Xz (Yc fs) (Zk fs) x []/\x.S.length<=10000/\Vs x<=10000/\cls x+x.links.length<=10000/\tb+cls x*Vs x<=900000/\
 ∀(c:Nn)(H':Hp),Z5 P w C H' n A fs (tb+(c.links.length - x.links.length)*Vs x) c->Mgd fs x c a b r []->Rb A x.S H H'->Q .non H'
theorem Mgd.start{fs:List Fm}{x:Nn}{a b:Nat}{r:Option U3}(I:Xz (Yc fs) (Zk fs) x [])(c:r≠Gg)(aS:a∈x.S)(bS:b∈x.S):Mgd fs x x a b r [(a,b,r)]:=
 ⟨I.Ql3 (λ_ _ _ h=>by simp at h) λd f g h=>by simp at h;obtain⟨rfl,rfl,rfl⟩:=h;exact⟨aS,bS,λe=>absurd e c⟩,Xb,Xb,.wait (r:=r) (by simp),λ_ _ _ _ e=>e,λE _ h=>h,λy h=>.inl h,λy h=>by simp at h;exact .inl h,Gn _,Gn _⟩
theorem Mgd.drop{fs:List Fm}{x c:Nn}{a b d f:Nat}{r g:Option U3}{pend:List Lk}(M:Mgd fs x c a b r (pend++[(d,f,g)]))(e:c.lead d=c.lead f):Mgd fs x c a b r pend:=by
 obtain⟨aS,bS,_⟩:=M.inv.pnd d f g (by simp);rw[M.S]at aS bS;refine⟨M.inv.drop e,M.S,M.Vs,M.eq.map (λp i q j e=>.lead i j e) (λp q l m=>?_),M.mono,λE X h=>⟨(M.snd E X h).1,λu v s m=>(M.snd E X h).2 u v s (List.mem_append_left _ m)⟩,M.rsn,λy k=>M.pnd y (List.mem_append_left _ k),M.less,M.more⟩;rcases List.mem_append.mp m with m|m
 ·exact .wait m
 ·simp at m;obtain⟨rfl,rfl,rfl⟩:=m;exact .lead aS bS e
theorem Mgd.join{fs:List Fm}{x c:Nn}{a b d f:Nat}{r j:Option U3}{pend:List Lk}(M:Mgd fs x c a b r (pend++[(d,f,j)]))(k:c.lead d≠c.lead f){lo hi:Nat}{cl:List Nat}(i:(lo=d/\hi=f)\/(lo=f/\hi=d))(t:Ch c.up lo cl):
  Mgd fs x (Yh (Yc fs) (Zk fs) c d f j lo hi cl).1 a b r (pend++(Yh (Yc fs) (Zk fs) c d f j lo hi cl).2):=by
 obtain⟨aS,bS,_⟩:=M.inv.pnd d f j (by simp);obtain⟨J,L⟩:=M.inv.join k i t;obtain⟨l1,l2,A,B⟩:=M.inv.less k i t;have w:∀p∈c.S,∀q∈c.S,c.lead p=c.lead q->(Yh (Yc fs) (Zk fs) c d f j lo hi cl).1.lead p=(Yh (Yc fs) (Zk fs) c d f j lo hi cl).1.lead q:=λp l q n e=>by rw[L p l,L q n,e]
 have o:(Yh (Yc fs) (Zk fs) c d f j lo hi cl).1.lead d=(Yh (Yc fs) (Zk fs) c d f j lo hi cl).1.lead f:=by
  rw[L d aS,L f bS];rcases i with⟨rfl,rfl⟩|⟨rfl,rfl⟩
  ·rw[Gm rfl];split<;>rfl
  ·rw[Gm rfl];split<;>rfl
 refine⟨J,M.S,l2.trans M.Vs,M.eq.map (λp l q n e=>.lead l n (w p (M.S▸l) q (M.S▸n) e)) (λp q z m=>?_),λp l q n e=>w p (M.S▸l) q (M.S▸n) (M.mono p l q n e),λE X h=>Snd.join (M.snd E X h) (by rw[M.S];exact X) M.inv k i t,λy g=>?_,λy g=>?_,?_,?_⟩
 ·rcases List.mem_append.mp m with m|m
  ·exact .wait (List.mem_append_left _ m)
  ·simp at m;obtain⟨rfl,rfl,rfl⟩:=m;exact .lead (M.S▸aS) (M.S▸bS) o
 ·have g:y∈c.links++[(d,f,j)]:=g;rcases List.mem_append.mp g with g|g
  ·exact M.rsn y g
  ·rw[List.mem_singleton]at g;subst g;exact .inr (M.pnd _ (by simp))
 ·rcases List.mem_append.mp g with g|g
  ·exact M.pnd y (List.mem_append_left _ g)
  ·obtain⟨u,v,s⟩:=y;exact .inr (Qk8 g)
 ·have:=M.less;omega
 ·have:=M.more;omega
section
variable{P:Gk}{w:Gv}{K:Gd}{mg:Ta->Option Value}{base:Heap}
theorem Qlm:Qv ["self","one","other","reason","waiting","link"] ["self","one","other","reason"] (Qk Qgp):=by eq_refl
theorem Ji{α β:Type}{F:α->β->Prop}:∀{xs:List α}{ys:List β},Paired F xs ys->xs≠[]->∃x y,xs[xs.length - 1]?=Ga x/\ys=ys.dropLast++[y]/\F x y/\Paired F xs.dropLast ys.dropLast
 |_,_,.nil,h=>absurd rfl h
 |_,_,.cons h .nil,_=>⟨_,_,Xb,Xb,h,.nil⟩
 |_,_,.cons h (.cons k t),_=>by
  obtain⟨x,y,a,b,c,d⟩:=Ji (.cons k t) (by simp);refine⟨x,y,?_,?_,c,?_⟩
  ·simpa using a
  ·simp only[List.dropLast_cons_cons,List.cons_append];rw[<-b]
  ·simp only[List.dropLast_cons_cons];exact .cons h d
theorem Qqc{f fE fM:Gc}{ab ac:Tt}(F:Wu K "merge" "Net.merge" Qgp f fd)(T:V5 K mg C)(mE:Z8 K C "equal" fE)(GE:Qr P w K mg base Z3 1 fE ab ["self","one","other"] (Qbs P w C))(bE:Binds K ab ["self","one","other"] [])
  (mM:Z8 K C "merge_link" fM)(GM:Qr P w K mg base Z3 3 fM ac ["self","link"] (Qbc P w C))(bM:Binds K ac ["self","link"] []):
  Qr P w K mg base Z3 4 f fd ["self","one","other","reason"] (Qf9 P w C):=by
 refine F.ok Qlm (λvs H Q E h=>?_) (λcdv A outer s H vs Q E hr h=>?_)
 ·obtain⟨n,A,fs,tb,x,a,b,rv,r,rfl,_⟩:=h;rfl
 obtain⟨n,A,fs,tb,x,a,b,rv,r,rfl,X,fok,ap,ao,aS,bS,I,hS,hT,aw,az,q⟩:=h;have am:Z9 1 _:=hr.mono (by omega);have an:Z9 3 _:=hr.mono (by omega);have nd:=Qlm.nd;refine⟨_,Qd (Qs 4 nd (Zt (Qa (Za (Qa (pv 1) (Qa (pv 2) (Qa (pv 3) Qe)))) Qe)))
  (Qh (Vb Gy (Qi4 (pv 4) (λ_=>rfl))
   (Qd (Qs 5 nd (Qd5 Gs DT DU Qb8 (pv 4)))
   (Qh (Zn (I9 (Xu (Q9 (pv 0) T.cl mE GE am bE .nil Q4 (Qa (Qn Q5 (pv 5) Qj) (Qa (Qn Q5 (pv 5) Qj) Qe)))))
    (Qh (Ze (Xq Gs EB EC O8 (pv 4) (Qa (Q9 (pv 0) T.cl mM GM an bM .nil Q4 (Qa (pv 5) Qe)) Qe)))) Q6))))),?_⟩
 obtain⟨dx,o1⟩:=X.ob;refine⟨_,Xb,_,Xb,_,Xb,by show 3<=Gi;decide,λc hc=>?_⟩;have s1:=Qg hc (.tup [jv a,jv b,rv]);refine⟨by show 1<=Gi;decide,λi af=>?_⟩;have s2:=Qg af (.lst [.ref c]);have L:=s1.trans s2;have D:H i=Gg:=s1.free af;have wO:¬Own A x.S i:=X.Qxg D;have wf:i≠A.f:=λz=>by obtain⟨g,f1,_⟩:=X.fo;rw[z,f1]at D;cases D
 have wn:i≠n:=λz=>by rw[z,o1]at D;cases D
 dsimp only[Vl];refine Qc4 (λm σ H2=>∃(x5:Option V)(g:List V)(d:Nn)(pend:List Lk),m=cls d*(Vs x+1)+pend.length/\σ=[Ga (.ref n),Ga (jv a),Ga (jv b),Ga rv,Ga (.ref i),x5]/\H2 i=Ga (.lst g)/\Paired (Rw H2) g pend/\
   Z5 P w C H2 n A fs (tb+(d.links.length - x.links.length)*Vs x) d/\Mgd fs x d a b r pend/\Rb A x.S H H2/\pend.length<=1+(cls x - cls d)*Vs x)
  ⟨_,Gg,[.ref c],x,[(a,b,r)],Xb,Xb,Qb,.cons ⟨c,rv,Xb,s2 _ _ Qb,ap.Ql (Qt.of L)⟩ .nil,(X.same L).mono (by omega),Mgd.start I ao aS bS,Rb.of L,by simp⟩ ?_ (λσ H Q Q' hQ=>λh=>by obtain⟨v,e1,k,e2,e3⟩:=h;exact⟨v,e1,k,e2,hQ _ _ e3⟩)
 rintro m σ H2 ⟨x5,g,d,pend,rfl,rfl,w2,p2,Y,M,F2,pl⟩;refine⟨_,Xb,_,.inl ⟨g,Zc.of w2,Xb⟩,?_⟩;have au:=Gr p2;have av:=Qq3 x;cases hw:g with
 |nil=>refine Zp ?_;subst hw;cases p2;exact q d H2 Y M F2
 |cons z zs=>
  refine Yr ?_;have al:g≠[]:=by rw[hw];simp
  obtain⟨v,⟨u,y,J⟩,e1,e2,e3,e4⟩:=Ji p2 al;have t:pend.length=pend.dropLast.length+1:=by rw[e2];simp
  obtain⟨c5,aq,rfl,ad,aj⟩:=e3;refine⟨_,Xb,.inl ⟨Xb,_,Zc.of w2⟩,i,g,_,Xb,Xb,w2,e1,?_⟩;have B:Qt H2 (upd H2 i (.lst g.dropLast)):=Zs λxs e=>by rw[w2]at e;cases e
  have O:=M.S;have R:Z5 P w C (upd H2 i (.lst g.dropLast)) n A fs (tb+(d.links.length - x.links.length)*Vs x) d:=Y.keep (λj o e hb=>by
   rw[Qf λz=>?_]
   ·exact e
   ·subst z;rcases hb with hb|hb|hb
    ·rw[O]at hb;exact wO hb
    ·exact wf hb
    ·exact wn hb) B
  have F3:Rb A x.S H (upd H2 i (.lst g.dropLast)):=⟨λj o e hb=>by rw[Qf (Qc e D)];exact F2.keep j o e hb,λj hb=>by
   by_cases e:j=i
   ·subst e;exact D
   ·rw[Qf e]at hb;exact F2.there j hb⟩
  have w3:(upd H2 i (.lst g.dropLast)) i=Ga (.lst g.dropLast):=Qb;have p3:Paired (Rw (upd H2 i (.lst g.dropLast))) g.dropLast pend.dropLast:=L2.Paired.Z7 e4 λ_ _ h=>h.Ql B;have l3:Rw (upd H2 i (.lst g.dropLast)) (.ref c5) (u,y,J):=Rw.Ql B ⟨c5,aq,Xb,ad,aj⟩;have G:=B _ _ ad;generalize upd H2 i (.lst g.dropLast)=H3 at R F3 w3 p3 l3 G;rw[e2]at M;generalize pend.dropLast=pd at M p3 t;obtain⟨ah,ai,_⟩:=M.inv.pnd u y J (by simp);obtain⟨aa,o3⟩:=R.ob;refine⟨_,Xb,n,aa,_,Xb,o3,Qdy _,_,Xb,c5,_,_,_,Xb,Xb,Z2.of G,Ri _ _,_,Xb,c5,_,_,_,Xb,Xb,Z2.of G,Iw _ _ _,n,A,fs,_,d,u,y,Xb,R,ah,ai,_,Xb,?_⟩;by_cases p:d.lead u=d.lead y
  ·rw[GX p];refine Zp ⟨_,?_,_,g.dropLast,d,pd,Xb,Xb,w3,p3,R,M.drop p,F3,by omega⟩;omega
  ·rw[Gz p];refine Yr ?_;have ak:d.links.length - x.links.length<=cls x:=by have:=M.less;omega
   have ar:(d.links.length - x.links.length)*Vs x<=cls x*Vs x:=D0 _ ak;have U:=M.Vs;have aB:g.dropLast.length=pd.length:=Gr p3;have ax:pd.length+Vs x<=1000000:=by have:(cls x - cls d)*Vs x<=cls x*Vs x:=D0 _ (Nat.sub_le _ _);omega
   refine⟨_,Xb,.inl ⟨Xb,_,Zc.of w3⟩,_,Xb,n,aa,_,Xb,o3,Qgy _,_,Xb,n,A,fs,_,d,c5,u,y,J,pd,Xb,R,by rw[O];exact fok,l3,M.inv,p,by rw[O];exact hS,by rw[U];exact hT,by have:=M.less;omega,by rw[U];omega,λlo hi cl l es Z ae hc Y4 W hl r4 p4=>?_⟩;rw[O]at W;have w4:Z i=Ga (.lst g.dropLast):=W.keep _ _ w3 wO;have ay:l≠i:=λz=>by rw[z,w3]at hl;cases hl
   obtain⟨j1,j2,j3,j4⟩:=M.inv.less p ae hc;have aA:es.length<=Vs x:=by rw[Gr p4,<-U];exact j3
   refine⟨i,l,g.dropLast,es,Xb,Xb,w4,r4,small (by omega),?_⟩;have ag:Qt H3 Z:=λj xs e=>W.keep j _ e (by rw[<-O];exact R.Qk4 e);have N:Qt Z (upd Z i (.lst (g.dropLast++es))):=Zs λxs e=>by rw[w4]at e;cases e
   have Y5:Z5 P w C (upd Z i (.lst (g.dropLast++es))) n A fs _ _:=Y4.keep (λj o e hb=>by
    rw[Qf λz=>?_]
    ·exact e
    ·subst z;rcases hb with hb|hb|hb
     ·have hb:Own A d.S j:=hb;rw[O]at hb;exact wO hb
     ·exact wf hb
     ·exact wn hb) N
   have M5:=M.join p ae hc;refine⟨cls (Yh (Yc fs) (Zk fs) d u y J lo hi cl).1*(Vs x+1)+(pd++(Yh (Yc fs) (Zk fs) d u y J lo hi cl).2).length,?_,_,_,_,_,Xb,Xb,Qb,Yq (L2.Paired.Z7 p3 λ_ _ h=>(h.Ql ag).Ql N) (L2.Paired.Z7 p4 λ_ _ h=>h.Ql N),Y5.mono ?_,M5,⟨λj o e hb=>?_,λj hb=>?_⟩,?_⟩
   ·rw[List.length_append,t];have hj:cls (Yh (Yc fs) (Zk fs) d u y J lo hi cl).1+1<=cls d:=j1;have:=D0 (Vs x+1) hj;rw[Ef,Fv]at this;rw[U]at j3;omega
   ·rw[U,j4];have:=M.more;rw[show d.links.length+1 - x.links.length=(d.links.length - x.links.length)+1 by omega,Ef,Fv];omega
   ·rw[Qf (Qc e D)];exact W.keep j o (F3.keep j o e hb) hb
   ·by_cases e:j=i
    ·subst e;exact D
    ·rw[Qf e]at hb;exact F3.there j (W.there j hb)
   ·rw[List.length_append];have h1:cls x - cls d+1<=cls x - cls (Yh (Yc fs) (Zk fs) d u y J lo hi cl).1:=by have:=M.less;have:=M.more;omega
    have:=D0 (Vs x) h1;rw[Ef,Fv]at this;rw[U]at j3;omega
end
def Qev(P:Gk)(w:Gv)(C:Gc):Sp:=λvs H Q _=>∃(n dx f:Gc)(a:List V)(fs:List Fm),vs=[.ref n,.ref f]/\H n=Ga (.ins C dx [])/\H f=Ga (.lst a)/\Paired (Rm H) a fs/\
 ∀(A:Na)(H':Hp),A.f=f->Z5 P w C H' n A fs 0 (fresh (Yc fs) (Zk fs) [])->(∀b o,H b=Ga o->b≠n->H' b=Ga o)->(∀b,Own A [] b->H b=Gg)->Q .non H'
section
variable{P:Gk}{w:Gv}{K:Gd}{mg:Ta->Option Value}{base:Heap}
theorem Qnn:Qv ["self","forms"] ["self","forms"] (Qk Ol):=by eq_refl
theorem Qk3{f0:Gc}(F:Wu K "__init__" "Net.__init__" Ol f0 fd)(T:V5 K mg C):Qr P w K mg base Z3 1 f0 fd ["self","forms"] (Qev P w C):=by
 refine F.ok Qnn (λvs H Q E h=>?_) (λcdv A outer s H vs Q E hr h=>?_)
 ·obtain⟨n,dx,f,ws,fs,rfl,_⟩:=h;rfl
 obtain⟨n,dx,f,ws,fs,rfl,hn,hf,ai,q⟩:=h;refine⟨_,Qd (Yu (pv 0) (pv 1) rfl) (Qd (Yu (pv 0) Uo Xb) (Qd (Yu (pv 0) Uo Xb) (Qd (Yu (pv 0) Uo Xb) (Qd (Yu (tv:=Qkw P w) (pv 0) Oj Xb) (Qd (Yu (pv 0) (Zt Qe) rfl) (Qd (Yu (pv 0) Ov Xb) (Qh (Yu (pv 0) Uo Xb)))))))),?_⟩;have st:∀{H0:Hp}{b a:Gc}{o oa:HO}{fs':List (Ta×V)},H0 b=Ga o->b≠n->H0 a=Gg->(upd (upd H0 a oa) n (.ins C dx fs')) b=Ga o:=λe hb ha=>by rw[Qf hb,Qf (Qc e ha)];exact e
 have sn:∀{H0:Hp}{a:Gc}{oa:HO}{fs':List (Ta×V)}{o:HO},H0 n=Ga o->H0 a=Gg->(upd (upd H0 a oa) n (.ins C dx fs')) a=Ga oa:=λe ha=>by rw[Qf (Gp (Qc e ha)),Qb]
 refine⟨_,Xb,_,Xb,n,C,dx,[],Xb,hn,T.cl,T.Qd4,by show 0<1000;decide,?_⟩;have fn:f≠n:=Yb hf hn nofun;have g0:∀b o,H b=Ga o->b≠n->(upd H n (.ins C dx (Yg "forms" (.ref f) []))) b=Ga o:=λb o e hb=>by rw[Qf hb];exact e
 have n0:(upd H n (.ins C dx (Yg "forms" (.ref f) []))) n=Ga (.ins C dx (Yg "forms" (.ref f) [])):=Qb;have t0:∀b,(upd H n (.ins C dx (Yg "forms" (.ref f) []))) b=Gg->H b=Gg:=λb hb=>by
  by_cases e:b=n
  ·subst e;rw[Qb]at hb;cases hb
  ·rw[Qf e]at hb;exact hb
 generalize upd H n (.ins C dx (Yg "forms" (.ref f) []))=H0 at g0 n0 t0;have tt:∀{H0:Hp}{a:Gc}{oa:HO}{fs':List (Ta×V)},(∀b,H0 b=Gg->H b=Gg)->∀b,(upd (upd H0 a oa) n (.ins C dx fs')) b=Gg->H b=Gg:=λh b hb=>by
  refine h b ?_;by_cases e:b=n
  ·subst e;rw[Qb]at hb;cases hb
  ·rw[Qf e]at hb
   rename_i H0 a oa fs'
   by_cases e2:b=a
   ·subst e2;rw[Qb]at hb;cases hb
   ·rw[Qf e2]at hb;exact hb
 intro c J;refine⟨_,Xb,n,C,dx,_,Xb,(by rw[Qf (Qc n0 J)];exact n0),T.cl,T.Ws,by show 1<1000;decide,?_⟩;have l1:=@sn H0 c (.dK []) (Yg "leads" (.ref c) (Yg "forms" (.ref f) [])) _ n0 J;have n1:=@Qb (upd H0 c (.dK [])) n (.ins C dx (Yg "leads" (.ref c) (Yg "forms" (.ref f) [])));have g1:∀b o,H b=Ga o->b≠n->_:=λb o e hb=>@st H0 b c o (.dK []) (Yg "leads" (.ref c) (Yg "forms" (.ref f) [])) (g0 b o e hb) hb J;have t1:=@tt H0 c (.dK []) (Yg "leads" (.ref c) (Yg "forms" (.ref f) [])) t0;have ln:c≠n:=Gp (Qc n0 J);have ae:=t0 _ J;generalize upd (upd H0 c (.dK [])) n (.ins C dx (Yg "leads" (.ref c) (Yg "forms" (.ref f) [])))=H1 at l1 n1 g1 t1⊢;intro g B;refine⟨_,Xb,n,C,dx,_,Xb,(by rw[Qf (Qc n1 B)];exact n1),T.cl,T.members,by show 2<1000;decide,?_⟩;generalize D:Yg "members" (.ref g) (Yg "leads" (.ref c) (Yg "forms" (.ref f) []))=X;have m2:=@sn H1 g (.dK []) X _ n1 B;have n2:=@Qb (upd H1 g (.dK [])) n (.ins C dx X);have g2:∀b o,H b=Ga o->b≠n->_:=λb o e hb=>@st H1 b g o (.dK []) X (g1 b o e hb) hb B;have t2:=@tt H1 g (.dK []) X t1;have mn:g≠n:=Gp (Qc n1 B);have af:=t1 _ B;have l2:=@st H1 c g _ (.dK []) X l1 ln B;have lm:c≠g:=Qc l1 B;generalize upd (upd H1 g (.dK [])) n (.ins C dx X)=H2 at m2 n2 g2 t2 l2⊢;intro l r;refine⟨_,Xb,n,C,dx,_,Xb,(by rw[Qf (Qc n2 r)];exact n2),T.cl,T.Qey,by rw[<-D];show 3<1000;decide,?_⟩;generalize I:Yg "users" (.ref l) X=U;have u3:=@sn H2 l (.dK []) U _ n2 r;have n3:=@Qb (upd H2 l (.dK [])) n (.ins C dx U);have g3:∀b o,H b=Ga o->b≠n->_:=λb o e hb=>@st H2 b l o (.dK []) U (g2 b o e hb) hb r;have t3:=@tt H2 l (.dK []) U t2;have un:l≠n:=Gp (Qc n2 r);have ag:=t2 _ r;have l3:=@st H2 c l _ (.dK []) U l2 ln r;have m3:=@st H2 g l _ (.dK []) U m2 mn r;have lu:c≠l:=Qc l2 r;have mu:g≠l:=Qc m2 r;generalize upd (upd H2 l (.dK [])) n (.ins C dx U)=W at u3 n3 g3 t3 l3 m3⊢;intro at_ v;refine⟨_,Xb,n,C,dx,_,Xb,(by rw[Qf (Qc n3 v)];exact n3),T.cl,T.table,by rw[<-I,<-D];show 4<1000;decide,Gx _,?_⟩;generalize S:Yg "table" (.ref at_) U=N;have d4:=@sn W at_ (Um P w at_ []) N _ n3 v;have n4:=@Qb (upd W at_ (Um P w at_ [])) n (.ins C dx N);have g4:∀b o,H b=Ga o->b≠n->_:=λb o e hb=>@st W b at_ o (Um P w at_ []) N (g3 b o e hb) hb v;have t4:=@tt W at_ (Um P w at_ []) N t3;have dn:at_≠n:=Gp (Qc n3 v);have ab:=t3 _ v;have l4:=@st W c at_ _ (Um P w at_ []) N l3 ln v;have m4:=@st W g at_ _ (Um P w at_ []) N m3 mn v;have u4:=@st W l at_ _ (Um P w at_ []) N u3 un v;generalize upd (upd W at_ (Um P w at_ [])) n (.ins C dx N)=O at d4 n4 g4 t4 l4 m4 u4⊢;intro t m;refine⟨_,Xb,n,C,dx,_,Xb,(by rw[Qf (Qc n4 m)];exact n4),T.cl,T.links,by rw[<-S,<-I,<-D];show 5<1000;decide,?_⟩;generalize Z:Yg "links" (.ref t) N=L;have k5:=@sn O t (.lst []) L _ n4 m;have n5:=@Qb (upd O t (.lst [])) n (.ins C dx L);have g5:∀b o,H b=Ga o->b≠n->_:=λb o e hb=>@st O b t o (.lst []) L (g4 b o e hb) hb m;have t5:=@tt O t (.lst []) L t4;have kn:t≠n:=Gp (Qc n4 m);have Y:=t4 _ m;have l5:=@st O c t _ (.lst []) L l4 ln m;have m5:=@st O g t _ (.lst []) L m4 mn m;have u5:=@st O l t _ (.lst []) L u4 un m;have d5:=@st O at_ t _ (.lst []) L d4 dn m;generalize upd (upd O t (.lst [])) n (.ins C dx L)=M at k5 n5 g5 t5 l5 m5 u5 d5⊢;intro u d;refine⟨_,Xb,n,C,dx,_,Xb,(by rw[Qf (Qc n5 d)];exact n5),T.cl,T.Qby,by rw[<-Z,<-S,<-I,<-D];show 6<1000;decide,?_⟩;generalize ac:Yg "link_at" (.ref u) L=G;have a6:=@sn M u (.dT []) G _ n5 d;have n6:=@Qb (upd M u (.dT [])) n (.ins C dx G);have g6:∀b o,H b=Ga o->b≠n->_:=λb o e hb=>@st M b u o (.dT []) G (g5 b o e hb) hb d;have t6:=@tt M u (.dT []) G t5;have an:u≠n:=Gp (Qc n5 d);have ad:=t5 _ d;have l6:=@st M c u _ (.dT []) G l5 ln d;have m6:=@st M g u _ (.dT []) G m5 mn d;have u6:=@st M l u _ (.dT []) G u5 un d;have d6:=@st M at_ u _ (.dT []) G d5 dn d;have k6:=@st M t u _ (.dT []) G k5 kn d;generalize upd (upd M u (.dT [])) n (.ins C dx G)=H6 at a6 n6 g6 t6 l6 m6 u6 d6 k6⊢;intro R x;refine⟨_,Xb,n,C,dx,_,Xb,(by rw[Qf (Qc n6 x)];exact n6),T.cl,T.above,by rw[<-ac,<-Z,<-S,<-I,<-D];show 7<1000;decide,?_⟩;have ah:Yg "above" (.ref R) G=Y0 ⟨f,c,g,l,at_,t,u,R,λ_=>0,λ_=>0⟩:=by rw[<-ac,<-Z,<-S,<-I,<-D];rfl
 rw[ah];have v7:=@sn H6 R (.dK []) (Y0 ⟨f,c,g,l,at_,t,u,R,λ_=>0,λ_=>0⟩) _ n6 x;have g7:∀b o,H b=Ga o->b≠n->_:=λb o e hb=>@st H6 b R o (.dK []) (Y0 ⟨f,c,g,l,at_,t,u,R,λ_=>0,λ_=>0⟩) (g6 b o e hb) hb x;have s7:∀{b o},H6 b=Ga o->b≠n->_:=λ{b o}e hb=>@st H6 b R o (.dK []) (Y0 ⟨f,c,g,l,at_,t,u,R,λ_=>0,λ_=>0⟩) e hb x;refine q ⟨f,c,g,l,at_,t,u,R,λ_=>0,λ_=>0⟩ _ rfl ⟨⟨dx,Qb⟩,⟨ws,g7 _ _ hf fn,L2.Paired.Z7 ai λ_ _ h=>h.Ql λb xs e=>g7 b _ e (Yb e hn nofun)⟩,s7 l6 ln,s7 m6 mn,s7 u6 un,⟨[],⟨s7 d6 dn,(λp y=>nomatch y)⟩,Gn _,λk=>rfl⟩,⟨[],s7 k6 kn,.nil⟩,⟨[],s7 a6 an,Gn _,λi j=>rfl⟩,v7,(λp y=>nomatch y),(λp y=>nomatch y),
  ⟨lm,lu,Qc l6 x,mu,Qc m6 x,Qc u6 x,λz=>?_,(λp y=>nomatch y),(λp y=>nomatch y),(λp y=>nomatch y),(λp y=>nomatch y),(λp y=>nomatch y)⟩⟩ g7 (λb hb=>?_)
 ·have z:t=f:=z;rw[z,hf]at Y;cases Y
 ·rcases hb with rfl|rfl|rfl|rfl|rfl|rfl|rfl|⟨p,y,_⟩
  ·exact ae
  ·exact af
  ·exact ag
  ·exact ab
  ·exact Y
  ·exact ad
  ·exact t6 _ x
  ·exact nomatch y
end
end K05
namespace Nt
theorem Qeo{pt:Nat->List Nat}{M:Nat}(h:∀p,(pt p).length<=M):∀(S:List Nat)(q:Nat),(Yw pt S q).length<=S.length*M
 |[],q=>by simp[Yw]
 |p::S,q=>by have a:=Qeo h S q;have h1:((pt p).count q)<=(pt p).length:=List.count_le_length;have h2:=h p;unfold Yw at a⊢;rw[List.flatMap_cons,List.length_append,List.length_replicate,List.length_cons,Ef];omega
theorem Qkg{pt:Nat->List Nat}{S:List Nat}{p:Nat}(h:∀q∈S,p∉pt q):Yw pt S p=[]:=by unfold Yw;rw[List.flatMap_eq_nil_iff];intro q a;have:(pt q).count p=0:=List.count_eq_zero.mpr (h q a);rw[this];rfl
theorem Qbl{l:List Nat}{i u q:Nat}(h:l[i]?=Ga u):(l.take (i+1)).count q=(l.take i).count q+if u=q then 1 else 0:=by
 rw[List.take_add_one,h,List.count_append];congr 1;simp only[Option.toList];rw[List.count_singleton];by_cases e:u=q
 ·rw[Gm e];simp[e]
 ·rw[Gh e];simp[e]
end Nt
namespace K05
open PySem L2 Sb Nt
variable{A:Na}{S:List Nat}{H:Hp}{C:Gc}
structure Qyi(fs:List Fm)(rk:Nat->Nat):Prop where
 str:∀p,TU (Yc fs p)=Gf
 few:∀p,(Zk fs p).length<=100
 pts:∀p,p<fs.length->∀q∈Zk fs p,q<fs.length/\rk q<rk p
 inj:∀p q,p<fs.length->q<fs.length->Yc fs p=Yc fs q->Zk fs p=Zk fs q->p=q
 len:fs.length<=1000
structure Frs(P:Gk)(w:Gv)(C:Gc)(H:Hp)(n:Gc)(A:Na)(fs:List Fm)(S:List Nat):Prop where
 at_:Z5 P w C H n A fs S.length (fresh (Yc fs) (Zk fs) S)
 nd:S.Nodup
 cl:∀p∈S,∀q∈Zk fs p,q∈S
 lt:∀p∈S,p<fs.length
structure FrT(A:Na)(S:List Nat)(A':Na)(S':List Nat)(H H':Hp):Prop where
 keep:∀b o,H b=Ga o->¬Own A S b->H' b=Ga o
 own:∀b,Own A' S' b->Own A S b\/H b=Gg
 there:∀b,H' b=Gg->H b=Gg
theorem FrT.refl:FrT A S A S H H:=⟨λ_ _ e _=>e,λ_ h=>.inl h,λ_ h=>h⟩
theorem FrT.trans{a c:Na}{S1 S2:List Nat}{H1 H2:Hp}(x:FrT A S a S1 H H1)(y:FrT a S1 c S2 H1 H2):FrT A S c S2 H H2:=by
 refine⟨λb o e h=>y.keep b o (x.keep b o e h) λz=>?_,λb h=>?_,λb h=>x.there b (y.there b h)⟩
 ·rcases x.own b z with z|z
  ·exact h z
  ·rw[e]at z;cases z
 ·rcases y.own b h with h|h
  ·exact x.own b h
  ·exact .inr (x.there b h)
def na(A:Na)(ml ul:Nat->Gc):Na:={A with ml:=ml,ul:=ul}
def Qal(P:Gk)(w:Gv)(C:Gc)(k:Nat):Sp:=λvs H Q _=>∃(n:Gc)(A:Na)(fs:List Fm)(b:Nat->Nat)(S:List Nat)(p:Nat),vs=[.ref n,jv p]/\Frs P w C H n A fs S/\Qyi fs b/\p<fs.length/\b p<k/\
 ∀(a:List Nat)(ml ul:Nat->Gc)(H':Hp),Frs P w C H' n (na A ml ul) fs a->(∀q∈S,q∈a)->p∈a->(∀q∈a,q∈S\/b q<=b p)->FrT A S (na A ml ul) a H H'->Q .non H'
section
variable{P:Gk}{w:Gv}{K:Gd}{mg:Ta->Option Value}{base:Heap}
theorem Qhk:Qv ["self","place","part"] ["self","place"] (Qk Rz):=by eq_refl
theorem Qul{P:Gk}{w:Gv}{n:Gc}{fs:List Fm}{p:Nat}{m0 u0:Gc}(X:Z5 P w C H n A fs S.length (fresh (Yc fs) (Zk fs) S))(W:p∉S)(V:H m0=Gg)(Y:H u0=Gg)(j:m0≠u0)(t:Yw (Zk fs) S p=[]):
  Z5 P w C (upd (upd (upd (upd (upd (upd H A.l (.dK (dS (S++[p]) λq=>jv q))) m0 (.lst [jv p])) A.m (.dK (dS (S++[p]) λq=>.ref (if q=p then m0 else A.ml q)))) u0 (.lst [])) A.u (.dK (dS (S++[p]) λq=>.ref (if q=p then u0 else A.ul q)))) A.v (.dK (dS (S++[p]) λ_=>.non)))
   n (na A (λq=>if q=p then m0 else A.ml q) (λq=>if q=p then u0 else A.ul q)) fs S.length {fresh (Yc fs) (Zk fs) (S++[p])with Xd:=Yw (Zk fs) S,tab:=Qa5 (Yc fs) (Zk fs) S}:=by
 obtain⟨dx,o1⟩:=X.ob;obtain⟨ws,x,R⟩:=X.fo;obtain⟨kvs,D,O,Q⟩:=X.ta;obtain⟨ls,l1,l2⟩:=X.li;obtain⟨Z,M,N⟩:=X.at_;have g:∀{b o},H b=Ga o->b≠m0:=λe=>Qc e V;have nu:∀{b o},H b=Ga o->b≠u0:=λe=>Qc e Y;have u:∀{b o},H b=Ga o->b≠A.l->b≠A.m->b≠A.u->b≠A.v->(upd (upd (upd (upd (upd (upd H A.l (.dK (dS (S++[p]) λq=>jv q))) m0 (.lst [jv p])) A.m (.dK (dS (S++[p]) λq=>.ref (if q=p then m0 else A.ml q)))) u0 (.lst [])) A.u (.dK (dS (S++[p]) λq=>.ref (if q=p then u0 else A.ul q)))) A.v (.dK (dS (S++[p]) λ_=>.non))) b=Ga o:=λe h1 h2 T U=>by rw[Qf U,Qf T,Qf (nu e),Qf h2,Qf (g e),Qf h1];exact e
 have no:∀{b o},H b=Ga o->(∀kvs,o≠.dK kvs)->b≠A.l/\b≠A.m/\b≠A.u/\b≠A.v:=λe h=>⟨Yb e X.le (h _),Yb e X.me (h _),Yb e X.us (h _),Yb e X.ab (h _)⟩;have i:∀{b o},H b=Ga o->(∀kvs,o≠.dK kvs)->_:=λ{b o}e h=>u e (no e h).1 (no e h).2.1 (no e h).2.2.1 (no e h).2.2.2;have G:Qt H _:=λb xs e=>i e (λ_ z=>nomatch z);have y:=g X.le;have E:=g X.me;have I:=g X.us;have K:=g X.ab;have B:=nu X.le;have F:=nu X.me;have J:=nu X.us;have L:=nu X.ab;have ne:∀q∈S,q≠p:=λq a z=>W (z▸a);refine⟨⟨dx,i o1 (λ_ z=>nomatch z)⟩,⟨ws,i x (λ_ z=>nomatch z),L2.Paired.Z7 R λ_ _ h=>h.Ql G⟩,?_,?_,?_,⟨kvs,⟨i D.at_ (λ_ z=>nomatch z),Zg G D.keys⟩,O,Q⟩,⟨ls,i l1 (λ_ z=>nomatch z),L2.Paired.Z7 l2 λ_ _ h=>h.Ql G⟩,⟨Z,i M (λ_ z=>nomatch z),N⟩,Qb,λq a=>?_,λq a=>?_,⟨X.ap.lm,X.ap.lu,X.ap.lv,X.ap.mu,X.ap.mv,X.ap.uv,X.ap.kf,λq a r s=>?_,λq a r s=>?_,λq a r s=>?_,λq a=>?_,λq a=>?_⟩⟩
 ·show(upd _ A.v _) A.l=Ga (HO.dK (dS (S++[p]) λq=>jv q));rw[Qf X.ap.lv,Qf X.ap.lu,Qf B,Qf X.ap.lm,Qf y,Qb]
 ·show(upd _ A.v _) A.m=Ga (HO.dK (dS (S++[p]) λq=>.ref (if q=p then m0 else A.ml q)));rw[Qf X.ap.mv,Qf X.ap.mu,Qf F,Qb]
 ·show(upd _ A.v _) A.u=Ga (HO.dK (dS (S++[p]) λq=>.ref (if q=p then u0 else A.ul q)));rw[Qf X.ap.uv,Qb]
 ·show(upd _ A.v _) (if q=p then m0 else A.ml q)=Ga (.lst [jv q]);rcases List.mem_append.mp a with a|a
  ·rw[Gh (ne q a)];exact i (X.ml q a) (λ_ z=>nomatch z)
  ·have:q=p:=by simpa using a
   subst this;rw[Gm Xb,Qf (Gp K),Qf (Gp I),Qf j,Qf (Gp E),Qb]
 ·show(upd _ A.v _) (if q=p then u0 else A.ul q)=Ga (.lst ((Yw (Zk fs) S q).map jv));rcases List.mem_append.mp a with a|a
  ·rw[Gh (ne q a)];exact i (X.ul q a) (λ_ z=>nomatch z)
  ·have:q=p:=by simpa using a
   subst this;rw[Gm Xb,t,Qf (Gp L),Qf (Gp J),Qb];rfl
 ·show(if q=p then m0 else A.ml q)=(if r=p then m0 else A.ml r)->q=r;rcases List.mem_append.mp a with c|c<;>rcases List.mem_append.mp s with d|d
  ·rw[Gh (ne q c),Gh (ne r d)];exact X.ap.mm q c r d
  ·have:r=p:=by simpa using d
   subst this;rw[Gh (ne q c),Gm rfl];intro z;exact absurd z (g (X.ml q c))
  ·have:q=p:=by simpa using c
   subst this;rw[Gh (ne r d),Gm rfl];intro z;exact absurd z.symm (g (X.ml r d))
  ·intro _;have h1:q=p:=by simpa using c
   have h2:r=p:=by simpa using d
   rw[h1,h2]
 ·show(if q=p then u0 else A.ul q)=(if r=p then u0 else A.ul r)->q=r;rcases List.mem_append.mp a with c|c<;>rcases List.mem_append.mp s with d|d
  ·rw[Gh (ne q c),Gh (ne r d)];exact X.ap.uu q c r d
  ·have:r=p:=by simpa using d
   subst this;rw[Gh (ne q c),Gm rfl];intro z;exact absurd z (nu (X.ul q c))
  ·have:q=p:=by simpa using c
   subst this;rw[Gh (ne r d),Gm rfl];intro z;exact absurd z.symm (nu (X.ul r d))
  ·intro _;have h1:q=p:=by simpa using c
   have h2:r=p:=by simpa using d
   rw[h1,h2]
 ·show(if q=p then m0 else A.ml q)≠(if r=p then u0 else A.ul r);rcases List.mem_append.mp a with c|c<;>rcases List.mem_append.mp s with d|d
  ·rw[Gh (ne q c),Gh (ne r d)];exact X.ap.mul q c r d
  ·have:r=p:=by simpa using d
   subst this;rw[Gh (ne q c),Gm rfl];exact nu (X.ml q c)
  ·have:q=p:=by simpa using c
   subst this;rw[Gh (ne r d),Gm rfl];exact Gp (g (X.ul r d))
  ·have h1:q=p:=by simpa using c
   have h2:r=p:=by simpa using d
   rw[Gm h1,Gm h2];exact j
 ·show(if q=p then m0 else A.ml q)≠A.k/\(if q=p then m0 else A.ml q)≠A.f;rcases List.mem_append.mp a with a|a
  ·rw[Gh (ne q a)];exact X.ap.mkf q a
  ·have:q=p:=by simpa using a
   rw[Gm this];exact⟨Gp (g l1),Gp (g x)⟩
 ·show(if q=p then u0 else A.ul q)≠A.k/\(if q=p then u0 else A.ul q)≠A.f;rcases List.mem_append.mp a with a|a
  ·rw[Gh (ne q a)];exact X.ap.ukf q a
  ·have:q=p:=by simpa using a
   rw[Gm this];exact⟨Gp (nu l1),Gp (nu x)⟩
end
section
variable{P:Gk}{w:Gv}{K:Gd}{mg:Ta->Option Value}{base:Heap}
theorem Zz{b c:Gc}{o:HO}(h:upd H b o c=Gg):H c=Gg:=by
 by_cases e:c=b
 ·subst e;rw[Qb]at h;cases h
 ·rw[Qf e]at h;exact h
theorem Qi{b c:Gc}{o u:HO}(e:H c=Ga u)(h:c≠b):upd H b o c=Ga u:=by rw[Qf h];exact e
theorem Qua{k:Nat}{f fK:Gc}{fd ag:Tt}(F:Wu K "take_in" "Net.take_in" Rz f fd)(T:V5 K mg C)(mT:Z8 K C "take_in" f)(bT:Binds K fd ["self","place"] [])(G:Qr P w K mg base Z3 (k+1) f fd ["self","place"] (Qal P w C k))
  (mK:Z8 K C "key_of" fK)(GK:Qr P w K mg base Z3 1 fK ag ["self","place"] (Qb5 P w C))(bK:Binds K ag ["self","place"] []):Qr P w K mg base Z3 (k+2) f fd ["self","place"] (Qal P w C (k+1)):=by
 refine F.ok Qhk (λvs H Q E h=>?_) (λcdv A outer s H vs Q E g h=>?_)
 ·obtain⟨n,A,fs,rk,S,p,rfl,_⟩:=h;rfl
 obtain⟨n,A,fs,rk,S,p,rfl,X,tk,hp,hk,q⟩:=h;have O:=Ul g;have aj:=g.units;have aB:Z9 1 _:=g.mono (by omega);have nd:=Qhk.nd;refine⟨_,Qd (Zn (Rj (Qj6 O (pv 1) (Qm (pv 0) rfl))) (Qh Qtt) Q6)
  (Qd (Ye Gy rfl (Ue (Qn Q5 (Qn Zi (Qm (pv 0) rfl) (pv 1)) Qj)) (Ya 2 nd)
   (Qh (Ze (Q9 (pv 0) T.cl mT G g bT .nil Q4 (Qa (pv 2) Qe)))))
  (Qd (Wm O (Qm (pv 0) rfl) (pv 1) (pv 1) rfl)
  (Qd (Wm O (Qm (pv 0) rfl) (pv 1) (Zt (Qa (pv 1) Qe)) rfl)
  (Qd (Wm O (Qm (pv 0) rfl) (pv 1) (Zt Qe) rfl)
  (Qd (Wm O (Qm (pv 0) rfl) (pv 1) Uh Xb)
  (Qd (Ye Gy rfl (Ue (Qn Q5 (Qn Zi (Qm (pv 0) rfl) (pv 1)) Qj)) (Ya 2 nd)
   (Qh (Ze (Xq Gs GF GV Z0 (Zr O (Qm (pv 0) rfl) (pv 2) (λ_ _=>rfl)) (Qa (pv 1) Qe)))))
  (Qh (O0 (pv 1) (Qcc (Qm (pv 0) rfl) (Q9 (pv 0) T.cl mK GK aB bK .nil Q4 (Qa (pv 1) Qe)) (Qdq aj)))))))))),?_⟩
 obtain⟨dx,o1⟩:=X.at_.ob;have aQ:S.length<=fs.length:=Xf (S:=List.range fs.length) X.nd (λr g=>List.mem_range.mpr (X.lt r g))|>λh=>by rw[List.length_range]at h;exact h
 have aU:=tk.len;have gl:Wr H A.l (jv p) (Yy (dS S λr=>jv r) (ki p)):=Wr.k (k:=ki p) X.at_.le;refine⟨_,Xb,_,Xb,n,C,dx,_,_,Xb,o1,T.cl,T.Ws,Ym _,A.l,_,Xb,gl,_,Xb,?_⟩;rw[Qmo];by_cases U:p∈S
 ·rw[GX U];refine Yr ?_;exact q S A.ml A.ul H X (λ_ h=>h) U (λr h=>.inl h) FrT.refl
 rw[Gz U];refine Zp ?_;obtain⟨ws,f1,f2⟩:=X.at_.fo;have hw:p<ws.length:=by rw[Gr f2];exact hp
 obtain⟨y,hy,c,e,ec,h1,h2⟩:=Qx f2 (List.getElem?_eq_getElem hw);rw[Qfn hp]at hy;cases hy;have few:=tk.few p;refine⟨_,Xb,n,C,dx,_,_,Xb,o1,T.cl,T.Qd4,Up _,_,Xb,A.f,ws,_,_,Xb,Xb,Zc.of f1,Qy (List.getElem?_eq_getElem hw),c,_,_,_,ec,Xb,Z2.of h1,Iw _ _ _,e,Xb,⟨_,Z2.of h2⟩,Qft (K:=K) (a:=e) (xs:=(Zk fs p).map jv)
  (λi σ H2=>∃(x2:Option V)(S2:List Nat)(ml ul:Nat->Gc),σ=[Ga (.ref n),Ga (jv p),x2]/\Frs P w C H2 n (na A ml ul) fs S2/\(∀r∈S,r∈S2)/\(∀r∈(Zk fs p).take i,r∈S2)/\(∀r∈S2,r∈S\/rk r<rk p)/\FrT A S (na A ml ul) S2 H H2)
  ⟨_,S,A.ml,A.ul,Xb,X,λ_ h=>h,by simp,λr h=>.inl h,FrT.refl⟩ (λi σ H2 _⟨_,_,_,_,_,_,_,_,_,F2⟩=>Z2.of (F2.keep _ _ h2 (X.at_.Qk4 h2))) ?_ ?_⟩
 ·rintro i y σ H2 hi ⟨x2,S2,ml,ul,rfl,d,sub,done,Z,F2⟩;rw[List.getElem?_map]at hi;cases eq:(Zk fs p)[i]? with
  |none=>rw[eq]at hi;cases hi
  |some r=>
   rw[eq]at hi;cases hi;obtain⟨rl,rr⟩:=tk.pts p hp r (List.mem_of_getElem? eq);obtain⟨j,o2⟩:=d.at_.ob;refine⟨_,Xb,n,j,_,Xb,o2,Qag _,_,Xb,n,na A ml ul,fs,rk,S2,r,Xb,d,tk,rl,by omega,λS3 aG aM H3 X3 aa r3 aJ F3=>?_⟩;refine⟨_,S3,aG,aM,Xb,X3,λt N=>aa t (sub t N),λt N=>?_,λt N=>?_,F2.trans F3⟩
   ·rw[List.take_add_one,eq]at N;rcases List.mem_append.mp N with N|N
    ·exact aa t (done t N)
    ·have:t=r:=by simpa using N
     rw[this];exact r3
   ·rcases aJ t N with h|h
    ·exact Z t h
    ·exact .inr (by omega)
 rintro σ H2 ⟨x2,S2,ml,ul,rfl,d,sub,done,Z,F2⟩;rw[List.length_map,List.take_length]at done;have x:p∉S2:=λz=>by
  rcases Z p z with h|h
  ·exact U h
  ·omega
 have aV:S2.length<=1000:=by have:=Xf (S:=List.range fs.length) d.nd (λr g=>List.mem_range.mpr (d.lt r g));rw[List.length_range]at this;omega
 have az:Yw (Zk fs) S2 p=[]:=Qkg λr g z=>x (d.cl r g p z);obtain⟨j,o2⟩:=d.at_.ob;have ay:(dS S2 λr=>jv r).length<Gi:=by rw[Wz,GQ];omega
 have aD:H2 A.l=Ga (.dK (dS S2 λr=>jv r)):=d.at_.le;have aE:H2 A.m=Ga (.dK (dS S2 λr=>.ref (ml r))):=d.at_.me;have aN:H2 A.u=Ga (.dK (dS S2 λr=>.ref (ul r))):=d.at_.us;have ao:H2 A.v=Ga (.dK (dS S2 λ_=>.non)):=d.at_.ab;have k1:=Iv.k (k:=ki p) (v:=jv p) aD ay;rw[Qad x]at k1;have e1:(dS (S2++[p]) λr=>if r=p then jv p else jv r)=dS (S2++[p]) λr=>jv r:=Wk λr _=>by
  by_cases h:r=p
  ·rw[Gm h,h]
  ·rw[Gh h]
 rw[e1]at k1;refine⟨_,Xb,_,Xb,n,C,j,_,_,Xb,o2,T.cl,T.Ws,Ym _,_,Xb,A.l,_,Xb,k1,?_⟩;have nl:n≠A.l:=Yb o2 d.at_.le nofun;have o3:(upd H2 A.l (.dK (dS (S2++[p]) λr=>jv r))) n=Ga (.ins C j (Y0 A)):=by rw[Qf nl];exact o2
 refine⟨_,Xb,by show 1<=Gi;decide,λm0 D=>?_⟩;have s3:=Qg D (.lst [jv p]);have ae:H2 m0=Gg:=by
  by_cases h:m0=A.l
  ·subst h;rw[Qb]at D;cases D
  ·rw[Qf h]at D;exact D
 have aF:(upd H2 A.l (.dK (dS (S2++[p]) λr=>jv r))) A.m=Ga (.dK (dS S2 λr=>.ref (ml r))):=Qi aE (Gp d.at_.ap.lm);have k2:=Iv.k (k:=ki p) (v:=.ref m0) (s3 _ _ aF) (by rw[Wz,GQ];omega);rw[Qad x]at k2;have e2:(dS (S2++[p]) λr=>if r=p then V.ref m0 else .ref (ml r))=dS (S2++[p]) λr=>.ref (if r=p then m0 else ml r):=Wk λr _=>by split<;>rfl
 rw[e2]at k2;refine⟨_,Xb,n,C,j,_,_,Xb,s3 _ _ o3,T.cl,T.members,Wy _,_,Xb,A.m,_,Xb,k2,?_⟩;have aH:n≠A.m:=Yb o2 d.at_.me nofun;generalize ad:upd (upd (upd H2 A.l (.dK (dS (S2++[p]) λr=>jv r))) m0 (.lst [jv p])) A.m (.dK (dS (S2++[p]) λr=>.ref (if r=p then m0 else ml r)))=Hc;have cA:∀{b o},H2 b=Ga o->b≠A.l->b≠A.m->Hc b=Ga o:=λe h1 h2=>by rw[<-ad,Qf h2,Qf (Qc e ae),Qf h1];exact e
 have cN:∀{b},Hc b=Gg->H2 b=Gg/\b≠m0:=λ{b}h=>by
  rw[<-ad]at h;by_cases h1:b=A.m
  ·subst h1;rw[Qb]at h;cases h
  ·rw[Qf h1]at h;by_cases h2:b=m0
   ·subst h2;rw[Qb]at h;cases h
   ·rw[Qf h2]at h;by_cases h3:b=A.l
    ·subst h3;rw[Qb]at h;cases h
    ·rw[Qf h3]at h;exact⟨h,h2⟩
 have o4:=cA o2 nl aH;refine⟨Gx _,λu0 ai=>?_⟩;obtain⟨am,aK⟩:=cN ai;have s5:=Qg ai (.lst []);have aL:=cA aN (Gp d.at_.ap.lu) (Gp d.at_.ap.mu);have k3:=Iv.k (k:=ki p) (v:=.ref u0) (s5 _ _ aL) (by rw[Wz,GQ];omega);rw[Qad x]at k3;have e3:(dS (S2++[p]) λr=>if r=p then V.ref u0 else .ref (ul r))=dS (S2++[p]) λr=>.ref (if r=p then u0 else ul r):=Wk λr _=>by split<;>rfl
 rw[e3]at k3;refine⟨_,Xb,n,C,j,_,_,Xb,s5 _ _ o4,T.cl,T.Qey,J0 _,_,Xb,A.u,_,Xb,k3,?_⟩;have nu:n≠A.u:=Yb o2 d.at_.us nofun;have o5:(upd (upd Hc u0 (.lst [])) A.u (.dK (dS (S2++[p]) λr=>.ref (if r=p then u0 else ul r)))) n=Ga (.ins C j (Y0 A)):=by rw[Qf nu];exact s5 _ _ o4
 have aO:(upd (upd Hc u0 (.lst [])) A.u (.dK (dS (S2++[p]) λr=>.ref (if r=p then u0 else ul r)))) A.v=Ga (.dK (dS S2 λ_=>.non)):=by exact Qi (s5 _ _ (cA ao (Gp d.at_.ap.lv) (Gp d.at_.ap.mv))) (Gp d.at_.ap.uv)
 have k4:=Iv.k (k:=ki p) (v:=.non) aO (by rw[Wz,GQ];omega);rw[Qad x]at k4;have e4:(dS (S2++[p]) λr=>if r=p then V.non else .non)=dS (S2++[p]) λ_=>.non:=Wk λr _=>by split<;>rfl
 rw[e4]at k4;refine⟨_,Xb,n,C,j,_,_,Xb,o5,T.cl,T.above,Ry _,_,Xb,A.v,_,Xb,k4,?_⟩;have Y:=Qul (m0:=m0) (u0:=u0) d.at_ x ae am (Gp aK) az;have FY:FrT (na A ml ul) S2 (na A (λr=>if r=p then m0 else ml r) (λr=>if r=p then u0 else ul r)) (S2++[p]) H2 (upd (upd (upd Hc u0 (.lst [])) A.u (.dK (dS (S2++[p]) λr=>.ref (if r=p then u0 else ul r)))) A.v (.dK (dS (S2++[p]) λ_=>.non))):=by
  refine⟨λb o e hb=>?_,λb hb=>?_,λb hb=>?_⟩
  ·rw[Qf (λz=>hb (by rw[z];exact .inr (.inr (.inr (.inr (.inr (.inr (.inl Xb)))))))),Qf (λz=>hb (by rw[z];exact .inr (.inr (.inl Xb))))];exact s5 _ _ (cA e (λz=>hb (by rw[z];exact .inl Xb)) (λz=>hb (by rw[z];exact .inr (.inl Xb))))
  ·rcases hb with h|h|h|h|h|h|h|⟨r,aA,h⟩
   ·exact .inl (.inl h)
   ·exact .inl (.inr (.inl h))
   ·exact .inl (.inr (.inr (.inl h)))
   ·exact .inl (.inr (.inr (.inr (.inl h))))
   ·exact .inl (.inr (.inr (.inr (.inr (.inl h)))))
   ·exact .inl (.inr (.inr (.inr (.inr (.inr (.inl h))))))
   ·exact .inl (.inr (.inr (.inr (.inr (.inr (.inr (.inl h)))))))
   ·have h:b=(if r=p then m0 else ml r)\/b=(if r=p then u0 else ul r):=h;by_cases I:r=p
    ·rw[Gm I,Gm I]at h;rcases h with h|h
     ·rw[h];exact .inr ae
     ·rw[h];exact .inr am
    ·rw[Gh I,Gh I]at h;have aC:r∈S2:=by
      rcases List.mem_append.mp aA with z|z
      ·exact z
      ·exact absurd (by simpa using z) I
     exact .inl (.inr (.inr (.inr (.inr (.inr (.inr (.inr ⟨r,aC,h⟩)))))))
  ·by_cases h1:b=A.v
   ·subst h1;rw[Qb]at hb;cases hb
   ·rw[Qf h1]at hb;by_cases h2:b=A.u
    ·subst h2;rw[Qb]at hb;cases hb
    ·rw[Qf h2]at hb;exact(cN (s5.free hb)).1
 have Y:Z5 P w C (upd (upd (upd Hc u0 (.lst [])) A.u (.dK (dS (S2++[p]) λr=>.ref (if r=p then u0 else ul r)))) A.v (.dK (dS (S2++[p]) λ_=>.non))) n (na A (λr=>if r=p then m0 else ml r) (λr=>if r=p then u0 else ul r)) fs S2.length {fresh (Yc fs) (Zk fs) (S2++[p])with Xd:=Yw (Zk fs) S2,tab:=Qa5 (Yc fs) (Zk fs) S2}:=by rw[<-ad];exact Y
 generalize upd (upd (upd Hc u0 (.lst [])) A.u (.dK (dS (S2++[p]) λr=>.ref (if r=p then u0 else ul r)))) A.v (.dK (dS (S2++[p]) λ_=>.non))=H4 at Y FY⊢;generalize (λr=>if r=p then m0 else ml r)=L at Y FY;generalize (λr=>if r=p then u0 else ul r)=B at Y FY;have F4:=F2.trans FY;obtain⟨ar,aI⟩:=Y.ob;obtain⟨an,av,af⟩:=Y.fo;have ak:p<an.length:=by rw[Gr af];exact hp
 obtain⟨y4,al,c4,ac,au,ax,ah⟩:=Qx af (List.getElem?_eq_getElem ak);rw[Qfn hp]at al;cases al;refine⟨_,Xb,n,C,ar,_,_,Xb,aI,T.cl,T.Qd4,Up _,_,Xb,A.f,an,_,_,Xb,Xb,Zc.of av,Qy (List.getElem?_eq_getElem ak),c4,_,_,_,au,Xb,Z2.of ax,Iw _ _ _,ac,Xb,⟨_,Z2.of ah⟩,Qft (K:=K) (a:=ac) (xs:=(Zk fs p).map jv)
  (λi σ H5=>∃(x2:Option V),σ=[Ga (.ref n),Ga (jv p),x2]/\Z5 P w C H5 n (na A L B) fs S2.length {fresh (Yc fs) (Zk fs) (S2++[p])with Xd:=(λr=>Yw (Zk fs) S2 r++List.replicate (((Zk fs p).take i).count r) p),tab:=Qa5 (Yc fs) (Zk fs) S2}/\FrT A S (na A L B) (S2++[p]) H H5/\H5 ac=Ga (.tup ((Zk fs p).map jv)))
  ⟨_,Xb,?_,F4,ah⟩ (λi σ H5 _⟨_,_,_,_,h⟩=>Z2.of h) ?_ ?_⟩
 ·have:(λr=>Yw (Zk fs) S2 r++List.replicate (((Zk fs p).take 0).count r) p)=Yw (Zk fs) S2:=by funext r;simp
  rw[this];exact Y
 ·rintro i y σ H5 hi ⟨x5,rfl,M,F5,h5⟩;rw[List.getElem?_map]at hi;cases eq:(Zk fs p)[i]? with
  |none=>rw[eq]at hi;cases hi
  |some r=>
   rw[eq]at hi;cases hi;have rS:r∈S2++[p]:=List.mem_append_left _ (done r (List.mem_of_getElem? eq));have ur:=M.ul r rS;obtain⟨R,W⟩:=M.ob;have aR:=Qeo tk.few S2 r;have aP:((Zk fs p).take i).count r<=100:=TY List.count_le_length (by rw[List.length_take];omega);refine⟨_,Xb,n,C,R,_,_,Xb,W,T.cl,T.Qey,J0 _,_,Xb,A.u,_,Xb,Xg M.us rS,.inl ⟨Xb,_,Zc.of ur⟩,_,Xb,_,_,_,Xb,Xb,ur,?_,?_⟩
   ·rw[List.length_map,GQ];show(Yw (Zk fs) S2 r++List.replicate (((Zk fs p).take i).count r) p).length<_;rw[List.length_append,List.length_replicate];omega
   ·have Y6:=M.Qrz rS (Yw (Zk fs) S2 r++List.replicate (((Zk fs p).take i).count r) p++[p]);have eH:(HO.lst ((Yw (Zk fs) S2 r++List.replicate (((Zk fs p).take i).count r) p++[p]).map jv))=.lst ((Yw (Zk fs) S2 r++List.replicate (((Zk fs p).take i).count r) p).map jv++[jv p]):=by rw[List.map_append];rfl
    rw[eH]at Y6;have oR:Own (na A L B) (S2++[p]) (B r):=.inr (.inr (.inr (.inr (.inr (.inr (.inr ⟨r,rS,.inr Xb⟩))))));have eU:(λr'=>if r'=r then Yw (Zk fs) S2 r++List.replicate (((Zk fs p).take i).count r) p++[p]else Yw (Zk fs) S2 r'++List.replicate (((Zk fs p).take i).count r') p)=λr'=>Yw (Zk fs) S2 r'++List.replicate (((Zk fs p).take (i+1)).count r') p:=by
     funext r'
     rw[Qbl eq];by_cases h:r'=r
     ·rw[Gm h,Gm h.symm,h,List.replicate_succ',List.append_assoc]
     ·rw[Gh h,Gh (Gp h),L6]
    refine⟨_,Xb,?_,F5.trans ⟨λb o e hb=>?_,λb hb=>.inl hb,λb hb=>?_⟩,?_⟩
    ·rw[<-eU];exact Y6
    ·exact Qi e (λz=>hb (by rw[z];exact oR))
    ·exact Zz hb
    ·exact Qi h5 (Yb h5 ur nofun)
 rintro σ H5 ⟨x5,rfl,M,F5,h5⟩;rw[List.length_map,List.take_length]at M;have eU:(λr=>Yw (Zk fs) S2 r++List.replicate ((Zk fs p).count r) p)=Yw (Zk fs) (S2++[p]):=by
  funext r
  rw[Qpk]
 rw[eU]at M;obtain⟨R,W⟩:=M.ob;have pin:∀r∈Zk fs p,r∈S2++[p]:=λr g=>List.mem_append_left _ (done r g);refine⟨_,Xb,_,Xb,n,C,R,_,_,Xb,W,T.cl,T.table,Qia _,_,Xb,n,R,_,Xb,W,Qcn _,_,Xb,n,na A L B,fs,_,_,p,Xb,M,hp,pin,by omega,λc6 H6 g6 aS aw=>?_⟩;have Y6:=M.same g6;obtain⟨J,D6,aT,aq⟩:=Y6.ta;have kc:=aw.key (tk.str p);refine⟨A.t,c6,_,J,Xb,Xb,D6,kc,by rw[GQ];omega,?_⟩;have new:∀r∈S2,Zj (Yc fs) (Zk fs) id r≠Zj (Yc fs) (Zk fs) id p:=λr g z=>by simp only[Zj,List.map_id,Df]at z;exact x (tk.inj r p (d.lt r g) hp z.1 z.2▸g)
 have Y7:=Y6.Qsh (kvs':=Wq J (Yx (Zj (Yc fs) (Zk fs) id p)) c6 (jv p)) D6 (by have:=Qcl J (Yx (Zj (Yc fs) (Zk fs) id p)) c6 (jv p);omega) (D6.keys.put kc) (t':=Qa5 (Yc fs) (Zk fs) (S2++[p])) (λk'=>by
  rw[Js,Qph _ _ new];by_cases h:k'=Zj (Yc fs) (Zk fs) id p
  ·rw[Gm (by rw[h]),Gm h];rfl
  ·rw[Gh (λz=>h (U1 z)),Gh h];exact aq k')
 refine q (S2++[p]) L B _ ⟨?_,?_,λr g=>?_,λr g=>?_⟩ (λr g=>List.mem_append_left _ (sub r g)) (by simp) (λr g=>?_) (F5.trans ⟨λb o e hb=>?_,λb hb=>.inl ?_,λb hb=>?_⟩)
 ·rw[List.length_append,List.length_singleton];exact Y7
 ·rw[List.nodup_append];refine⟨d.nd,by simp,λr g u O=>?_⟩;have:u=p:=by simpa using O
  rw[this];exactλz=>x (z▸g)
 ·rcases List.mem_append.mp g with h|h
  ·exactλu O=>List.mem_append_left _ (d.cl r h u O)
  ·have:r=p:=by simpa using h
   subst this;exact pin
 ·rcases List.mem_append.mp g with h|h
  ·exact d.lt r h
  ·have:r=p:=by simpa using h
   subst this;exact hp
 ·rcases List.mem_append.mp g with h|h
  ·rcases Z r h with h|h
   ·exact .inl h
   ·exact .inr (by omega)
  ·have:r=p:=by simpa using h
   subst this;exact .inr (Gn _)
 ·exact Qi (g6 _ _ e) (λz=>hb (by rw[z];exact .inr (.inr (.inr (.inl Xb)))))
 ·exact hb
 ·exact g6.free (Zz hb)
theorem Qzf{f:Gc}{fd:Tt}:Qr P w K mg base Z3 1 f fd ["self","place"] (Qal P w C 0):=by
 have no:∀vs H Q E,¬Qal P w C 0 vs H Q E:=λvs H Q E h=>by obtain⟨n,A,fs,a,S,p,_,_,_,_,h1,_⟩:=h;omega
 exact⟨λvs H Q E h=>absurd h (no vs H Q E),λA outer s H args us vs Q E _ _ _ _ h=>absurd h (no vs H Q E)⟩
theorem Qi0{f e C:Gc}{fd a:Tt}(F:Wu K "take_in" "Net.take_in" Rz f fd)(T:V5 K mg C)(h:Z8 K C "take_in" f)(d:Binds K fd ["self","place"] [])
  (g:Z8 K C "key_of" e)(b:Qr P w K mg base Z3 1 e a ["self","place"] (Qb5 P w C))(c:Binds K a ["self","place"] []):∀k:Nat,Qr P w K mg base Z3 (k+1) f fd ["self","place"] (Qal P w C k)
 |0=>Qzf
 |k+1=>Qua F T h d (Qi0 F T h d g b c k) g b c
end
end K05
namespace Nt
theorem R6{l:List Nat}:∀{S:List Nat},S.Nodup->(S.map λq=>l.count q).sum<=l.length
 |[],_=>by simp
 |q::S,nd=>by
  rw[List.nodup_cons]at nd;have c:=R6 (l:=l.filter (λz=>z !=q)) nd.2;have e:(S.map λr=>(l.filter (λz=>z !=q)).count r)=S.map λr=>l.count r:=List.map_congr_left λr b=>by rw[List.count_filter];simp only[bne_iff_ne,ne_eq];intro z;exact nd.1 (z▸b)
  rw[e]at c;have h2:(l.filter (λz=>z !=q)).length+l.count q=l.length:=by
   have:=List.length_eq_countP_add_countP (λz=>z !=q) (l:=l);rw[<-List.countP_eq_length_filter];have d:l.countP (λa=>¬(a !=q)=Gf)=l.count q:=by unfold List.count;refine List.countP_congr λx _=>?_;simp
   omega
  simp only[List.map_cons,List.sum_cons];omega
theorem Qa3{f g:Nat->Nat}:∀S:List Nat,(S.map λq=>f q+g q).sum=(S.map f).sum+(S.map g).sum
 |[]=>rfl
 |q::S=>by simp only[List.map_cons,List.sum_cons,Qa3 S];omega
theorem Qop{W ρ:Type}[DecidableEq W]{wd:Nat->W}{pt:Nat->List Nat}{S:List Nat}{M:Nat}(nd:S.Nodup)(h:∀p,(pt p).length<=M):Vs (fresh (ρ:=ρ) wd pt S)<=S.length*M:=by
 have gen:∀T:List Nat,(S.map λq=>(Yw pt T q).length).sum<=T.length*M:=by
  intro T;induction T with
  |nil=>
   have:(S.map λq=>(Yw pt [] q).length)=S.map λ_=>0:=List.map_congr_left λq _=>by simp[Yw]
   rw[this];clear this nd;have z:∀S:List Nat,(S.map λ_=>0).sum=0:=by
    intro S;induction S with
    |nil=>rfl
    |cons a S b=>simpa using b
   rw[z];omega
  |cons p T b=>
   have e:(S.map λq=>(Yw pt (p::T) q).length)=S.map λq=>(pt p).count q+(Yw pt T q).length:=List.map_congr_left λq _=>by simp only[Yw,List.flatMap_cons,List.length_append,List.length_replicate]
   rw[e,Qa3];have h1:=R6 (l:=pt p) nd;have h2:=h p;rw[List.length_cons,Ef];omega
 unfold Vs;refine TY (LO ?_) (gen S);congr 1;refine List.map_congr_left λq _=>?_;rw[Gm (show(fresh (ρ:=ρ) wd pt S).lead q=q from rfl)];rfl
end Nt
namespace K05
open PySem L2 Sb Nt
variable{C:Gc}
abbrev En:=Ta×Nat×Nat
abbrev sme(p q:Nat):En:=(("same":Ta),p,q)
abbrev unl(p q:Nat):En:=(("unlike":Ta),p,q)
def Qcw(H:Hp)(v:V)(e:En):Prop:=∃c,v=.ref c/\H c=Ga (.tup [.str e.1,jv e.2.1,jv e.2.2])
theorem Qcw.Ql{H H':Hp}{v:V}{e:En}(t:Qt H H')(h:Qcw H v e):Qcw H' v e:=by obtain⟨c,h1,h2⟩:=h;exact⟨c,h1,t _ _ h2⟩
structure Nok(P:Gk)(w:Gv)(C:Gc)(H0 H:Hp)(n:Gc)(A:Na)(fs:List Fm)(tb:Nat)(x:Nn):Prop where
 at_:Z5 P w C H n A fs tb x
 inv:Xz (Yc fs) (Zk fs) x []
 fok:Qel fs x.S
 new:∀b,Own A x.S b->H0 b=Gg
 nn:H0 n=Gg
 Oy:Qz H0 H
 len:x.S.length<=60
 tt:Vs x<=6000
 cl:cls x+x.links.length<=x.S.length
 tbb:tb<=x.S.length+x.links.length*Vs x
structure Tup(fs:List Fm)(x:Nn)(ens:List En)(i:Nat):Prop where
 ins:∀e∈ens,e.2.1∈x.S/\e.2.2∈x.S
 eq:∀(j p q:Nat),j<i->ens[j]?=Ga (sme p q)->x.lead p=x.lead q
 snd:∀E,Ec (Yc fs) (Zk fs) x.S E->(∀(j p q:Nat),j<i->ens[j]?=Ga (sme p q)->E p q)->∀p∈x.S,∀q∈x.S,x.lead p=x.lead q->E p q
 rsn:∀y∈x.links,y.2.2=Gg\/∃(j p q:Nat),y=(p,q,Ga (.told j))/\ens[j]?=Ga (sme p q)
def Qf1(P:Gk)(w:Gv)(C:Gc):Sp:=λvs H Q _=>∃(f t:Gc)(c es:List V)(fs:List Fm)(a:List En)(b:Nat->Nat),vs=[.ref f,.ref t]/\H f=Ga (.lst c)/\Paired (Rm H) c fs/\H t=Ga (.lst es)/\Paired (Qcw H) es a/\Qyi fs b/\fs.length<=60/\(∀p,b p<59)/\
 (∀e∈a,e.2.1<fs.length/\e.2.2<fs.length)/\a.length<=1000/\
 ∀(n:Gc)(A:Na)(tb:Nat)(x:Nn)(H':Hp),Nok P w C H H' n A fs tb x->A.f=f->Tup fs x a a.length->Q (.ref n) H'
theorem Nok.merged{P:Gk}{w:Gv}{H0 H H':Hp}{n:Gc}{A:Na}{fs:List Fm}{tb:Nat}{x d:Nn}{a b:Nat}{r:Option U3}(N:Nok P w C H0 H n A fs tb x)(Y:Z5 P w C H' n A fs (tb+(d.links.length - x.links.length)*Vs x) d)(M:Mgd fs x d a b r [])(F:Rb A x.S H H'):Nok P w C H0 H' n A fs (tb+(d.links.length - x.links.length)*Vs x) d:=by
 have e:=M.S;refine⟨Y,M.inv,by rw[e];exact N.fok,by rw[e];exact N.new,N.nn,λc o f=>F.keep c o (N.Oy c o f) (λz=>by rw[N.new c z]at f;cases f),by rw[e];exact N.len,by rw[M.Vs];exact N.tt,by rw[e];have:=N.cl;have:=M.less;omega,?_⟩;rw[e,M.Vs];have h1:=N.tbb;have h2:=M.more;have:d.links.length*Vs x=x.links.length*Vs x+(d.links.length - x.links.length)*Vs x:=by rw[<-Ef];congr 1;omega
 omega
theorem Tup.step{fs:List Fm}{x g:Nn}{d:List En}{i a b:Nat}(U:Tup fs x d i)(e:d[i]?=Ga (sme a b))(M:Mgd fs x g a b (Ga (.told i)) []):Tup fs g d (i+1):=by
 have f:=M.S;obtain⟨aS,bS⟩:=U.ins _ (List.mem_of_getElem? e);refine⟨by rw[f];exact U.ins,λj p q l c=>?_,λE X h=>?_,λy n=>?_⟩
 ·rcases Tk j i with h|h
  ·obtain⟨o,r⟩:=U.ins _ (List.mem_of_getElem? c);exact M.mono p o q r (U.eq j p q h c)
  ·have:j=i:=by omega
   subst this;rw[e]at c;cases c;exact M.eq.nil
 ·rw[f]at X;have k:=U.snd E X λj p q l=>h j p q (by omega);have:=M.snd E X ⟨k,λu v s m=>by simp at m;obtain⟨rfl,rfl,rfl⟩:=m;exact h i u v (by omega) e⟩
  exact this.1
 ·rcases M.rsn y n with h|h|h
  ·exact U.rsn y h
  ·exact .inr ⟨i,a,b,h,e⟩
  ·exact .inl h
theorem Tup.skip{fs:List Fm}{x:Nn}{c:List En}{i:Nat}{k:Ta}{a b:Nat}(U:Tup fs x c i)(e:c[i]?=Ga (k,a,b))(g:k≠"same"):Tup fs x c (i+1):=by
 refine⟨U.ins,λj p q f d=>?_,λE X h=>U.snd E X λj p q f=>h j p q (by omega),U.rsn⟩;rcases Tk j i with h|h
 ·exact U.eq j p q h d
 ·have:j=i:=by omega
  subst this;rw[e]at d;cases d;exact absurd rfl g
def Qxh(x:Nn)(a:List En):Option Nat->Prop
 |none=>∀(j p q:Nat),a[j]?=Ga (unl p q)->x.lead p≠x.lead q
 |some i=>(∃p q,a[i]?=Ga (unl p q)/\x.lead p=x.lead q)/\∀(j p q:Nat),j<i->a[j]?=Ga (unl p q)->x.lead p≠x.lead q
def Qgz(P:Gk)(w:Gv)(C:Gc):Sp:=λvs H Q _=>∃(n t:Gc)(A:Na)(fs:List Fm)(tb:Nat)(x:Nn)(es:List V)(a:List En),vs=[.ref n,.ref t]/\Z5 P w C H n A fs tb x/\H t=Ga (.lst es)/\Paired (Qcw H) es a/\(∀e∈a,e.2.1∈x.S/\e.2.2∈x.S)/\
 ∀(o:Option Nat)(H':Hp),Qz H H'->Qxh x a o->Q (ov o) H'
section
variable{P:Gk}{w:Gv}{K:Gd}{mg:Ta->Option Value}{base:Heap}
theorem Qmz:Qv ["net","entries","number","entry"] ["net","entries"] (Qk Qfu):=by eq_refl
theorem Yf{a b:Ta}:decide (V.str a=V.str b)=(a==b):=by rw[ED];simp
theorem Qqr{f S:Gc}{fd o:Tt}(F:Wu K "least_clash" "least_clash" Qfu f fd)(T:V5 K mg C)(B:Jl mg)(Z:Z8 K C "equal" S)(GE:Qr P w K mg base Z3 1 S o ["self","one","other"] (Qbs P w C))(V:Binds K o ["self","one","other"] []):
  Qr P w K mg base Z3 2 f fd ["net","entries"] (Qgz P w C):=by
 refine F.ok Qmz (λvs H Q E h=>?_) (λcdv A outer s H vs Q E Y h=>?_)
 ·obtain⟨n,t,A,fs,tb,x,es,m,rfl,_⟩:=h;rfl
 obtain⟨n,t,A,fs,tb,x,es,m,rfl,X,U,v,J,q⟩:=h;have M:Z9 1 _:=Y.mono (by omega);have nd:=Qmz.nd;refine⟨_,Qd (Ye Gy rfl (Qm4 rfl B.enumerate (Qa (pv 1) Qe)) (Vi rfl (Zl (Ya 2 nd) (Zl (Ya 3 nd) X5)))
   (Qh (Zn (PW.pt (Vh (Qp Wi (Qn Q5 (pv 3) Qj) Zf (Q3 _)) (Wj (Xu (Q9 (pv 0) T.cl Z GE M V .nil Q4 (Qa (Qn Q5 (pv 3) Qj) (Qa (Qn Q5 (pv 3) Qj) Qe)))))))
    (Qh (Qu (pv 2))) Q6)))
  (Qh (Qu Uh)),?_⟩
 refine⟨_,Xb,t,es,Xb,Zc.of U,Qh4 (K:=K) (a:=t) (xs:=es) (λi σ H2=>(∃N O,σ=[Ga (.ref n),Ga (.ref t),N,O])/\Qz H H2/\∀(j p r:Nat),j<i->m[j]?=Ga (unl p r)->x.lead p≠x.lead r)
  ⟨⟨_,_,Xb⟩,λ_ _ h=>h,λ_ _ _ h=>by omega⟩ (λi σ H2 _⟨_,g,_⟩=>Zc.of (g _ _ U)) ?_ ?_⟩
 ·rintro i y c σ H2 hi ⟨⟨N,O,rfl⟩,g,no⟩ W;obtain⟨⟨k,a,b⟩,D,z,rfl,I⟩:=Qx v hi;have s3:=Qg W (.tup [.int (i:Int),.ref z]);have u:=g.trans s3;obtain⟨aS,bS⟩:=J _ (List.mem_of_getElem? D);have l:=u _ _ I;refine⟨c,_,Xb,Z2.of Qb,Xb,_,_,Xb,_,_,Xb,Xb,?_⟩;refine⟨_,Xb,z,_,_,_,Xb,Xb,Z2.of l,Ri _ _,Xb,_,Xb,?_⟩;rw[Yf];by_cases L:k="unlike"
  ·subst L;rw[Ey];refine Yr ?_;have R:=X.same u;obtain⟨dx,o1⟩:=R.ob;refine⟨_,Xb,n,dx,_,Xb,o1,Qdy _,_,Xb,z,_,_,_,Xb,Xb,Z2.of l,Iw _ _ _,_,Xb,z,_,_,_,Xb,Xb,Z2.of l,Qhs _ _ _ _,n,A,fs,tb,x,a,b,Xb,R,aS,bS,_,Xb,?_⟩;by_cases e:x.lead a=x.lead b
   ·rw[GX e];refine Yr ⟨_,Xb,q (Ga i) _ u ⟨⟨a,b,D,e⟩,no⟩⟩
   ·rw[Gz e];refine Zp ⟨⟨_,_,Xb⟩,u,λj p r G d=>?_⟩;rcases Tk j i with h|h
    ·exact no j p r h d
    ·have:j=i:=by omega
     subst this;rw[D]at d;cases d;exact e
  ·have:(k==("unlike":Ta))=Gq:=by simpa using L
   rw[this];refine Zp ?_;refine Zp ⟨⟨_,_,Xb⟩,u,λj p r G d=>?_⟩;rcases Tk j i with h|h
   ·exact no j p r h d
   ·have:j=i:=by omega
    subst this;rw[D]at d;cases d;exact absurd rfl L
 ·rintro σ H2 ⟨⟨N,O,rfl⟩,g,no⟩;refine q Gg H2 g λj p r G=>no j p r ?_ G;rw[Gr v];exact(List.getElem?_eq_some_iff.mp G).1
theorem Qme:Qv ["forms","told","net","kind","one","other","number","entry"] ["forms","told"] (Qk Qga):=by eq_refl
theorem Qsv{f fI fT fM:Gc}{fd Y aa Z:Tt}(F:Wu K "net_of" "net_of" Qga f fd)(T:V5 K mg C)(B:Jl mg)(ag:Mk K C fI)(GI:Qr P w K mg base Z3 1 fI Y ["self","forms"] (Qev P w C))(bI:Binds K Y ["self","forms"] [])
  (mT:Z8 K C "take_in" fT)(GT:Qr P w K mg base Z3 60 fT aa ["self","place"] (Qal P w C 59))(bT:Binds K aa ["self","place"] [])(mM:Z8 K C "merge" fM)(GM:Qr P w K mg base Z3 4 fM Z ["self","one","other","reason"] (Qf9 P w C))(bM:Binds K Z ["self","one","other","reason"] []):
  Qr P w K mg base Z3 61 f fd ["forms","told"] (Qf1 P w C):=by
 refine F.ok Qme (λvs H Q E h=>?_) (λcdv A outer s H vs Q E v h=>?_)
 ·obtain⟨f,t,ws,es,fs,l,rk,rfl,_⟩:=h;rfl
 obtain⟨f,t,ws,es,fs,l,rk,rfl,hf,ar,ht,L,tk,aC,ac,ao,aB,q⟩:=h;have ap:Z9 2 _:=v.mono (by omega);have aq:Z9 4 _:=v.mono (by omega);have nd:=Qme.nd;refine⟨_,Qd (Qs 2 nd (Qg8 ag GI ap rfl T.mgC bI .nil Q4 (Qa (pv 0) Qe)))
  (Qd (Ye Gy rfl (Y2 (pv 1)) (Vi rfl (Zl (Ya 3 nd) (Zl (Ya 4 nd) (Zl (Ya 5 nd) X5))))
   (Qd (Ze (Q9 (pv 2) T.cl mT GT v bT .nil Q4 (Qa (pv 4) Qe)))
   (Qh (Ze (Q9 (pv 2) T.cl mT GT v bT .nil Q4 (Qa (pv 5) Qe))))))
  (Qd (Ye Gy rfl (Qm4 rfl B.enumerate (Qa (pv 1) Qe)) (Vi rfl (Zl (Ya 6 nd) (Zl (Ya 7 nd) X5)))
   (Qh (Zn (Qp Wi (Qn Q5 (pv 7) Qj) Zf (Q3 _))
    (Qh (Ze (Q9 (pv 2) T.cl mM GM aq bM .nil Q4 (Qa (Qn Q5 (pv 7) Qj) (Qa (Qn Q5 (pv 7) Qj) (Qa (Za (Qa Zf (Qa (pv 6) Qe))) Qe)))))) Q6)))
  (Qh (Qu (pv 2))))),?_⟩
 refine⟨_,Xb,λn dx hn an aD=>?_⟩;have s0:Qz H (upd (upd H dx (.own n)) n (.ins C dx [])):=λc o e=>by rw[Qf (Qc e hn),Qf (Qc e an)];exact e
 refine⟨n,dx,f,ws,fs,Xb,Qb,s0 _ _ hf,L2.Paired.Z7 ar λ_ _ h=>h.Ql (Qt.of s0),λA H1 fA X1 k1 w1=>⟨Xb,?_⟩⟩;have s1:Qz H H1:=λc o e=>k1 c o (s0 c o e) (Qc e hn);have n1:∀b,Own A [] b->H b=Gg:=λb hb=>s0.free (w1 b hb);have ad:es.length=l.length:=Gr L;refine⟨_,Xb,t,Xb,⟨_,Zc.of (s1 _ _ ht)⟩,Xh (K:=K) (a:=t) (xs:=es) (λi σ H2=>∃(x3 x4 x5:Option V)(S:List Nat)(ml ul:Nat->Gc),σ=[Ga (.ref f),Ga (.ref t),Ga (.ref n),x3,x4,x5,Gg,Gg]/\Frs P w C H2 n (na A ml ul) fs S/\Qz H H2/\(∀b,Own (na A ml ul) S b->H b=Gg)/\∀e∈l.take i,e.2.1∈S/\e.2.2∈S)
  ⟨_,_,_,[],A.ml,A.ul,Xb,⟨X1,List.nodup_nil,(λp R=>nomatch R),(λp R=>nomatch R)⟩,s1,n1,by simp⟩ (λi σ H2 _⟨_,_,_,_,_,_,_,_,g,_⟩=>Zc.of (g _ _ ht)) ?_ ?_⟩
 ·rintro i y σ H2 hi ⟨x3,x4,x5,S,ml,ul,rfl,d,M,n2,W⟩;obtain⟨⟨k,a,b⟩,O,D,rfl,J⟩:=Qx L hi;obtain⟨al,bl⟩:=ao _ (List.mem_of_getElem? O);obtain⟨ah,o2⟩:=d.at_.ob;refine⟨D,_,Xb,Z2.of (M _ _ J),Xb,_,_,Xb,_,_,Xb,_,_,Xb,Xb,?_⟩;refine⟨_,Xb,n,ah,_,Xb,o2,Qag _,_,Xb,n,na A ml ul,fs,rk,S,a,Xb,d,tk,al,ac a,λS3 ae af u X3 G a3 _ F3=>?_⟩;have g3:Qz H u:=λc o e=>F3.keep c o (M c o e) (λz=>by rw[n2 c z]at e;cases e);have n3:∀b,Own (na A ae af) S3 b->H b=Gg:=λb hb=>(F3.own b hb).elim (n2 b) (λz=>M.free z);obtain⟨ai,o3⟩:=X3.at_.ob;refine⟨_,Xb,n,ai,_,Xb,o3,Qag _,_,Xb,n,na A ae af,fs,rk,S3,b,Xb,X3,tk,bl,ac b,λS4 au av H4 X4 m b4 _ F4=>?_⟩;have g4:Qz H H4:=λc o e=>F4.keep c o (g3 c o e) (λz=>by rw[n3 c z]at e;cases e);refine⟨_,_,_,S4,au,av,Xb,X4,g4,λb hb=>(F4.own b hb).elim (n3 b) (λz=>g3.free z),λe ab=>?_⟩;rw[List.take_add_one,O]at ab;rcases List.mem_append.mp ab with h|h
  ·exact⟨m _ (G _ (W e h).1),m _ (G _ (W e h).2)⟩
  ·have:e=(k,a,b):=by simpa using h
   subst this;exact⟨m _ a3,b4⟩
 rintro σ H2 ⟨x3,x4,x5,S,ml,ul,rfl,d,M,n2,W⟩;rw[ad,List.take_length]at W;have aw:S.length<=fs.length:=Xf (S:=List.range fs.length) d.nd (λr v=>List.mem_range.mpr (d.lt r v))|>λh=>by rw[List.length_range]at h;exact h
 have ni:Xz (ρ:=U3) (Yc fs) (Zk fs) (fresh (Yc fs) (Zk fs) S) []:=Qny d.nd d.cl λp R r v e1 e2=>tk.inj p r (d.lt p R) (d.lt r v) e1 e2;have N0:Nok P w C H H2 n (na A ml ul) fs S.length (fresh (Yc fs) (Zk fs) S):=⟨d.at_,ni,⟨tk.str,d.lt,d.cl,λp=>by have:=tk.few p;omega⟩,n2,hn,M,by show S.length<=60;omega,TY (Qop d.nd tk.few) (by omega),Qq3 _,by show S.length<=S.length+0*_;omega⟩;have U0:Tup fs (fresh (Yc fs) (Zk fs) S) l 0:=⟨W,λj p r hj=>by omega,λE X _ p R r v e=>by have e:p=r:=e;subst e;exact X.refl p,λy hy=>nomatch hy⟩
 refine⟨_,Xb,t,es,Xb,Zc.of (M _ _ ht),Qh4 (K:=K) (a:=t) (xs:=es) (λi σ u=>∃(x6 x7:Option V)(tb:Nat)(x:Nn),σ=[Ga (.ref f),Ga (.ref t),Ga (.ref n),x3,x4,x5,x6,x7]/\Nok P w C H u n (na A ml ul) fs tb x/\Tup fs x l i)
  ⟨_,_,_,_,Xb,N0,U0⟩ (λi σ u _⟨_,_,_,_,_,N,_⟩=>Zc.of (N.Oy _ _ ht)) ?_ ?_⟩
 ·rintro i y c σ u hi ⟨x6,x7,tb,x,rfl,N,U⟩ hc;obtain⟨⟨k,a,b⟩,O,D,rfl,J⟩:=Qx L hi;have s4:=Qg hc (.tup [.int (i:Int),.ref D]);have g4:=N.Oy.trans s4;have I:=g4 _ _ J;obtain⟨aS,bS⟩:=U.ins _ (List.mem_of_getElem? O);have N4:Nok P w C H (upd u c (.tup [.int (i:Int),.ref D])) n (na A ml ul) fs tb x:=⟨N.at_.same s4,N.inv,N.fok,N.new,N.nn,g4,N.len,N.tt,N.cl,N.tbb⟩;refine⟨c,_,Xb,Z2.of Qb,Xb,_,_,Xb,_,_,Xb,Xb,?_⟩;refine⟨_,Xb,D,_,_,_,Xb,Xb,Z2.of I,Ri _ _,Xb,_,Xb,?_⟩;rw[Yf];by_cases hk:k="same"
  ·subst hk;rw[Ey];refine Yr ?_;obtain⟨aj,o4⟩:=N4.at_.ob;refine⟨_,Xb,n,aj,_,Xb,o4,Qji _,_,Xb,D,_,_,_,Xb,Xb,Z2.of I,Iw _ _ _,_,Xb,D,_,_,_,Xb,Xb,Z2.of I,Qhs _ _ _ _,_,Xb,by show 2<=Gi;decide,λc5 am=>?_⟩;have s5:=Qg am (.tup [.str "told",.int (i:Int)]);have g5:=g4.trans s5;have N5:Nok P w C H (upd (upd u c (.tup [.int (i:Int),.ref D])) c5 (.tup [.str "told",.int (i:Int)])) n (na A ml ul) fs tb x:=⟨N4.at_.same s5,N.inv,N.fok,N.new,N.nn,g5,N.len,N.tt,N.cl,N.tbb⟩;have ax:=N.len;have ak:=N.tt;have ay:=N.cl;have az:=N.tbb;have aA:x.links.length*Vs x+cls x*Vs x<=60*6000:=by rw[<-Ef];exact FK (by omega) ak
   refine⟨n,na A ml ul,fs,tb,x,a,b,.ref c5,Ga (.told i),Xb,N5.at_,N.fok,⟨c5,Xb,Qb⟩,by simp,aS,bS,N.inv,by omega,by omega,by omega,by omega,λx' H6 Y6 M6 F6=>?_⟩;exact⟨_,_,_,x',Xb,N5.merged Y6 M6 F6,U.step O M6⟩
  ·have:(k==("same":Ta))=Gq:=by simpa using hk
   rw[this];exact Zp ⟨_,_,tb,x,Xb,N4,U.skip O hk⟩
 ·rintro σ u ⟨x6,x7,tb,x,rfl,N,U⟩;rw[ad]at U;exact⟨_,Xb,q n (na A ml ul) tb x u N fA U⟩
end
end K05
namespace L2
open PySem PySem.Spec PyProof.Rows
def Qrf:V->List V->Hp->VK->Prop:=λx vs H Q=>∃d k a kvs,x=.ref d/\vs=[kV k,a]/\H d=Ga (.dK kvs)/\kvs.length<Gi/\
 (∀v,Yy kvs k=Ga v->Q v H)/\(Yy kvs k=Gg->Q a (upd H d (.dK (Ww kvs k a))))
theorem Qk7{X:Cx}:MtR X "dict.setdefault" Qrf:=by
 intro pins s σ H x vs v us Q I r rv h;obtain⟨d,k,c,kvs,rfl,rfl,e,hz,n,o⟩:=h;cases(show v=Value.ref d from r);obtain⟨A,t,rfl,p,g⟩:=vals2 rv;obtain⟨z,hd,u,rel,f⟩:=Qmf I.Zw e;refine L1 F.slot_dict_setdefault f.typeIs F.entry_dict_setdefault (F.args_dict_setdefault_3 _ _ _) (kt_meets_setdefault (Yk X.prog X.w) d (Qet p) hd t) ⟨u,f,by rw[<-rel.length];exact z,λw hw=>?_,λl h' b m=>?_⟩
 ·have a:=rel.val k;rw[hw]at a;cases q:Yy kvs k with
  |none=>rw[q]at a;exact(show False from a).elim
  |some y=>rw[q]at a;exact⟨y,H,I.tok _,a,n y q⟩
 ·have a:=rel.val k;rw[l]at a;cases q:Yy kvs k with
  |some y=>rw[q]at a;exact(show False from a).elim
  |none=>
   have i:∃q,h'.get? d=Ga q:=let⟨q,_,_,hq,_⟩:=b;⟨q,hq⟩;have j:(Ww kvs k c).length<=Gi:=by have:=Wd kvs k c;omega
   exact⟨c,_,Ip I (by rw[e];exact TC) m i (Qpm j hd (rel.put k g) b),g,o q⟩
end L2
namespace PySem
variable{Q:Value->Gj->Prop}{it:Gc}{xs:Array Value}{i:Nat}{x:Value}
structure Qmp(prog:Gk)(w:Gv)(A:TL)(I S:Gc)(fp:List Gc)(n:Nat)(St:Nat->Heap->List Value->Prop)(Out:Heap->List Value->Prop):Prop where
 item:∀(i:Nat)(s:Gj)(acc:List Value)(Q:Option Value->Gj->Prop)(E:Value->Gj->Prop),i<n->St i s.heap acc->(∀v h' tk,St (i+1) h' (acc++[v])->(∀b o,b∉fp->s.heap.get? b=Ga o->h'.get? b=Ga o)->Q (Ga v) {s with heap:=h',toks:=tk})->wpAny (GY prog w) A (pyNext (.ref I)) Q E s
 done:∀(s:Gj)(acc:List Value)(Q:Option Value->Gj->Prop)(E:Value->Gj->Prop),St n s.heap acc->(∀h' tk,Out h' acc->(∀b o,b∉fp->s.heap.get? b=Ga o->h'.get? b=Ga o)->Q Gg {s with heap:=h',toks:=tk})->wpAny (GY prog w) A (pyNext (.ref I)) Q E s
 keep:∀(i:Nat)(h h':Heap)(acc:List Value),St i h acc->(∀b o,b≠S->h.get? b=Ga o->h'.get? b=Ga o)->S<h'.objs.size->St i h' acc
section
variable{prog:Gk}{w:Gv}{A:TL}{E:Value->Gj->Prop}{s:Gj}{R:MU->Gj->Prop}{I S:Gc}{fp:List Gc}{n:Nat}{St:Nat->Heap->List Value->Prop}{Out:Heap->List Value->Prop}
theorem Qsb(G:Qmp prog w A.in1 I S fp n St Out)(m:S∉fp)(z:n<=Gi)(res:Value){h₁:Heap}
  (t:∀h' tk acc c,(∀b o,b≠S->b∉fp->h₁.get? b=Ga o->h'.get? b=Ga o)->h'.get? S=Ga {cls:=.type "list",dict:=Gg,data:=.seq acc c,slots:=#[]}->acc.size=n->Out h' acc.toList->R (.ok (.ret res)) {s with heap:=h',toks:=tk}):
  ∀(k i:Nat)(h:Heap)(tk c:Nat)(acc:Array Value),n - i=k->i<=n->St i h acc.toList->(∀b o,b≠S->b∉fp->h₁.get? b=Ga o->h.get? b=Ga o)->acc.size=i->
   h.get? S=Ga {cls:=.type "list",dict:=Gg,data:=.seq acc c,slots:=#[]}->codeAny (GY prog w) A (.builtin "list.extend.loop" ⟨[.ref S,.ref I,res],[]⟩) R {s with heap:=h,toks:=tk}:=by
 intro k;induction k with
 |zero=>
  intro i h tk c acc u hi j a f hS;have q:i=n:=by omega
  subst q;refine Fx So ?_;rw[Lo DA _];show wpAny _ A.in1 (pyNext (.ref I)>>=_) _ _ _;refine Gb (G.done {s with heap:=h,toks:=tk} acc.toList _ _ j λh' l x r=>?_);exact Ge (t h' l acc c (λb o h1 h2 e=>r b o h2 (a b o h1 h2 e)) (r S _ m hS) f x)
 |succ k y=>
  intro i h tk c acc u hi j a f hS;refine Fx So ?_;rw[Lo DA _];show wpAny _ A.in1 (pyNext (.ref I)>>=_) _ _ _;refine Gb (G.item i {s with heap:=h,toks:=tk} acc.toList _ _ (by omega) j λv h' l p g=>?_);dsimp only at g⊢;have d:=g S _ m hS;have up:∀b o,b≠S->h'.get? b=Ga o->(h'.update S (Et (·.push v))).get? b=Ga o:=λb o hb e=>(Heap.get?_update_other _ _ (Gp hb)).trans e;show wpAny _ A.in1 (updateSeq S (·.push v)>>=_) _ _ _;refine Gb ?_;refine E5 d rfl (Ge ⟨Ly DA _,y (i+1) _ l _ (acc.push v) (by omega) (by omega) (G.keep _ _ _ _ (by rw[Array.toList_push];exact p) up (Heap.lt_size (Heap.get?_update_self _ d Xb)))
   (λb o h1 h2 e=>up b o h1 (g b o h2 (a b o h1 h2 e))) (by rw[Fy,f]) (Heap.get?_update_self _ d Xb)⟩) (by omega) (by show(acc.push v).size<=Gi+1;rw[Fy];omega)
theorem Qit{T:String}{hb:Bool}(G:Qmp prog w A.in1.in1 I s.heap.objs.size fp n St Out)(u:∀b∈fp,b<s.heap.objs.size)(C:I<s.heap.objs.size)(M:n<=Gi)(v:∀h2:Heap,(∀b o,s.heap.get? b=Ga o->h2.get? b=Ga o)->s.heap.objs.size<h2.objs.size->St 0 h2 [])
  (H:∀h acc,St 0 h acc->MF {s with heap:=h} (.ref I) T)(P:(Value.type T==Value.type "list")=Gq)(R:(Value.type T==Value.type "tuple")=Gq)
  (self:∀(A:TL)(E:Value->Gj->Prop)(h:Heap)(Q:Value->Gj->Prop),St 0 h []->Q (.ref I) {s with heap:=h}->wpAny (GY prog w) A (pyIter (.ref I)) Q E {s with heap:=h})
  (hint:∀(A:TL)(E:Value->Gj->Prop)(h:Heap)(Q:Bool->Gj->Prop),St 0 h []->Q hb {s with heap:=h}->wpAny (GY prog w) A (Builtin.List.listLengthHint (.ref I)) Q E {s with heap:=h})
  (D:∀h' tk acc c,(∀b o,b∉fp->s.heap.get? b=Ga o->h'.get? b=Ga o)->h'.get? s.heap.objs.size=Ga {cls:=.type "list",dict:=Gg,data:=.seq acc c,slots:=#[]}->acc.size=n->Out h' acc.toList->Q (.ref s.heap.objs.size) {s with heap:=h',toks:=tk}):
  wpAny (GY prog w) A (call (.type "list") [.ref I]) Q E s:=by
 have t:s.heap.objs.size∉fp:=λL=>DO _ (u _ L);have q:s.heap.objs.size≠I:=Ts C;refine callType_codes (Q₁:=λobj i=>obj=.ref s.heap.objs.size/\i={s with heap:=s.heap.push {cls:=.type "list",data:=.seq #[]}}) NA (ML _) MM
  (code_list_new _ ⟨Xb,Xb⟩) λobj i h₁=>?_
 obtain⟨rfl,rfl⟩:=h₁;have hS:(s.heap.push {cls:=.type "list",data:=.seq #[]}).get? s.heap.objs.size=Ga {cls:=.type "list",data:=.seq #[]}:=Heap.get?_push_size _ rfl;refine⟨⟨_,hS,Xb⟩,MH _ _,?_⟩;show wpAny _ _ (do let x<-Builtin.List.listItems (.ref s.heap.objs.size);Builtin.List.listUpdate (.ref s.heap.objs.size) (λ_=>#[]);letGo x.toList.reverse;Builtin.List.listExtendWith (.ref s.heap.objs.size) (.ref I) .none) _ _ _;refine Gb ?_;unfold Builtin.List.listItems;refine Gb (Dc hS rfl (Ge ?_));show wpAny _ _ (updateSeq s.heap.objs.size (λ_=>#[])>>=λ_=>letGo (#[]:Array Value).toList.reverse>>=λ_=>Builtin.List.listExtendWith (.ref s.heap.objs.size) (.ref I) .none) _ _ _;refine Gb (E5 hS rfl ?_);have a:=Heap.get?_update_self (Et (λ_=>(#[]:Array Value))) hS rfl;refine Gb (Sw ?_);generalize k:(s.heap.push {cls:=.type "list",data:=.seq #[]}).update s.heap.objs.size (Et (λ_=>(#[]:Array Value)))=h2 at a;have z:∀b o,s.heap.get? b=Ga o->h2.get? b=Ga o:=λb o e=>by rw[<-k];exact(Heap.get?_update_other _ _ (Gp (Tc (Heap.lt_size e)))).trans (Heap.get?_push_of_some _ e)
 have g:St 0 h2 []:=v h2 z (Heap.lt_size a);clear k;unfold Builtin.List.listExtendWith;refine Gb (MX (T:=T) (H _ _ g) ?_);have h1:Builtin.List.listSameRef (.ref s.heap.objs.size) (.ref I)=Gq:=by simp[Builtin.List.listSameRef,q]
 simp only[h1,P,R,Mw,TM,Ds];refine Gb (self _ _ h2 _ g ?_);refine Gb (T3 (hint _ _ h2 _ g ?_));have fin:∀(j:Heap)(c:Nat),St 0 j []->(∀b o,b≠s.heap.objs.size->h2.get? b=Ga o->j.get? b=Ga o)->j.get? s.heap.objs.size=Ga {cls:=.type "list",dict:=Gg,data:=.seq #[] c,slots:=#[]}->
   codeAny (GY prog w) A.in1 (.builtin "list.extend.loop" ⟨[.ref s.heap.objs.size,.ref I,.none],[]⟩) (wants (λr l=>r=Value.none/\Q (Value.ref s.heap.objs.size) l) E) {s with heap:=j,toks:=s.toks}:=by
  intro j c y O p;refine Qsb (A:=A.in1) (s:=s) (h₁:=s.heap) G t M .none (λh' tk acc c J m K N=>⟨Xb,D h' tk acc c (λb o hb e=>J b o (Tc (Heap.lt_size e)) hb e) m K N⟩) n 0 j s.toks c #[] (by omega) (Gx _) y (λb o hb _ e=>O b o hb (z b o e)) rfl p
 refine E6 (λ_=>?_) (λ_=>Ge ⟨Ly DA _,fin h2 _ g (λb o _ e=>e) a⟩);refine Gb (ET ?_);refine Gb ?_;show wpAny _ _ (updateSeq s.heap.objs.size (·.push .none)>>=λ_=>updateSeq s.heap.objs.size (·.pop)) _ _ _;refine Gb (E5 a rfl ?_);have d:=Heap.get?_update_self (Et (·.push Value.none)) a rfl;refine E5 (hz:=by seq_fits) d rfl ?_;have f:=Heap.get?_update_self (Et (·.pop)) d rfl;have B:∀b o,b≠s.heap.objs.size->h2.get? b=Ga o->((h2.update s.heap.objs.size (Et (·.push Value.none))).update s.heap.objs.size (Et (·.pop))).get? b=Ga o:=λb o hb e=>(Heap.get?_update_other _ _ (Gp hb)).trans ((Heap.get?_update_other _ _ (Gp hb)).trans e)
 exact Ge ⟨Ly DA _,fin _ _ (G.keep _ _ _ _ g B (Heap.lt_size f)) B f⟩
end
structure Nxt(prog:Gk)(w:Gv)(it l:Gc)(xs:Array Value)(St:Nat->Heap->Prop):Prop where
 item:∀(A:TL)(E:Value->Gj->Prop)(s:Gj)(i:Nat)(x:Value)(Q:Value->Gj->Prop),St i s.heap->xs[i]?=Ga x->(∀h',St (i+1) h'->Heap.SameBut it s.heap h'->Q x {s with heap:=h'})->wpAny (GY prog w) A (Builtin.SmallTypes.nextOf (.ref it)) Q E s
 fin:∀(A:TL)(E:Value->Gj->Prop)(s:Gj)(i:Nat)(Q:Value->Gj->Prop),A.handled=Gg->St i s.heap->xs[i]?=Gg->(∀h' e,Heap.ExtBut it s.heap h'->(∃o,h'.get? e=Ga o/\o.cls=.type "StopIteration")->E (.ref e) {s with heap:=h'})->wpAny (GY prog w) A (Builtin.SmallTypes.nextOf (.ref it)) Q E s
 keep:∀(i:Nat)(h h':Heap),St i h->(∀b,b=it\/b=l->∀o,h.get? b=Ga o->h'.get? b=Ga o)->St i h'
 there:∀(i:Nat)(h:Heap),St i h->it<h.objs.size/\l<h.objs.size
theorem Qhn{prog:Gk}{w:Gv}{l:Gc}(b:l≠it):Nxt prog w it l xs (λi h=>h.IsListIter it l i/\h.IsList l xs) where
 item:=λA E s i x Q st c g=>wpAny_nextOf_list_item st.1 st.2 c λh' a d=>g h' ⟨a,st.2.extBut d.extBut b⟩ d
 fin:=λA E s i Q j st c f=>wpAny_nextOf_list_end j st.1 st.2 c f
 keep:=λi h h' st k=>⟨st.1.at λo e=>k it (.inl Xb) o e,st.2.at λo e=>k l (.inr Xb) o e⟩
 there:=λi h st=>⟨let⟨_,e,_⟩:=st.1;Heap.lt_size e,let⟨_,e,_⟩:=st.2;Heap.lt_size e⟩
section
variable{prog:Gk}{w:Gv}{A:TL}{E:Value->Gj->Prop}{s:Gj}
theorem Uk{t:Gc}{a:Array Value}(b:s.heap.IsTupleIter it t i)(h:s.heap.IsTuple t a)(j:a[i]?=Ga x)
  (f:∀h',h'.IsTupleIter it t (i+1)->Heap.SameBut it s.heap h'->Q x {s with heap:=h'}):wpAny (GY prog w) A (Builtin.SmallTypes.nextOf (.ref it)) Q E s:=by
 obtain⟨o,c,g,hd⟩:=id b;obtain⟨l,e,_,k,d⟩:=h;unfold Builtin.SmallTypes.nextOf;refine Gb (TR (name:=Dx "__next__") b.typeIs F.slot_tuple_iterator_next
  (Tu F.slot_tuple_iterator_next b.typeIs F.entry_tuple_iterator_next ?_ (F.args_tuple_iterator_next_1 _)))
 show wpAny _ _ (field (.ref it) 0>>=_) _ _ s;refine Gb (TF c hd (x:=.ref t) rfl ?_);show wpAny _ _ (if(Value.ref t==Value.none)=Gf then _ else _) _ _ s;rw[Gh (show¬((Value.ref t==Value.none)=Gf)from Gw)];show wpAny _ _ (field (.ref it) 1>>=_) _ _ s;refine Gb (TF c hd (x:=.int i 0) rfl ?_);show wpAny _ _ (seqItems? (.ref t)>>=_) _ _ s;refine Gb (Dc e d ?_);simp only[Dm,j];refine Gb (Ev c hd (by simp) (Ge ⟨x,Xb,Ge (f _ ?_ (Heap.SameBut.update ..))⟩));exact⟨_,Heap.get?_update_self _ c (ER (DS hd _)),(Sy ..).trans g,by rw[DS hd];simp[rawInt]⟩
theorem U4{t:Gc}{b:Array Value}(h:A.handled=Gg)(c:s.heap.IsTupleIter it t i)(k:s.heap.IsTuple t b)(l:b[i]?=Gg)
  (j:∀h' e,Heap.ExtBut it s.heap h'->(∃o,h'.get? e=Ga o/\o.cls=.type "StopIteration")->E (.ref e) {s with heap:=h'}):wpAny (GY prog w) A (Builtin.SmallTypes.nextOf (.ref it)) Q E s:=by
 obtain⟨o,f,n,hd⟩:=id c;obtain⟨q,g,_,p,d⟩:=k;unfold Builtin.SmallTypes.nextOf;refine Gb (TR (name:=Dx "__next__") c.typeIs F.slot_tuple_iterator_next
  (Tu F.slot_tuple_iterator_next c.typeIs F.entry_tuple_iterator_next ?_ (F.args_tuple_iterator_next_1 _)))
 show wpAny _ _ (field (.ref it) 0>>=_) _ _ s;refine Gb (TF f hd (x:=.ref t) rfl ?_);show wpAny _ _ (if(Value.ref t==Value.none)=Gf then _ else _) _ _ s;rw[Gh (show¬((Value.ref t==Value.none)=Gf)from Gw)];show wpAny _ _ (field (.ref it) 1>>=_) _ _ s;refine Gb (TF f hd (x:=.int i 0) rfl ?_);show wpAny _ _ (seqItems? (.ref t)>>=_) _ _ s;refine Gb (Dc g d ?_);simp only[Dm,l];refine Gb (ET (Gb (Ev f hd (by simp) ?_)));show wpAny _ _ (newExc (.type "StopIteration") []>>=_) _ _ _;refine Gb ?_;simp only[newExc,newTuple];refine Gb (Tv ?_ (by size_fits));refine Gb (m:=firstArgMember _ _) (Fs (a:=Value.none) (by first|rfl|(simp only[firstArgMember];rfl)) ?_);refine Tv ?_ (by size_fits);simp only[raiseNew];refine Gb (Lx ?_);first|rw[show A.in1.handled=Gg from h]|rw[h]
 refine Gb (Ge (Ft ?_));exact j _ _ (((Heap.SameBut.update ..).extBut.push _).push _) ⟨_,Heap.get?_push_size _ Xb,Xb⟩
end
theorem Qm9{prog:Gk}{w:Gv}{l:Gc}(b:l≠it):Nxt prog w it l xs (λi h=>h.IsTupleIter it l i/\h.IsTuple l xs) where
 item:=λA E s i x Q st c g=>Uk st.1 st.2 c λh' a d=>g h' ⟨a,st.2.extBut d.extBut b⟩ d
 fin:=λA E s i Q j st c f=>U4 j st.1 st.2 c f
 keep:=λi h h' st k=>⟨let⟨o,ho,r⟩:=st.1;⟨o,k it (.inl Xb) o ho,r⟩,let⟨o,ho,r⟩:=st.2;⟨o,k l (.inr Xb) o ho,r⟩⟩
 there:=λi h st=>⟨let⟨_,e,_⟩:=st.1;Heap.lt_size e,let⟨_,e,_⟩:=st.2;Heap.lt_size e⟩
abbrev Ih(h:Heap)(z TI TO a:Gc)(f:Bool):Prop:=h.get? z=Ga {cls:=.type "zip",dict:=Gg,data:=.fields #[rawInt a,.bool f,.bool Gq,.ref TI,.ref TO],slots:=#[]}
section
variable{prog:Gk}{w:Gv}{A:TL}{E:Value->Gj->Prop}{s:Gj}{z TI TO i1 i2 l1 l2:Gc}{k:Nat}{xs ys:Array Value}{S1 S2:Nat->Heap->Prop}
theorem Qk5{y a b:Value}(D:FL z TI TO i1 i2 l1 l2)(W:Nxt prog w i1 l1 xs S1)(X:Nxt prog w i2 l2 ys S2)
  (hz:S0 s.heap z TI TO .none)(aa:DG s.heap TI (.ref i1) (.ref i2))(ab:DG s.heap TO a b)(h1:S1 k s.heap)(h2:S2 k s.heap)(hx:xs[k]?=Ga x)(hy:ys[k]?=Ga y)
  (hQ:∀h',Ih h' z TI TO s.heap.objs.size Gq->DG h' TO x y->S1 (k+1) h'->S2 (k+1) h'->DG h' s.heap.objs.size x y->
   (∀c o,c≠z->c≠TO->c≠i1->c≠i2->s.heap.get? c=Ga o->h'.get? c=Ga o)->Q (.ref s.heap.objs.size) {s with heap:=h'}):
  wpAny (GY prog w) A (Builtin.«zip.__next__» ⟨[.ref z],[]⟩) (λfin s'=>∃v,fin=.done (.ret v)/\Q v s') E s:=by
 show wpAny _ _ (field (.ref z) 2>>=_) _ _ _;refine Gb (TF hz rfl (x:=.bool Gq) rfl ?_);show wpAny _ _ (field (.ref z) 3>>=_) _ _ _;refine Gb (TF hz rfl (x:=.ref TI) rfl ?_);refine Gb (Dc aa rfl ?_);show wpAny _ _ (Builtin.SmallTypes.ownedTupleIsFree (.ref z)>>=_) _ _ _;refine Gb ?_;unfold Builtin.SmallTypes.ownedTupleIsFree;refine Gb (TF hz rfl (x:=.none) rfl (Ge ?_));simp only[Ss];refine Gb (ET ?_);refine Gb (TF hz rfl (x:=.ref TO) rfl ?_);refine Gb (DC hz (by simp) λh₁ q C=>?_);replace q:S0 h₁ z TI TO .ellipsis:=q;have Y:∀c o,c≠z->s.heap.get? c=Ga o->h₁.get? c=Ga o:=λc o h e=>C.extBut _ _ h e;refine Gb ?_;simp only[List.zipIdx_cons,List.zipIdx_nil,List.forIn_cons,List.forIn_nil];refine Gb (Gb (SE ?_));show wpAny _ _ (Builtin.SmallTypes.nextOf (.ref i1)>>=_) _ _ _;refine Gb (W.item _ _ _ k x _ (W.keep k _ h₁ h1 λc N o e=>Y c o (by rcases N with rfl|rfl;exact D.i1z;exact D.l1z) e) hx λT L n=>Ge ?_);have t:DG T TO a b:=n.extBut _ _ D.TOi1 (Y _ _ D.TOz ab);refine Gb (Dc t rfl ?_);refine Gb (E2 t λI m j=>?_);replace m:DG I TO x b:=m;refine Gb (Sw (Ge ?_));have Z:∀c o,c≠z->c≠i1->c≠TO->s.heap.get? c=Ga o->I.get? c=Ga o:=λc o J R S e=>j.extBut _ _ S (n.extBut _ _ R (Y c o J e));refine Gb (Gb (SE ?_));show wpAny _ _ (Builtin.SmallTypes.nextOf (.ref i2)>>=_) _ _ _;refine Gb (X.item _ _ _ k y _ (X.keep k _ I h2 λc N o e=>by
  rcases N with rfl|rfl
  ·exact Z _ o D.i2z D.i12.symm D.TOi2.symm e
  ·exact Z _ o D.l2z D.l2i1 D.l2TO e) hy λU M g=>Ge ?_)
 have u:DG U TO x b:=g.extBut _ _ D.TOi2 m;refine Gb (Dc u rfl ?_);refine Gb (E2 u λd i f=>?_);replace i:DG d TO x y:=i;refine Gb (Sw (Ge (Ge ?_)));refine Gb (Dc i rfl ?_);refine Gb (FM ?_);have hsz:d.objs.size=s.heap.objs.size:=by rw[f.1,g.1,j.1,n.1,C.1]
 have H:S0 d z TI TO .ellipsis:=f.extBut _ _ D.TOz.symm (g.extBut _ _ D.i2z.symm (j.extBut _ _ D.TOz.symm (n.extBut _ _ D.i1z.symm q)));have O:∀c o,c≠z->c≠TO->c≠i1->c≠i2->s.heap.get? c=Ga o->d.get? c=Ga o:=λc o J R S c4 e=>f.extBut _ _ R (g.extBut _ _ c4 (Z c o J S R e));have K:z<d.objs.size:=Heap.lt_size H;show wpAny _ _ (Builtin.SmallTypes.ownedTupleHandOut (.ref z) (.ref d.objs.size)>>=_) _ _ _;refine Gb ?_;unfold Builtin.SmallTypes.ownedTupleHandOut;have P:S0 (d.push {cls:=.type "tuple",data:=.seq #[x,y]}) z TI TO .ellipsis:=Heap.get?_push_of_some _ H;refine Gb (DC P (by simp) λV r F=>?_);replace r:S0 V z TI TO (rawInt d.objs.size):=r;refine DC r (by simp) λl p G=>?_;replace p:S0 l z TI TO (rawInt d.objs.size):=p;have up:∀c o,c≠z->d.get? c=Ga o->l.get? c=Ga o:=λc o J e=>G.extBut _ _ J (F.extBut _ _ J (Heap.get?_push_of_some _ e));have B:DG l d.objs.size x y:=G.extBut _ _ (Ts K) (F.extBut _ _ (Ts K) (Heap.get?_push_size _ Xb));rw[hsz]at p B;refine Ge ⟨_,Xb,?_⟩;show Q (.ref d.objs.size) _;rw[hsz];have a1:S1 (k+1) l:=W.keep _ _ _ L λc N o e=>by
  rcases N with rfl|rfl
  ·exact up _ o D.i1z (f.extBut _ _ D.TOi1.symm (g.extBut _ _ D.i12 (j.extBut _ _ D.TOi1.symm e)))
  ·exact up _ o D.l1z (f.extBut _ _ D.l1TO (g.extBut _ _ D.l1i2 (j.extBut _ _ D.l1TO e)))
 have a2:S2 (k+1) l:=X.keep _ _ _ M λc N o e=>by
  rcases N with rfl|rfl
  ·exact up _ o D.i2z (f.extBut _ _ D.TOi2.symm e)
  ·exact up _ o D.l2z (f.extBut _ _ D.l2TO e)
 exact hQ l p (up _ _ D.TOz i) a1 a2 B λc o J R S c4 e=>up c o J (O c o J R S c4 e)
theorem Qfk{a:Gc}{f:Bool}{h:Ee}{Q:Bool->Gj->Prop}(hz:Ih s.heap z TI TO a f)(g:s.heap.get? a=Ga h)(e:∀h',Ih h' z TI TO a Gf->Heap.SameBut z s.heap h'->Q Gq {s with heap:=h'}):
  wpAny (GY prog w) A (Builtin.SmallTypes.ownedTupleIsFree (.ref z)) Q E s:=by
 unfold Builtin.SmallTypes.ownedTupleIsFree;refine Gb (TF hz rfl (x:=rawInt a) rfl ?_);show wpAny _ _ (loadIfAlive ((a:Int).toNat)>>=_) _ _ _;rw[Dm];refine Gb (Rs g ?_);simp only[Option.isNone_some,TM,Ds];refine Gb (TF hz rfl (x:=.bool f) rfl ?_);cases f with
 |true=>rw[Gh (show¬((Value.bool Gf !=Value.bool Gf)=Gf)from Gw)];exact Ge (e _ hz (Heap.SameBut.refl _ _))
 |false=>rw[Gm (show(Value.bool Gq !=Value.bool Gf)=Gf from rfl)];exact Gb (DC hz (by simp) λd b c=>Ge (e d b c))
end
section
variable{prog:Gk}{w:Gv}{A:TL}{E:Value->Gj->Prop}{s:Gj}{z TI TO i1 i2 l1 l2:Gc}{k:Nat}{xs ys:Array Value}{S1 S2:Nat->Heap->Prop}
theorem Qsw{y:Value}{a:Gc}{f:Bool}{M:Ee}(D:FL z TI TO i1 i2 l1 l2)(r:Nxt prog w i1 l1 xs S1)(t:Nxt prog w i2 l2 ys S2)
  (hz:Ih s.heap z TI TO a f)(J:s.heap.get? a=Ga M)(F:DG s.heap TI (.ref i1) (.ref i2))(h1:S1 k s.heap)(h2:S2 k s.heap)(K:xs[k]?=Ga x)(L:ys[k]?=Ga y)
  (I:∀h',Ih h' z TI TO a Gf->S1 (k+1) h'->S2 (k+1) h'->DG h' s.heap.objs.size x y->
   (∀c o,c≠z->c≠i1->c≠i2->s.heap.get? c=Ga o->h'.get? c=Ga o)->Q (.ref s.heap.objs.size) {s with heap:=h'}):
  wpAny (GY prog w) A (Builtin.«zip.__next__» ⟨[.ref z],[]⟩) (λfin s'=>∃v,fin=.done (.ret v)/\Q v s') E s:=by
 show wpAny _ _ (field (.ref z) 2>>=_) _ _ _;refine Gb (TF hz rfl (x:=.bool Gq) rfl ?_);show wpAny _ _ (field (.ref z) 3>>=_) _ _ _;refine Gb (TF hz rfl (x:=.ref TI) rfl ?_);refine Gb (Dc F rfl ?_);show wpAny _ _ (Builtin.SmallTypes.ownedTupleIsFree (.ref z)>>=_) _ _ _;refine Gb (Qfk hz J λh₁ n i=>?_);have G:∀c o,c≠z->s.heap.get? c=Ga o->h₁.get? c=Ga o:=λc o h e=>i.extBut _ _ h e;simp only[TM,Ds];refine Gb ?_;rw[<-EE];simp only[List.forIn_cons,List.forIn_nil];refine Gb (Gb (T3 ?_));show wpAny _ _ (Builtin.SmallTypes.nextOf (.ref i1)>>=_) _ _ _;refine Gb (r.item _ _ _ k x _ (r.keep k _ h₁ h1 λc p o e=>G c o (by rcases p with rfl|rfl;exact D.i1z;exact D.l1z) e) K λj l d=>Ge (Ge ?_));have u:∀c o,c≠z->c≠i1->s.heap.get? c=Ga o->j.get? c=Ga o:=λc o B C e=>d.extBut _ _ C (G c o B e);refine Gb (Gb (T3 ?_));show wpAny _ _ (Builtin.SmallTypes.nextOf (.ref i2)>>=_) _ _ _;refine Gb (t.item _ _ _ k y _ (t.keep k _ j h2 λc p o e=>by
  rcases p with rfl|rfl
  ·exact u _ o D.i2z D.i12.symm e
  ·exact u _ o D.l2z D.l2i1 e) L λg m b=>Ge (Ge (Ge ?_)))
 refine Gb (FM (hsz:=by show 2<=Gi;decide) ?_);have hsz:g.objs.size=s.heap.objs.size:=by rw[b.1,d.1,i.1]
 refine Ge ⟨_,Xb,?_⟩;show Q (.ref g.objs.size) _;rw[hsz];have q:∀c o,g.get? c=Ga o->(g.push {cls:=.type "tuple",data:=.seq #[x,y]}).get? c=Ga o:=λc o e=>Heap.get?_push_of_some _ e;refine I _ (q _ _ (b.extBut _ _ D.i2z.symm (d.extBut _ _ D.i1z.symm n))) (r.keep _ _ _ l λc p o e=>q _ _ ?_) (t.keep _ _ _ m λc p o e=>q _ _ e) (by rw[<-hsz];exact Heap.get?_push_size _ Xb) λc o B C H e=>q _ _ (b.extBut _ _ H (u c o B C e));rcases p with rfl|rfl
 ·exact b.extBut _ _ D.i12 e
 ·exact b.extBut _ _ D.l1i2 e
theorem Qp8{a b:Value}{Q:Fin->Gj->Prop}(U:A.handled=Gg)(D:FL z TI TO i1 i2 l1 l2)(L:Nxt prog w i1 l1 xs S1)(R:Nxt prog w i2 l2 ys S2)
  (hz:S0 s.heap z TI TO .none\/∃c f oa,Ih s.heap z TI TO c f/\s.heap.get? c=Ga oa)(N:DG s.heap TI (.ref i1) (.ref i2))(Y:DG s.heap TO a b)(h1:S1 k s.heap)(h2:S2 k s.heap)(G:xs[k]?=Gg\/ys[k]?=Gg)
  (S:∀h' e,(∀c o,c≠z->c≠TO->c≠i1->c≠i2->s.heap.get? c=Ga o->h'.get? c=Ga o)->(∃o,h'.get? e=Ga o/\o.cls=.type "StopIteration")->E (.ref e) {s with heap:=h'}):
  wpAny (GY prog w) A (Builtin.«zip.__next__» ⟨[.ref z],[]⟩) Q E s:=by
 rcases hz with hz|⟨ca,f,oa,hz,ha⟩
 ·show wpAny _ _ (field (.ref z) 2>>=_) _ _ _;refine Gb (TF hz rfl (x:=.bool Gq) rfl ?_);show wpAny _ _ (field (.ref z) 3>>=_) _ _ _;refine Gb (TF hz rfl (x:=.ref TI) rfl ?_);refine Gb (Dc N rfl ?_);show wpAny _ _ (Builtin.SmallTypes.ownedTupleIsFree (.ref z)>>=_) _ _ _;refine Gb ?_;unfold Builtin.SmallTypes.ownedTupleIsFree;refine Gb (TF hz rfl (x:=.none) rfl (Ge ?_));simp only[Ss];refine Gb (ET ?_);refine Gb (TF hz rfl (x:=.ref TO) rfl ?_);refine Gb (DC hz (by simp) λh₁ j n=>?_);replace j:S0 h₁ z TI TO .ellipsis:=j;have F:∀c o,c≠z->s.heap.get? c=Ga o->h₁.get? c=Ga o:=λc o h e=>n.extBut _ _ h e;refine Gb ?_;simp only[List.zipIdx_cons,List.zipIdx_nil,List.forIn_cons,List.forIn_nil];refine Gb (Gb (SE ?_));show wpAny _ _ (Builtin.SmallTypes.nextOf (.ref i1)>>=_) _ _ _;have B:=L.keep k _ h₁ h1 λc I o e=>F c o (by rcases I with rfl|rfl;exact D.i1z;exact D.l1z) e;cases hx:xs[k]? with
  |none=>
   refine Gb (L.fin _ _ _ k _ U B hx λi e d J=>?_);obtain⟨oe,m,r⟩:=J;have v:S0 i z TI TO .ellipsis:=d _ _ D.i1z.symm j;have K:e≠z:=λx=>by subst x;rw[v]at m;cases m;simp at r
   refine DC v (by simp) λl _ g=>S l e (λc o q _ C _ x=>g.extBut _ _ q (d _ _ C (F _ _ q x))) ⟨oe,g.extBut _ _ K m,r⟩
  |some x=>
   have Z:ys[k]?=Gg:=by rcases G with h|h;rw[hx]at h;cases h;exact h
   refine Gb (L.item _ _ _ k x _ B hx λi H d=>Ge ?_);have p:DG i TO a b:=d.extBut _ _ D.TOi1 (F _ _ D.TOz Y);refine Gb (Dc p rfl ?_);refine Gb (E2 p λl T g=>?_);refine Gb (Sw (Ge ?_));have W:∀c o,c≠z->c≠i1->c≠TO->s.heap.get? c=Ga o->l.get? c=Ga o:=λc o q M C e=>g.extBut _ _ C (d.extBut _ _ M (F c o q e));refine Gb (Gb (SE ?_));show wpAny _ _ (Builtin.SmallTypes.nextOf (.ref i2)>>=_) _ _ _;refine Gb (R.fin _ _ _ k _ U (R.keep k _ l h2 λc I o e=>by
    rcases I with rfl|rfl
    ·exact W _ o D.i2z D.i12.symm D.TOi2.symm e
    ·exact W _ o D.l2z D.l2i1 D.l2TO e) Z λO e t J=>?_)
   obtain⟨oe,m,r⟩:=J;have y:S0 O z TI TO .ellipsis:=t _ _ D.i2z.symm (g.extBut _ _ D.TOz.symm (d.extBut _ _ D.i1z.symm j));have K:e≠z:=λx=>by subst x;rw[y]at m;cases m;simp at r
   refine DC y (by simp) λP _ u=>S P e (λc o q M C X x=>u.extBut _ _ q (t _ _ X (W c o q C M x))) ⟨oe,u.extBut _ _ K m,r⟩
 ·show wpAny _ _ (field (.ref z) 2>>=_) _ _ _;refine Gb (TF hz rfl (x:=.bool Gq) rfl ?_);show wpAny _ _ (field (.ref z) 3>>=_) _ _ _;refine Gb (TF hz rfl (x:=.ref TI) rfl ?_);refine Gb (Dc N rfl ?_);show wpAny _ _ (Builtin.SmallTypes.ownedTupleIsFree (.ref z)>>=_) _ _ _;refine Gb (Qfk hz ha λh₁ j n=>?_);have F:∀c o,c≠z->s.heap.get? c=Ga o->h₁.get? c=Ga o:=λc o h e=>n.extBut _ _ h e;simp only[TM,Ds];refine Gb ?_;rw[<-EE];simp only[List.forIn_cons,List.forIn_nil];refine Gb (Gb (T3 ?_));show wpAny _ _ (Builtin.SmallTypes.nextOf (.ref i1)>>=_) _ _ _;have B:=L.keep k _ h₁ h1 λc I o e=>F c o (by rcases I with rfl|rfl;exact D.i1z;exact D.l1z) e;cases hx:xs[k]? with
  |none=>exact Gb (L.fin _ _ _ k _ U B hx λi e d J=>S i e (λc o q _ C _ x=>d _ _ C (F _ _ q x)) J)
  |some x=>
   have Z:ys[k]?=Gg:=by rcases G with h|h;rw[hx]at h;cases h;exact h
   refine Gb (L.item _ _ _ k x _ B hx λi H d=>Ge (Ge ?_));have V:∀c o,c≠z->c≠i1->s.heap.get? c=Ga o->i.get? c=Ga o:=λc o q M e=>d.extBut _ _ M (F c o q e);refine Gb (Gb (T3 ?_));show wpAny _ _ (Builtin.SmallTypes.nextOf (.ref i2)>>=_) _ _ _;exact Gb (R.fin _ _ _ k _ U (R.keep k _ i h2 λc I o e=>by
    rcases I with rfl|rfl
    ·exact V _ o D.i2z D.i12.symm e
    ·exact V _ o D.l2z D.l2i1 e) Z λl e g J=>S l e (λc o q _ C X x=>g _ _ X (V c o q C x)) J)
structure ZSt(S1 S2:Nat->Heap->Prop)(xs ys:Array Value)(z TI TO i1 i2 S:Gc)(i:Nat)(h:Heap)(acc:List Value):Prop where
 zip:(i=0/\S0 h z TI TO .none)\/∃c f oa,Ih h z TI TO c f/\h.get? c=Ga oa/\c≠S/\c≠z/\c≠TO/\c≠i1/\c≠i2
 ti:DG h TI (.ref i1) (.ref i2)
 to:∃a b,DG h TO a b
 s1:S1 i h
 s2:S2 i h
 len:acc.length=i
 sl:S<h.objs.size
 out:∀(j:Nat)v,acc[j]?=Ga v->∃c x y,v=.ref c/\xs[j]?=Ga x/\ys[j]?=Ga y/\DG h c x y/\c≠S/\c≠z/\c≠TO/\c≠i1/\c≠i2/\z<c
theorem Qda{Q:Option Value->Gj->Prop}{R:Value->Gj->Prop}(c:s.TypeIs (.ref z) "zip")(h:wpAny (GY prog w) A.in1 (Builtin.«zip.__next__» ⟨[.ref z],[]⟩) (λfin s'=>∃v,fin=.done (.ret v)/\Q (Ga v) s') (λe s'=>∃o,(∃a,e=.ref a/\s'.heap.get? a=Ga o/\o.cls=.type "StopIteration")/\Q Gg s') s):wpAny (GY prog w) A (pyNext (.ref z)) Q E s:=by
 unfold pyNext;refine Gb (EW (TR (name:=Dx "__next__") c F.slot_zip_next
  (Tu F.slot_zip_next c F.entry_zip_next (DB h (λfin s'⟨v,e,q⟩=>⟨v,e,Ge q⟩) λe s'⟨o,⟨a,ea,f,d⟩,q⟩=>?_) (F.args_zip_next_1 _))))
 subst ea;exact Gb (Ez (T:="StopIteration") (b:=Gf) ⟨o,f,d⟩ Lj (Ge q))
theorem ZSt.type{S:Gc}{h:Heap}{acc:List Value}(x:ZSt S1 S2 xs ys z TI TO i1 i2 S i h acc):MF {s with heap:=h} (.ref z) "zip":=by
 rcases x.zip with⟨_,e⟩|⟨c,f,a,e,_⟩
 ·exact⟨_,e,Xb⟩
 ·exact⟨_,e,Xb⟩
theorem Qu8{S:Gc}(hh:A.handled=Gg)(D:FL z TI TO i1 i2 l1 l2)(B:Nxt prog w i1 l1 xs S1)(C:Nxt prog w i2 l2 ys S2)(hS:S≠z/\S≠TI/\S≠TO/\S≠i1/\S≠i2/\S≠l1/\S≠l2):
  Qmp prog w A z S [z,TO,i1,i2] (min xs.size ys.size) (ZSt S1 S2 xs ys z TI TO i1 i2 S)
   (λh acc=>∀(j:Nat)v,acc[j]?=Ga v->∃c x y,v=.ref c/\xs[j]?=Ga x/\ys[j]?=Ga y/\DG h c x y/\c≠S/\z<c):=by
 have nf:∀{c:Gc},c≠z->c≠TO->c≠i1->c≠i2->c∉[z,TO,i1,i2]:=λa b c d h=>by simp at h;rcases h with h|h|h|h<;>contradiction
 have fn:∀{c:Gc},c∉[z,TO,i1,i2]->c≠z/\c≠TO/\c≠i1/\c≠i2:=λh=>by simp at h;exact h
 refine⟨λi s acc Q E hi st Z=>?_,λs acc Q E st Z=>?_,λi h h' acc st k n=>?_⟩
 ·have hx:xs[i]?=Ga xs[i]:=Tf (by omega);have hy:ys[i]?=Ga ys[i]:=Tf (by omega);obtain⟨ta,tb,g⟩:=st.to;have n:=st.sl;refine Qda (R:=λ_ _=>True) st.type ?_;have fin:∀h',(∃c f p,Ih h' z TI TO c f/\h'.get? c=Ga p/\c≠S/\c≠z/\c≠TO/\c≠i1/\c≠i2)->(∃a b,DG h' TO a b)->S1 (i+1) h'->S2 (i+1) h'->DG h' s.heap.objs.size xs[i] ys[i]->(∀c o,c≠z->c≠TO->c≠i1->c≠i2->s.heap.get? c=Ga o->h'.get? c=Ga o)->Q (Ga (.ref s.heap.objs.size)) {s with heap:=h',toks:=s.toks}:=by
   intro h' aa N G H t l;have W:z<s.heap.objs.size:=by rcases st.zip with⟨_,e⟩|⟨c,f,p,e,_⟩<;>exact Heap.lt_size e
   have u:TO<s.heap.objs.size:=Heap.lt_size g;have ab:i1≠s.heap.objs.size:=Tc (B.there _ _ st.s1).1;have ac:i2≠s.heap.objs.size:=Tc (C.there _ _ st.s2).1;refine Z _ h' s.toks ⟨.inr aa,l _ _ D.TIz D.TITO D.TIi1 D.TIi2 st.ti,N,G,H,by simp[st.len],M1 n (Heap.lt_size t),λj v m=>?_⟩ λb o hb e=>l b o (fn hb).1 (fn hb).2.1 (fn hb).2.2.1 (fn hb).2.2.2 e;rcases Tk j acc.length with h|h
   ·rw[List.getElem?_append_left h]at m;obtain⟨c,x,y,J,K,L,M,F,P,T,U,V,I⟩:=st.out j v m;exact⟨c,x,y,J,K,L,l _ _ P T U V M,F,P,T,U,V,I⟩
   ·rw[List.getElem?_append_right h]at m;have h0:j - acc.length=0:=by have:=(List.getElem?_eq_some_iff.mp m).1;simp at this;omega
    rw[h0]at m;simp at m;subst m;have:j=i:=by have:=st.len;omega
    subst this;exact⟨_,_,_,Xb,hx,hy,t,Ts n,Ts W,Ts u,Gp ab,Gp ac,W⟩
  have W:z<s.heap.objs.size:=by rcases st.zip with⟨_,e⟩|⟨c,f,p,e,_⟩<;>exact Heap.lt_size e
  have u:TO<s.heap.objs.size:=Heap.lt_size g;rcases st.zip with⟨_,hz⟩|⟨c,f,p,hz,q,O,c2,c3,c4,c5⟩
  ·exact Qk5 D B C hz st.ti g st.s1 st.s2 hx hy λh' X Y G H t l=>fin h' ⟨_,_,_,X,t,Ts n,Ts W,Ts u,Ts (B.there _ _ st.s1).1,Ts (C.there _ _ st.s2).1⟩ ⟨_,_,Y⟩ G H t l
  ·exact Qsw D B C hz q st.ti st.s1 st.s2 hx hy λh' X G H t l=>fin h' ⟨c,Gf,p,X,l _ _ c2 c4 c5 q,O,c2,c3,c4,c5⟩ ⟨_,_,l _ _ D.TOz D.TOi1 D.TOi2 g⟩ G H t λb o b1 _ b3 b4 e=>l b o b1 b3 b4 e
 ·obtain⟨ta,tb,g⟩:=st.to;refine Qda (R:=λ_ _=>True) st.type (Qp8 (k:=min xs.size ys.size) hh D B C ?_ st.ti g st.s1 st.s2 ?_ λh' e l he=>?_)
  ·rcases st.zip with⟨_,hz⟩|⟨c,f,p,hz,q,_⟩
   ·exact .inl hz
   ·exact .inr ⟨c,f,p,hz,q⟩
  ·rcases Nat.le_total xs.size ys.size with h|h
   ·exact .inl (Dh (by omega))
   ·exact .inr (Dh (by omega))
  ·obtain⟨o,ho,q⟩:=he;refine⟨o,⟨e,Xb,ho,q⟩,Z h' s.toks (λj v m=>?_) λb o hb e=>l b o (fn hb).1 (fn hb).2.1 (fn hb).2.2.1 (fn hb).2.2.2 e⟩;obtain⟨c,x,y,J,K,L,M,F,P,T,U,V,I⟩:=st.out j v m;exact⟨c,x,y,J,K,L,l _ _ P T U V M,F,I⟩
 ·obtain⟨ta,tb,g⟩:=st.to;refine⟨?_,k _ _ (Gp hS.2.1) st.ti,⟨ta,tb,k _ _ (Gp hS.2.2.1) g⟩,B.keep _ _ _ st.s1 λb hb o e=>k b o ?_ e,C.keep _ _ _ st.s2 λb hb o e=>k b o ?_ e,st.len,n,λj v m=>?_⟩
  ·rcases st.zip with⟨I,hz⟩|⟨c,f,p,hz,q,O,r⟩
   ·exact .inl ⟨I,k _ _ (Gp hS.1) hz⟩
   ·exact .inr ⟨c,f,p,k _ _ (Gp hS.1) hz,k _ _ O q,O,r⟩
  ·rcases hb with rfl|rfl
   ·exact Gp hS.2.2.2.1
   ·exact Gp hS.2.2.2.2.2.1
  ·rcases hb with rfl|rfl
   ·exact Gp hS.2.2.2.2.1
   ·exact Gp hS.2.2.2.2.2.2
  ·obtain⟨c,x,y,J,K,L,M,F,r⟩:=st.out j v m;exact⟨c,x,y,J,K,L,k _ _ F M,F,r⟩
end
theorem Qkr:typeLookup (.type "zip") "__len__"=pure Gg:=by rw[E7,Es];kernel_rfl
theorem Qja:typeLookup (.type "zip") "__length_hint__"=pure Gg:=by rw[E7,Es];kernel_rfl
section
variable{prog:Gk}{w:Gv}{A:TL}{E:Value->Gj->Prop}{s:Gj}
theorem Qr4{z:Gc}{Q:Bool->Gj->Prop}(a:s.TypeIs (.ref z) "zip")(h:Q Gf s):wpAny (GY prog w) A (Builtin.List.listLengthHint (.ref z)) Q E s:=by unfold Builtin.List.listLengthHint;refine Gb (DL a Qkr ?_);show wpAny _ A (specialOf (Value.ref z) (Dx "__length_hint__")>>=_) _ _ _;refine Gb (DL a Qja ?_);exact Ge h
end
abbrev Qls(h:Heap)(l1:Gc):Heap:=h.push {cls:=.type "tuple_iterator",data:=.fields #[.ref l1,.int 0 0]}
abbrev Qlv(h:Heap)(l1 l2:Gc):Heap:=(Qls h l1).push {cls:=.type "tuple_iterator",data:=.fields #[.ref l2,.int 0 0]}
abbrev Qlz(h:Heap)(l1 l2:Gc):Heap:=(Qlv h l1 l2).push {cls:=.type "tuple",data:=.seq #[.ref h.objs.size,.ref (Qls h l1).objs.size]}
abbrev Qmc(h:Heap)(l1 l2:Gc):Heap:=(Qlz h l1 l2).push {cls:=.type "tuple",data:=.seq #[.none,.none]}
abbrev Qd7(h:Heap)(l1 l2:Gc):Heap:=(Qmc h l1 l2).push {cls:=.type "zip",data:=.fields #[.none,.bool Gq,.bool Gq,.ref (Qlv h l1 l2).objs.size,.ref (Qlz h l1 l2).objs.size]}
theorem Qdm(l1 l2:Gc)(xs ys:Array Value):
  Meets (Builtin.«zip.__new__» ⟨[.type "zip",.ref l1,.ref l2],[]⟩) (λ_ R s=>s.heap.IsTuple l1 xs/\s.heap.IsTuple l2 ys/\
   R (.ok (.ret (.ref (Qmc s.heap l1 l2).objs.size))) {s with heap:=Qd7 s.heap l1 l2}):=
 .of_wp λprog w A R s h=>by
  obtain⟨f,g,d,tk,os⟩:=s;obtain⟨c,e,h⟩:=h;have i:=sub_zip;have a:Heap.IsTuple (Nv ⟨f,g,d,tk,os⟩) l1 xs:=c;have b:Heap.IsTuple (Nv ⟨f.push {cls:=.type "tuple_iterator",data:=.fields #[.ref l1,.int 0 0]},g,d,tk,os⟩) l2 ys:=Heap.IsTuple.push e _;wp_walk using Sc a,Sc b
  exact⟨_,Xb,h⟩
section
variable{prog:Gk}{w:Gv}{A:TL}{E:Value->Gj->Prop}{s:Gj}
theorem Qhm{l1 l2:Gc}{ys:Array Value}(b:s.heap.IsTuple l1 xs)(d:s.heap.IsTuple l2 ys)
  (h:∀h',S0 h' (s.heap.objs.size+4) (s.heap.objs.size+2) (s.heap.objs.size+3) .none->DG h' (s.heap.objs.size+2) (.ref s.heap.objs.size) (.ref (s.heap.objs.size+1))->
   DG h' (s.heap.objs.size+3) .none .none->h'.IsTupleIter s.heap.objs.size l1 0->h'.IsTupleIter (s.heap.objs.size+1) l2 0->h'.objs.size=s.heap.objs.size+5->
   (∀c o,s.heap.get? c=Ga o->h'.get? c=Ga o)->Q (.ref (s.heap.objs.size+4)) {s with heap:=h'}):
  wpAny (GY prog w) A (call (.type "zip") [.ref l1,.ref l2]) Q E s:=by
 refine callType_new F.called_zip (by decide) (F.typeCall_zip_2 _ _) (F.newCall_zip_2 _ _) (λobj=>F.args_object_init_3 obj _ _) F.entry_zip_new
  (Qdm l1 l2 xs ys) ⟨b,d,?_⟩
 have e:(Qls s.heap l1).objs.size=s.heap.objs.size+1:=Heap.size_push ..;have f:(Qlv s.heap l1 l2).objs.size=s.heap.objs.size+2:=by rw[Heap.size_push,e]
 have g:(Qlz s.heap l1 l2).objs.size=s.heap.objs.size+3:=by rw[Heap.size_push,f]
 have i:(Qmc s.heap l1 l2).objs.size=s.heap.objs.size+4:=by rw[Heap.size_push,g]
 have n:(Qd7 s.heap l1 l2).objs.size=s.heap.objs.size+5:=by rw[Heap.size_push,i]
 have a:(Qd7 s.heap l1 l2).get? (Qmc s.heap l1 l2).objs.size=Ga _:=Heap.get?_push_size _ rfl;have l:(Qd7 s.heap l1 l2).get? (Qlz s.heap l1 l2).objs.size=Ga _:=Heap.get?_push_of_some _ (Heap.get?_push_size _ Xb);have k:(Qd7 s.heap l1 l2).get? (Qlv s.heap l1 l2).objs.size=Ga _:=Heap.get?_push_of_some _ (Heap.get?_push_of_some _ (Heap.get?_push_size _ Xb));have j:(Qd7 s.heap l1 l2).get? (Qls s.heap l1).objs.size=Ga _:=Heap.get?_push_of_some _ (Heap.get?_push_of_some _ (Heap.get?_push_of_some _ (Heap.get?_push_size _ Xb)));have m:(Qd7 s.heap l1 l2).get? s.heap.objs.size=Ga _:=Heap.get?_push_of_some _ (Heap.get?_push_of_some _ (Heap.get?_push_of_some _ (Heap.get?_push_of_some _ (Heap.get?_push_size _ Xb))));show _/\_;rw[f,g,i]at a;rw[e,f]at k;rw[g]at l;rw[e]at j;rw[i];exact⟨⟨_,a,Xb⟩,h _ a k l ⟨_,m,Xb,Xb⟩ ⟨_,j,Xb,Xb⟩ n λc o x=>Heap.get?_push_of_some _ (Heap.get?_push_of_some _ (Heap.get?_push_of_some _ (Heap.get?_push_of_some _ (Heap.get?_push_of_some _ x))))⟩
theorem Qh5{S1 S2:Nat->Heap->Prop}{l1 l2:Gc}{ys:Array Value}{n0:Nat}(M:A.handled=Gg)(q:Nxt prog w n0 l1 xs S1)(r:Nxt prog w (n0+1) l2 ys S2)(h1:l1<n0)(h2:l2<n0)(hsz:s.heap.objs.size=n0+5)
  (hz:S0 s.heap (n0+4) (n0+2) (n0+3) .none)(g:DG s.heap (n0+2) (.ref n0) (.ref (n0+1)))(i:DG s.heap (n0+3) .none .none)(m:S1 0 s.heap)(p:S2 0 s.heap)(P:min xs.size ys.size<=Gi)
  (L:∀h' tk acc c,(∀b o,b<n0->s.heap.get? b=Ga o->h'.get? b=Ga o)->h'.get? (n0+5)=Ga {cls:=.type "list",dict:=Gg,data:=.seq acc c,slots:=#[]}->acc.size=min xs.size ys.size->
   (∀(j:Nat)v,acc.toList[j]?=Ga v->∃c x y,v=.ref c/\xs[j]?=Ga x/\ys[j]?=Ga y/\DG h' c x y/\c≠n0+5/\n0<=c)->Q (.ref (n0+5)) {s with heap:=h',toks:=tk}):
  wpAny (GY prog w) A (call (.type "list") [.ref (n0+4)]) Q E s:=by
 have D:=Md (n:=n0) h1 h2;have G:=Qu8 (A:=A.in1.in1) (S:=s.heap.objs.size) M D q r ⟨by rw[hsz];exact Ts (DQ _),by rw[hsz];exact Ts (by show n0+2<n0+5;exact Ea (by decide) _),by rw[hsz];exact Ts (by show n0+3<n0+5;exact Ea (by decide) _),by rw[hsz];exact Ts (SJ (by decide)),by rw[hsz];exact Ts (by show n0+1<n0+5;exact Ea (by decide) _),by rw[hsz];exact Ts (Tg h1 (Di _ _)),by rw[hsz];exact Ts (Tg h2 (Di _ _))⟩;refine Qit (T:="zip") (hb:=Gf) G (λb hb=>?_) (by rw[hsz];exact DQ _) P (λK a l=>⟨.inl ⟨Xb,a _ _ hz⟩,a _ _ g,⟨_,_,a _ _ i⟩,q.keep _ _ _ m λb _ o e=>a b o e,r.keep _ _ _ p λb _ o e=>a b o e,Xb,l,λj v k=>by simp at k⟩) (λh acc st=>st.type) (by decide) (by decide) (λA E h Q st d=>?_) (λA E h Q st d=>Qr4 st.type d) (λh' tk acc c N hS O t=>?_)
 ·simp only[List.mem_cons,List.not_mem_nil,Eb]at hb;rw[hsz];rcases hb with h|h|h|h<;>rw[h]
  ·exact DQ _
  ·exact Ea (by decide) _
  ·exact SJ (by decide)
  ·exact Ea (by decide) _
 ·rcases st.zip with⟨_,e⟩|⟨c,f,R,e,_⟩
  ·exact wpAny_pyIter_zip e d
  ·refine Sx (s:={s with heap:=h}) ⟨_,e,Xb⟩ F.slot_zip_iter (Tu F.slot_zip_iter ⟨_,e,Xb⟩ F.entry_zip_iter ?_ (F.args_zip_iter_1 _));show wpAny _ _ (ret (.ref (n0+4))) _ _ _;exact Ge ⟨_,Xb,"zip",_,⟨_,e,Xb⟩,F.slot_zip_next.lookup,d⟩
 ·rw[hsz]at hS t⊢;refine L h' tk acc c (λb o hb e=>N b o (λz=>?_) e) hS O λj v k=>?_
  ·simp only[List.mem_cons,List.not_mem_nil,Eb]at z;rcases z with h|h|h|h<;>rw[h]at hb
   ·exact absurd hb (LK.mpr (Di _ _))
   ·exact absurd hb (LK.mpr (Di _ _))
   ·exact absurd hb (DO _)
   ·exact absurd hb (LK.mpr (Di _ _))
  ·obtain⟨c,x,y,u,B,C,H,I,J⟩:=t j v k;exact⟨c,x,y,u,B,C,H,I,SM (Si (Di _ _) J)⟩
end
end PySem
namespace L2
open PySem PySem.Spec PyProof.Rows
theorem Inv.Qx2{X:Cx}{pins:List (Gc×Ee)}{σ:List (Option V)}{H H':Hp}{s:Gj}{h':Heap}{t':Nat}(I:Inv X pins σ H s)(k:∀b u,s.heap.get? b=Ga u->h'.get? b=Ga u)(a:∀b,b<s.heap.objs.size->H' b=H b)
  (new:∀b o,s.heap.objs.size<=b->H' b=Ga o->Z1 X.prog X.w H' h' b o):Inv X pins σ H' {s with heap:=h',toks:=t'}:=by
 have d:∀b o,H b=Ga o->H' b=Ga o:=λb o e=>by rw[a b (I.Zw b o e).lt];exact e
 refine I.un ⟨λb u q _ _ _=>k b u q,λb u q _ _ _=>⟨u.slots,k b u q⟩,λb u q n _=>by rw[a b (Heap.lt_size q)];exact n,λb u q _=>⟨u,k b u q⟩,λb xs e=>d b _ e,λb o u e=>d b _ e,λb ps e=>⟨#[],by rw[d b _ e];simp⟩⟩ λb o e=>?_;by_cases hb:b<s.heap.objs.size
 ·rw[a b hb]at e;exact(I.Zw b o e).Qh9 (λc u _ q=>k c u q) (λc q=>d c _ q) λc xs q=>d c _ q
 ·exact new b o (Fn hb) e
def PrV(H:Hp)(v:V)(p:V×V):Prop:=∃c,v=.ref c/\H c=Ga (.tup [p.1,p.2])
def Q1y(K:Gd):List V->Hp->VK->Prop:=λvs H Q=>∃p q xs ys,vs=[.ref p,.ref q]/\((Zc K H p xs/\Zc K H q ys)\/(Z2 K H p xs/\Z2 K H q ys))/\
 ∀(r:Gc)(es:List V)(H':Hp),Qz H H'->H r=Gg->H' r=Ga (.lst es)->Paired (PrV H') es (xs.zip ys)->Q (.ref r) H'
open Classical in
noncomputable def Qeb(H:Hp)(r:Gc)(es:List V)(xs ys:List V):Hp:=λb=>if b=r then Ga (.lst es)else if h:∃p:V×V,∃j:Nat,es[j]?=Ga (.ref b)/\xs[j]?=Ga p.1/\ys[j]?=Ga p.2 then Ga (.tup [(EU h).1,(EU h).2])else H b
section
variable{X:Cx}{pins:List (Gc×Ee)}{σ:St}{H:Hp}{s:Gj}
theorem Qm3{h':Heap}{tk c:Nat}{n0:Nat}{acc:Array Value}{xs ys:List V}{us R:List Value}(I:Inv X pins σ H s)(i:s.heap.objs.size=n0)(T:Zv xs us)(U:Zv ys R)(hk:∀b o,b<n0->s.heap.get? b=Ga o->h'.get? b=Ga o)
  (hS:h'.get? (n0+5)=Ga {cls:=.type "list",dict:=Gg,data:=.seq acc c,slots:=#[]})(C:acc.size=min us.length R.length)(hz:xs.length<=Gi)
  (J:∀(j:Nat)v,acc.toList[j]?=Ga v->∃c x y,v=.ref c/\us[j]?=Ga x/\R[j]?=Ga y/\DG h' c x y/\c≠n0+5/\n0<=c):
  ∃es H',Inv X pins σ H' {s with heap:=h',toks:=tk}/\Qz H H'/\H (n0+5)=Gg/\H' (n0+5)=Ga (.lst es)/\Paired (PrV H') es (xs.zip ys):=by
 have lx:=T.length;have ly:=U.length;have ex:∀j:Nat,j<acc.size->∃c,acc.toList[j]?=Ga (Value.ref c):=λj A=>by
  have e:acc.toList[j]?=Ga acc[j]:=by rw[T5,Tf A]
  obtain⟨c,x,y,a,_⟩:=J j _ e;exact⟨c,by rw[e,a]⟩
 let es:List V:=(List.range acc.size).map λj=>match acc.toList[j]? with|some (Value.ref c)=>V.ref c|_=>V.non
 have f:∀(j:Nat)c,acc.toList[j]?=Ga (Value.ref c)->es[j]?=Ga (V.ref c):=λj c e=>by
  have A:j<acc.size:=by rw[<-Tz];exact(List.getElem?_eq_some_iff.mp e).1
  show((List.range acc.size).map _)[j]?=_;rw[List.getElem?_map,List.getElem?_range A,TZ];simp only[e]
 have w:∀(j:Nat)b,es[j]?=Ga (V.ref b)->acc.toList[j]?=Ga (Value.ref b):=λj b e=>by
  have A:j<acc.size:=by have:=(List.getElem?_eq_some_iff.mp e).1;simpa[es]using this
  obtain⟨c,F⟩:=ex j A;rw[f j c F]at e;cases e;exact F
 have g:es.length=acc.size:=by simp[es]
 have M:acc.size=(xs.zip ys).length:=by rw[List.length_zip,C,lx,ly]
 have key:∀b(p:V×V)(j:Nat),es[j]?=Ga (.ref b)->xs[j]?=Ga p.1->ys[j]?=Ga p.2->∃u v,RelV p.1 u/\RelV p.2 v/\DG h' b u v/\b≠n0+5/\n0<=b:=λb p j a d q=>by obtain⟨c,x,y,Y,Z,f3,f4,f5,f6⟩:=J j _ (w j b a);cases Y;obtain⟨u,S,ru⟩:=T.get d;obtain⟨v,B,rv⟩:=U.get q;rw[Z]at S;cases S;rw[f3]at B;cases B;exact⟨x,y,ru,rv,f4,f5,f6⟩
 have D:∀b(p:V×V)(j:Nat),es[j]?=Ga (.ref b)->xs[j]?=Ga p.1->ys[j]?=Ga p.2->Qeb H (n0+5) es xs ys b=Ga (.tup [p.1,p.2]):=λb p j a d q=>by obtain⟨u,v,N,P,n,hb,_⟩:=key b p j a d q;have z:∃p:V×V,∃j:Nat,es[j]?=Ga (.ref b)/\xs[j]?=Ga p.1/\ys[j]?=Ga p.2:=⟨p,j,a,d,q⟩;unfold Qeb;rw[Gh hb,dif_pos z];obtain⟨j',g1,g2,g3⟩:=Lb z;obtain⟨u',W,O,Q,K,_⟩:=key b (EU z) j' g1 g2 g3;have:({cls:=.type "tuple",data:=.seq #[u,v]}:Ee)={cls:=.type "tuple",data:=.seq #[u',W]}:=Tj (n.symm.trans K);injection this with _ _ hd;injection hd with hd;injection hd with hd;injection hd with h1 h2;injection h2 with h2;subst h1 h2;rw[N.inj O,P.inj Q]
 have t:∀b,b<n0->Qeb H (n0+5) es xs ys b=H b:=λb hb=>by unfold Qeb;rw[Gh (Tc (Tg hb (Di _ _))),dif_neg];rintro⟨p,j,a,d,q⟩;obtain⟨_,_,_,_,_,_,h⟩:=key b p j a d q;exact absurd hb (LK.mpr h)
 have k:∀b,n0<=b->H b=Gg:=λb hb=>I.Zw.fresh (by rw[i];exact hb);refine⟨es,Qeb H (n0+5) es xs ys,?_,λb o e=>?_,k _ (Di _ _),by unfold Qeb;rw[Gm rfl],?_⟩
 ·refine I.Qx2 (λb u e=>hk b u (by rw[<-i];exact Heap.lt_size e) e) (λb hb=>t b (by rw[<-i];exact hb)) λb o hb e=>?_;by_cases h1:b=n0+5
  ·subst h1;have:o=.lst es:=by unfold Qeb at e;rw[Gm rfl]at e;exact(Tj e).symm
   subst this;refine⟨by rw[g,M,List.length_zip];omega,acc.toList,c,?_,by rw[DZ];exact hS⟩;have all:∀(l:List Value)(m:List V),l.length=m.length->(∀j:Nat,∀v,l[j]?=Ga v->∃c,v=.ref c/\m[j]?=Ga (V.ref c))->Zv m l:=by
    intro l;induction l with
    |nil=>intro m G _;cases m with
     |nil=>exact .nil
     |cons _ _=>simp at G
    |cons v l L=>intro m G E;cases m with
     |nil=>simp at G
     |cons x m=>obtain⟨r,a,d⟩:=E 0 v rfl;simp at d;subst a d;exact .cons rfl (L m (by simpa using G) λj v B=>by have:=E (j+1) v (by simpa using B);simpa using this)
   refine all acc.toList es (by rw[g,Tz]) λj v B=>?_;obtain⟨r,x,y,a,_⟩:=J j v B;subst a;exact⟨r,Xb,f j r B⟩
  ·by_cases h2:∃p:V×V,∃j:Nat,es[j]?=Ga (.ref b)/\xs[j]?=Ga p.1/\ys[j]?=Ga p.2
   ·obtain⟨p,j,a,d,q⟩:=h2;rw[D b p j a d q]at e;cases e;obtain⟨u,v,N,P,n,_⟩:=key b p j a d q;exact⟨by show 2<=Gi;decide,[u,v],.cons N (.cons P .nil),_,n,Xb,_,Xb⟩
   ·exfalso;unfold Qeb at e;rw[Gh h1,dif_neg h2,k b (by rw[<-i];exact hb)]at e;cases e
 ·rw[t b (by rw[<-i];exact(I.Zw b o e).lt)];exact e
 ·have all:∀(m:List V)(l:List (V×V)),m.length=l.length->(∀(j:Nat)p,l[j]?=Ga p->∃v,m[j]?=Ga v/\PrV (Qeb H (n0+5) es xs ys) v p)->Paired (PrV (Qeb H (n0+5) es xs ys)) m l:=by
   intro m;induction m with
   |nil=>intro l C _;cases l with
    |nil=>exact .nil
    |cons _ _=>simp at C
   |cons v m L=>intro l C E;cases l with
    |nil=>simp at C
    |cons p l=>obtain⟨W,a,d⟩:=E 0 p rfl;simp at a;subst a;exact .cons d (L l (by simpa using C) λj p n=>by have:=E (j+1) p (by simpa using n);simpa using this)
  refine all es (xs.zip ys) (by rw[g,M]) λj p n=>?_;rw[List.getElem?_zip_eq_some]at n;have A:j<acc.size:=by have h1:=(List.getElem?_eq_some_iff.mp n.1).1;have h2:=(List.getElem?_eq_some_iff.mp n.2).1;rw[M,List.length_zip];omega
  obtain⟨r,F⟩:=ex j A;have:=f j r F;exact⟨.ref r,this,r,Xb,D r p j this n.1 n.2⟩
end
section
variable{X:Cx}{a b:T1}{ta:TA}{p1 p2 pos1 pos2:SW}
theorem Qdc(hc:X.calm=Gf)(E:Gl X "list")(J:X.mg "list"=Gg)(F:Gl X "zip")(L:X.mg "zip"=Gg)(ha:PA X [a,b] ta)
  (z:Td [RN (.Name "zip" p2) [a,b] [] pos2] X.env=(Gq,eval (.Call (.Name "zip" p2) [a,b] [] pos2) X.env)::Td [] X.env:=by rfl)(D:Td [a,b] X.env=(Gq,eval a X.env)::Td [b] X.env:=by rfl)
  (P:(DN pos1 (Td ([]:List T1) X.env)).any (·.1)=Gq:=by rfl)(R:(DN pos2 (Td [b] X.env)).any (·.1)=Gq:=by rfl):
  PE X (.Call (.Name "list" p1) [.Call (.Name "zip" p2) [a,b] [] pos2] [] pos1) (tCB (Q1y X.K) ta):=by
 intro pins s σ H Q I h;refine Db (Vu I E J boot_list ?_);refine callWith_type1 ?_ z P;rw[z];show wpAny _ _ (spliced ((Gq,eval (.Call (.Name "zip" p2) [a,b] [] pos2) X.env)::DN pos1 (Td ([]:List T1) X.env))) _ _ s;refine Sf ?_;refine Db (Vu I F L boot_zip ?_);refine callWith_type1 (Yp (ha pos2 pins s σ H _ I h) λus s1⟨vs,H1,i,r1,q1⟩=>?_) D R;obtain⟨p,q,xs,ys,rfl,hq,Z⟩:=q1;obtain⟨u,v,rfl,ru,rv⟩:=vals2 r1;cases(show u=Value.ref p from ru);cases(show v=Value.ref q from rv);have Y:=i.ok.hd hc;rcases hq with⟨h1,h2⟩|⟨h1,h2⟩
 ·obtain⟨us,A,d,U⟩:=i.list h1;obtain⟨ws,W,f,V⟩:=i.list h2;have x:p<s1.heap.objs.size:=by obtain⟨_,e,_⟩:=d.isList;exact Heap.lt_size e
  have y:q<s1.heap.objs.size:=by obtain⟨_,e,_⟩:=f.isList;exact Heap.lt_size e
  have lx:=A.length;refine call_zip_2 d.isList f.isList λh' hz k l m n hsz t=>EI ?_;refine Qh5 (s:={s1 with heap:=h'}) (n0:=s1.heap.objs.size) Y (Qhn (Tc x)) (Qhn (Tc (Tg y (Di _ _)))) x y hsz hz k l ⟨m,Heap.IsList.at d.isList (λo e=>t _ o e)⟩ ⟨n,Heap.IsList.at f.isList (λo e=>t _ o e)⟩ (by rw[List.size_toArray,List.size_toArray];omega) λC tk acc c w hS G N=>?_;obtain⟨es,H',B,g,M,S,O⟩:=Qm3 (tk:=tk) i rfl A W (λb o hb e=>w b o hb (t b o e)) hS (by simpa using G) (by omega) (λj v T=>by simpa using N j v T);exact⟨.ref (s1.heap.objs.size+5),H',B,Xb,Z _ es H' g M S O⟩
 ·obtain⟨us,A,d,U⟩:=i.tuple h1;obtain⟨ws,W,f,V⟩:=i.tuple h2;have d:s1.heap.IsTuple p us.toArray:=d;have f:s1.heap.IsTuple q ws.toArray:=f;have x:p<s1.heap.objs.size:=by obtain⟨_,e,_⟩:=d;exact Heap.lt_size e
  have y:q<s1.heap.objs.size:=by obtain⟨_,e,_⟩:=f;exact Heap.lt_size e
  have lx:=A.length;refine Qhm d f λh' hz k l m n hsz t=>EI ?_;refine Qh5 (s:={s1 with heap:=h'}) (n0:=s1.heap.objs.size) Y (Qm9 (Tc x)) (Qm9 (Tc (Tg y (Di _ _)))) x y hsz hz k l ⟨m,let⟨o,e,r⟩:=d;⟨o,t _ o e,r⟩⟩ ⟨n,let⟨o,e,r⟩:=f;⟨o,t _ o e,r⟩⟩ (by rw[List.size_toArray,List.size_toArray];omega) λC tk acc c w hS G N=>?_;obtain⟨es,H',B,g,M,S,O⟩:=Qm3 (tk:=tk) i rfl A W (λb o hb e=>w b o hb (t b o e)) hS (by simpa using G) (by omega) (λj v T=>by simpa using N j v T);exact⟨.ref (s1.heap.objs.size+5),H',B,Xb,Z _ es H' g M S O⟩
end
end L2
namespace PySem
theorem Qk2:typeLookup (.type "list_reverseiterator") "__len__"=pure Gg:=by rw[E7,Es];kernel_rfl
theorem Qh6:typeLookup (.type "list_reverseiterator") "__length_hint__"=pure (Ga (.builtin "list_reverseiterator.__length_hint__")):=by rw[E7,Es];kernel_rfl
section
variable{prog:Gk}{w:Gv}{A:TL}{E:Value->Gj->Prop}{s:Gj}
theorem Qrc{z:Gc}{Q:Bool->Gj->Prop}(d:s.TypeIs (.ref z) "list_reverseiterator")(h:Q Gq s):wpAny (GY prog w) A (Builtin.List.listLengthHint (.ref z)) Q E s:=by
 unfold Builtin.List.listLengthHint;refine Gb (DL d Qk2 ?_);show wpAny _ A (specialOf (Value.ref z) (Dx "__length_hint__")>>=_) _ _ _;refine Gb (DL d Qh6 ?_);generalize c:("list_reverseiterator.__length_hint__":String)=e
 wp_delta
 rw[show splitId e=Ga ("list_reverseiterator","__length_hint__")from by subst c;decide+kernel];subst c;refine Gb (Ez (T:="list_reverseiterator") (b:=Gf) d (by rw[isSubtype_type];kernel_rfl) ?_);refine E6 (λa=>absurd a (by decide)) (λ_=>?_);refine E6 (λ_=>?_) (λa=>absurd (by decide+kernel) a);refine E6 (λa=>absurd a (by decide+kernel)) (λ_=>?_);exact Ge h
structure Q1h(xs:Array Value)(it l S:Gc)(i:Nat)(h:Heap)(acc:List Value):Prop where
 rv:h.IsRevIter it l ((xs.size:Int) - 1 - (i:Int))
 ls:h.IsList l xs
 acc:acc=xs.toList.reverse.take i
theorem Qu5{xs:Array Value}{it l S:Gc}(p:A.handled=Gg)(hS:S≠it/\S≠l)(d:l≠it):Qmp prog w A it S [it] xs.size (Q1h xs it l S) (λ_ acc=>acc=xs.toList.reverse):=by
 refine⟨λi s acc Q E hi st c=>?_,λs acc Q E st c=>?_,λi h h' acc st k _=>?_⟩
 ·have g:xs[xs.size - 1 - i]?=Ga xs[xs.size - 1 - i]:=Tf (by omega);have e:(xs.size:Int) - 1 - (i:Int)=((xs.size - 1 - i:Nat):Int):=by omega
  have a:=st.rv;rw[e]at a;refine Lc a st.ls g λh' f j=>?_;have q:xs.toList.reverse[i]?=Ga xs[xs.size - 1 - i]:=by rw[List.getElem?_reverse (by rw[Tz];exact hi),Tz,T5];exact g
  refine c _ h' s.toks ⟨?_,st.ls.extBut j.extBut d,?_⟩ λb o hb e=>j.extBut b o (λz=>hb (by simp[z])) e
  ·have m:((xs.size - 1 - i:Nat):Int) - 1=(xs.size:Int) - 1 - ((i+1:Nat):Int):=by omega
   rw[<-m];exact f
  ·rw[st.acc,List.take_add_one,q];rfl
 ·have a:=st.rv;rw[show(xs.size:Int) - 1 - (xs.size:Int)= -1 by omega]at a;refine Lm p a λh' n=>c h' s.toks ?_ λb o hb e=>n b o (λz=>hb (by simp[z])) e;rw[st.acc,<-Tz,<-List.length_reverse,List.take_length]
 ·exact⟨st.rv.at λo e=>k it o (Gp hS.1) e,st.ls.at λo e=>k l o (Gp hS.2) e,st.acc⟩
end
end PySem
namespace L2
open PySem PySem.Spec PyProof.Rows
def Qzq(K:Gd):List V->Hp->VK->Prop:=λvs H Q=>∃p xs,vs=[.ref p]/\Zc K H p xs/\∀r,H r=Gg->Q (.ref r) (upd H r (.lst xs.reverse))
theorem Qir:∀{xs:List V}{us:List Value},Zv xs us->Zv xs.reverse us.reverse
 |_,_,.nil=>.nil
 |_,_,.cons h t=>by rw[List.reverse_cons,List.reverse_cons];exact(Qir t).append (.cons h .nil)
theorem Qjr{X:Cx}{a:T1}{ta:TA}{p1 p2 pos1 pos2:SW}(f:X.calm=Gf)(r:Gl X "list")(v:X.mg "list"=Gg)(t:Gl X "reversed")(x:X.mg "reversed"=Gg)(J:PA X [a] ta)
  (g:Td [RN (.Name "reversed" p2) [a] [] pos2] X.env=(Gq,eval (.Call (.Name "reversed" p2) [a] [] pos2) X.env)::Td [] X.env:=by rfl)(p:Td [a] X.env=(Gq,eval a X.env)::Td [] X.env:=by rfl)
  (y:(DN pos1 (Td ([]:List T1) X.env)).any (·.1)=Gq:=by rfl)(B:(DN pos2 (Td ([]:List T1) X.env)).any (·.1)=Gq:=by rfl):
  PE X (.Call (.Name "list" p1) [.Call (.Name "reversed" p2) [a] [] pos2] [] pos1) (tCB (Qzq X.K) ta):=by
 intro pins s σ H Q I h;refine Db (Vu I r v boot_list ?_);refine callWith_type1 ?_ g y;rw[g];show wpAny _ _ (spliced ((Gq,eval (.Call (.Name "reversed" p2) [a] [] pos2) X.env)::DN pos1 (Td ([]:List T1) X.env))) _ _ s;refine Sf ?_;refine Db (Vu I t x MD ?_);refine callWith_type1 (Yp (J pos2 pins s σ H _ I h) λus s1⟨vs,H1,k,O,N⟩=>?_) p B;obtain⟨b,xs,rfl,j,q⟩:=N;obtain⟨u,rfl,P⟩:=vals1 O;cases(show u=Value.ref b from P);obtain⟨its,rv,pt,hz⟩:=k.list j;have R:=rv.length;have C:b<s1.heap.objs.size:=by obtain⟨_,e,_⟩:=pt.isList;exact Heap.lt_size e
 refine LJ pt.isList (EI ?_);have hsz:(s1.heap.push (revObj b ((its.toArray.size:Int) - 1))).objs.size=s1.heap.objs.size+1:=Heap.size_push ..;have m:(s1.heap.push (revObj b ((its.toArray.size:Int) - 1))).objs.size≠s1.heap.objs.size:=by rw[hsz];exact Fq _
 have n:(s1.heap.push (revObj b ((its.toArray.size:Int) - 1))).objs.size≠b:=by rw[hsz];exact Ts (L9 C)
 refine Qit (s:={s1 with heap:=s1.heap.push (revObj b ((its.toArray.size:Int) - 1))}) (T:="list_reverseiterator") (hb:=Gq) (Qu5 (xs:=its.toArray) (l:=b) (k.ok.hd f) ⟨m,n⟩ (Tc C)) (λc f=>?_) (by show s1.heap.objs.size<(s1.heap.push _).objs.size;rw[hsz];exact DQ _) (by rw[List.size_toArray];omega)
  (λh2 D _=>⟨?_,pt.isList.at λo e=>D _ o (Heap.get?_push_of_some _ e),by simp⟩) (λh acc st=>let⟨o,i,f,_⟩:=st.rv;⟨o,i,f⟩) (by decide) (by decide) (λA E h Q st j=>E1 (s:={s1 with heap:=h}) st.rv j) (λA E h Q st j=>Qrc (s:={s1 with heap:=h}) (let⟨o,i,f,_⟩:=st.rv;⟨o,i,f⟩) j) (λh' tk acc c L hS M i=>?_)
 ·have e:c=s1.heap.objs.size:=by simpa using f
  rw[e];show s1.heap.objs.size<(s1.heap.push _).objs.size;rw[hsz];exact DQ _
 ·have G:(its.toArray.size:Int) - 1 - ((0:Nat):Int)=(its.toArray.size:Int) - 1:=by omega
  rw[G];exact⟨_,D _ _ (Heap.get?_push_size _ Xb),Xb,Xb⟩
 ·have hS:h'.get? (s1.heap.push (revObj b ((its.toArray.size:Int) - 1))).objs.size=Ga {cls:=.type "list",dict:=Gg,data:=.seq acc c,slots:=#[]}:=hS;have d:s1.heap.objs.size<=(s1.heap.push (revObj b ((its.toArray.size:Int) - 1))).objs.size:=by rw[hsz];exact EF _
  have F:Inv X pins σ (upd H1 (s1.heap.push (revObj b ((its.toArray.size:Int) - 1))).objs.size (.lst xs.reverse)) {s1 with heap:=h',toks:=tk}:=
   k.laid (t':=tk) (λc o e=>L c o (λz=>by
    have:c=s1.heap.objs.size:=by simpa using z
    exact absurd (Heap.lt_size e) (by rw[this];exact DO _)) (Heap.get?_push_of_some _ e)) d
    (show Z1 X.prog X.w _ h' _ (.lst _)from⟨by rw[List.length_reverse];omega,acc.toList,c,by rw[i];exact Qir rv,by rw[DZ];exact hS⟩)
  exact⟨.ref (s1.heap.push (revObj b ((its.toArray.size:Int) - 1))).objs.size,_,F,Xb,q _ (k.Zw.fresh d)⟩
end L2
namespace Nt
inductive O4:Nat->List (Nat×Nat)->Nat->Prop
 |nil (p:Nat):O4 p [] p
 |cons {p q z:Nat} {r:List (Nat×Nat)}:O4 q r z->O4 p ((p,q)::r) z
theorem Qjf:∀{l:List Nat}{p z:Nat},l.head?=Ga p->l.getLast?=Ga z->O4 p (l.zip (l.drop 1)) z
 |[],_,_,h,_=>by simp at h
 |[x],p,z,h1,h2=>by simp at h1 h2;subst h1 h2;exact .nil _
 |x::y::r,p,z,h1,h2=>by simp at h1;subst h1;have a:=Qjf (l:=y::r) (p:=y) (z:=z) rfl (by rw[List.getLast?_cons_cons]at h2;exact h2);simp only[List.drop_succ_cons,List.drop_zero,List.zip_cons_cons]at a⊢;exact .cons a
theorem Ch.last{up:Nat->Option Nat}{p:Nat}{l:List Nat}(h:Ch up p l):∃a,l=a++[Zu l]:=by have b:=h.ne;refine⟨l.dropLast,?_⟩;unfold Zu;rw[List.getLastD_eq_getLast?,List.getLast?_eq_some_getLast b];exact(List.dropLast_concat_getLast b).symm
def Qap(up:Nat->Option Nat)(one a:Nat)(st:List (Nat×Nat)):Prop:=∃(l1 l2 P Q s:List Nat)(m:Nat),Ch up one l1/\Ch up a l2/\l1=P++m::s/\l2=Q++m::s/\(P=[]\/Q=[]\/P.getLast?≠Q.getLast?)/\st=(P++m::Q.reverse).zip ((P++m::Q.reverse).drop 1)
theorem Qsq{P b s s':List Nat}{m d:Nat}(h:P++m::s=b++d::s')(c:s.length<s'.length):∃u,P=b++d::u/\s'=u++m::s:=by
 rcases List.append_eq_append_iff.mp h with⟨a,h1,h2⟩|⟨a,h1,h2⟩
 ·have:=congrArg List.length h2;simp at this;cases a with
  |nil=>simp at h2;rw[h2.2]at c;omega
  |cons y a=>simp at this;omega
 ·cases a with
  |nil=>simp at h2;rw[h2.2]at c;omega
  |cons y a=>simp only[List.cons_append,List.cons.injEq]at h2;exact⟨a,by rw[h1,h2.1],h2.2⟩
theorem Qap.uniq{up:Nat->Option Nat}{one c:Nat}{st g:List (Nat×Nat)}(a:Qap up one c st)(b:Qap up one c g):st=g:=by
 obtain⟨l1,l2,P,Q,s,m,w,x,y,A,ne,rfl⟩:=a;obtain⟨B,C,h,i,s',f,j,k,l,n,q,rfl⟩:=b;have E:=w.uniq j;have F:=x.uniq k;subst E F;have o:P++m::s=h++f::s':=by rw[<-y,l]
 have p:Q++m::s=i++f::s':=by rw[<-A,n]
 have d:∀{P Q h i s s':List Nat}{m f:Nat},P++m::s=h++f::s'->Q++m::s=i++f::s'->(P=[]\/Q=[]\/P.getLast?≠Q.getLast?)->¬s.length<s'.length:=λh1 h2 ne e=>by
  obtain⟨u,p1,p2⟩:=Qsq h1 e;obtain⟨v,r,D⟩:=Qsq h2 e;have:u=v:=by have:=p2.symm.trans D;exact List.append_cancel_right this
  subst this;rcases ne with z|z|z
  ·rw[p1]at z;simp at z
  ·rw[r]at z;simp at z
  ·rw[p1,r,List.getLast?_append,List.getLast?_append,List.getLast?_eq_some_getLast (List.cons_ne_nil _ _)]at z;exact z rfl
 have e:s.length=s'.length:=by have h1:=d o p ne;have h2:=d o.symm p.symm q;omega
 obtain⟨G,t⟩:=List.append_inj' o (by simp[e]);obtain⟨H,_⟩:=List.append_inj' p (by simp[e]);simp only[List.cons.injEq]at t;rw[G,H,t.1]
structure Way(x:Nst W ρ)(one other:Nat)(st:List (Nat×Nat)):Prop where
 path:O4 one st other
 lk:∀p q,(p,q)∈st->∃k,x.Y9 p q=Ga k/\∀n,Cn (x.links.take n) one other->k<n
 len:st.length<=2*x.S.length
 rel:Qap x.up one other st
end Nt
namespace K05
open PySem L2 Sb Nt
def Qt3(H:Hp)(v:V)(p:Nat×Nat):Prop:=∃c,v=.ref c/\H c=Ga (.tup [jv p.1,jv p.2])
def Qsc(P:Gk)(w:Gv)(C:Gc):Sp:=λvs H Q _=>∃(n:Gc)(A:Na)(fs:List Fm)(tb:Nat)(x:Nn)(one a:Nat),vs=[.ref n,jv one,jv a]/\Z5 P w C H n A fs tb x/\Xz (Yc fs) (Zk fs) x []/\one∈x.S/\a∈x.S/\x.lead one=x.lead a/\x.S.length<=1000/\
 ∀(r:Gc)(es:List V)(st:List (Nat×Nat))(H':Hp),Qz H H'->H r=Gg->H' r=Ga (.lst es)->Paired (Qt3 H') es st->Way x one a st->Q (.ref r) H'
theorem Qv9(P:List Nat)(a m:Nat):atI ((P++[a,m]).map jv) (-2:Int)=Ga (jv a):=by
 unfold atI ixN;rw[Gh (by decide),Gm (by simp;omega)];have e:((-2:Int)+(((P++[a,m]).map jv).length:Int)).toNat=P.length:=by simp;omega
 rw[e];simp
theorem Qx7(Q:List Nat)(m:Nat):Uw ((Q++[m]).map jv) Gg (Ga (-1:Int))=Q.map jv:=by
 unfold Uw;rw[HT.Og];have e:HT.Wg ((Q++[m]).map jv).length ((Q++[m]).map jv).length (Ga (-1:Int))=Q.length:=by show(if(-1:Int)<0 then((-1:Int)+(((Q++[m]).map jv).length:Int)).toNat else min (-1:Int).toNat ((Q++[m]).map jv).length)=_;rw[Gm (by decide)];simp;omega
 rw[e];simp
theorem Qzh(l:List V):Uw l (Ga 1) Gg=l.drop 1:=by
 cases l with
 |nil=>rfl
 |cons x r=>rw[Qhh];rfl
theorem Qdw{H:Hp}:∀{es:List V}{l m:List Nat},Paired (PrV H) es ((l.map jv).zip (m.map jv))->Paired (Qt3 H) es (l.zip m)
 |_,[],m,h=>by simp at h;cases h;simp;exact .nil
 |_,x::l,[],h=>by simp at h;cases h;simp;exact .nil
 |_,x::l,y::m,h=>by
  simp only[List.map_cons,List.zip_cons_cons]at h⊢;cases h with
  |cons h t=>exact .cons h (Qdw t)
section
variable{P:Gk}{w:Gv}{K:Gd}{mg:Ta->Option Value}{base:Heap}
theorem Qwi:Qv ["self","one","other","climb","descent","stops"] ["self","one","other"] (Qk Quz):=by eq_refl
set_option hygiene false
local macro_rules
 |`(tactic|infer_instance)=>`(tactic|(
 refine⟨_,Xb,_,Xb,_,Xb,_,Xb,⟨rd,_,Xb,Zc.of ed,λr1 hr1'=>?_⟩⟩
 rw[Qx7]
 have z1:=Qi (o:=.lst (_root_.List.map jv Qq)) ec (Qc ec hr1')
 refine⟨r1,_,Xb,Zc.of Qb,λr2 hr2'=>?_⟩
 have z2:=Qi (o:=.lst (_root_.List.map jv Qq).reverse) z1 (Qc z1 hr2')
 refine⟨rc,r2,_,_,Xb,Xb,z2,Qb,small (by rw[List.length_reverse,List.length_map,List.length_map,List.length_append];simp only[List.length_cons,List.length_nil];omega),λr3 hr3'=>?_⟩
 have ecat:List.map jv (Pp++[mm])++(List.map jv Qq).reverse=(Pp++mm::Qq.reverse).map jv:=by simp
 rw[ecat]
 dsimp only[Vl]
 refine⟨_,Xb,_,Xb,⟨_,Xb,⟨r3,_,Xb,Zc.of Qb,λr4 hr4'=>?_⟩⟩⟩
 rw[Qzh]
 have n34:r3≠r4:=Qc Qb hr4'
 have s5:Qz H3 (upd (upd (upd (upd H3 r1 (.lst (List.map jv Qq))) r2 (.lst (List.map jv Qq).reverse)) r3 (.lst ((Pp++mm::Qq.reverse).map jv))) r4 (.lst (((Pp++mm::Qq.reverse).map jv).drop 1))):=((Qg hr1' _).trans (Qg hr2' _)).trans ((Qg hr3' _).trans (Qg hr4' _))
 refine⟨r3,r4,_,_,Xb,.inl ⟨Zc.of (Qi Qb n34),Zc.of Qb⟩,λr es H' sm r0 hr' pr=>?_⟩
 rw[<-List.map_drop]at pr
 exact q r es _ H' (g3.trans (s5.trans sm)) (g3.free (s5.free r0)) hr' (Qdw pr) ⟨Qjf hone hoth,λp q' hm=>I.fst.way h1 h2 k1 k2 hne p q' hm,by rw[List.length_zip,List.length_append,List.length_cons,List.length_reverse];omega,_,_,_,_,_,_,h1,h2,k1,k2,hne,Xb⟩))
set_option hygiene true
theorem Qyf{f fU C:Gc}{fd L:Tt}(F:Wu K "way" "Net.way" Quz f fd)(T:V5 K mg C)(B:Jl mg)(mU:Z8 K C "way_up" fU)(GU:Qr P w K mg base Z3 1 fU L ["self","place"] (Ql6 P w C))(bU:Binds K L ["self","place"] []):
  Qr P w K mg base Z3 2 f fd ["self","one","other"] (Qsc P w C):=by
 refine F.ok Qwi (λvs H Q E h=>?_) (λcdv A outer s H vs Q E g h=>?_)
 ·obtain⟨n,A,fs,tb,x,one,d,rfl,_⟩:=h;rfl
 obtain⟨n,A,fs,tb,x,one,d,rfl,X,I,oS,tS,he,hS,q⟩:=h;have R:Z9 1 _:=g.mono (by omega);have nd:=Qwi.nd;refine⟨_,Qd (Qs 3 nd (Q9 (pv 0) T.cl mU GU R bU .nil Q4 (Qa (pv 1) Qe)))
  (Qd (Qs 4 nd (Q9 (pv 0) T.cl mU GU R bU .nil Q4 (Qa (pv 2) Qe)))
  (Qd (Vb Gy (PW.pt (Vh (Qp Qca (Qo Zb rfl B.len GO (Qa (pv 3) Qe)) Qj (Q3 _)) (Vh (Qp Qca (Qo Zb rfl B.len GO (Qa (pv 4) Qe)) Qj (Q3 _))
    (Wj (Qp Wi (Qn Zi (pv 3) (Qa9 Jv Qj)) (Qn Zi (pv 4) (Qa9 Jv Qj)) (Q3 _))))))
   (Qd (Ze (Qd5 Gs DT DU Qb8 (pv 3)))
   (Qh (Ze (Qd5 Gs DT DU Qb8 (pv 4))))))
  (Qd (Qs 5 nd (Zo Uc (pv 3) (Qjr rfl rfl B.list rfl B.reversed (Qa (Ys Vq (pv 4) Xt (Yt (Qa9 Jv Qj))) Qe))))
  (Qh (Qu (Qdc rfl rfl B.list rfl B.zip (Qa (pv 5) (Qa (Ys Vq (pv 5) (Yt Qj) Xt) Qe)))))))),?_⟩
 obtain⟨l1,h1⟩:=I.fst.chain one oS;obtain⟨l2,h2⟩:=I.fst.chain d tS;have sub1:=I.fst.chS h1 oS;have y:=I.fst.chS h2 tS;have af:=Xf h1.nodup sub1;have ag:=Xf h2.nodup y;obtain⟨dx,o1⟩:=X.ob;refine⟨_,Xb,n,dx,_,Xb,o1,Qjg _,_,Xb,n,A,fs,tb,x,one,l1,Xb,X,h1,sub1,by omega,λrc H1 W c1 e1=>?_⟩;refine⟨_,Xb,n,dx,_,Xb,W _ _ o1,Qjg _,_,Xb,n,A,fs,tb,x,d,l2,Xb,X.same W,h2,y,by omega,λrd H2 g2 d2 e2=>?_⟩;have ad:=W.trans g2;have ae:H rd=Gg:=W.free d2;have V:rc≠rd:=Qc e1 d2;have er:Zu l1=Zu l2:=(I.root one d l1 l2 oS tS h1 h2).mp he;obtain⟨P0,f1⟩:=h1.last;obtain⟨Q0,f2⟩:=h2.last;dsimp only[Vl];refine⟨λm σ H3=>∃(Pp Qq Y:List Nat)(mm:Nat),m=Pp.length/\l1=Pp++mm::Y/\l2=Qq++mm::Y/\σ=[Ga (.ref n),Ga (jv one),Ga (jv d),Ga (.ref rc),Ga (.ref rd),Gg]/\Qz H H3/\H3 rc=Ga (.lst ((Pp++[mm]).map jv))/\H3 rd=Ga (.lst ((Qq++[mm]).map jv)),
  ⟨_,P0,Q0,[],Zu l1,Xb,f1,by rw[er];exact f2,Xb,ad,by rw[<-f1];exact g2 _ _ e1,by rw[er,<-f2];exact e2⟩,?_⟩
 rintro m σ H3 ⟨Pp,Qq,Y,mm,rfl,k1,k2,rfl,g3,ec,ed⟩;have lc:((Pp++[mm]).map jv).length=Pp.length+1:=by simp
 have ld:((Qq++[mm]).map jv).length=Qq.length+1:=by simp
 have lP:Pp.length+1<=l1.length:=by rw[k1];simp
 have lQ:Qq.length+1<=l2.length:=by rw[k2];simp
 have hone:(Pp++mm::Qq.reverse).head?=Ga one:=by
  obtain⟨r,g⟩:=h1.head;rw[k1]at g;cases Pp with
  |nil=>simp at g⊢;exact g.1
  |cons a Pp=>simp at g⊢;exact g.1
 have hoth:(Pp++mm::Qq.reverse).getLast?=Ga d:=by
  obtain⟨r,g⟩:=h2.head;rw[k2]at g;rw[List.getLast?_append];have:(mm::Qq.reverse).getLast?=Ga d:=by
   cases Qq with
   |nil=>simp at g⊢;exact g.1
   |cons a Qq=>simp at g;rw[List.reverse_cons,<-List.cons_append,List.getLast?_concat,g.1]
  rw[this];rfl
 refine⟨_,Xb,rc,_,Xb,.inl (Zc.of ec),_,_,Xb,Xb,_,Xb,?_⟩;rw[lc];by_cases N:Pp=[]
 ·have hne:Pp=[]\/Qq=[]\/Pp.getLast?≠Qq.getLast?:=.inl N;rw[Gz (by rw[N];decide)];refine Zp (Zp ?_);infer_instance
 rw[GX (by have:0<Pp.length:=List.length_pos_iff.mpr N;omega)];refine Yr ⟨_,Xb,rd,_,Xb,.inl (Zc.of ed),_,_,Xb,Xb,_,Xb,?_⟩;rw[ld];by_cases O:Qq=[]
 ·have hne:Pp=[]\/Qq=[]\/Pp.getLast?≠Qq.getLast?:=.inr (.inl O);rw[Gz (by rw[O];decide)];refine Zp (Zp ?_);infer_instance
 rw[GX (by have:0<Qq.length:=List.length_pos_iff.mpr O;omega)];obtain⟨l,a,eP⟩:∃l a,Pp=l++[a]:=⟨Pp.dropLast,Pp.getLast N,(List.dropLast_concat_getLast N).symm⟩;obtain⟨u,b,eQ⟩:∃u b,Qq=u++[b]:=⟨Qq.dropLast,Qq.getLast O,(List.dropLast_concat_getLast O).symm⟩;have ab:H3 rc=Ga (.lst ((l++[a,mm]).map jv)):=by rw[ec,eP];simp
 have ac:H3 rd=Ga (.lst ((u++[b,mm]).map jv)):=by rw[ed,eQ];simp
 refine Yr ⟨_,Xb,⟨_,Xb,rc,_,_,_,Xb,Xb,Zc.of ab,Qv9 _ _ _,_,Xb,⟨_,Xb,rd,_,_,_,Xb,Xb,Zc.of ac,Qv9 _ _ _,Xb,_,Xb,?_⟩⟩⟩;rw[Qg2];by_cases G:a=b
 ·subst G;subst eP eQ;rw[GX rfl];refine Yr ⟨_,λ_ _ h=>h,?_⟩;have S:((l++[a]++[mm]).map jv)[((l++[a]++[mm]).map jv).length - 1]?=Ga (jv mm):=by simp
  have U:((u++[a]++[mm]).map jv)[((u++[a]++[mm]).map jv).length - 1]?=Ga (jv mm):=by simp
  have Z:((l++[a]++[mm]).map jv).dropLast=(l++[a]).map jv:=by rw[List.map_append (l₂:=[mm])];simp
  have aa:((u++[a]++[mm]).map jv).dropLast=(u++[a]).map jv:=by rw[List.map_append (l₂:=[mm])];simp
  refine⟨_,Xb,.inl ⟨Xb,_,Zc.of ec⟩,rc,_,_,Xb,Xb,ec,S,?_⟩;rw[Z];have J:(upd H3 rc (.lst ((l++[a]).map jv))) rd=Ga (.lst ((u++[a]++[mm]).map jv)):=by rw[Qf (Gp V)];exact ed
  refine⟨_,Xb,.inl ⟨Xb,_,Zc.of J⟩,rd,_,_,Xb,Xb,J,U,?_⟩;rw[aa];refine⟨l.length,by simp,l,u,mm::Y,a,Xb,by rw[k1];simp,by rw[k2];simp,Xb,λc o e=>?_,?_,Qb⟩
  ·rw[Qf (Qc e ae),Qf (Qc e c1)];exact g3 c o e
  ·rw[Qf V,Qb]
 ·have hne:Pp=[]\/Qq=[]\/Pp.getLast?≠Qq.getLast?:=.inr (.inr (by rw[eP,eQ,List.getLast?_concat,List.getLast?_concat];intro z;exact G (Tj z)));rw[Gz G];refine Zp ?_;infer_instance
end
end K05
namespace PySem
section
variable{prog:Gk}{w:Gv}{A:TL}{E:Value->Gj->Prop}{s:Gj}{d v:Gc}{es:Array Eo}{ep:Nat}
theorem Qn4{Q:Value->Gj->Prop}(f:s.heap.IsValuesView v d)(j:s.heap.Jm d es ep)
  (h:Q (.ref s.heap.objs.size) {s with heap:=s.heap.push {cls:=.type "dict_valueiterator",data:=.fields #[.ref d,.int 0 0,.int es.size 0,.int ep 0]}}):
  wpAny (GY prog w) A (pyIter (.ref v)) Q E s:=by
 obtain⟨ov,e,i,c⟩:=id f;obtain⟨o,g,k,a⟩:=id j;refine Sx f.typeIs F.slot_dict_values_iter (Tu F.slot_dict_values_iter f.typeIs F.entry_dict_values_iter ?_ (F.args_dict_values_iter_1 _));unfold Builtin.«dict_values.__iter__»;refine Gb (Ge ?_);refine Gb ?_;unfold Builtin.Dict_items.dictOf;refine Gb (TF e c (x:=.ref d) rfl (Ge ?_));refine Gb ?_;unfold Builtin.Dict_items.newIterator;refine Gb (Dy g a ?_);refine Gb (Ej g a ?_);have b:Builtin.Dict_items.ownsTuple "dict_valueiterator"=Gq:=by decide
 simp only[b,TM,Ds];refine Tv (Ge ⟨_,Xb,"dict_valueiterator",_,⟨_,Heap.get?_push_size _ Xb,Xb⟩,F.slot_dict_valueiterator_next.lookup,?_⟩);simpa[rawInt]using h
theorem Qo4{it:Gc}{i:Nat}{e:Eo}{Q:Option Value->Gj->Prop}(a:s.heap.IsValIter it d i es.size ep)(r:s.heap.Jm d es ep)(k:es[i]?=Ga e)
  (m:∀h',h'.IsValIter it d (i+1) es.size ep->Heap.SameBut it s.heap h'->Q (Ga e.val) {s with heap:=h'}):
  wpAny (GY prog w) A (pyNext (.ref it)) Q E s:=by
 obtain⟨o,l,n,hd⟩:=id a;obtain⟨od,g,p,f⟩:=id r;unfold pyNext;refine Gb (EW (TR (name:=Dx "__next__") a.typeIs F.slot_dict_valueiterator_next
  (Tu F.slot_dict_valueiterator_next a.typeIs F.entry_dict_valueiterator_next ?_ (F.args_dict_valueiterator_next_1 _))))
 refine Gb (Ge ?_);refine Gb ?_;refine Gb ?_;first|refine Gb (DI a.typeIs (Ge ?_))|refine Gb (D4 a.typeIs (Ge ?_))
 refine Gb (Sj l hd ?_);have j:Builtin.Dict_items.ownsTuple "dict_valueiterator"=Gq:=by decide
 simp only[j,TM,Ds];show wpAny _ _ (if(Value.ref d==Value.none)=Gf then _ else _) _ _ s;rw[Gh (show¬((Value.ref d==Value.none)=Gf)from Gw)];refine Gb (Ge ?_);refine Gb (Dy g f ?_);rw[Gh (by simp)];refine Gb (Ge ?_);refine Gb (Ej g f ?_);rw[Gh (by simp)];refine Ge ?_;have c:i<es.size:=by
  rcases Tk i es.size with h|h
  ·exact h
  ·rw[Dh h]at k;cases k
 have q:es[i]=e:=by rw[Tf c]at k;exact Tj k
 simp only[show¬((i:Int)<0)from by omega,Ds,Dm,Tf c];refine Gb ?_;first|refine Gb (DI a.typeIs (Ge ?_))|refine Gb (D4 a.typeIs (Ge ?_))
 refine Gb (ES a.typeIs ?_);show wpAny _ _ (setField (.ref it) 1 (rawInt ((i:Int)+1))>>=_) _ _ s;refine Gb (Ev l hd (by simp) ?_);have b:(s.heap.update it (EX (·.setIfInBounds 1 (rawInt ((i:Int)+1))))).IsValIter it d (i+1) es.size ep:=
  ⟨_,Heap.get?_update_self _ l (ER (DS hd _)),(Sy ..).trans n,by rw[DS hd];simp[rawInt]⟩
 refine Gb (T3 ?_);refine Gb (ES (s:={s with heap:=s.heap.update it (EX (·.setIfInBounds 1 (rawInt ((i:Int)+1))))}) b.typeIs ?_);refine Gb (ES (s:={s with heap:=s.heap.update it (EX (·.setIfInBounds 1 (rawInt ((i:Int)+1))))}) b.typeIs ?_);show wpAny _ _ (pure es[i].val) _ _ _;rw[q];exact Ge (Ge ⟨_,Xb,Ge (m _ b (Heap.SameBut.update ..))⟩)
theorem Qsm{it:Gc}{i:Nat}{Q:Option Value->Gj->Prop}(n:A.handled=Gg)(c:s.heap.IsValIter it d i es.size ep)(p:s.heap.Jm d es ep)(h:es.size<=i)
  (k:∀h',Heap.ExtBut it s.heap h'->Q Gg {s with heap:=h'}):wpAny (GY prog w) A (pyNext (.ref it)) Q E s:=by
 obtain⟨o,j,q,hd⟩:=id c;obtain⟨od,f,l,e⟩:=id p;unfold pyNext;refine Gb (EW (TR (name:=Dx "__next__") c.typeIs F.slot_dict_valueiterator_next
  (Tu F.slot_dict_valueiterator_next c.typeIs F.entry_dict_valueiterator_next ?_ (F.args_dict_valueiterator_next_1 _))))
 refine Gb (Ge ?_);refine Gb ?_;refine Gb ?_;first|refine Gb (DI c.typeIs (Ge ?_))|refine Gb (D4 c.typeIs (Ge ?_))
 refine Gb (Sj j hd ?_);have g:Builtin.Dict_items.ownsTuple "dict_valueiterator"=Gq:=by decide
 simp only[g,TM,Ds];show wpAny _ _ (if(Value.ref d==Value.none)=Gf then _ else _) _ _ s;rw[Gh (show¬((Value.ref d==Value.none)=Gf)from Gw)];refine Gb (Ge ?_);refine Gb (Dy f e ?_);rw[Gh (by simp)];refine Gb (Ge ?_);refine Gb (Ej f e ?_);rw[Gh (by simp)];refine Ge ?_;simp only[show¬((i:Int)<0)from by omega,Ds,Dm,Dh h];refine Gb ?_;first|refine Gb (DI c.typeIs (Ge ?_))|refine Gb (D4 c.typeIs (Ge ?_))
 show wpAny _ _ (setField (.ref it) 0 .none>>=_) _ _ s;refine Gb (Ev j hd (by simp) ?_);show wpAny _ _ (newExc (.type "StopIteration") []>>=_) _ _ _;refine Gb ?_;simp only[newExc,newTuple];refine Gb (Tv ?_ (by size_fits));refine Gb (m:=firstArgMember _ _) (Fs (a:=Value.none) (by first|rfl|(simp only[firstArgMember];rfl)) ?_);refine Tv ?_ (by size_fits);simp only[raiseNew];refine Gb (Lx ?_);rw[show A.in1.handled=Gg from n];refine Gb (Ge (Ft ?_));refine Gb (Ez (T:="StopIteration") (b:=Gf) ⟨_,Heap.get?_push_size _ Xb,Xb⟩ Lj ?_);exact Ge (k _ (((Heap.SameBut.update ..).extBut.push _).push _))
theorem Walks.Qu2(m:A.handled=Gg)(I d:Gc)(j:d≠I)(es:Array Eo)(ep:Nat):
  Walks prog w A I [I,d] [I] es.size (λi v=>∃e,es[i]?=Ga e/\v=e.val) (λi h=>h.IsValIter I d i es.size ep/\h.Jm d es ep) where
 sub:=λb hb=>by simp at hb;simp[hb]
 frame:=λ_ _ _ st k=>⟨st.1.at λo e=>k I (by simp) o e,st.2.at λo e=>k d (by simp) o e⟩
 item:=λi s Q E hi st a=>by have l:es[i]?=Ga es[i]:=Tf hi;refine Qo4 st.1 st.2 l λh' c f=>?_;exact a _ h' s.toks ⟨_,l,Xb⟩ ⟨c,st.2.at λo e=>(f.2 d j).trans e⟩ λb o hb e=>f.extBut b o (λh=>hb (by simp[h])) e
 done:=λs Q E st a=>Qsm m st.1 st.2 (Gn _) λh' g=>a h' s.toks λb o hb e=>g b o (λh=>hb (by simp[h])) e
 self:=λ_ _ _ _ st a=>wpAny_pyIter_valiter st.1 a
theorem Qr6:FI prog w "dict_values" v d es.size (λi x=>∃e,es[i]?=Ga e/\x=e.val) (λh=>h.IsValuesView v d/\h.Jm d es ep) where
 type:=λ_ a=>a.1.typeIs
 there:=λ_ a=>⟨let⟨_,ho,_⟩:=a.1;Heap.lt_size ho,a.2.lt⟩
 keep:=λ_ _ a c=>⟨let⟨o,ho,x⟩:=a.1;⟨o,c v (.inl Xb) o ho,x⟩,a.2.at λo e=>c d (.inr Xb) o e⟩
 notList:=by decide
 notTuple:=by decide
 hint:=λ_ _ _ _ a b=>MO a.1.typeIs b
 iter:=λ_ _ f a=>⟨_,_,(λ_ _ b=>Qn4 a.1 a.2 b),Walks.Qu2 f _ d (Tc a.2.lt) es ep,⟨⟨_,Heap.get?_push_size _ Xb,Xb,Xb⟩,a.2.at λo e=>Heap.get?_push_of_some _ e⟩⟩
end
end PySem
namespace L2
open PySem PySem.Spec PyProof.Rows
variable{P:Gk}{w:Gv}{H:Hp}{X:Cx}{σ:St}{a:Gc}{kvs:List (Xs×V)}{tg:T1}
def vvw(v d:Gc):HO:=.ext λh=>h.IsValuesView v d
theorem Qxf{h:Heap}{v d:Gc}(x:h.IsValuesView v d):Z1 P w H h v (vvw v d):=by
 refine⟨x,?_,?_⟩
 ·obtain⟨o,a,_⟩:=x;exact⟨o,a⟩
 ·rintro h1 h2 ⟨o,a,r⟩ k;exact⟨o,k o a,r⟩
section
variable{X:Cx}{o:T1}{to:TE}{name:Ta}{apos cpos:SW}{id:String}{r:V->List V->Hp->VK->Prop}
def Qzs(P:Gk)(w:Gv)(r:V->List V->Hp->VK->Prop)(to:TE):TE:=λσ H Q=>to σ H λx H1=>(∃d kvs,x=.ref d/\H1 d=Ga (Um P w d kvs))/\r x [] H1 Q
theorem Quh(slot:Slot "dict" name id)(c:typeOf (.builtin id)=pure (.type "method_descriptor"))(g:MtR X id r)(i:PE X o to)
  (a:attributeBase o name X.env (eval o X.env)=eval o X.env:=by rfl)(b:(apos.endLine==cpos.line)=Gf:=by rfl):PE X (.Call (.Attribute o name apos) [] [] cpos) (Qzs X.prog X.w r to):=by
 intro pins s σ H Q I h;refine SH a b (Yp (i pins s σ H _ I h) λv s1⟨x,H1,e,k,ty,j⟩=>?_);obtain⟨d,kvs,rfl,f⟩:=ty;cases(show v=Value.ref d from k);obtain⟨h1,h2⟩:=Qig e f;exact⟨"dict",id,Ed,slot,c,h1,h2,Eh rfl (Ls (g pins s1 σ H1 (.ref d) [] _ [] Q e rfl .nil j))⟩
def Q0i(P:Gk)(w:Gv):V->List V->Hp->VK->Prop:=λx vs H Q=>∃d kvs,x=.ref d/\vs=[]/\DH P w H d kvs/\∀v,H v=Gg->Q (.ref v) (upd H v (vvw v d))
theorem Qtz:MtR X "dict.values" (Q0i X.prog X.w):=by intro pins s σ H x vs v us Q I c rv h;obtain⟨d,kvs,rfl,rfl,D,q⟩:=h;cases(show v=Value.ref d from c);cases rv;obtain⟨z,hd,ys,rel,o,es,ep,h1,h2,e,f,nodup⟩:=Qaj I D.at_;have b:s.TypeIs (.ref d) "dict":=⟨o,h1,h2.1⟩;refine Tu SF b Me ?_ (FN _);refine Gb ?_;unfold Builtin.Dict.noArgs;refine Gb (EO b ?_);show wpAny _ _ (pure d) _ _ s;refine Ge ?_;show wpAny _ _ (Builtin.Dict.showsAll d>>=_) _ _ s;unfold Builtin.Dict.showsAll;rw[Gh (by rw[hd];exact Gw)];refine Gb (Ge ?_);refine Gb (Tv (Ge ⟨_,Xb,?_⟩));exact⟨.ref s.heap.objs.size,_,I.laid (a:=s.heap.objs.size) (o:=vvw s.heap.objs.size d) (t':=s.toks) (λ_ _ q=>Heap.get?_push_of_some _ q) (Gn _) (Qxf ⟨_,Heap.get?_push_size _ Xb,Xb,Xb⟩),Xb,q _ (I.Zw.fresh (Gn _))⟩
theorem Qej(B:X.calm=Gf):V3 X (.type "list") (λxs H Q=>∃v d kvs,xs=[.ref v]/\H v=Ga (vvw v d)/\DH X.prog X.w H d kvs/\∀l,H l=Gg->Q (.ref l) (upd H l (.lst (kvs.map λp=>p.2.2)))):=by
 intro pins s σ H xs us Q I r h;obtain⟨v,d,kvs,rfl,k,D,q⟩:=h;obtain⟨u,rfl,G⟩:=vals1 r;cases(show u=Value.ref v from G);obtain⟨z,hd,ys,rel,o,es,ep,h1,h2,A,m,nodup⟩:=Qaj I D.at_;have n:s.heap.IsValuesView v d:=(I.Zw v _ k).1;have e:es.size=kvs.length:=by rw[Gr rel,<-List.length_map (f:=entryOfKey (Vg X.prog X.w)),<-m,Tz]
 refine Fp (Qr6 (es:=es) (ep:=ep)) (I.ok.hd B) ⟨n,o,h1,h2,A⟩ (by rw[e];exact z) λh' tk a y kp hS b=>?_;have g:(kvs.map λp=>p.2.2).length<=Gi:=by rw[List.length_map];exact z
 have k:Zv (kvs.map λp=>p.2.2) a.toList:=by
  have j:es.toList.map (·.val)=ys.map λq=>q.2.2:=by rw[m,List.map_map];rfl
  have c:a.toList=es.toList.map (·.val):=by
   refine List.ext_getElem? λi=>?_;by_cases hi:i<a.size
   ·obtain⟨en,C,k⟩:=b.2 i a[i] (Tf hi);rw[T5,Tf hi,List.getElem?_map,T5,C,k];rfl
   ·have hsz:=b.1;rw[List.getElem?_eq_none (by simp;omega),List.getElem?_eq_none (by simp;omega)]
  rw[c,j];clear q z m j c g e b D nodup;induction rel with
  |nil=>exact .nil
  |@cons p q ps J E t F=>rw[List.map_cons,List.map_cons];exact .cons E.2.2 F
 have x:Inv X pins σ (upd H s.heap.objs.size (.lst (kvs.map λp=>p.2.2))) {s with heap:=h',toks:=tk}:=
  I.laid (t':=tk) kp (Gn _) (show Z1 X.prog X.w _ h' _ (.lst _)from⟨g,a.toList,y,k,by rw[DZ];exact hS⟩)
 exact⟨.ref s.heap.objs.size,_,x,Xb,q _ (I.Zw.fresh (Gn _))⟩
end
def Pln:HO->Prop
 |.dK _=>True
 |.frz _ (.dK _)=>True
 |_=>False
theorem Inv.swap{pins:List (Gc×Ee)}{s:Gj}{u d:HO}(I:Inv X pins σ H s)(e:H a=Ga u)(f:Pln u)(k:Pln d)(hz:∀o v,X.H₀ a≠Ga (.frz o v))(new:Z1 X.prog X.w (upd H a d) s.heap a d):Inv X pins σ (upd H a d) s:=by
 have nn:∀b,H b=Gg->b≠a:=λb hb z=>by rw[z,e]at hb;cases hb
 have tp:∀b xs,H b=Ga (.tup xs)->b≠a:=λb xs hb z=>by rw[z,e]at hb;cases hb;exact f
 have r:∀b y,H b=Ga (.own y)->b≠a:=λb xs hb z=>by rw[z,e]at hb;cases hb;exact f
 have tb:∀b ps,H b=Ga (.tbl ps)->b≠a:=λb xs hb z=>by rw[z,e]at hb;cases hb;exact f
 refine⟨I.ok,I.os,I.bare,⟨I.base.keep,I.base.slot,λb o i n l=>?_,I.base.there,λb xs h=>?_,λb o v h=>?_,λb ps h=>?_⟩,I.loc,I.cell,?_,λx c h=>?_,λp h=>?_,λb o h=>?_,I.len⟩
 ·have:=I.base.free b o i n l;rw[Qf (nn b this)];exact this
 ·have:=I.base.Ql b xs h;rw[Qf (tp b xs this)];exact this
 ·have ne:b≠a:=λz=>hz o v (z▸h);rw[Qf ne];exact I.base.Of b o v h
 ·obtain⟨m,g⟩:=I.base.Qbf b ps h;exact⟨m,by rw[Qf (tb _ _ g)];exact g⟩
 ·rw[Qf (nn _ I.free)];exact I.free
 ·rw[Qf (nn _ (I.Jk x c h))];exact I.Jk x c h
 ·obtain⟨h1,h2,j⟩:=I.pin p h;exact⟨h1,by rw[Qf (nn _ h2)];exact h2,j⟩
 ·by_cases hb:b=a
  ·subst hb;rw[Qb]at h;cases h;exact new
  ·rw[Qf hb]at h;exact(I.Zw b o h).Qh9 (λc v _ q=>q) (λc q=>by rw[Qf (r c b q)];exact q) λc xs q=>by rw[Qf (tp c xs q)];exact q
def fz(o:Ee)(kvs:List (Xs×V)):HO:=.frz o (.dK kvs)
theorem Qvc{H':Hp}{h:Heap}(x:Z1 P w H h a (.dK kvs)):Z1 P w H' h a (.dK kvs):=x
def ItF(a:Gc)(o:Ee)(kvs:List (Xs×V)):It:=⟨λi H=>i<kvs.length/\H a=Ga (fz o kvs),λi H x H'=>H'=H/\∃p,kvs[i]?=Ga p/\x=kV p.1,λi H=>kvs.length<=i/\H a=Ga (fz o kvs)⟩
theorem Qw4{k:Xs}{u:Value}(h:Qc5 k u=Gf):RelV (kV k) u:=by
 rcases Yv h with⟨i,t,rfl,rfl⟩|⟨x,t,rfl,rfl⟩
 ·exact⟨t,Xb⟩
 ·exact⟨t,Xb⟩
theorem Qxz{vs:List (Xs×Value)}(r:KV kvs vs){i:Nat}{p:Xs×V}(h:kvs[i]?=Ga p):∃u,vs[i]?=Ga (p.1,u):=by
 unfold KV at r;induction r generalizing i with
 |nil=>simp at h
 |@cons a b f bs d t e=>
  cases i with
  |zero=>simp at h;subst h;obtain⟨g,c⟩:=b;exact⟨c,by simp[d.1]⟩
  |succ i=>simp only[List.getElem?_cons_succ]at h⊢;exact e h
theorem Qnu{K:Gd}(a it:Gc)(o:Ee)(kvs:List (Xs×V))(es:Array Eo)(ep:Nat)(p:o.data=.dict es ep):Qg6 P w K tg (ItF a o kvs) [it] it (λi h=>h.IsKeyIter it a i kvs.length ep) where
 mem:=by simp
 obj:=λi h st b hb=>by
  have e:b=it:=by simpa using hb
  subst e;obtain⟨o,e,c,d⟩:=st;exact⟨o,e,λv z=>by rw[d]at z;cases z⟩
 keep:=λi h h' st k=>st.at λo e=>k it (by simp) o e
 item:=by
  intro X F hw D M i pins s σ H E I n st G;subst F hw D;obtain⟨hi,J⟩:=G;obtain⟨h1,z,hd,vs,rel,q⟩:=I.Zw a _ J;obtain⟨r,o',t,g,j,f,L⟩:=q.dictAt;rw[h1]at g;cases g;rw[p]at f;cases f;have N:kvs[i]?=Ga kvs[i]:=List.getElem?_eq_getElem hi;obtain⟨u,hu⟩:=Qxz rel N;obtain⟨x,y,U,A,B,C⟩:=n it (by simp);have m:s.heap.IsKeyIter it a i vs.length ep:=by rw[<-rel.length];exact st
  refine wpAny_pyNext_dict_item (knd:=Yk X.prog X.w) m ⟨o,es,h1,j,p,L⟩ hu λkey h' Y l sb=>?_;have O:Inv X pins σ H {s with heap:=h'}:=I.turned (t':=s.toks) (λb o hb e=>(sb.2 b hb).trans e) x y A B C;rw[<-rel.length]at l;obtain⟨o2,S,Q,R⟩:=id l;exact⟨key,Xb,Qe4 (s:={s with heap:=h'}) S Q R (by decide) ⟨kV kvs[i].1,H,O,Qw4 Y,⟨Xb,_,N,Xb⟩,l,λb hb=>(n b hb).1⟩⟩
 done:=by
  intro X F hw D M i pins s σ H E I n st G;subst F hw D;obtain⟨hi,J⟩:=G;obtain⟨h1,z,hd,vs,rel,q⟩:=I.Zw a _ J;obtain⟨r,o',t,g,j,f,L⟩:=q.dictAt;rw[h1]at g;cases g;rw[p]at f;cases f;obtain⟨x,y,U,A,B,C⟩:=n it (by simp);have Z:kvs.length=vs.length:=rel.length;have m:s.heap.IsKeyIter it a i vs.length ep:=by rw[<-Z];exact st
  exact wpAny_pyNext_dict_end (knd:=Yk X.prog X.w) (I.ok.hd M) m ⟨o,es,h1,j,p,L⟩ (List.getElem?_eq_none (by omega)) λh' T=>⟨Xb,I.turned (t':=s.toks) (λb o hb e=>T b o hb e) x y A B C⟩
 self:=λ_ _ _ _ _ st h=>Ll st h
def Qze(te:TE):TI:=λσ H R=>te σ H λx H1=>∃a kvs,x=.ref a/\((H1 a=Ga (.dK kvs)/\∀o,R (ItF a o kvs) (upd H1 a (fz o kvs))))
def Q0t(t:TS):TS:=λD σ H=>∃a kvs,H a=Ga (.dK kvs)/\t {nx:=(λb H'=>∃o,H' a=Ga (fz o kvs)/\D.nx b (upd H' a (.dK kvs))),rt:=(λv H'=>∃o,H' a=Ga (fz o kvs)/\D.rt v (upd H' a (.dK kvs))),bk:=(λb H'=>∃o,H' a=Ga (fz o kvs)/\D.bk b (upd H' a (.dK kvs))),ct:=(λb H'=>∃o,H' a=Ga (fz o kvs)/\D.ct b (upd H' a (.dK kvs)))} σ H
section
variable{X:Cx}{tg:T1}
theorem Inv.Q0e{pins:List (Gc×Ee)}{s:Gj}(I:Inv X pins σ H s)(e:H a=Ga (.dK kvs)):∀o v,X.H₀ a≠Ga (.frz o v):=λo v z=>by rw[I.base.Of a o v z]at e;cases e
theorem Qlx{e:T1}{te:TE}(l:PE X e te):PI X tg e (Qze te):=by
 intro pins s σ H R I h;refine Yp (l pins s σ H _ I h) λv s1⟨x,H1,d,n,m⟩=>?_;obtain⟨a,kvs,e,g,q⟩:=m;subst e;cases n;obtain⟨z,hd,vs,rel,i⟩:=Qmf d.Zw g;obtain⟨ep,o,es,j,k,c,r⟩:=i.dictAt;refine wpAny_pyIter_dict (knd:=Yk X.prog X.w) hd ⟨o,es,j,k,c,r⟩ ?_;have f:Inv X pins σ (upd H1 a (fz o kvs)) s1:=d.swap g trivial trivial (d.Q0e g) ⟨j,z,hd,vs,rel,i⟩;refine⟨s1.heap.objs.size,[s1.heap.objs.size],_,_,_,Xb,f.kept (t':=s1.toks) λb o e=>Heap.get?_push_of_some _ e,Qnu a _ o kvs es ep c,?_,λb hb=>?_,q o⟩
 ·rw[rel.length];exact⟨_,Heap.get?_push_size _ Xb,Xb,Xb⟩
 ·have e:b=s1.heap.objs.size:=by simpa using hb
  subst e;exact f.Qhg (Gn _) (f.Zw.fresh (Gn _))
theorem Ql9{st:T6}{t:TS}(h:PS X st t):PS X st (Q0t t):=by
 intro pins s σ H D I i;obtain⟨a,kvs,e,q⟩:=i;have j:=I.Q0e e;have un:∀{b:St}{H':Hp}{s':Gj}{o:Ee},Inv X pins b H' s'->H' a=Ga (fz o kvs)->Inv X pins b (upd H' a (.dK kvs)) s':=λc d=>c.swap d trivial trivial j (by obtain⟨_,r⟩:=c.Zw a _ d;exact Qvc r)
 refine Yp (h pins s σ H _ I q) λf s' r=>?_;cases f with
 |next=>obtain⟨b,H',c,o,d,g⟩:=r;exact⟨b,_,un c d,g⟩
 |cont=>obtain⟨b,H',c,o,d,g⟩:=r;exact⟨b,_,un c d,g⟩
 |brk=>obtain⟨b,H',c,o,d,g⟩:=r;exact⟨b,_,un c d,g⟩
 |ret v=>obtain⟨x,b,H',c,k,o,d,g⟩:=r;exact⟨x,b,_,un c d,k,g⟩
end
theorem Qi2{o:Ee}{g:TG}{tb:TS}{D:Ends}(Pv:Nat->St->Hp->Prop)(j:Pv 0 σ H)(k:∀i σ H,i<=kvs.length->Pv i σ H->H a=Ga (fz o kvs))
  (l:∀i p σ H,kvs[i]?=Ga p->Pv i σ H->g (kV p.1) σ H λc H2=>tb {D with nx:=Pv (i+1),ct:=Pv (i+1),bk:=D.nx} c H2)(hd:∀σ H,Pv kvs.length σ H->D.nx σ H):
  ∃W:Nat->Nat->St->Hp->Prop,(∃m,W 0 m σ H)/\∀i m σ H,W i m σ H->
   ((ItF a o kvs).stop i H/\D.nx σ H)\/((ItF a o kvs).go i H/\∃N:St->Hp->Prop,(∀b H',N b H'->∃f,f<m/\W (i+1) f b H')/\∀x H',(ItF a o kvs).yld i H x H'->g x σ H' λc H2=>tb {D with nx:=N,ct:=N,bk:=D.nx} c H2):=by
 refine⟨λi m σ H=>m=kvs.length - i/\i<=kvs.length/\Pv i σ H,⟨kvs.length,by simp,Gx _,j⟩,?_⟩;rintro i m σ H ⟨rfl,hi,p⟩;have q:=k i σ H hi p;by_cases d:i<kvs.length
 ·refine .inr ⟨⟨d,q⟩,Pv (i+1),λb H' r=>⟨kvs.length - (i+1),by omega,Xb,d,r⟩,λx H' y=>?_⟩;obtain⟨e,y,n,h⟩:=y;subst e h;exact l i y σ _ n p
 ·have e:i=kvs.length:=by omega
  subst e;exact .inl ⟨⟨Gn _,q⟩,hd σ H p⟩
def Itd(lo:Int)(n:Nat):It:=⟨λi _=>i<n,λi H x H'=>H'=H/\x=.int (lo - i),λi _=>n<=i⟩
theorem Qol{K:Gd}(it:Gc)(lo:Int)(n:Nat):Qg6 P w K tg (Itd lo n) [it] it (λi h=>Lf h it (lo+(i:Nat)*(-1)) ((n:Int) - (i:Nat)) (-1)) where
 mem:=by simp
 obj:=λi h st b hb=>by
  have e:b=it:=by simpa using hb
  subst e;exact⟨_,st,λv z=>by have C:Nj _=RA v:=z;cases C⟩
 keep:=λi h h' st k=>k it (by simp) _ st
 item:=by intro X p hw m q i pins s σ H E I c st r;subst p hw m;obtain⟨d,f,y,g,j,l⟩:=c it (by simp);have W:=Nk (prog:=X.prog) (w:=X.w) (I.ok.hd q) it lo (-1) n;refine W.item i s _ _ r st λv h' tk A a B=>?_;obtain⟨t,rfl⟩:=A;have u:Inv X pins σ H {s with heap:=h',toks:=tk}:=I.turned (λb o hb e=>B b o (by simpa using hb) e) d f g j l;refine⟨_,Xb,Qe4 (s:={s with heap:=h',toks:=tk}) (n:="range_iterator") a rfl rfl (by decide) ⟨.int (lo - i),H,u,⟨t,?_⟩,⟨Xb,Xb⟩,a,λb hb=>(c b hb).1⟩⟩;congr 1;omega
 done:=by intro X p hw m q i pins s σ H E I c st r;subst p hw m;obtain⟨d,f,y,g,j,l⟩:=c it (by simp);exact SN (I.ok.hd q) st (by have:n<=i:=r;omega) λh' x=>⟨Xb,I.turned (t':=s.toks) (λb o hb e=>x b o hb e) d f g j l⟩
 self:=λ_ _ _ _ _ st h=>SO st h
theorem rangeSize_down(n:Nat):Builtin.Range.rangeSize ((n:Int) - 1) (-1) (-1)=n:=by unfold Builtin.Range.rangeSize;simp only[show¬((-1:Int)>0) by decide,Ds,show -(-1:Int)=1 by decide,MV];split<;>omega
theorem small_down{n:Nat}(h:n<=1000000):Builtin.Range.small ((n:Int) - 1) (-1) (-1)=Gf:=by unfold Builtin.Range.small;rw[rangeSize_down];simp only[Builtin.Range.rangeFitsLong,Tn,Bool.or_eq_true,decide_eq_true_eq,Se,show¬((-1:Int)>0) by decide,Ds];omega
def Q0d(ta:TA):TI:=λσ H R=>ta σ H λvs H1=>∃n:Nat,vs=[.int ((n:Int) - 1),.int (-1),.int (-1)]/\n<=1000000/\R (Itd ((n:Int) - 1) n) H1
theorem Qvj{a b c:T1}{ta:TA}{p pos:SW}(v:Gl X "range")(w:X.mg "range"=Gg)(u:PA X [a,b,c] ta)(y:Td [a,b,c] X.env=[(Gq,eval a X.env),(Gq,eval b X.env),(Gq,eval c X.env)]:=by rfl)(f:Td [b,c] X.env=[(Gq,eval b X.env),(Gq,eval c X.env)]:=by rfl):
  PI X tg (.Call (.Name "range" p) [a,b,c] [] pos) (Q0d ta):=by
 intro pins s σ H R I h;refine RU (Vu I v w NG (Du (Yp (u pos pins s σ H _ I h) λus s1⟨vs,H1,k,B,z⟩=>?_) (by rw[y,f]) (by rw[f];rfl)));obtain⟨n,e,x,q⟩:=z;subst e;cases B with
 |cons r g=>
  cases g with
  |cons A g=>
   cases g with
   |cons j g=>
    cases g;obtain⟨t,rfl⟩:=r;obtain⟨t',rfl⟩:=A;obtain⟨d,rfl⟩:=j;refine call_range_3 (by decide) ?_ (.inl (SQ (by omega)));refine LA (Nl ..) (small_down x) ?_;have i:Inv X pins σ H1 {s1 with heap:=s1.heap.push {cls:=.type "range",data:=.fields #[.int ((n:Int) - 1) t,.int (-1) t',.int (-1) d]},toks:=s1.toks}:=k.kept λb o e=>Heap.get?_push_of_some _ e;refine⟨(s1.heap.push {cls:=.type "range",data:=.fields #[.int ((n:Int) - 1) t,.int (-1) t',.int (-1) d]}).objs.size,[(s1.heap.push {cls:=.type "range",data:=.fields #[.int ((n:Int) - 1) t,.int (-1) t',.int (-1) d]}).objs.size],_,_,H1,Xb,
     i.kept (t':=s1.toks) λb o e=>Heap.get?_push_of_some _ e,Qol _ ((n:Int) - 1) n,?_,λb hb=>?_,q⟩
    ·have l:((n:Int) - 1)+((0:Nat):Int)*(-1)=(n:Int) - 1:=by simp
     have m:(n:Int) - ((0:Nat):Int)=Builtin.Range.rangeSize ((n:Int) - 1) (-1) (-1):=by rw[rangeSize_down];simp
     show Lf _ _ (((n:Int) - 1)+((0:Nat):Int)*(-1)) ((n:Int) - ((0:Nat):Int)) (-1);rw[l,m];exact Heap.get?_push_size _ rfl
    ·have e:b=(s1.heap.push {cls:=.type "range",data:=.fields #[.int ((n:Int) - 1) t,.int (-1) t',.int (-1) d]}).objs.size:=by simpa using hb
     subst e;exact i.Qhg (Gn _) (i.Zw.fresh (Gn _))
theorem Qp9{lo:Int}{n:Nat}{g:TG}{tb:TS}{D:Ends}(Pv:Nat->St->Hp->Prop)(f:Pv 0 σ H)
  (h:∀i σ H,i<n->Pv i σ H->g (.int (lo - i)) σ H λc H2=>tb {D with nx:=Pv (i+1),ct:=Pv (i+1),bk:=D.nx} c H2)(hd:∀σ H,Pv n σ H->D.nx σ H):
  ∃W:Nat->Nat->St->Hp->Prop,(∃m,W 0 m σ H)/\∀i m σ H,W i m σ H->
   ((Itd lo n).stop i H/\D.nx σ H)\/((Itd lo n).go i H/\∃N:St->Hp->Prop,(∀b H',N b H'->∃d,d<m/\W (i+1) d b H')/\∀x H',(Itd lo n).yld i H x H'->g x σ H' λc H2=>tb {D with nx:=N,ct:=N,bk:=D.nx} c H2):=by
 refine⟨λi m σ H=>m=n - i/\i<=n/\Pv i σ H,⟨n,by simp,Gx _,f⟩,?_⟩;rintro i m σ H ⟨rfl,hi,p⟩;by_cases a:i<n
 ·refine .inr ⟨a,Pv (i+1),λb H' j=>⟨n - (i+1),by omega,Xb,a,j⟩,λx H' y=>?_⟩;obtain⟨e,y⟩:=y;subst e y;exact h i σ _ a p
 ·have e:i=n:=by omega
  subst e;exact .inl ⟨Gn _,hd σ H p⟩
def Qu1:List V->Hp->VK->Prop:=λvs H Q=>∃d kvs a,vs=[.ref d]/\H d=Ga (.dK kvs)/\kvs.map (·.1)=a.map E9/\kvs.length<64/\∀(r:Gc)(ns:List Int),H r=Gg->ns.Perm a->ns.Pairwise (·<=·)->Q (.ref r) (upd H r (.lst (ns.map V.int)))
theorem Qmt{P:Gk}{w:Gv}{h:Heap}:∀{kvs:List (Xs×V)}{vs:List (Xs×Value)}{b:List Int}{acc:List Value},KV kvs vs->kvs.map (·.1)=b.map E9->acc.length=vs.length->(∀(i:Nat)(u:Value),acc[i]?=Ga u->∃k x,vs[i]?=Ga (k,x)/\(Yk P w).is k u=Gf)->SV acc b
 |[],[],[],[],_,_,_,_=>.nil
 |[],[],[],_::_,_,_,a,_=>by simp at a
 |[],[],_::_,_,_,e,_,_=>by simp at e
 |p::kvs,q::vs,[],_,_,e,_,_=>by simp at e
 |p::kvs,q::vs,k::b,[],_,_,a,_=>by simp at a
 |p::kvs,q::vs,k::b,u::acc,.cons r t,e,a,c=>by
  simp only[List.map_cons,List.cons.injEq]at e;obtain⟨j,x,d,f⟩:=c 0 u rfl;simp at d;have:j=E9 k:=by rw[<-e.1,r.1,d]
  subst this;obtain⟨t',rfl⟩:=Value.isInt_shape (k:=k) (v:=u) f;exact .cons _ _ (Qmt (P:=P) (w:=w) (h:=h) t e.2 (by simpa using a) λi u g=>c (i+1) u g)
theorem Qoa{acc:List Value}{a:List Int}(h:SV acc a):Zv (a.map V.int) acc:=by
 induction h with
 |nil=>exact .nil
 |cons n t r b=>exact .cons ⟨_,Xb⟩ b
theorem Qjm(K:X.calm=Gf):V3 X (.builtin "sorted") Qu1:=by
 intro pins s σ H xs us Q I r h;obtain⟨d,kvs,B,rfl,N,y,M,q⟩:=h;obtain⟨u,rfl,R⟩:=vals1 r;cases(show u=Value.ref d from R);obtain⟨z,hd,vs,rel,G⟩:=Qmf I.Zw N;obtain⟨ep,l⟩:=G.dictAt;have c:kvs.length=vs.length:=rel.length;refine Sn kind_sorted plain_sorted entry_sorted (args_sorted1 _) ?_;unfold Builtin.«sorted»;refine Gb (m:=checkCount "sorted" 1 1 _) (Ge ?_);refine Gb (NB (A:=X.A.in1) (RO (knd:=Yk X.prog X.w) (kvs:=vs) (ep:=ep) hd) (I.ok.hd K) l (by rw[<-c];exact z) λh' tk acc p f=>?_);have g:acc.toList.length=vs.length:=by rw[Tz];exact f.1
 have J:SV acc.toList B:=Qmt (P:=X.prog) (w:=X.w) (h:=h') rel y g λi u O=>f.2 i u (by rw[<-T5];exact O);have v:Inv X pins σ H {s with heap:=h',toks:=tk}:=I.kept p;refine Gb (wpAny_newList ?_ (by rw[g,<-c];exact z));have n:(h'.push {cls:=.type "list",data:=.seq acc.toList.toArray}).get? h'.objs.size=Ga (seqObj "list" acc.toList.toArray 0):=Heap.get?_push_size _ rfl;refine Gb (T3 ?_);refine Tu M4 ⟨_,n,Xb⟩ MQ ?_ (MI _);refine list_sort_tree n J (by rw[g,<-c];exact M) λout j D x E=>?_;refine⟨_,Xb,?_⟩;refine Ge ⟨_,Xb,?_⟩;obtain⟨e,L⟩:=sortedHeap_at (out:=out) n;have keep:∀b o,h'.get? b=Ga o->(sortedHeap (h'.push {cls:=.type "list",data:=.seq acc.toList.toArray}) h'.objs.size acc.toList out).get? b=Ga o:=λb o k=>by rw[sortedHeap_old (Tc (Heap.lt_size k)) (by rw[size_push'];exact L9 (Heap.lt_size k))];exact Heap.get?_push_of_some _ k
 have t:j.length<=Gi:=by
  rw[x.length_eq];have:B.length=kvs.length:=by have:=congrArg List.length y;simpa using this.symm
  rw[this];exact z
 have C:=v.laid (a:=h'.objs.size) (o:=.lst (j.map V.int)) (t':=tk) keep (Gn _) ⟨by rw[List.length_map];exact t,out.toList,e,Qoa D,by rw[DZ];exact L⟩;exact⟨.ref h'.objs.size,_,C,Xb,q _ _ (v.Zw.fresh (Gn _)) x E⟩
end L2
namespace K05
open PySem L2 Sb Nt
variable{X:Gc->Prop}{H H' H1 H0:Hp}{v:V}{k a b p q tb m j:Nat}{fs:List Fm}{x:Nn}{N:Nat->Nat->Option Nat}{u t:Th}{S ts U:List Th}{f C r n L d D fW fB M fR fL f0 fI fN CP CB fC fA:Gc}{fd fdW fdB fdR fdL fdI fdN fdA:Tt}{A:Na}{lks:List Lk}{xs ys:List V}{P:Gk}{w:Gv}{ens:List En}{tl:Tl}{α:Type}{ds:List TH}{K:Gd}
def Qhw(C:Gc):Sp:=λvs H Q _=>∃(n:Gc)(A:Na)(fs:List Fm)(x:Nn)(p:Nat),vs=[.ref n,jv p]/\(∃dx,H n=Ga (.ins C dx (Y0 A)))/\(∃a,H A.f=Ga (.lst a)/\Paired (Rm H) a fs)/\Rd H A.l (.dK (dS x.S λp=>jv (x.lead p)))/\p<fs.length/\(∀q∈Zk fs p,q∈x.S)/\(Zk fs p).length<=1000000/\
 ∀(c:Gc)(H':Hp),Qz H H'->H c=Gg->Rm H' (.ref c) (Zj (Yc fs) (Zk fs) x.lead p)->Q (.ref c) H'
abbrev Row:=Ta×List Nat×Nat
def Jx(H:Hp)(X:Gc->Prop)(v:V)(r:Row):Prop:=∃c l,v=.ref c/\H c=Ga (.tup [.str r.1,.ref l,jv r.2.2])/\H l=Ga (.lst (r.2.1.map jv))/\¬X l
theorem Jx.kp(tp:∀{c:Gc}{ys:List V},H c=Ga (.tup ys)->H' c=Ga (.tup ys))(lp:∀{c:Gc}{ys:List V},H c=Ga (.lst ys)->¬X c->H' c=Ga (.lst ys)){r:Row}(h:Jx H X v r):Jx H' X v r:=by obtain⟨c,l,h1,h2,b,a⟩:=h;exact⟨c,l,h1,tp h2,lp b a,a⟩
theorem Jx.ex{Y:Gc->Prop}(d:∀c ys,H c=Ga (.lst ys)->¬X c->¬Y c){r:Row}(h:Jx H X v r):Jx H Y v r:=by obtain⟨c,l,h1,h2,a,b⟩:=h;exact⟨c,l,h1,h2,a,d _ _ a b⟩
def Jf(H:Hp)(X:Gc->Prop)(v:V)(a:List Row):Prop:=∃r es,v=.ref r/\H r=Ga (.lst es)/\¬X r/\Paired (Jx H X) es a
theorem Jf.kp{X:Gc->Prop}{H H':Hp}(tp:∀{c:Gc}{ys:List V},H c=Ga (.tup ys)->H' c=Ga (.tup ys))(lp:∀{c:Gc}{ys:List V},H c=Ga (.lst ys)->¬X c->H' c=Ga (.lst ys)){v:V}{b:List Row}(h:Jf H X v b):Jf H' X v b:=by obtain⟨r,es,h1,h2,a,d⟩:=h;exact⟨r,es,h1,lp h2 a,a,L2.Paired.Z7 d λ_ _ h=>h.kp tp lp⟩
theorem Jf.ex{X Y:Gc->Prop}{H:Hp}(a:∀c ys,H c=Ga (.lst ys)->¬X c->¬Y c){v:V}{b:List Row}(h:Jf H X v b):Jf H Y v b:=by obtain⟨r,es,h1,h2,d,e⟩:=h;exact⟨r,es,h1,h2,a _ _ h2 d,L2.Paired.Z7 e λ_ _ h=>h.ex a⟩
def Ve(fs:List Fm)(x:Nn)(N:Nat->Nat)(p:Nat):Row:=(Yc fs p,(Zk fs p).map (λq=>N (x.lead q)),N (x.lead p))
structure Wok(fs:List Fm)(x:Nn)(rs:List Row):Prop where
 ex:∃N:Nat->Nat,(∀p∈x.S,∀q∈x.S,N (x.lead p)=N (x.lead q)->x.lead p=x.lead q)/\(∀p∈x.S,Ve fs x N p∈rs)/\∀r∈rs,∃p∈x.S,r=Ve fs x N p
 nd:(rs.map λr=>(r.1,r.2.1)).Nodup
def Qr8(P:Gk)(w:Gv)(C:Gc):Sp:=λvs H Q _=>∃(n:Gc)(A:Na)(fs:List Fm)(tb:Nat)(x:Nn),vs=[.ref n]/\Z5 P w C H n A fs tb x/\Qel fs x.S/\Xz (Yc fs) (Zk fs) x []/\x.S.length<=1000/\
 ∀(v:V)(a:List Row)(H':Hp),Qz H H'->Jf H' (λb=>∃o,H b=Ga o) v a->Wok fs x a->Q v H'
theorem Qsp{a:List Nat}{l:Nat}(c:l∉a)(b:k∈a++[l]):(a++[l]).idxOf k=if k=l then a.length else a.idxOf k:=by
 rw[List.idxOf_append];by_cases h:k=l
 ·subst h;rw[Gh c,Gm rfl];simp
 ·have:k∈a:=by
   rcases List.mem_append.mp b with z|z
   ·exact z
   ·exact absurd (by simpa using z) h
  rw[Gm this,Gh h]
theorem Qf4{c:List Nat}(d:a∈c)(hb:b∈c)(h:c.idxOf a=c.idxOf b):a=b:=by have h1:=List.getElem_idxOf (List.idxOf_lt_length_of_mem d);have h2:=List.getElem_idxOf (List.idxOf_lt_length_of_mem hb);rw[<-h1,<-h2];simp only[h]
def EnR(fs:List Fm)(x:Nn)(N:Nat->Nat)(X:Gc->Prop)(H:Hp)(e:KE)(p:Nat):Prop:=e.1=Yx (Zj (Yc fs) (Zk fs) x.lead p)/\Jx H X e.2.2 (Ve fs x N p)
theorem Qie{N:Nat->Nat}{d:List KE}{ps:List Nat}(h:Paired (EnR fs x N X H) d ps)(k:Fm):(Yd d (Yx k)).isSome=Gf↔∃p∈ps,Zj (Yc fs) (Zk fs) x.lead p=k:=by
 induction h with
 |nil=>simp[Yd]
 |@cons e p d ps f t g=>
  by_cases c:e.1=Yx k
  ·rw[Yi c];simp only[LG,true_iff];exact⟨p,List.mem_cons_self,U1 (f.1.symm.trans c)⟩
  ·rw[Yl c,g];constructor
   ·rintro⟨q,a,b⟩;exact⟨q,List.mem_cons_of_mem _ a,b⟩
   ·rintro⟨q,a,b⟩;rcases List.mem_cons.mp a with rfl|a
    ·exact absurd (by rw[f.1,b]) c
    ·exact⟨q,a,b⟩
theorem Qts{N:Nat->Nat}{d:List KE}{ps:List Nat}(g:Jx H X v (Ve fs x N p))(a:∀q∈ps,Zj (Yc fs) (Zk fs) x.lead q=Zj (Yc fs) (Zk fs) x.lead p->Ve fs x N q=Ve fs x N p)(h:Paired (EnR fs x N X H) d ps):
  Paired (EnR fs x N X H) (d.map λe=>if e.1=Yx (Zj (Yc fs) (Zk fs) x.lead p)then(e.1,e.2.1,v)else e) ps:=by
 induction h with
 |nil=>exact .nil
 |@cons e q d ps c t i=>
  refine .cons ?_ (i λq f=>a q (List.mem_cons_of_mem _ f));dsimp only;by_cases b:e.1=Yx (Zj (Yc fs) (Zk fs) x.lead p)
  ·rw[Gm b];refine⟨c.1,?_⟩;rw[a q List.mem_cons_self (U1 (c.1.symm.trans b))];exact g
  ·rw[Gh b];exact c
theorem Qug{a:Gc}{u:HO}(r:Rd H a u)(g:Qz H H'):Rd H' a u:=by
 rcases r with r|⟨o,r⟩
 ·exact .inl (g _ _ r)
 ·exact .inr ⟨o,g _ _ r⟩
theorem Qg1{a:Gc}{S:List Nat}{f:Nat->V}(h:Rd H a (.dK (dS S f)))(b:p∈S):Wr H a (jv p) (Ga (f p)):=.inl ⟨_,ki p,h,Xb,(Qfp b).symm⟩
section
variable{P:Gk}{w:Gv}{K:Gd}{mg:Ta->Option Value}{base:Heap}
theorem Qn1(F:Wu K "key_of" "Net.key_of" Ru f fd)(T:V5 K mg C)(B:Jl mg):Qr P w K mg base Z3 1 f fd ["self","place"] (Qhw C):=by
 refine F.ok Qbn (λvs H Q E h=>?_) (λcdv A outer s H vs Q E Z h=>?_)
 ·obtain⟨n,A,fs,x,p,rfl,_⟩:=h;rfl
 obtain⟨n,A,fs,x,p,rfl,⟨dx,M⟩,⟨O,X,I⟩,le,J,v,hl,g⟩:=h;have hu:=Ul Z;have nd:=Qbn.nd;refine⟨_,Qd (Qs 2 nd (Qn Zi (Qm (pv 0) rfl) (pv 1)))
  (Qh (Qu (Za (Qa (Qn Q5 (pv 2) Qj) (Qa (Xn W8 rfl B.tuple TX (Qa
   (Vm (te:=Qh8 (Qvh K (V2 1) "leads") (V2 0)) (own:=["part"]) (fv:=[(0,"self")]) rfl (S:=(by eq_refl:X8 (Qk Ru) _)) (.cons rfl (Dj Xb) rfl .nil) (Ue (Qn Q5 (pv 2) Qj))
    (λ_ _ _ _ _=>Xc (i:=0) Qzc rfl (Dj Xb) (Er Xb)) (λ_ _ _ _ _=>Wh) (λ_ _ _ _ _=>Zr hu (Qm (pv 1) rfl) (pv 0) (λ_ _=>rfl))) Qe)) Qe))))),?_⟩
 have hw:p<O.length:=by rw[Gr I];exact J
 obtain⟨y,L,c,e,W,h1,h2⟩:=Qx I (List.getElem?_eq_getElem hw);rw[Qfn J]at L;cases L;have U:atI [V.str (Yc fs p),V.ref e] (1:Int)=Ga (.ref e):=Qy (j:=1) rfl;refine⟨_,Xb,n,C,dx,_,_,Xb,M,T.cl,T.Qd4,Up _,_,Xb,A.f,O,_,_,Xb,Xb,Zc.of X,Qy (List.getElem?_eq_getElem hw),?_⟩;rw[W];refine⟨_,Xb,c,_,_,_,Xb,Xb,Z2.of h1,Ri _ _,_,Xb,c,_,_,_,Xb,Xb,Z2.of h1,U,e,Xb,⟨_,Z2.of h2⟩,λr t=>?_⟩;have s3:=Qg t (.lst []);refine Ia (K:=K) (a:=e) (xs:=(Zk fs p).map jv) (small (by rw[List.length_map];omega)) (λi ys σ H2=>(∃R,σ=[R,Ga (.ref n)])/\Qz H H2/\ys=((Zk fs p).take i).map λq=>jv (x.lead q))
  ⟨⟨_,Xb⟩,s3,by simp⟩ (λi ys σ H2 _ h=>Z2.of (h.2.1 _ _ h2)) ?_ ?_
 ·rintro i y ys σ H2 hi z ⟨⟨R,rfl⟩,d,rfl⟩ u;rw[List.getElem?_map]at hi;cases eq:(Zk fs p)[i]? with
  |none=>rw[eq]at hi;cases hi
  |some q=>
   rw[eq]at hi;cases hi;refine⟨_,Xb,n,C,dx,_,_,Xb,d _ _ M,T.cl,T.Ws,Ym _,_,Xb,A.l,_,Xb,Qg1 (Qug le d) (v q (List.mem_of_getElem? eq)),u,⟨_,Xb⟩,λb o G=>?_,?_⟩
   ·rw[Qf (Qc G t)];exact d _ _ G
   ·rw[List.take_add_one,eq,List.map_append];rfl
 ·rintro ys σ H2 z ⟨_,d,rfl⟩ u;rw[List.length_map,List.take_length]at u;refine⟨r,_,Xb,.inl ⟨Zc.of u,λm Y=>?_⟩⟩;have s4:=Qg Y (.tup ((Zk fs p).map λq=>jv (x.lead q)));refine⟨by show 2<=Gi;decide,λD k=>?_⟩;have N:=Qg k (.tup [.str (Yc fs p),.ref m]);refine g D _ ((d.trans s4).trans N) (d.free (s4.free k)) ⟨D,m,Xb,Qb,?_⟩;rw[N _ _ Qb];simp only[Zj,List.map_map];rfl
theorem Qv6{S:List Nat}{f:Nat->V}{i:Nat}{a:Xs×V}(h:(dS S f)[i]?=Ga a):∃p,S[i]?=Ga p/\a=(ki p,f p):=by
 unfold dS at h;rw[List.getElem?_map]at h;cases e:S[i]? with
 |none=>rw[e]at h;cases h
 |some p=>rw[e]at h;cases h;exact⟨p,Xb,Xb⟩
theorem Qqg:Qv ["self","numbers","place","found","key"] ["self"] (Qk Qiw):=by eq_refl
theorem Q1m:(["lead","numbers"]:List Ta).Nodup:=by decide+kernel
theorem Qus{fK:Gc}{ax:Tt}(F:Wu K "rows" "Net.rows" Qiw f fd)(T:V5 K mg C)(B:Jl mg)(mK:Z8 K C "key_of" fK)(GK:Qr P w K mg base Z3 1 fK ax ["self","place"] (Qhw C))(bK:Binds K ax ["self","place"] []):
  Qr P w K mg base Z3 2 f fd ["self"] (Qr8 P w C):=by
 refine F.ok Qqg (λvs H Q E h=>?_) (λcdv A outer s H vs Q E hr h=>?_)
 ·obtain⟨n,A,fs,tb,x,rfl,_⟩:=h;rfl
 obtain⟨n,A,fs,tb,x,rfl,X,FO,I,hS,q⟩:=h;have hu:=Ul hr;have aC:=hr.units;have aO:Z9 1 _:=hr.mono (by omega);have nd:=Qqg.nd;refine⟨_,Qd (Ud (i:=1) nd rfl (Er Xb) Uo)
  (Qd (Ql9 (Ye Gy rfl (Qlx (Qm (pv 0) rfl)) (Ya 2 nd)
   (Qh (Ze (Xq Ed Ek El Qk7 (pv 1) (Qa (Zr hu (Qm (pv 0) rfl) (pv 2) (λ_ _=>rfl)) (Qa (Qo Qnx rfl B.len GO (Qa (pv 1) Qe)) Qe)))))))
  (Qd (Ud (i:=3) (te:=Qkw P w) nd rfl (Dj Xb) Oj)
  (Qd (Ql9 (Ye Gy rfl (Qlx (Qm (pv 0) rfl)) (Ya 2 nd)
   (Qd (Qs 4 nd (Q9 (pv 0) T.cl mK GK aO bK .nil Q4 (Qa (pv 2) Qe)))
   (Qh (O0 (Za (Qa (Qn Q5 (pv 4) Qj) (Qa
     (Vm (te:=Qh8 (V2 1) (V2 0)) (own:=["lead"]) (fv:=[(1,"numbers")]) rfl (S:=(by eq_refl:X8 (Qk Qiw) _)) (.cons rfl (Dj Xb) rfl .nil) (Ue (Qn Q5 (pv 4) Qj))
      (λ_ _ _ _ _=>Xc (i:=0) Q1m rfl (Dj Xb) (Er Xb)) (λ_ _ _ _ _=>Wh) (λ_ _ _ _ _=>Zr hu (pv 1) (pv 0) (λ_ _=>rfl)))
     (Qa (Zr hu (pv 1) (Zr hu (Qm (pv 0) rfl) (pv 2) (λ_ _=>rfl)) (λ_ _=>rfl)) Qe))))
    (Qcc (pv 3) (pv 4) (Qdq aC)))))))
  (Qh (Qu (Xn (Qej Xb) rfl B.list TD (Qa (Quh SF MJ Qtz (pv 3)) Qe))))))),?_⟩
 obtain⟨dx,o1⟩:=X.ob;intro num ab;have s1:=Qg ab (.dK []);have X1:=X.same s1;have nl:num≠A.l:=Gp (Qc X.le ab);have nn:num≠n:=Gp (Qc o1 ab);have ln:n≠A.l:=Yb o1 X.le nofun;refine⟨A.l,_,X1.le,?_⟩;refine⟨_,Xb,n,C,dx,_,_,Xb,s1 _ _ o1,T.cl,T.Ws,Ym _,A.l,_,Xb,X1.le,λo=>Qi2 (λi σ H2=>∃(x2:Option V)(N:List Nat),σ=[Ga (.ref n),Ga (.ref num),x2,Gg,Gg]/\H2 num=Ga (.dK (dS N λk=>jv (N.idxOf k)))/\N.Nodup/\N.length<=i/\(∀p∈x.S.take i,x.lead p∈N)/\H2 A.l=Ga (fz o (dS x.S λp=>jv (x.lead p)))/\∀b u,H b=Ga u->b≠A.l->H2 b=Ga u)
  ⟨_,[],Xb,Qi Qb nl,List.nodup_nil,Gx _,by simp,Qb,λb u e hb=>Qi (s1 _ _ e) hb⟩ (λi σ H2 _⟨_,_,_,_,_,_,_,h,_⟩=>h) ?_ ?_⟩
 ·rintro i pr σ H2 hi ⟨x2,N,rfl,Z,au,am,J,ag,fr⟩;obtain⟨p,D,rfl⟩:=Qv6 hi;have pS:p∈x.S:=List.mem_of_getElem? D;have aM:i<x.S.length:=(List.getElem?_eq_some_iff.mp D).1;refine⟨_,Xb,.inr (.inr (.inl ⟨Xb,.inl ⟨_,Z⟩⟩)),_,Xb,n,C,dx,_,_,Xb,fr _ _ o1 ln,T.cl,T.Ws,Ym _,_,Xb,A.l,_,Xb,Qg1 (.inr ⟨o,ag⟩) pS,_,Xb,num,_,Xb,Z,num,ki (x.lead p),_,_,Xb,Xb,Z,by rw[Wz,GQ];omega,λv hv=>?_,λhv=>?_⟩
  ·have M:x.lead p∈N:=by refine Mf λz=>?_;rw[Qks z]at hv;cases hv
   refine⟨_,N,Xb,Z,au,by omega,λr hr=>?_,ag,fr⟩;rw[List.take_add_one,D]at hr;rcases List.mem_append.mp hr with h|h
   ·exact J r h
   ·have:r=p:=by simpa using h
    rw[this];exact M
  ·have M:x.lead p∉N:=λz=>by rw[Qfp z]at hv;cases hv
   have eo:Ww (dS N λk=>jv (N.idxOf k)) (ki (x.lead p)) (.int ((dS N λk=>jv (N.idxOf k)).length:Int))=dS (N++[x.lead p]) λk=>jv ((N++[x.lead p]).idxOf k):=by rw[Qad M,Wz];refine Wk λk hk=>?_;rw[Qsp M hk];split<;>rfl
   rw[eo];refine⟨_,N++[x.lead p],Xb,Qb,List.nodup_append.mpr ⟨au,by simp,λa ha b hb=>by simp at hb;subst hb;exactλz=>M (z▸ha)⟩,by rw[List.length_append,List.length_singleton];omega,λr hr=>?_,Qi ag (Gp nl),λb u e hb=>Qi (fr b u e hb) (Qc e ab)⟩;rw[List.take_add_one,D]at hr;rcases List.mem_append.mp hr with h|h
   ·exact List.mem_append_left _ (J r h)
   ·have:r=p:=by simpa using h
    rw[this];simp
 rintro σ H2 ⟨x2,N,rfl,Z,au,am,J,ag,fr⟩;rw[Wz,List.take_length]at J;rw[Wz]at am;refine⟨o,ag,?_⟩;have t2:∀b u,H b=Ga u->(upd H2 A.l (.dK (dS x.S λp=>jv (x.lead p)))) b=Ga u:=λb u e=>by
  by_cases h:b=A.l
  ·subst h;rw[Qb,<-e];exact X.le.symm
  ·exact Qi (fr b u e h) h
 generalize az:(dS N λk=>jv (N.idxOf k))=kvs at Z;have ae:∀p∈x.S,Yy kvs (ki (x.lead p))=Ga (jv (N.idxOf (x.lead p))):=λp D=>by rw[<-az];exact Qfp (J p D)
 generalize ay:(λk=>N.idxOf k)=G;have ae:∀p∈x.S,Yy kvs (ki (x.lead p))=Ga (jv (G (x.lead p))):=λp D=>by rw[<-ay];exact ae p D
 have ak:∀p∈x.S,∀q∈x.S,G (x.lead p)=G (x.lead q)->x.lead p=x.lead q:=λp D q R e=>by rw[<-ay]at e;exact Qf4 (J p D) (J q R) e
 have av:(upd H2 A.l (.dK (dS x.S λp=>jv (x.lead p)))) num=Ga (.dK kvs):=Qi Z nl;generalize upd H2 A.l (.dK (dS x.S λp=>jv (x.lead p)))=H3 at t2 av;intro fo ah;have s4:=Qg ah (Um P w fo []);have g4:Qz H (upd H3 fo (Um P w fo [])):=λb u e=>s4 _ _ (t2 b u e);have X4:=X.same g4;have nf:num≠fo:=Qc av ah;have fl:A.l≠fo:=Qc (t2 _ _ X.le) ah;refine⟨A.l,_,X4.le,?_⟩;refine⟨_,Xb,n,C,dx,_,_,Xb,g4 _ _ o1,T.cl,T.Ws,Ym _,A.l,_,Xb,X4.le,λo=>Qi2 (λi σ U=>∃(x2 x4:Option V)(O:List KE),σ=[Ga (.ref n),Ga (.ref num),x2,Ga (.ref fo),x4]/\DH P w U fo O/\(∃ps:List Nat,ps.length<=i/\Paired (EnR fs x G (λb=>∃o,H b=Ga o) U) O ps/\(ps.map λp=>Zj (Yc fs) (Zk fs) x.lead p).Nodup/\(∀p∈ps,p∈x.S)/\∀p∈x.S.take i,∃p'∈ps,Zj (Yc fs) (Zk fs) x.lead p'=Zj (Yc fs) (Zk fs) x.lead p)/\U num=Ga (.dK kvs)/\U A.l=Ga (fz o (dS x.S λp=>jv (x.lead p)))/\∀b u,H b=Ga u->b≠A.l->U b=Ga u)
  ⟨_,_,[],Xb,⟨Qi Qb (Gp fl),(λp D=>nomatch D)⟩,⟨[],Gx _,.nil,List.nodup_nil,(λp D=>nomatch D),by simp⟩,Qi (Qi av nf) nl,Qb,λb u e hb=>Qi (g4 _ _ e) hb⟩ (λi σ U _⟨_,_,_,_,_,_,_,h,_⟩=>h) ?_ ?_⟩
 ·rintro i pr σ U hi ⟨x2,x4,O,rfl,D5,⟨ps,ap,ac,af,L,W⟩,an,d,Y⟩;obtain⟨p,D,rfl⟩:=Qv6 hi;have pS:p∈x.S:=List.mem_of_getElem? D;have aM:i<x.S.length:=(List.getElem?_eq_some_iff.mp D).1;have few:=FO.few p;obtain⟨ws,f1,f2⟩:=X.fo;have tu:Qt H U:=λb xs e=>Y b _ e (Yb e X.le nofun);have fA:U A.f=Ga (.lst ws):=Y _ _ f1 (Yb f1 X.le nofun);have o5:=Y _ _ o1 ln;refine⟨_,Xb,n,dx,_,Xb,o5,Qcn _,_,Xb,n,A,fs,x,p,Xb,⟨dx,o5⟩,⟨ws,fA,L2.Paired.Z7 f2 λ_ _ h=>h.Ql tu⟩,.inr ⟨o,d⟩,FO.lt p pS,FO.pts p pS,by omega,λc H6 g6 aX fm=>?_⟩;obtain⟨c',e,ec,h1,h2⟩:=id fm;cases ec;simp only[Zj]at h1 h2;have aw:=g6 _ _ an;have D6:DH P w H6 fo O:=⟨g6 _ _ D5.at_,Zg (Qt.of g6) D5.keys⟩;refine⟨_,Xb,c,_,_,_,Xb,Xb,Z2.of h1,Ri _ _,_,Xb,c,_,_,_,Xb,Xb,Z2.of h1,Iw _ _ _,e,Xb,⟨_,Z2.of h2⟩,λr aq=>?_⟩;have s7:=Qg aq (.lst []);have aY:=Gr ac;refine Ia (K:=K) (a:=e) (xs:=((Zk fs p).map x.lead).map jv) (small (by rw[List.length_map,List.length_map];omega)) (λi ys σ H7=>(∃x0,σ=[x0,Ga (.ref num)])/\Qz H6 H7/\ys=((Zk fs p).take i).map λq=>jv (G (x.lead q))) ⟨⟨_,Xb⟩,s7,by simp⟩ (λi ys σ H7 _ h=>Z2.of (h.2.1 _ _ h2)) ?_ ?_
  ·rintro j y ys σ H7 hj aR ⟨⟨x0,rfl⟩,g7,rfl⟩ ai;rw[List.getElem?_map,List.getElem?_map]at hj;cases eq:(Zk fs p)[j]? with
   |none=>rw[eq]at hj;cases hj
   |some r'=>rw[eq]at hj;cases hj;have hv:=ae r' (FO.pts p pS r' (List.mem_of_getElem? eq));refine⟨_,Xb,_,Xb,num,_,Xb,(by have:=Wr.k (k:=ki (x.lead r')) (g7 _ _ aw);rw[hv]at this;exact this),ai,⟨_,Xb⟩,λb o eb=>Qi (g7 _ _ eb) (Qc eb aq),?_⟩;rw[List.take_add_one,eq,List.map_append];rfl
  ·rintro ys σ H7 aR ⟨_,g7,rfl⟩ ai;rw[List.length_map,List.length_map,List.take_length]at ai;have hv:=ae p pS;have aV:=g7 _ _ aw;have dg:Wr H7 num (jv (x.lead p)) (Ga (jv (G (x.lead p)))):=by have:=Wr.k (k:=ki (x.lead p)) aV;rw[hv]at this;exact this
   refine⟨_,Xb,_,Xb,n,C,dx,_,_,Xb,g7 _ _ (g6 _ _ o5),T.cl,T.Ws,Ym _,_,Xb,A.l,_,Xb,Qg1 (.inr ⟨o,g7 _ _ (g6 _ _ d)⟩) pS,num,_,Xb,dg,by show 3<=Gi;decide,λm hm=>?_⟩;generalize aP:jv (G (x.lead p))=v;have s8:=Qg hm (.tup [.str (Yc fs p),.ref r,v]);have g8:Qz H6 (upd H7 m (.tup [.str (Yc fs p),.ref r,v])):=g7.trans s8;have D8:DH P w (upd H7 m (.tup [.str (Yc fs p),.ref r,v])) fo O:=⟨g8 _ _ D6.at_,Zg (Qt.of g8) D6.keys⟩;have k8:=(fm.Ql (Qt.of g8)).key (FO.str p);refine⟨_,Xb,_,Xb,fo,c,_,O,Xb,Xb,D8,k8,by rw[GQ];omega,?_⟩;have aW:∀b o,H b=Ga o->∃u,H6 b=Ga u:=λb o eb=>by
    by_cases hb:b=A.l
    ·rw[hb];exact⟨_,g6 _ _ d⟩
    ·exact⟨o,g6 _ _ (Y b o eb hb)⟩
   have aD:Jx (upd H7 m (.tup [.str (Yc fs p),.ref r,v])) (λb=>∃o,H b=Ga o) (.ref m) (Ve fs x G p):=⟨m,r,Xb,by rw[<-aP];exact Qb,by
    show _=Ga (HO.lst (((Zk fs p).map λq=>G (x.lead q)).map jv));rw[List.map_map];exact s8 _ _ ai,λ⟨o,eo⟩=>by
    obtain⟨u,aB⟩:=aW _ _ eo;rw[aq]at aB;cases aB⟩
   generalize al:Wq O (Yx (Zj (Yc fs) (Zk fs) x.lead p)) c (.ref m)=aj;have aG:∀{b:Gc}{xs:List V},(upd H7 m (.tup [.str (Yc fs p),.ref r,v])) b=Ga (.tup xs)->(upd (upd H7 m (.tup [.str (Yc fs p),.ref r,v])) fo (Um P w fo aj)) b=Ga (.tup xs):=λe=>Qi e (Yb e D8.at_ nofun);have aU:∀{b:Gc}{xs:List V},(upd H7 m (.tup [.str (Yc fs p),.ref r,v])) b=Ga (.lst xs)->(upd (upd H7 m (.tup [.str (Yc fs p),.ref r,v])) fo (Um P w fo aj)) b=Ga (.lst xs):=λe=>Qi e (Yb e D8.at_ nofun);have ad:Paired (EnR fs x G (λb=>∃o,H b=Ga o) (upd H7 m (.tup [.str (Yc fs p),.ref r,v]))) O ps:=L2.Paired.Z7 ac λ_ _ h=>⟨h.1,h.2.kp (λe=>g8 _ _ (g6 _ _ e)) (λe _=>g8 _ _ (g6 _ _ e))⟩;have ar:∀q∈ps,Zj (Yc fs) (Zk fs) x.lead q=Zj (Yc fs) (Zk fs) x.lead p->Ve fs x G q=Ve fs x G p:=λq R e=>by have hl:=I.cong (L q R) pS e;simp only[Zj,Df]at e;unfold Ve;rw[e.1,hl];congr 2;have:=congrArg (List.map G) e.2;rw[List.map_map,List.map_map]at this;exact this
   have fin:∃aa:List Nat,aa.length<=i+1/\Paired (EnR fs x G (λb=>∃o,H b=Ga o) (upd H7 m (.tup [.str (Yc fs p),.ref r,v]))) aj aa/\(aa.map λp=>Zj (Yc fs) (Zk fs) x.lead p).Nodup/\(∀p∈aa,p∈x.S)/\∀q∈x.S.take (i+1),∃p'∈aa,Zj (Yc fs) (Zk fs) x.lead p'=Zj (Yc fs) (Zk fs) x.lead q:=by
    rw[<-al];unfold Wq;by_cases M:(Yd O (Yx (Zj (Yc fs) (Zk fs) x.lead p))).isSome=Gf
    ·rw[Gm M];refine⟨ps,by omega,Qts aD ar ad,af,L,λq R=>?_⟩;rw[List.take_add_one,D]at R;rcases List.mem_append.mp R with h|h
     ·exact W q h
     ·have:q=p:=by simpa using h
      rw[this];exact(Qie ad _).mp M
    ·rw[Gh M];have aN:∀q∈ps,Zj (Yc fs) (Zk fs) x.lead q≠Zj (Yc fs) (Zk fs) x.lead p:=λq R e=>M ((Qie ad _).mpr ⟨q,R,e⟩);refine⟨ps++[p],by rw[List.length_append,List.length_singleton];omega,DE ad ⟨Xb,aD⟩,?_,λq R=>?_,λq R=>?_⟩
     ·rw[List.map_append];refine List.nodup_append.mpr ⟨af,by simp,λa ha b hb=>?_⟩;obtain⟨q,R,rfl⟩:=List.mem_map.mp ha;have:b=Zj (Yc fs) (Zk fs) x.lead p:=by simpa using hb
      rw[this];exact aN q R
     ·rcases List.mem_append.mp R with h|h
      ·exact L q h
      ·have:q=p:=by simpa using h
       rw[this];exact pS
     ·rw[List.take_add_one,D]at R;rcases List.mem_append.mp R with h|h
      ·obtain⟨p',h1,h2⟩:=W q h;exact⟨p',List.mem_append_left _ h1,h2⟩
      ·have:q=p:=by simpa using h
       rw[this];exact⟨p,by simp,Xb⟩
   obtain⟨aa,aH,aI,aJ,aK,aL⟩:=fin;exact⟨_,_,aj,Xb,⟨Qb,Zg (λb xs e=>aG e) (by rw[<-al];exact D8.keys.put k8)⟩,⟨aa,aH,L2.Paired.Z7 aI λ_ _ h=>⟨h.1,h.2.kp aG (λe _=>aU e)⟩,aJ,aK,aL⟩,Qi (g8 _ _ aw) nf,Qi (g8 _ _ (g6 _ _ d)) fl,λb u e hb=>Qi (g8 _ _ (g6 _ _ (Y b u e hb))) (Qc (t2 _ _ e) ah)⟩
 ·rintro σ U ⟨x2,x4,O,rfl,D5,⟨ps,ap,ac,af,L,W⟩,an,d,Y⟩;rw[Wz,List.take_length]at W;refine⟨o,d,?_⟩;have t6:Qz H (upd U A.l (.dK (dS x.S λp=>jv (x.lead p)))):=λb u e=>by
   by_cases h:b=A.l
   ·subst h;rw[Qb,<-e];exact X.le.symm
   ·exact Qi (Y b u e h) h
  have aF:∀{b:Gc}{xs:List V},U b=Ga (.tup xs)->(upd U A.l (.dK (dS x.S λp=>jv (x.lead p)))) b=Ga (.tup xs):=λe=>Qi e (Yb e d nofun);have aT:∀{b:Gc}{xs:List V},U b=Ga (.lst xs)->(upd U A.l (.dK (dS x.S λp=>jv (x.lead p)))) b=Ga (.lst xs):=λe=>Qi e (Yb e d nofun);have D6:DH P w (upd U A.l (.dK (dS x.S λp=>jv (x.lead p)))) fo O:=⟨Qi D5.at_ (Gp fl),Zg (λb xs e=>aF e) D5.keys⟩;have ao:Paired (EnR fs x G (λb=>∃o,H b=Ga o) (upd U A.l (.dK (dS x.S λp=>jv (x.lead p))))) O ps:=L2.Paired.Z7 ac λ_ _ h=>⟨h.1,h.2.kp aF (λe _=>aT e)⟩;generalize upd U A.l (.dK (dS x.S λp=>jv (x.lead p)))=H6 at t6 D6 ao;refine⟨_,Xb,⟨fo,O,Xb,D6.at_⟩,fo,O,Xb,Xb,D6,λvw aQ=>?_⟩;have s7:=Qg aQ (vvw vw fo);have D7:DH P w (upd H6 vw (vvw vw fo)) fo O:=⟨s7 _ _ D6.at_,Zg (Qt.of s7) D6.keys⟩;refine⟨vw,fo,O,Xb,Qb,D7,λl hl=>?_⟩;have s8:=Qg hl (.lst (O.map λp=>p.2.2));have aE:=s7.trans s8;refine q (.ref l) (ps.map (Ve fs x G)) _ (t6.trans aE) ⟨l,_,Xb,Qb,(λ⟨o,eo⟩=>by rw[s7.free hl|>t6.free]at eo;cases eo),?_⟩ ⟨⟨G,ak,λp D=>?_,λr hr=>?_⟩,?_⟩
  ·have gen:∀{H':Hp},Qz H6 H'->∀{O:List KE}{ps:List Nat},Paired (EnR fs x G (λb=>∃o,H b=Ga o) H6) O ps->Paired (Jx H' (λb=>∃o,H b=Ga o)) (O.map λp=>p.2.2) (ps.map (Ve fs x G)):=λ{H'}g{O ps}h=>by
    induction h with
    |nil=>exact .nil
    |cons h t ih=>exact .cons (h.2.kp (λe=>g _ _ e) (λe _=>g _ _ e)) ih
   exact gen aE ao
  ·obtain⟨p',h1,h2⟩:=W p D;have hl:=I.cong (L p' h1) D h2;refine List.mem_map.mpr ⟨p',h1,?_⟩;simp only[Zj,Df]at h2;unfold Ve;rw[h2.1,hl];congr 2;have:=congrArg (List.map G) h2.2;rw[List.map_map,List.map_map]at this;exact this
  ·obtain⟨p,D,rfl⟩:=List.mem_map.mp hr;exact⟨p,L p D,Xb⟩
  ·rw[List.map_map];have:∀{ps:List Nat},(∀p∈ps,p∈x.S)->(ps.map λp=>Zj (Yc fs) (Zk fs) x.lead p).Nodup->(ps.map ((λr:Row=>(r.1,r.2.1))∘Ve fs x G)).Nodup:=by
    intro ps aA nd;unfold List.Nodup at nd⊢;rw[List.pairwise_map]at nd⊢;refine List.Pairwise.imp_of_mem (λ{a b}ha hb h z=>h ?_) nd;simp only[Ba,Ve,Df]at z;simp only[Zj,Df];refine⟨z.1,?_⟩;have aS:=aA a ha;have bS:=aA b hb;have inj:∀{l m:List Nat},(∀q∈l,q∈x.S)->(∀q∈m,q∈x.S)->l.map (λq=>G (x.lead q))=m.map (λq=>G (x.lead q))->l.map x.lead=m.map x.lead:=by
     intro l;induction l with
     |nil=>intro m _ _ e;cases m with
      |nil=>rfl
      |cons _ _=>simp at e
     |cons u l ih=>
      intro m hl hm e;cases m with
      |nil=>simp at e
      |cons u' m=>simp only[List.map_cons,List.cons.injEq]at e⊢;exact⟨ak u (hl u List.mem_cons_self) u' (hm u' List.mem_cons_self) e.1,ih (λq R=>hl q (List.mem_cons_of_mem _ R)) (λq R=>hm q (List.mem_cons_of_mem _ R)) e.2⟩
    exact inj (FO.pts a aS) (FO.pts b bS) z.2
   exact this L af
end
def Xw(fs:List Fm)(lk:Lk):List (Nat×Nat):=match lk.2.2 with
 |none=>(Zk fs lk.1).zip (Zk fs lk.2.1)
 |some _=>[]
def Qf6(P:Gk)(w:Gv)(C:Gc):Sp:=λvs H Q _=>∃(n:Gc)(A:Na)(fs:List Fm)(tb:Nat)(x:Nn)(v:V)(lk:Lk),vs=[.ref n,v]/\Z5 P w C H n A fs tb x/\Rw H v lk/\lk.1<fs.length/\lk.2.1<fs.length/\
 ∀(r:Gc)(es:List V)(H':Hp),Qz H H'->H r=Gg->H' r=Ga (.lst es)->Paired (Qt3 H') es (Xw fs lk)->Q (.ref r) H'
structure Nd(fs:List Fm)(x:Nn)(one other:Nat)(ns:List Nat):Prop where
 lt:∀k∈ns,k<x.links.length
 top:∀st,Qap x.up one other st->∀p q,(p,q)∈st->∀k,x.Y9 p q=Ga k->k∈ns
 low:∀k∈ns,∀lk,x.links[k]?=Ga lk->∀p q,(p,q)∈Xw fs lk->∀st,Qap x.up p q st->∀u v,(u,v)∈st->∀j,x.Y9 u v=Ga j->j∈ns/\j<k
 only:∀k∈ns,∃st p q j,Qap x.up one other st/\(p,q)∈st/\x.Y9 p q=Ga j/\k<=j
def Qip(P:Gk)(w:Gv)(C:Gc):Sp:=λvs H Q _=>∃(n:Gc)(A:Na)(fs:List Fm)(tb:Nat)(x:Nn)(one a:Nat),vs=[.ref n,jv one,jv a]/\Z5 P w C H n A fs tb x/\Xz (Yc fs) (Zk fs) x []/\Qel fs x.S/\one∈x.S/\a∈x.S/\x.lead one=x.lead a/\x.S.length<=1000/\x.links.length<64/\
 ∀(r:Gc)(ns:List Nat)(H':Hp),Qz H H'->H r=Gg->H' r=Ga (.lst (ns.map jv))->ns.Nodup->ns.Pairwise (·<=·)->Nd fs x one a ns->Q (.ref r) H'
theorem Qps{r:Option U3}(h:Qnf H v r):decide (v=V.non)= !r.isSome:=by
 cases r with
 |none=>rw[show v=V.non from h];rfl
 |some r=>
  cases r with
  |told n=>obtain⟨c,rfl,_⟩:=h;rfl
  |asked=>obtain⟨c,rfl,_⟩:=h;rfl
theorem Qmu(I:Xz (Yc fs) (Zk fs) x []){lk:Lk}(d:x.links[k]?=Ga lk)(c:(p,q)∈Xw fs lk):p∈x.S/\q∈x.S/\Cn (x.links.take k) p q:=by
 obtain⟨a,b,r⟩:=lk;obtain⟨aS,bS,h⟩:=I.lnk k a b r d;cases r with
 |some r=>simp[Xw]at c
 |none=>simp only[Xw]at c;obtain⟨_,e,h⟩:=h rfl;obtain⟨i,hi⟩:=List.mem_iff_getElem?.mp c;rw[List.getElem?_zip_eq_some]at hi;exact⟨I.pt_ a aS p (List.mem_of_getElem? hi.1),I.pt_ b bS q (List.mem_of_getElem? hi.2),h i p q hi.1 hi.2⟩
section
variable{P:Gk}{w:Gv}{K:Gd}{mg:Ta->Option Value}{base:Heap}
theorem Qlq:Qv ["net","link"] ["net","link"] (Qk Qfv):=by eq_refl
theorem Qqj(F:Wu K "pairs_below" "pairs_below" Qfv f fd)(T:V5 K mg C)(B:Jl mg):Qr P w K mg base Z3 1 f fd ["net","link"] (Qf6 P w C):=by
 refine F.ok Qlq (λvs H Q E h=>?_) (λcdv A outer s H vs Q E Y h=>?_)
 ·obtain⟨n,A,fs,tb,x,v,lk,rfl,_⟩:=h;rfl
 obtain⟨n,A,fs,tb,x,v,lk,rfl,X,⟨c,r,rfl,z,G⟩,l1,l2,q⟩:=h;have nd:=Qlq.nd;refine⟨_,Qd (Zn (Qp Oc (Qn Q5 (pv 1) Qj) Uh (Q3 _)) (Qh (Qu (Zt Qe))) Q6)
  (Qh (Qu (Qdc rfl rfl B.list rfl B.zip (Qa (Qn Q5 (Qn Zi (Qm (pv 0) rfl) (Qn Q5 (pv 1) Qj)) Qj) (Qa (Qn Q5 (Qn Zi (Qm (pv 0) rfl) (Qn Q5 (pv 1) Qj)) Qj) Qe))))),?_⟩
 refine⟨_,Xb,c,_,_,_,Xb,Xb,Z2.of z,Qhs _ _ _ _,Xb,_,Xb,?_⟩;rw[Qps G];obtain⟨a,b,M⟩:=lk;cases M with
 |some M=>refine Yr ⟨Gx _,λp J=>?_⟩;exact q p [] _ (Qg J _) J Qb .nil
 |none=>
  refine Zp ?_;obtain⟨dx,L⟩:=X.ob;obtain⟨k,I,j⟩:=X.fo;have d:a<k.length:=by rw[Gr j];exact l1
  have e:b<k.length:=by rw[Gr j];exact l2
  obtain⟨Z,g,N,R,l,o,u⟩:=Qx j (List.getElem?_eq_getElem d);obtain⟨y2,i,O,S,m,t,y⟩:=Qx j (List.getElem?_eq_getElem e);rw[Qfn l1]at g;rw[Qfn l2]at i;cases g;cases i;refine⟨_,Xb,n,C,dx,_,_,Xb,L,T.cl,T.Qd4,Up _,_,Xb,c,_,_,_,Xb,Xb,Z2.of z,Ri _ _,A.f,k,_,_,Xb,Xb,Zc.of I,Qy (List.getElem?_eq_getElem d),N,_,_,_,l,Xb,Z2.of o,Iw _ _ _,?_⟩;refine⟨_,Xb,n,C,dx,_,_,Xb,L,T.cl,T.Qd4,Up _,_,Xb,c,_,_,_,Xb,Xb,Z2.of z,Iw _ _ _,A.f,k,_,_,Xb,Xb,Zc.of I,Qy (List.getElem?_eq_getElem e),O,_,_,_,m,Xb,Z2.of t,Iw _ _ _,?_⟩;exact⟨R,S,_,_,Xb,.inr ⟨Z2.of u,Z2.of y⟩,λr es H' W V D U=>q r es H' W V D (Qdw U)⟩
theorem Qce(T:V5 K mg C){es:List V}{st:List (Nat×Nat)}{N0:List Nat}{v1 v2 l x5 x6 x7:Option V}{D:Ends}
  (X:Z5 P w C H n A fs tb x)(g1:Qz H H1)(d0:H d=Gg)(hd:H1 d=Ga (.dK (dS N0 λ_=>V.bl Gf)))(hL:H1 L=Ga (.lst es))(G:Paired (Qt3 H1) es st)(hk:∀p q,(p,q)∈st->∃k,x.Y9 p q=Ga k/\k<m)(ad:N0.Nodup)(hm:m<=64)(hN:∀k∈N0,k<64)
  (q:∀N l H',N.Nodup->(∀k∈N0,k∈N)->(∀k∈N,k∈N0\/(k<m/\∃p q,(p,q)∈st/\x.Y9 p q=Ga k))->(∀p q k,(p,q)∈st->x.Y9 p q=Ga k->k∈N)->Ig d H1 H'->H' d=Ga (.dK (dS N λ_=>V.bl Gf))->D.nx [Ga (.ref n),v1,v2,Ga (.ref d),l,x5,x6,x7] H'):
  ∃W:Nat->Nat->St->Hp->Prop,(∃m,W 0 m [Ga (.ref n),v1,v2,Ga (.ref d),l,x5,x6,x7] H1)/\∀i m σ H,W i m σ H->
   ((Itl K L).stop i H/\D.nx σ H)\/((Itl K L).go i H/\∃N:St->Hp->Prop,(∀M H',N M H'->∃m',m'<m/\W (i+1) m' M H')/\∀x H',(Itl K L).yld i H x H'->Vl 4 x σ H' λae H2=>Qwd (V2 3) (Qh8 (Qvh K (V2 0) "link_at") (V2 4)) (tC (V.bl Gf)) {D with nx:=N,ct:=N,bk:=D.nx} ae H2):=by
 obtain⟨dx,o1⟩:=X.ob;obtain⟨kvs,Q,af,Y⟩:=X.at_;have Ld:L≠d:=Yb hL hd nofun;refine Xh (K:=K) (a:=L) (xs:=es) (λi σ H2=>∃(l:Option V)(N:List Nat),σ=[Ga (.ref n),v1,v2,Ga (.ref d),l,x5,x6,x7]/\N.Nodup/\(∀k∈N0,k∈N)/\(∀k∈N,k∈N0\/(k<m/\∃p q,(p,q)∈st/\x.Y9 p q=Ga k))/\(∀p q k,(p,q)∈st.take i->x.Y9 p q=Ga k->k∈N)/\Ig d H1 H2/\H2 d=Ga (.dK (dS N λ_=>V.bl Gf)))
  ⟨l,N0,Xb,ad,λ_ h=>h,λ_ h=>.inl h,by simp,Ig.refl,hd⟩ (λi σ H2 _⟨_,_,_,_,_,_,_,b,_⟩=>Zc.of (b _ _ hL Ld)) ?_ ?_
 ·rintro i y σ H2 hi ⟨l,N,rfl,f,s1,s2,R,E,S⟩;obtain⟨⟨p,r⟩,he,c,rfl,hc⟩:=Qx G hi;have s:(p,r)∈st:=List.mem_of_getElem? he;obtain⟨k,u,ab⟩:=hk p r s;have nd1:n≠d:=Qc o1 d0;have ac:A.a≠d:=Qc Q d0;have o2:=E _ _ (g1 _ _ o1) nd1;have U:=E _ _ (g1 _ _ Q) ac;have Z:=E _ _ hc (Yb hc hd nofun);have dg:Wr H2 A.a (.ref c) (Ga (jv k)):=by have:=Wr.t (k:=[ki p,ki r]) U (show H2 c=Ga (.tup ([ki p,ki r].map kV))from Z);rw[Y p r,u]at this;exact this
  have ag:N.length<=64:=by have:N.length<=(List.range 64).length:=Xf f λk hk=>List.mem_range.mpr ((s2 k hk).elim (hN k) (λh=>by have:=h.1;omega));rwa[List.length_range]at this
  have dp:=Iv.k (k:=ki k) (v:=V.bl Gf) S (by rw[Wz,GQ];omega);refine⟨_,Xb,_,Xb,n,C,dx,_,_,Xb,o2,T.cl,T.Qby,Qaq _,_,Xb,A.a,_,Xb,dg,d,_,Xb,dp,?_⟩;have F:Ig d H1 (upd H2 d (.dK (Ww (dS N λ_=>V.bl Gf) (ki k) (V.bl Gf)))):=λc o e h=>Qi (E c o e h) h;have tk:∀{O:List Nat},(∀j∈N,j∈O)->k∈O->∀p q k,(p,q)∈st.take (i+1)->x.Y9 p q=Ga k->k∈O:=λ{O}hs aa p' q' k' J B=>by
   rw[List.take_add_one,he]at J;rcases List.mem_append.mp J with h|h
   ·exact hs _ (R p' q' k' h B)
   ·have:(p',q')=(p,r):=by simpa using h
    cases this;rw[u]at B;cases B;exact aa
  by_cases g:k∈N
  ·refine⟨_,N,Xb,f,s1,s2,tk (λ_ h=>h) g,F,?_⟩;rw[Qb,Qki g];congr 2;exact Wk λp _=>by split<;>rfl
  ·refine⟨_,N++[k],Xb,List.nodup_append.mpr ⟨f,by simp,λa Q b hb=>by simp at hb;subst hb;exactλz=>g (z▸Q)⟩,λj I=>List.mem_append_left _ (s1 j I),λj I=>?_,tk (λj I=>List.mem_append_left _ I) (by simp),F,?_⟩
   ·rcases List.mem_append.mp I with h|h
    ·exact s2 j h
    ·have:j=k:=by simpa using h
     rw[this];exact .inr ⟨ab,p,r,s,u⟩
   ·rw[Qb,Qad g];congr 2;exact Wk λp _=>by split<;>rfl
 ·rintro σ H2 ⟨l,N,rfl,f,s1,s2,R,E,S⟩;rw[Gr G,List.take_length]at R;exact q N l H2 f s1 s2 R E S
theorem Qh1:Qv ["net","one","other","needed","step","number","part","twin"] ["net","one","other"] (Qk Qb4):=by eq_refl
theorem Qno(F:Wu K "links_needed" "links_needed" Qb4 f fd)(T:V5 K mg C)(B:Jl mg)(mW:Z8 K C "way" fW)(GW:Qr P w K mg base Z3 2 fW fdW ["self","one","other"] (Qsc P w C))(bW:Binds K fdW ["self","one","other"] [])
  (GB:Qr P w K mg base Z3 1 fB fdB ["net","link"] (Qf6 P w C))(kB:KI K fB)(bB:Binds K fdB ["net","link"] [])(mB:MG mg "pairs_below" fB):
  Qr P w K mg base Z3 3 f fd ["net","one","other"] (Qip P w C):=by
 refine F.ok Qh1 (λvs H Q E h=>?_) (λcdv A outer s H vs Q E hr h=>?_)
 ·obtain⟨n,A,fs,tb,x,one,G,rfl,_⟩:=h;rfl
 obtain⟨n,A,fs,tb,x,one,G,rfl,X,I,FO,oS,tS,he,hS,aI,q⟩:=h;have hu:=Ul hr;have aG:Z9 1 _:=hr.mono (by omega);have nd:=Qh1.nd;refine⟨_,Qd (Qs 3 nd Uo)
  (Qd (Ye Gy rfl (Y2 (Q9 (pv 0) T.cl mW GW hr bW .nil Q4 (Qa (pv 1) (Qa (pv 2) Qe)))) (Ya 4 nd)
   (Qh (Wm hu (pv 3) (Zr hu (Qm (pv 0) rfl) (pv 4) (λ_ _=>rfl)) Vd Xb)))
  (Qd (Ye Gy rfl (Qvj rfl B.range (Qa (Zo Qc6 (Qo Zb rfl B.len GO (Qa (Qm (pv 0) rfl) Qe)) Qj) (Qa (Qa9 Jv Qj) (Qa (Qa9 Jv Qj) Qe)))) (Ya 5 nd)
   (Qh (Zn (Rj (Qj6 hu (pv 5) (pv 3)))
    (Qh (Ye Gy rfl (Y2 (Zy GB aG rfl mB kB bB .nil Q4 (Qa (pv 0) (Qa (Qn Zi (Qm (pv 0) rfl) (pv 5)) Qe)))) (Vi rfl (Zl (Ya 6 nd) (Zl (Ya 7 nd) X5)))
     (Qh (Ye Gy rfl (Y2 (Q9 (pv 0) T.cl mW GW hr bW .nil Q4 (Qa (pv 6) (Qa (pv 7) Qe)))) (Ya 4 nd)
      (Qh (Wm hu (pv 3) (Zr hu (Qm (pv 0) rfl) (pv 4) (λ_ _=>rfl)) Vd Xb)))))) Q6)))
  (Qh (Qu (Qo (Qjm Xb) rfl B.sorted MK (Qa (pv 3) Qe)))))),?_⟩
 intro d d0;have s1:=Qg d0 (.dK []);obtain⟨dx,o1⟩:=X.ob;obtain⟨ls,an,av⟩:=X.li;have ar:=Gr av;have aH:∀p q k,x.Y9 p q=Ga k->k<x.links.length:=λp q k h=>by obtain⟨r,h|h⟩:=I.fst.Qf0 p q k h<;>exact(List.getElem?_eq_some_iff.mp h).1
 refine⟨_,Xb,n,dx,_,Xb,s1 _ _ o1,Qle _,_,Xb,_,Xb,n,A,fs,tb,x,one,G,Xb,X.same s1,I,oS,tS,he,hS,λL es st H2 g2 L0 hL aB W=>⟨L,Xb,⟨_,Zc.of hL⟩,?_⟩⟩;refine Qce T X (s1.trans g2) d0 (N0:=[]) (g2 _ _ Qb) hL aB (m:=x.links.length) (λp q h=>?_) List.nodup_nil (by omega) (λk g=>nomatch g) λN x4 H3 R i1 i2 i3 bt e3=>?_
 ·obtain⟨k,h1,h2⟩:=W.lk p q h;exact⟨k,h1,aH _ _ _ h1⟩
 have g3:Qz H H3:=λb o e=>bt _ _ (g2 _ _ (s1 _ _ e)) (Qc e d0);refine⟨_,Xb,n,C,dx,_,_,Xb,g3 _ _ o1,T.cl,T.links,Uy _,A.k,_,Xb,.inl (Zc.of (g3 _ _ an)),_,_,Xb,Xb,_,Xb,_,Xb,x.links.length,by rw[ar],by omega,?_⟩;refine Qp9 (λi σ H4=>∃(x4 x5 x6 x7:Option V)(N:List Nat),σ=[Ga (.ref n),Ga (jv one),Ga (jv G),Ga (.ref d),x4,x5,x6,x7]/\Qz H H4/\H4 d=Ga (.dK (dS N λ_=>V.bl Gf))/\N.Nodup/\(∀k∈N,k<x.links.length)/\(∀p q k,(p,q)∈st->x.Y9 p q=Ga k->k∈N)/\(∀k∈N,∃p q j,(p,q)∈st/\x.Y9 p q=Ga j/\k<=j)/\
   ∀k∈N,x.links.length - i<=k->∀lk,x.links[k]?=Ga lk->∀p q,(p,q)∈Xw fs lk->∀st,Qap x.up p q st->∀u v,(u,v)∈st->∀j,x.Y9 u v=Ga j->j∈N/\j<k)
  ⟨_,_,_,_,N,Xb,g3,e3,R,λk g=>(i2 k g).elim nofun (·.1),i3,λk g=>(i2 k g).elim nofun (λ⟨_,p,q,h1,h2⟩=>⟨p,q,k,h1,h2,Gn _⟩),λk g h=>?_⟩ ?_ ?_
 ·have:=(i2 k g).elim nofun (·.1);omega
 ·rintro i σ H4 hi ⟨x4,x5,x6,x7,N,rfl,g4,e4,R,Z,Y,l,U⟩;have ai:((x.links.length:Int) - 1 - (i:Int))=((x.links.length - 1 - i:Nat):Int):=by omega
  rw[ai];generalize aL:x.links.length - 1 - i=J;have kl:J<x.links.length:=by omega
  have dg:Wr H4 d (jv J) (Yy (dS N λ_=>V.bl Gf) (ki J)):=Wr.k (k:=ki J) e4;refine⟨_,Xb,_,Xb,d,_,Xb,dg,_,Xb,?_⟩;rw[Qmo];by_cases af:J∈N
  ·rw[GX af];refine Yr ?_;have am:J<ls.length:=by omega
   obtain⟨lk,ac,aq⟩:=Qx av (List.getElem?_eq_getElem am);have ah:=aq.Ql (Qt.of g4);obtain⟨a,b,rs⟩:=lk;obtain⟨aS,bS,_⟩:=I.lnk J a b rs ac;refine⟨_,Xb,_,Xb,n,C,dx,_,_,Xb,g4 _ _ o1,T.cl,T.links,Uy _,_,Xb,A.k,ls,_,_,Xb,Xb,Zc.of (g4 _ _ an),Qy (List.getElem?_eq_getElem am),n,A,fs,tb,x,_,(a,b,rs),Xb,X.same g4,ah,FO.lt a aS,FO.lt b bS,λL5 aA H5 g5 aw aj ag=>⟨L5,Xb,⟨_,Zc.of aj⟩,?_⟩⟩;have ax:L5≠d:=Gp (Qc e4 aw);have low:∀{O:List Nat}{i':Nat},(∀k∈N,k∈O)->(∀k∈O,k∈N\/k<J)->(∀p q,(p,q)∈Xw fs (a,b,rs)->∀st,Qap x.up p q st->∀u v,(u,v)∈st->∀j,x.Y9 u v=Ga j->j∈O/\j<J)->
     ∀k∈O,x.links.length - (i+1)<=k->∀lk,x.links[k]?=Ga lk->∀p q,(p,q)∈Xw fs lk->∀st,Qap x.up p q st->∀u v,(u,v)∈st->∀j,x.Y9 u v=Ga j->j∈O/\j<k:=λ{O i'}a1 a2 a3 k g h lk ad p q t S D u v M j hj=>by
    rcases Tk k (x.links.length - i)with h2|h2
    ·have:k=J:=by omega
     subst this;rw[ac]at ad;cases ad;exact a3 p q t S D u v M j hj
    ·have aD:k∈N:=(a2 k g).elim id λz=>by omega
     obtain⟨b1,b2⟩:=U k aD h2 lk ad p q t S D u v M j hj;exact⟨a1 _ b1,b2⟩
   refine Xh (K:=K) (a:=L5) (xs:=aA) (λi5 σ H6=>∃(x4 x6 x7:Option V)(O:List Nat),σ=[Ga (.ref n),Ga (jv one),Ga (jv G),Ga (.ref d),x4,Ga (jv J),x6,x7]/\Ig d H5 H6/\H6 d=Ga (.dK (dS O λ_=>V.bl Gf))/\O.Nodup/\(∀k∈N,k∈O)/\(∀k∈O,k∈N\/k<J)/\
     ∀p q,(p,q)∈(Xw fs (a,b,rs)).take i5->∀st,Qap x.up p q st->∀u v,(u,v)∈st->∀j,x.Y9 u v=Ga j->j∈O/\j<J)
    ⟨_,_,_,N,Xb,Ig.refl,g5 _ _ e4,R,λ_ h=>h,λ_ h=>.inl h,by simp⟩ (λi5 σ H6 _⟨_,_,_,_,_,bt,_⟩=>Zc.of (bt _ _ aj ax)) ?_ ?_
   ·rintro i5 y σ H6 aC ⟨x4,x6,x7,O,rfl,ab,e6,ae,sub,only,done⟩;obtain⟨⟨p,r⟩,ap,c,rfl,hc⟩:=Qx ag aC;have ao:(p,r)∈Xw fs (a,b,rs):=List.mem_of_getElem? ap;obtain⟨pS,rS,cn⟩:=Qmu I ac ao;have g6:Qz H H6:=λb o e=>ab _ _ (g5 _ _ (g4 _ _ e)) (Qc e d0);have aF:x.lead p=x.lead r:=(I.conn p pS r rS).mpr (cn.mono λz hz=>List.mem_of_mem_take hz);have c6:=ab _ _ hc (Yb hc (g5 _ _ e4) nofun);refine⟨c,_,Xb,Z2.of c6,Xb,_,_,Xb,_,_,Xb,Xb,?_⟩;refine⟨_,Xb,n,dx,_,Xb,g6 _ _ o1,Qle _,_,Xb,_,Xb,n,A,fs,tb,x,p,r,Xb,X.same g6,I,pS,rS,aF,hS,λL7 aK aM H7 g7 aJ ak al W7=>⟨L7,Xb,⟨_,Zc.of ak⟩,?_⟩⟩;refine Qce T X (g6.trans g7) d0 (N0:=O) (g7 _ _ e6) ak al (m:=J) (λp q h=>?_) ae (by omega) (λk g=>?_) λN8 x4 H8 au i1 i2 i3 ay e8=>?_
    ·obtain⟨k,h1,h2⟩:=W7.lk p q h;exact⟨k,h1,h2 J cn⟩
    ·rcases only k g with h|h
     ·have:=Z k h;omega
     ·omega
    ·refine⟨_,_,_,N8,Xb,λb o e h=>ay _ _ (g7 _ _ (ab _ _ e h)) h,e8,au,λk g=>i1 k (sub k g),λk g=>(i2 k g).elim (only k) (λh=>.inr h.1),λp' q' t S D u v M j hj=>?_⟩;rw[List.take_add_one,ap]at t;rcases List.mem_append.mp t with h|h
     ·obtain⟨b1,b2⟩:=done p' q' h S D u v M j hj;exact⟨i1 _ b1,b2⟩
     ·have:(p',q')=(p,r):=by simpa using h
      cases this;have:=D.uniq W7.rel;subst this;obtain⟨k,h1,h2⟩:=W7.lk u v M;rw[hj]at h1;cases h1;exact⟨i3 u v j M hj,h2 J cn⟩
   ·rintro σ H6 ⟨x4,x6,x7,O,rfl,ab,e6,ae,sub,only,done⟩;rw[Gr ag,List.take_length]at done;exact⟨_,_,_,_,O,Xb,λb o e=>ab _ _ (g5 _ _ (g4 _ _ e)) (Qc e d0),e6,ae,λk g=>(only k g).elim (Z k) (λh=>by omega),λp q k h1 h2=>sub _ (Y p q k h1 h2),λk g=>(only k g).elim (l k) (λh=>by obtain⟨p,q,j,h1,h2,h3⟩:=l J af;exact⟨p,q,j,h1,h2,by omega⟩),low (i':=0) sub only done⟩
  ·rw[Gz af];refine Zp ⟨_,_,_,_,N,Xb,g4,e4,R,Z,Y,l,λk g h=>?_⟩;rcases Tk k (x.links.length - i)with h2|h2
   ·have:k=J:=by omega
    exact absurd (this▸g) af
   ·exact U k g h2
 ·rintro σ H4 ⟨x4,x5,x6,x7,N,rfl,g4,e4,R,Z,Y,l,U⟩;have aE:N.length<64:=by have:N.length<=(List.range x.links.length).length:=Xf R λk g=>List.mem_range.mpr (Z k g);rw[List.length_range]at this;omega
  refine⟨_,Xb,d,_,N.map (λk:Nat=>(k:Int)),Xb,e4,?_,by rw[Wz];exact aE,λr ns r0 hp hs=>?_⟩
  ·unfold dS;rw[List.map_map,List.map_map];rfl
  have az:ns=(ns.map DD).map (λk:Nat=>(k:Int)):=by rw[List.map_map];refine(List.map_id ns).symm.trans (List.map_congr_left λz hz=>?_);have:=hp.mem_iff.mp hz;obtain⟨k,_,rfl⟩:=List.mem_map.mp this;rfl
  have aa:(ns.map DD).Perm N:=by
   have:=hp.map DD;rw[List.map_map]at this;have e:(N.map (DD∘λk:Nat=>(k:Int)))=N:=by refine(List.map_congr_left λk _=>?_).trans (List.map_id N);rfl
   rwa[e]at this
  have eo:HO.lst (ns.map V.int)=HO.lst ((ns.map DD).map jv):=by
   congr 1
   conv=>lhs;rw[az]
   rw[List.map_map];rfl
  have pw:(ns.map DD).Pairwise (·<=·):=by rw[List.pairwise_map];exact hs.imp λh=>by omega
  rw[eo];refine q r (ns.map DD) _ (g4.trans (Qg r0 _)) (g4.free r0) Qb (aa.nodup_iff.mpr R) pw ⟨λk g=>Z k (aa.mem_iff.mp g),λS D p q' t k g=>?_,λk g lk ac p q' t S D u v M j hj=>?_,λk g=>?_⟩
  ·have:=D.uniq W.rel;subst this;exact aa.mem_iff.mpr (Y p q' k t g)
  ·obtain⟨b1,b2⟩:=U k (aa.mem_iff.mp g) (by omega) lk ac p q' t S D u v M j hj;exact⟨aa.mem_iff.mpr b1,b2⟩
  ·obtain⟨p,q',j,h1,h2,h3⟩:=l k (aa.mem_iff.mp g);exact⟨st,p,q',j,W.rel,h1,h2,h3⟩
end
inductive Lr where
 |told (n:Nat)
 |asked
 |turn (k:Nat)
 |chain (ks:List Nat)
 |like (ks:List Nat)
abbrev Ln:=Nat×Nat×Lr
variable{ls:List Ln}
def Chn(pre:List Ln):Nat->List Nat->Nat->Prop
 |p,[],q=>p=q
 |p,k::a,q=>∃m r,pre[k]?=Ga (p,m,r)/\Chn pre m a q
def Okl(fs:List Fm)(lks:List Lk)(pre:List Ln)(a b:Nat):Lr->Prop
 |.told n=>(a,b,Ga (.told n))∈lks
 |.asked=>(a,b,Ga .asked)∈lks
 |.turn k=>∃r,pre[k]?=Ga (b,a,r)
 |.chain c=>Chn pre a c b
 |.like c=>Yc fs a=Yc fs b/\(Zk fs a).length=(Zk fs b).length/\c.length=(Zk fs a).length/\∀j k p q:Nat,c[j]?=Ga k->(Zk fs a)[j]?=Ga p->(Zk fs b)[j]?=Ga q->∃r,pre[k]?=Ga (p,q,r)
def Gdl(fs:List Fm)(lks:List Lk)(ls:List Ln):Prop:=∀(i a b:Nat)r,ls[i]?=Ga (a,b,r)->Okl fs lks (ls.take i) a b r
theorem Gdl.nil:Gdl fs lks []:=λi a b r h=>by simp at h
theorem Gdl.snoc{r:Lr}(g:Gdl fs lks ls)(h:Okl fs lks ls a b r):Gdl fs lks (ls++[(a,b,r)]):=λi d e f hi=>by
 rcases Tk i ls.length with c|c
 ·rw[List.getElem?_append_left c]at hi;rw[List.take_append_of_le_length (by omega)];exact g i d e f hi
 ·rw[List.getElem?_append_right c]at hi;have:i=ls.length:=by
   rcases Tk (i - ls.length) 1 with h1|h1
   ·omega
   ·rw[List.getElem?_eq_none (by simpa using h1)]at hi;cases hi
  subst this;simp at hi;obtain⟨rfl,rfl,rfl⟩:=hi;rw[List.take_left];exact h
def Qaa(H:Hp)(X:Gc->Prop)(v:V):Lr->Prop
 |.told n=>∃c,v=.ref c/\H c=Ga (.tup [.str "told",jv n])
 |.asked=>∃c,v=.ref c/\H c=Ga (.tup [.str "asked"])
 |.turn k=>∃c,v=.ref c/\H c=Ga (.tup [.str "turn",jv k])
 |.chain a=>∃c l,v=.ref c/\H c=Ga (.tup [.str "chain",.ref l])/\H l=Ga (.lst (a.map jv))/\¬X l
 |.like a=>∃c l,v=.ref c/\H c=Ga (.tup [.str "like",.ref l])/\H l=Ga (.lst (a.map jv))/\¬X l
def Qgh(H:Hp)(X:Gc->Prop)(us:List V)(v:V)(l:Ln):Prop:=∃c a b rv,v=.ref c/\H c=Ga (.tup [a,b,rv])/\us[l.1]?=Ga a/\us[l.2.1]?=Ga b/\Qaa H X rv l.2.2
structure J9(L M:Gc)(H H':Hp):Prop where
 keep:∀b o,H b=Ga o->b≠L->b≠M->H' b=Ga o
 there:∀b,H' b=Gg->H b=Gg
theorem J9.refl:J9 L M H H:=⟨λ_ _ e _ _=>e,λ_ h=>h⟩
theorem J9.trans{H2:Hp}(a:J9 L M H H1)(b:J9 L M H1 H2):J9 L M H H2:=⟨λc o e h1 h2=>b.keep c o (a.keep c o e h1 h2) h1 h2,λc h=>a.there c (b.there c h)⟩
theorem J9.of(g:Qz H H1):J9 L M H H1:=⟨λc o e _ _=>g c o e,λc h=>g.free h⟩
theorem Qaa.kp(tp:∀{c:Gc}{ys:List V},H c=Ga (.tup ys)->H' c=Ga (.tup ys))(lp:∀{c:Gc}{ys:List V},H c=Ga (.lst ys)->¬X c->H' c=Ga (.lst ys)):∀{r:Lr},Qaa H X v r->Qaa H' X v r:=by
 intro r h;cases r with
 |told n=>obtain⟨c,h1,h2⟩:=h;exact⟨c,h1,tp h2⟩
 |asked=>obtain⟨c,h1,h2⟩:=h;exact⟨c,h1,tp h2⟩
 |turn k=>obtain⟨c,h1,h2⟩:=h;exact⟨c,h1,tp h2⟩
 |chain d=>obtain⟨c,l,h1,h2,b,a⟩:=h;exact⟨c,l,h1,tp h2,lp b a,a⟩
 |like d=>obtain⟨c,l,h1,h2,b,a⟩:=h;exact⟨c,l,h1,tp h2,lp b a,a⟩
theorem Qgh.kp{X:Gc->Prop}{H H':Hp}(tp:∀{c:Gc}{ys:List V},H c=Ga (.tup ys)->H' c=Ga (.tup ys))(lp:∀{c:Gc}{ys:List V},H c=Ga (.lst ys)->¬X c->H' c=Ga (.lst ys)){us:List V}{v:V}{l:Ln}(h:Qgh H X us v l):Qgh H' X us v l:=by obtain⟨c,e,f,rv,h1,h2,a,b,d⟩:=h;exact⟨c,e,f,rv,h1,tp h2,a,b,d.kp tp lp⟩
theorem Qaa.ex{Y:Gc->Prop}(d:∀c ys,H c=Ga (.lst ys)->¬X c->¬Y c):∀{r:Lr},Qaa H X v r->Qaa H Y v r:=by
 intro r h;cases r with
 |told n=>exact h
 |asked=>exact h
 |turn k=>exact h
 |chain e=>obtain⟨c,l,h1,h2,a,b⟩:=h;exact⟨c,l,h1,h2,a,d _ _ a b⟩
 |like e=>obtain⟨c,l,h1,h2,a,b⟩:=h;exact⟨c,l,h1,h2,a,d _ _ a b⟩
theorem Qgh.ex{X Y:Gc->Prop}{H:Hp}(e:∀c ys,H c=Ga (.lst ys)->¬X c->¬Y c){us:List V}{v:V}{l:Ln}(h:Qgh H X us v l):Qgh H Y us v l:=by obtain⟨c,f,g,rv,h1,h2,a,b,d⟩:=h;exact⟨c,f,g,rv,h1,h2,a,b,d.ex e⟩
structure Sv where
 sh:Gc
 n:Gc
 t:Gc
 L:Gc
 M:Gc
 A:Na
 fs:List Fm
 tb:Nat
 x:Nn
 us:List V
 H0:Hp
 Ex:Gc->Prop
def Qba(v:Sv):List (Ta×V):=[("things",.ref v.t),("net",.ref v.n),("lines",.ref v.L),("numbers",.ref v.M)]
structure Wv(P:Gk)(w:Gv)(C D:Gc)(v:Sv)(H:Hp)(ls:List Ln)(N:Nat->Nat->Option Nat):Prop where
 ob:∃dx,H v.sh=Ga (.ins D dx (Qba v))
 Oy:Qz v.H0 H
 L0:v.H0 v.L=Gg
 M0:v.H0 v.M=Gg
 net:Z5 P w C v.H0 v.n v.A v.fs v.tb v.x
 th:v.H0 v.t=Ga (.lst v.us)
 li:∃vs,H v.L=Ga (.lst vs)/\Paired (Qgh H v.Ex v.us) vs ls
 nu:∃kvs,H v.M=Ga (.dT kvs)/\kvs.length<=ls.length/\∀i j:Nat,Yy kvs [ki i,ki j]=(N i j).map jv
 ok:∀i j k,N i j=Ga k->∃r,ls[k]?=Ga (i,j,r)
 good:Gdl v.fs v.x.links ls
 exL:v.Ex v.L
 exA:∀b,v.Ex b->∃o,H b=Ga o
theorem J9.tp{kvs:List (List Xs×V)}(F:J9 L M H H')(b:H M=Ga (.dT kvs))(a:H L=Ga (.lst xs)){c:Gc}(e:H c=Ga (.tup ys)):H' c=Ga (.tup ys):=F.keep _ _ e (Yb e a nofun) (Yb e b nofun)
theorem J9.lp{kvs:List (List Xs×V)}(F:J9 L M H H')(b:H M=Ga (.dT kvs))(a:X L){c:Gc}(e:H c=Ga (.lst ys))(h:¬X c):H' c=Ga (.lst ys):=F.keep _ _ e (λz=>h (z▸a)) (Yb e b nofun)
theorem Wv.fr{v:Sv}(S:Wv P w C D v H ls N)(g:Qz H H'):Wv P w C D v H' ls N:=by obtain⟨dx,a⟩:=S.ob;obtain⟨vs,l1,l2⟩:=S.li;obtain⟨kvs,n1,n2,n3⟩:=S.nu;exact⟨⟨dx,g _ _ a⟩,S.Oy.trans g,S.L0,S.M0,S.net,S.th,⟨vs,g _ _ l1,L2.Paired.Z7 l2 λ_ _ h=>h.kp (λe=>g _ _ e) (λe _=>g _ _ e)⟩,⟨kvs,g _ _ n1,n2,n3⟩,S.ok,S.good,S.exL,λb hb=>let⟨o,e⟩:=S.exA b hb;⟨o,g _ _ e⟩⟩
theorem Wv.more{v:Sv}(S:Wv P w C D v H ls N)(d:H r=Gg):Wv P w C D {v with Ex:=λb=>v.Ex b\/b=r} (upd H r (.lst [])) ls N:=by
 have S1:=S.fr (Qg d (.lst []));obtain⟨vs,l1,l2⟩:=S.li;obtain⟨f,a,i⟩:=S1.li;have:f=vs:=by rw[Qg d (.lst []) _ _ l1]at a;cases a;rfl
 subst this;refine⟨S1.ob,S1.Oy,S1.L0,S1.M0,S1.net,S1.th,⟨f,a,L2.Paired.Z7 l2 λ_ _ h=>(h.ex (Y:=λb=>v.Ex b\/b=r) λc ys e g z=>?_).kp (λe=>Qg d _ _ _ e) (λe _=>Qg d _ _ _ e)⟩,S1.nu,S1.ok,S1.good,.inl S1.exL,λb hb=>?_⟩
 ·rcases z with z|z
  ·exact g z
  ·rw[z,d]at e;cases e
 ·rcases hb with hb|hb
  ·exact S1.exA b hb
  ·exact⟨_,by rw[hb];exact Qb⟩
theorem Wv.less{v:Sv}(S:Wv P w C D {v with Ex:=λb=>v.Ex b\/b=r} H ls N)(a:v.Ex v.L):Wv P w C D v H ls N:=by obtain⟨vs,l1,l2⟩:=S.li;exact⟨S.ob,S.Oy,S.L0,S.M0,S.net,S.th,⟨vs,l1,L2.Paired.Z7 l2 λ_ _ h=>h.ex λc ys e d z=>d (.inl z)⟩,S.nu,S.ok,S.good,a,λb hb=>S.exA b (.inl hb)⟩
theorem Wv.grow{v:Sv}{zs:List V}(S:Wv P w C D v H ls N)(j:v.Ex r)(c:H r=Ga (.lst ys))(g:r≠v.L)(f:v.H0 r=Gg):Wv P w C D v (upd H r (.lst zs)) ls N:=by
 obtain⟨dx,d⟩:=S.ob;obtain⟨vs,l1,l2⟩:=S.li;obtain⟨kvs,n1,n2,n3⟩:=S.nu;refine⟨⟨dx,Qi d (Yb d c nofun)⟩,λb o e=>Qi (S.Oy _ _ e) (Qc e f),S.L0,S.M0,S.net,S.th,⟨vs,Qi l1 (Gp g),L2.Paired.Z7 l2 λ_ _ h=>h.kp (λe=>Qi e (Yb e c nofun)) (λe i=>Qi e (λz=>i (z▸j)))⟩,⟨kvs,Qi n1 (Yb n1 c nofun),n2,n3⟩,S.ok,S.good,S.exL,λb hb=>?_⟩;by_cases a:b=r
 ·exact⟨_,by rw[a];exact Qb⟩
 ·obtain⟨o,e⟩:=S.exA b hb;exact⟨o,Qi e a⟩
theorem Wv.same{v:Sv}(S:Wv P w C D v H ls N)(F:J9 v.L v.M H H'):Qz v.H0 H':=λb o e=>F.keep b o (S.Oy b o e) (Qc e S.L0) (Qc e S.M0)
def putN(N:Nat->Nat->Option Nat)(a b m:Nat):Nat->Nat->Option Nat:=λi j=>if i=a/\j=b then Ga m else N i j
structure Qnp(K:Gd)(D:Gc):Prop where
 cl:Cls K D
 things:Yn K D "things"
 net:Yn K D "net"
 lines:Yn K D "lines"
 U9:Yn K D "numbers"
theorem Qfh(v:Sv):(Qba v).lookup ("things":Ta)=Ga (.ref v.t):=by rfl
theorem Qqn(v:Sv):(Qba v).lookup ("net":Ta)=Ga (.ref v.n):=by rfl
theorem Qc0(v:Sv):(Qba v).lookup ("lines":Ta)=Ga (.ref v.L):=by rfl
theorem Wx(v:Sv):(Qba v).lookup ("numbers":Ta)=Ga (.ref v.M):=by rfl
theorem Qi3(v:Sv):(Qba v).lookup ("write":Ta)=Gg:=by rfl
theorem Qgk(v:Sv):(Qba v).lookup ("write_link":Ta)=Gg:=by rfl
theorem Rt(v:Sv):(Qba v).lookup ("line_for":Ta)=Gg:=by rfl
def Qgc(P:Gk)(w:Gv)(C D:Gc):Sp:=λvs H Q _=>∃(v:Sv)(ls:List Ln)(N:Nat->Nat->Option Nat)(a b:Nat)(rv:V)(r:Lr),vs=[.ref v.sh,jv a,jv b,rv]/\Wv P w C D v H ls N/\a<v.us.length/\b<v.us.length/\Qaa H v.Ex rv r/\Okl v.fs v.x.links ls a b r/\ls.length<=1000000/\
 ∀H',Wv P w C D v H' (ls++[(a,b,r)]) (putN N a b ls.length)->J9 v.L v.M H H'->Q .non H'
section
variable{P:Gk}{w:Gv}{K:Gd}{mg:Ta->Option Value}{base:Heap}
theorem Qt8:Qv ["self","one","other","reason"] ["self","one","other","reason"] (Qk Qgw):=by eq_refl
theorem Qs2(F:Wu K "write" "Showing.write" Qgw f fd)(T:Qnp K D)(B:Jl mg):Qr P w K mg base Z3 1 f fd ["self","one","other","reason"] (Qgc P w C D):=by
 refine F.ok Qt8 (λvs H Q E h=>?_) (λcdv A outer s H vs Q E hr h=>?_)
 ·obtain⟨v,ls,N,a,b,rv,r,rfl,_⟩:=h;rfl
 obtain⟨v,ls,N,a,b,rv,r,rfl,S,al,bl,U,Zw,X,q⟩:=h;have hu:=Ul hr;refine⟨_,Qd (Wm hu (Qm (pv 0) rfl) (Za (Qa (pv 1) (Qa (pv 2) Qe))) (Qo Zb rfl B.len GO (Qa (Qm (pv 0) rfl) Qe)) rfl)
  (Qh (Ze (Xq Gs GF GV Z0 (Qm (pv 0) rfl) (Qa (Za (Qa (Qn Zi (Qm (pv 0) rfl) (pv 1)) (Qa (Qn Zi (Qm (pv 0) rfl) (pv 2)) (Qa (pv 3) Qe)))) Qe)))),?_⟩
 obtain⟨dx,n⟩:=S.ob;obtain⟨vs,l1,l2⟩:=S.li;obtain⟨kvs,n1,n2,n3⟩:=S.nu;have R:=Gr l2;refine⟨_,Xb,v.sh,D,dx,_,_,Xb,n,T.cl,T.lines,Qc0 _,v.L,vs,Xb,.inl (Zc.of l1),_,Xb,v.sh,D,dx,_,_,Xb,n,T.cl,T.U9,Wx _,_,Xb,_,Xb,by show 2<=Gi;decide,λc hc=>?_⟩;have s1:=Qg hc (.tup [jv a,jv b]);have dp:=Iv.t (k:=[ki a,ki b]) (v:=.int (vs.length:Int)) (s1 _ _ n1) (show(upd H c (.tup [jv a,jv b])) c=Ga (.tup ([ki a,ki b].map kV))from Qb) (by rw[GQ];omega);refine⟨v.M,_,Xb,dp,?_⟩;have W:v.L≠v.M:=Yb l1 n1 nofun;have Y:v.sh≠v.M:=Yb n n1 nofun;have oL:v.sh≠v.L:=Yb n l1 nofun;generalize l:upd (upd H c (.tup [jv a,jv b])) v.M (.dT (Ww kvs [ki a,ki b] (.int (vs.length:Int))))=H2;have G:∀{d o},H d=Ga o->d≠v.M->H2 d=Ga o:=λe h=>by rw[<-l];exact Qi (s1 _ _ e) h
 have t2:∀{d},H2 d=Gg->H d=Gg:=λ{d}h=>by rw[<-l]at h;exact s1.free (Zz h)
 have M2:H2 v.M=Ga (.dT (Ww kvs [ki a,ki b] (.int (vs.length:Int)))):=by rw[<-l];exact Qb
 have V:=G n Y;have g:=G l1 W;have Z:H v.t=Ga (.lst v.us):=S.Oy _ _ S.th;have y:=G Z (Yb Z n1 nofun);have ua:v.us[a]?=Ga v.us[a]:=List.getElem?_eq_getElem al;have ub:v.us[b]?=Ga v.us[b]:=List.getElem?_eq_getElem bl;refine⟨_,Xb,v.sh,D,dx,_,_,Xb,V,T.cl,T.lines,Qc0 _,.inl ⟨Xb,_,Zc.of g⟩,_,Xb,v.sh,D,dx,_,_,Xb,V,T.cl,T.things,Qfh _,_,Xb,v.t,v.us,_,_,Xb,Xb,Zc.of y,Qy ua,_,Xb,v.sh,D,dx,_,_,Xb,V,T.cl,T.things,Qfh _,_,Xb,v.t,v.us,_,_,Xb,Xb,Zc.of y,Qy ub,_,Xb,by show 3<=Gi;decide,λp m=>?_⟩;have I:=Qg m (.tup [v.us[a],v.us[b],rv]);have J:p≠v.L:=Gp (Qc g m);have aa:p≠v.M:=Gp (Qc M2 m);refine⟨v.L,vs,_,Xb,Xb,I _ _ g,by rw[GQ];omega,?_⟩;have F:J9 v.L v.M H (upd (upd H2 p (.tup [v.us[a],v.us[b],rv])) v.L (.lst (vs++[.ref p]))):=⟨λd o e h1 h2=>Qi (I _ _ (G e h2)) h1,λd h=>t2 (I.free (Zz h))⟩;refine q _ ⟨⟨dx,F.keep _ _ n oL Y⟩,S.same F,S.L0,S.M0,S.net,S.th,⟨_,Qb,DE (L2.Paired.Z7 l2 λ_ _ h=>h.kp (F.tp n1 l1) (F.lp n1 S.exL)) ⟨p,v.us[a],v.us[b],rv,Xb,Qi Qb J,ua,ub,U.kp (F.tp n1 l1) (F.lp n1 S.exL)⟩⟩,⟨_,Qi (I _ _ M2) (Gp W),?_,λi j=>?_⟩,λi j k u=>?_,S.good.snoc Zw,S.exL,λd O=>?_⟩ F
 ·have:=Wd kvs [ki a,ki b] (.int (vs.length:Int));rw[List.length_append,List.length_singleton];omega
 ·rw[Qc1,n3];unfold putN;by_cases h:i=a/\j=b
  ·obtain⟨rfl,rfl⟩:=h;rw[Gm Xb,Gm ⟨Xb,Xb⟩,R];rfl
  ·rw[Gh h,Gh];intro z;simp only[List.cons.injEq,FJ]at z;exact h ⟨U8 z.1,U8 z.2⟩
 ·unfold putN at u;by_cases h:i=a/\j=b
  ·rw[Gm h]at u;cases u;obtain⟨rfl,rfl⟩:=h;exact⟨r,by simp⟩
  ·rw[Gh h]at u;obtain⟨r',x⟩:=S.ok i j k u;exact⟨r',by rw[List.getElem?_append_left (List.getElem?_eq_some_iff.mp x).1];exact x⟩
 ·obtain⟨o,e⟩:=S.exA d O;exact Sk.mp λz=>by rw[F.there d z]at e;cases e
end
def Dr(N:Nat->Nat->Option Nat)(a b:Nat):Prop:=(N a b).isSome=Gf\/(N b a).isSome=Gf
def Qgl(N a:Nat->Nat->Option Nat):Prop:=∀i j,(N i j).isSome=Gf->(a i j).isSome=Gf
def Cov(v:Sv)(N:Nat->Nat->Option Nat)(m:Nat):Prop:=∀i j,(N i j).isSome=Gf->Cn (v.x.links.take m) i j
theorem Dr.sub{c:Nat->Nat->Option Nat}(h:Dr N a b)(s:Qgl N c):Dr c a b:=h.elim (λh=>.inl (s _ _ h)) λh=>.inr (s _ _ h)
theorem Qmn:Qgl N (putN N a b m):=λi j h=>by
 unfold putN;split
 ·rfl
 ·exact h
theorem Qln{v:Sv}(h:Cov v N m)(c:Cn (v.x.links.take m) a b):Cov v (putN N a b k) m:=λi j z=>by
 unfold putN at z;split at z
 ·rename_i e
  rw[e.1,e.2];exact c
 ·exact h i j z
theorem Qlf:putN N a b m a b=Ga m:=Gm ⟨Xb,Xb⟩
structure Go(v:Sv)(N:Nat->Nat->Option Nat)(a b:Nat):Prop where
 inv:Xz (Yc v.fs) (Zk v.fs) v.x []
 aS:a∈v.x.S
 bS:b∈v.x.S
 eq:v.x.lead a=v.x.lead b
 hS:v.x.S.length<=1000
 st:∀st,Qap v.x.up a b st->∀p q,(p,q)∈st->Dr N p q
def Qcb(P:Gk)(w:Gv)(C D:Gc)(g:Bool):Sp:=λvs H Q _=>∃(v:Sv)(ls:List Ln)(N:Nat->Nat->Option Nat)(a b:Nat),vs=[.ref v.sh,jv a,jv b]/\Wv P w C D v H ls N/\a<v.us.length/\b<v.us.length/\(∀p∈v.x.S,p<v.us.length)/\(Dr N a b\/(g=Gf/\Go v N a b))/\ls.length+(if g=Gf then 3000 else 0)<=900000/\
 ∀(k:Nat)(more:List Ln)(c:Nat->Nat->Option Nat)(H':Hp),Wv P w C D v H' (ls++more) c->J9 v.L v.M H H'->c a b=Ga k->Qgl N c->more.length<=2*v.x.S.length+1->(∀m,Cov v N m->Cn (v.x.links.take m) a b->Cov v c m)->(N a b=Gg->∃r,(ls++more).getLast?=Ga (a,b,r))->(g=Gq->more.length<=1)->(N a b≠Gg->more=[])->Q (jv k) H'
def Qr0(P:Gk)(w:Gv)(C D:Gc):Bool->Sp
 |true=>Qcb P w C D Gq
 |false=>λ_ _ _ _=>False
theorem Qp4{ls:List Ln}:∀{st:List (Nat×Nat)}{a:List Nat}{p q:Nat},O4 p st q->a.length=st.length->(∀j k u v:Nat,a[j]?=Ga k->st[j]?=Ga (u,v)->∃r,ls[k]?=Ga (u,v,r))->Chn ls p a q
 |[],[],p,q,h,_,_=>by cases h;rfl
 |[],_::_,_,_,_,h,_=>by simp at h
 |_::_,[],_,_,_,h,_=>by simp at h
 |_::st,k::a,p,q,.cons t,h,f=>by obtain⟨r,b⟩:=f 0 k _ _ rfl rfl;exact⟨_,r,b,Qp4 t (by simpa using h) λj c u v h1 h2=>f (j+1) c u v h1 h2⟩
theorem Qqx{more:List Ln}{l:Ln}(h:ls[k]?=Ga l):(ls++more)[k]?=Ga l:=by rw[List.getElem?_append_left (List.getElem?_eq_some_iff.mp h).1];exact h
section
variable{P:Gk}{w:Gv}{K:Gd}{mg:Ta->Option Value}{base:Heap}
theorem Qfi:Qv ["self","one","other","reason"] ["self","one","other"] (Qk Jy):=by eq_refl
theorem Qz3:(["start","end","self"]:List Ta).Nodup:=by decide+kernel
set_option hygiene false
local macro_rules
 |`(tactic|infer_instance)=>`(tactic|(
 obtain⟨dx1,o1'⟩:=S1.ob
 refine⟨_,Xb,v.sh,dx1,_,Xb,o1',Qi3 _,_,Xb,_,Xb,_,Xb,v,ls++more1,N1,a,b,rv,r,Xb,S1,al,bl,hrv,Zw,by rw[List.length_append];omega,λH2 S2 F2=>?_⟩
 obtain⟨dx2,o2⟩:=S2.ob
 obtain⟨kv2,m2,_,vv2⟩:=S2.nu
 refine⟨_,Xb,v.sh,D,dx2,_,_,Xb,o2,T.cl,T.U9,Wx _,_,Xb,_,Xb,by show 2<=Gi;decide,λc3 hc3=>?_⟩
 have s3:=Qg hc3 (.tup [jv a,jv b])
 have dg3:=Wr.t (k:=[ki a,ki b]) (s3 _ _ m2) (show(upd H2 c3 (.tup [jv a,jv b])) c3=Ga (.tup ([ki a,ki b].map kV))from Qb)
 rw[vv2,Qlf]at dg3
 refine⟨v.M,_,Xb,dg3,?_⟩
 have S3:=S2.fr s3
 rw[List.append_assoc]at S3
 exact q _ (more1++[(a,b,r)]) _ _ S3 ((F1.trans F2).trans (J9.of s3)) Qlf (λi j h=>Qmn _ _ (sub1 i j h)) (by rw[List.length_append,List.length_singleton];omega) (λm hc hm=>Qln (cov1 m hc hm) hm) (λ_=>⟨r,by rw[<-List.append_assoc,List.getLast?_concat]⟩) (λhg=>by rw[List.length_append,List.length_singleton];have:=mof hg;omega) (λz=>absurd hN z)))
set_option hygiene true
theorem Qml{g:Bool}(hk:2<=k)(F:Wu K "line_for" "Showing.line_for" Jy f fd)(T:Qnp K D)(TN:V5 K mg C)(mL:Z8 K D "line_for" f)(bL:Binds K fd ["self","one","other"] [])(G:Qr P w K mg base Z3 k f fd ["self","one","other"] (Qr0 P w C D g))
  (mW:Z8 K C "way" fW)(GW:Qr P w K mg base Z3 2 fW fdW ["self","one","other"] (Qsc P w C))(bW:Binds K fdW ["self","one","other"] [])(mR:Z8 K D "write" fR)(GR:Qr P w K mg base Z3 1 fR fdR ["self","one","other","reason"] (Qgc P w C D))(bR:Binds K fdR ["self","one","other","reason"] []):
  Qr P w K mg base Z3 (k+1) f fd ["self","one","other"] (Qcb P w C D g):=by
 refine F.ok Qfi (λvs H Q E h=>?_) (λcdv A outer s H vs Q E hr h=>?_)
 ·obtain⟨v,ls,N,a,b,rfl,_⟩:=h;rfl
 obtain⟨v,ls,N,a,b,rfl,S,al,bl,Sl,pre,ao,q⟩:=h;have hu:=Ul hr;have aF:Z9 1 _:=hr.mono (by omega);have aG:Z9 2 _:=hr.mono (by omega);have nd:=Qfi.nd;have aD:ls.length<=900000:=by omega
 refine⟨_,Qd (Zn (Rj (Qo5 hu (Za (Qa (pv 1) (Qa (pv 2) Qe))) (Qm (pv 0) rfl)))
   (Qd (Zn (Rj (Qj6 hu (Za (Qa (pv 2) (Qa (pv 1) Qe))) (Qm (pv 0) rfl)))
    (Qh (Qs 3 nd (Za (Qa Zf (Qa (Zr hu (Qm (pv 0) rfl) (Za (Qa (pv 2) (Qa (pv 1) Qe))) (λ_ _=>rfl)) Qe)))))
    (Qh (Qs 3 nd (Za (Qa Zf (Qa
     (Vm (te:=Qhq D "line_for" (Qr0 P w C D g) [] E0 (V2 2) (Qfd (V2 0) (Qfd (V2 1) Qnl))) (g:=Qw2 K 2 (Qib (Vl 0) (Qib (Vl 1) Qx5))) (own:=["start","end"]) (fv:=[(0,"self")]) rfl (S:=(by eq_refl:X8 (Qk Jy) _)) (.cons rfl (Dj Xb) rfl .nil)
      (Y2 (Q9 (Qm (pv 0) rfl) TN.cl mW GW aG bW .nil Q4 (Qa (pv 1) (Qa (pv 2) Qe))))
      (λ_ _ _ _ _=>Vi rfl (Zl (Xc (i:=0) Qz3 rfl (Dj Xb) (Er Xb)) (Zl (Xc (i:=1) Qz3 rfl (Dj Xb) (Er Xb)) X5))) (λ_ _ _ _ _=>Wh)
      (λ_ _ _ _ _=>Q9 (pv 2) T.cl mL G hr bL .nil Q4 (Qa (pv 0) (Qa (pv 1) Qe)))) Qe))))))
   (Qh (Ze (Q9 (pv 0) T.cl mR GR aF bR .nil Q4 (Qa (pv 1) (Qa (pv 2) (Qa (pv 3) Qe))))))) Q6)
  (Qh (Qu (Zr hu (Qm (pv 0) rfl) (Za (Qa (pv 1) (Qa (pv 2) Qe))) (λ_ _=>rfl)))),?_⟩
 obtain⟨dx,o1⟩:=S.ob;obtain⟨kvs,n1,n2,n3⟩:=S.nu;refine⟨_,Xb,_,Xb,by show 2<=Gi;decide,λc hc=>?_⟩;have s1:=Qg hc (.tup [jv a,jv b]);have aj:=Wr.t (k:=[ki a,ki b]) (s1 _ _ n1) (show(upd H c (.tup [jv a,jv b])) c=Ga (.tup ([ki a,ki b].map kV))from Qb);rw[n3]at aj;refine⟨_,Xb,v.sh,D,dx,_,_,Xb,s1 _ _ o1,T.cl,T.U9,Wx _,v.M,_,Xb,aj,_,Xb,?_⟩;cases hN:N a b with
 |some l=>refine Zp ?_;have S1:=S.fr s1;obtain⟨dx2,o2⟩:=S1.ob;obtain⟨kv2,m2,_,vv2⟩:=S1.nu;refine⟨_,Xb,v.sh,D,dx2,_,_,Xb,o2,T.cl,T.U9,Wx _,_,Xb,_,Xb,by show 2<=Gi;decide,λc3 hc3=>?_⟩;have s3:=Qg hc3 (.tup [jv a,jv b]);have dg3:=Wr.t (k:=[ki a,ki b]) (s3 _ _ m2) (show(upd (upd H c (.tup [jv a,jv b])) c3 (.tup [jv a,jv b])) c3=Ga (.tup ([ki a,ki b].map kV))from Qb);rw[vv2,hN]at dg3;refine⟨v.M,_,Xb,dg3,?_⟩;have S3:=S1.fr s3;exact q l [] N _ (by rw[List.append_nil];exact S3) (J9.of (s1.trans s3)) hN (λ_ _ h=>h) (Gx _) (λ_ h _=>h) (λz=>by rw[hN]at z;cases z) (λ_=>Gx _) (λ_=>rfl)
 |none=>
  refine Yr ?_;refine⟨_,Xb,_,Xb,by show 2<=Gi;decide,λc2 ay=>?_⟩;have s2:=s1.trans (Qg ay (.tup [jv b,jv a]));have ak:=Wr.t (k:=[ki b,ki a]) (s2 _ _ n1) (show(upd (upd H c (.tup [jv a,jv b])) c2 (.tup [jv b,jv a])) c2=Ga (.tup ([ki b,ki a].map kV))from Qb);rw[n3]at ak;refine⟨_,Xb,v.sh,D,dx,_,_,Xb,s2 _ _ o1,T.cl,T.U9,Wx _,v.M,_,Xb,ak,_,Xb,?_⟩;generalize upd (upd H c (.tup [jv a,jv b])) c2 (.tup [jv b,jv a])=Hb at s2;have Sb:=S.fr s2;cases hT:N b a with
  |some l=>
   refine Yr ?_;obtain⟨r0,aE⟩:=S.ok b a l hT;obtain⟨dx2,o2⟩:=Sb.ob;obtain⟨kv2,m2,_,vv2⟩:=Sb.nu;refine⟨_,Xb,v.sh,D,dx2,_,_,Xb,o2,T.cl,T.U9,Wx _,_,Xb,_,Xb,by show 2<=Gi;decide,λc3 hc3=>?_⟩;have s3:=Qg hc3 (.tup [jv b,jv a]);have dg3:=Wr.t (k:=[ki b,ki a]) (s3 _ _ m2) (show(upd Hb c3 (.tup [jv b,jv a])) c3=Ga (.tup ([ki b,ki a].map kV))from Qb);rw[vv2,hT]at dg3;refine⟨v.M,_,Xb,dg3,by show 2<=Gi;decide,λO ad=>?_⟩;have s4:=Qg ad (.tup [.str "turn",jv l]);have S1:Wv P w C D v (upd (upd Hb c3 (.tup [jv b,jv a])) O (.tup [.str "turn",jv l])) (ls++[]) N:=by rw[List.append_nil];exact(Sb.fr s3).fr s4
   have F1:J9 v.L v.M H (upd (upd Hb c3 (.tup [jv b,jv a])) O (.tup [.str "turn",jv l])):=J9.of ((s2.trans s3).trans s4);generalize J:V.ref O=rv;have hrv:Qaa (upd (upd Hb c3 (.tup [jv b,jv a])) O (.tup [.str "turn",jv l])) v.Ex rv (.turn l):=⟨O,J.symm,Qb⟩;have Zw:Okl v.fs v.x.links (ls++[]) a b (.turn l):=⟨r0,by rw[List.append_nil];exact aE⟩;obtain⟨more1,B⟩:∃m:List Ln,m=[]:=⟨_,Xb⟩;rw[<-B]at S1 Zw;obtain⟨r,hr'⟩:∃r:Lr,r=.turn l:=⟨_,Xb⟩;rw[<-hr']at hrv Zw;obtain⟨N1,ac⟩:∃N1:Nat->Nat->Option Nat,N1=N:=⟨_,Xb⟩;have sub1:Qgl N N1:=by rw[ac];exactλ_ _ h=>h
   have cov1:∀m,Cov v N m->Cn (v.x.links.take m) a b->Cov v N1 m:=by rw[ac];exactλ_ h _=>h
   rw[<-ac]at S1;have ml:more1.length=0:=by rw[B];rfl
   have mof:g=Gq->more1.length=0:=λ_=>ml;infer_instance
  |none=>
   refine Zp ?_;cases g with
   |false=>
    exfalso;rcases pre with(h|h)|⟨h,_⟩
    ·rw[hN]at h;cases h
    ·rw[hT]at h;cases h
    ·cases h
   |true=>
   have go:Go v N a b:=by
    rcases pre with(h|h)|⟨_,h⟩
    ·rw[hN]at h;cases h
    ·rw[hT]at h;cases h
    ·exact h
   have X2:=S.net.same Sb.Oy;obtain⟨ax,on⟩:=X2.ob;obtain⟨dx2,o2⟩:=Sb.ob;refine⟨_,Xb,v.sh,D,dx2,_,_,Xb,o2,T.cl,T.net,Qqn _,v.n,ax,_,Xb,on,Qle _,_,Xb,_,Xb,v.n,v.A,v.fs,v.tb,v.x,a,b,Xb,X2,go.inv,go.aS,go.bS,go.eq,go.hS,λL5 es st H5 g5 X am an W=>⟨L5,Xb,⟨_,Zc.of am⟩,λU d=>?_⟩⟩;have aP:=W.len;have aO:=Gr an;have hS:=go.hS;have S5:=Sb.fr g5;have au:L5≠v.L:=λz=>by obtain⟨vs,l1,_⟩:=Sb.li;rw[z,l1]at X;cases X
   have av:L5≠v.M:=λz=>by obtain⟨vs,l1,_⟩:=Sb.nu;rw[z,l1]at X;cases X
   have aq:U≠v.L:=λz=>by obtain⟨vs,l1,_⟩:=S5.li;rw[z,l1]at d;cases d
   have aN:U≠v.M:=λz=>by obtain⟨vs,l1,_⟩:=S5.nu;rw[z,l1]at d;cases d
   have aM:v.H0 U=Gg:=S5.Oy.free d;have s5:=Qg d (.lst []);obtain⟨aU,aH,_⟩:=S5.li;obtain⟨aR,aI,_⟩:=S5.nu;refine O6 (K:=K) (a:=L5) (xs:=es) (small (by omega)) (λi ys σ H6=>∃(x0 x1:Option V)(more:List Ln)(N1:Nat->Nat->Option Nat)(R:List Nat),σ=[x0,x1,Ga (.ref v.sh)]/\ys=R.map jv/\R.length=i/\Wv P w C D {v with Ex:=λb=>v.Ex b\/b=U} H6 (ls++more) N1/\J9 v.L v.M H5 H6/\Qgl N N1/\more.length<=i/\(∀m,Cov v N m->Cn (v.x.links.take m) a b->Cov v N1 m)/\
     (∀j k u u':Nat,R[j]?=Ga k->st[j]?=Ga (u,u')->∃r,(ls++more)[k]?=Ga (u,u',r)))
    ⟨_,_,[],N,[],Xb,Xb,Xb,by rw[List.append_nil];exact S5.more d,J9.of s5,λ_ _ h=>h,Gx _,λ_ h _=>h,by simp⟩ (λi ys σ H6 _⟨_,_,_,_,_,_,_,_,_,F6,_⟩=>Zc.of (F6.keep _ _ am au av)) ?_ ?_
   ·rintro i y ys σ H6 hi aJ ⟨x0,x1,more,N1,R,rfl,rfl,ae,S6,F6,aa,aL,ah,ab⟩ af;obtain⟨⟨p,Z⟩,hp,c5,rfl,az⟩:=Qx an hi;have Y:(p,Z)∈st:=List.mem_of_getElem? hp;have c6:=F6.tp aI aH az;have il:i<es.length:=(List.getElem?_eq_some_iff.mp hi).1;obtain⟨kk,aA,aB⟩:=W.lk p Z Y;obtain⟨rr,ap⟩:=go.inv.fst.Qf0 p Z kk aA;have pS:p∈v.x.S/\Z∈v.x.S:=by
     rcases ap with h|h
     ·exact⟨(go.inv.lnk _ _ _ _ h).1,(go.inv.lnk _ _ _ _ h).2.1⟩
     ·exact⟨(go.inv.lnk _ _ _ _ h).2.1,(go.inv.lnk _ _ _ _ h).1⟩
    have cn:∀m,Cn (v.x.links.take m) a b->Cn (v.x.links.take m) p Z:=λm hm=>by
     have km:=aB m hm;rcases ap with h|h
     ·exact .link (List.mem_of_getElem? (i:=kk) (by rw[List.getElem?_take_of_lt km];exact h))
     ·exact .symm (.link (List.mem_of_getElem? (i:=kk) (by rw[List.getElem?_take_of_lt km];exact h)))
    obtain⟨aw,o6⟩:=S6.ob;refine⟨c5,_,Xb,Z2.of c6,Xb,_,_,Xb,_,_,Xb,Xb,?_⟩;refine⟨_,Xb,v.sh,aw,_,Xb,o6,Rt v,_,Xb,_,Xb,{v with Ex:=λb=>v.Ex b\/b=U},ls++more,N1,p,Z,Xb,S6,Sl p pS.1,Sl Z pS.2,Sl,.inl ((go.st st W.rel p Z Y).sub aa),by rw[Gh (by decide)];rw[Gm rfl]at ao;rw[List.length_append];omega,λk' ag N2 H7 S7 F7 aC ar aT ai _ aK _=>?_⟩;have r7:=F7.keep _ _ af aq aN;have aQ:=aK rfl;refine⟨r7,_,_,more++ag,N2,R++[k'],Xb,by rw[List.map_append];rfl,by rw[List.length_append,List.length_singleton,ae],by rw[<-List.append_assoc];exact S7.grow (.inr Xb) r7 aq aM,⟨λb' o e h1 h2=>Qi (F7.keep _ _ (F6.keep _ _ e h1 h2) h1 h2) (Qc e d),λb' h=>F6.there _ (F7.there _ (Zz h))⟩,λi j h=>ar _ _ (aa _ _ h),by rw[List.length_append];omega,λm hc hm=>ai m (ah m hc hm) (cn m hm),λj l u u' h1 h2=>?_⟩
    ·rcases Tk j R.length with hj|hj
     ·rw[List.getElem?_append_left hj]at h1;obtain⟨r,hr'⟩:=ab j l u u' h1 h2;rw[<-List.append_assoc];exact⟨r,Qqx hr'⟩
     ·rw[List.getElem?_append_right hj]at h1;have:j=R.length:=by
       rcases Tk (j - R.length) 1 with h'|h'
       ·omega
       ·rw[List.getElem?_eq_none (by simpa using h')]at h1;cases h1
      subst this;simp at h1;subst h1;rw[ae,hp]at h2;cases h2;rw[<-List.append_assoc];exact S7.ok _ _ _ aC
   ·rintro ys σ H6 aJ ⟨x0,x1,more1,N1,R,rfl,rfl,ae,S6,F6,sub1,aL,cov1,ab⟩ af;refine⟨by show 2<=Gi;decide,λO ad=>?_⟩;have s4:=Qg ad (.tup [.str "chain",.ref U]);have S1:=(S6.less S.exL).fr s4;have F1:J9 v.L v.M H (upd H6 O (.tup [.str "chain",.ref U])):=(J9.of (s2.trans g5)).trans (F6.trans (J9.of s4));generalize J:V.ref O=rv;obtain⟨r,hr'⟩:∃r:Lr,r=.chain R:=⟨_,Xb⟩;have hrv:Qaa (upd H6 O (.tup [.str "chain",.ref U])) v.Ex rv r:=by rw[hr'];exact⟨O,U,J.symm,Qb,s4 _ _ af,λz=>by obtain⟨o,e⟩:=S5.exA U z;rw[d]at e;cases e⟩
    have Zw:Okl v.fs v.x.links (ls++more1) a b r:=by rw[hr'];exact Qp4 W.path (by omega) ab
    have ml:more1.length<=2*v.x.S.length:=by omega
    have mof:Gf=Gq->more1.length=0:=λz=>by cases z
    infer_instance
theorem Qzn:Qr P w K mg base Z3 2 f fd ["self","one","other"] (Qr0 P w C D Gq):=
 ⟨λvs H Q E h=>False.elim h,λA outer s H args us vs Q E _ _ _ _ h=>False.elim h⟩
end
def Qmv(P:Gk)(w:Gv)(C D:Gc):Sp:=λvs H Q _=>∃(v:Sv)(ls:List Ln)(N:Nat->Nat->Option Nat)(lv:V)(a b:Nat)(c:Option U3),vs=[.ref v.sh,lv]/\Wv P w C D v H ls N/\Rw H lv (a,b,c)/\(a,b,c)∈v.x.links/\a<v.fs.length/\b<v.fs.length/\v.fs.length=v.us.length/\(∀p∈v.x.S,p<v.us.length)/\v.x.S.length<=60/\(Zk v.fs a).length<=100/\
 (c=Gg->Yc v.fs a=Yc v.fs b/\(Zk v.fs a).length=(Zk v.fs b).length)/\(∀p q,(p,q)∈Xw v.fs (a,b,c)->Go v N p q)/\ls.length<=880000/\
 ∀(more:List Ln)(d:Nat->Nat->Option Nat)(r:Lr)(H':Hp),Wv P w C D v H' (ls++more++[(a,b,r)]) (putN d a b (ls++more).length)->J9 v.L v.M H H'->Qgl N d->more.length<=12100->(∀m,Cov v N m->(∀p q,(p,q)∈Xw v.fs (a,b,c)->Cn (v.x.links.take m) p q)->Cov v d m)->Q .non H'
theorem Go.sub{v:Sv}{N d:Nat->Nat->Option Nat}{a b:Nat}(g:Go v N a b)(s:Qgl N d):Go v d a b:=⟨g.inv,g.aS,g.bS,g.eq,g.hS,λst c p q h=>(g.st st c p q h).sub s⟩
section
variable{P:Gk}{w:Gv}{K:Gd}{mg:Ta->Option Value}{base:Heap}
theorem Ql0:Qv ["self","link","reason"] ["self","link"] (Qk Vt):=by eq_refl
theorem Qzt:(["part","twin","self"]:List Ta).Nodup:=by decide+kernel
set_option hygiene false
local macro_rules
 |`(tactic|infer_instance)=>`(tactic|(
 obtain⟨dx1,o1'⟩:=S1.ob
 refine⟨_,Xb,v.sh,dx1,_,Xb,o1',Qi3 _,_,Xb,c,_,_,_,Xb,Xb,Z2.of hc1,Ri _ _,_,Xb,c,_,_,_,Xb,Xb,Z2.of hc1,Iw _ _ _,_,Xb,v,ls++more1,N1,a,b,rv,r,Xb,S1,al,bl,hrv,Zw,by rw[List.length_append];omega,λH2 S2 F2=>?_⟩
 exact q more1 N1 r H2 S2 (F1.trans F2) sub1 ml cov1))
set_option hygiene true
theorem Qqp(F:Wu K "write_link" "Showing.write_link" Vt f fd)(T:Qnp K D)(mL:Z8 K D "line_for" fL)(bL:Binds K fdL ["self","one","other"] [])(GL:Qr P w K mg base Z3 4 fL fdL ["self","one","other"] (Qcb P w C D Gf))
  (GB:Qr P w K mg base Z3 1 fB fdB ["net","link"] (Qf6 P w C))(kB:KI K fB)(bB:Binds K fdB ["net","link"] [])(mB:MG mg "pairs_below" fB)(mR:Z8 K D "write" fR)(GR:Qr P w K mg base Z3 1 fR fdR ["self","one","other","reason"] (Qgc P w C D))(bR:Binds K fdR ["self","one","other","reason"] []):
  Qr P w K mg base Z3 5 f fd ["self","link"] (Qmv P w C D):=by
 refine F.ok Ql0 (λvs H Q E h=>?_) (λcdv A outer s H vs Q E hr h=>?_)
 ·obtain⟨v,ls,N,lv,a,b,rs,rfl,_⟩:=h;rfl
 obtain⟨v,ls,N,lv,a,b,rs,rfl,S,⟨c,rv,rfl,hc,R⟩,aj,av,aw,aN,Sl,hS,few,ad,aB,aL,q⟩:=h;have al:a<v.us.length:=by omega
 have bl:b<v.us.length:=by omega
 have ak:Z9 1 _:=hr.mono (by omega);have nd:=Ql0.nd;refine⟨_,Qd (Qs 2 nd (Qn Q5 (pv 1) Qj))
  (Qd (Zn (Qp Qwz (pv 2) Uh (Q3 _))
   (Qh (Qs 2 nd (Za (Qa Zf (Qa
     (Vm (te:=Qhq D "line_for" (Qcb P w C D Gf) [] E0 (V2 2) (Qfd (V2 0) (Qfd (V2 1) Qnl))) (g:=Qw2 K 2 (Qib (Vl 0) (Qib (Vl 1) Qx5))) (own:=["part","twin"]) (fv:=[(0,"self")]) rfl (S:=(by eq_refl:X8 (Qk Vt) _)) (.cons rfl (Dj Xb) rfl .nil)
      (Y2 (Zy GB ak rfl mB kB bB .nil Q4 (Qa (Qm (pv 0) rfl) (Qa (pv 1) Qe))))
      (λ_ _ _ _ _=>Vi rfl (Zl (Xc (i:=0) Qzt rfl (Dj Xb) (Er Xb)) (Zl (Xc (i:=1) Qzt rfl (Dj Xb) (Er Xb)) X5))) (λ_ _ _ _ _=>Wh)
      (λ_ _ _ _ _=>Q9 (pv 2) T.cl mL GL hr bL .nil Q4 (Qa (pv 0) (Qa (pv 1) Qe)))) Qe))))) Q6)
  (Qh (Ze (Q9 (pv 0) T.cl mR GR ak bR .nil Q4 (Qa (Qn Q5 (pv 1) Qj) (Qa (Qn Q5 (pv 1) Qj) (Qa (pv 2) Qe))))))),?_⟩
 refine⟨_,Xb,c,_,_,_,Xb,Xb,Z2.of hc,Qhs _ _ _ _,?_⟩;refine⟨_,Xb,Xb,_,Xb,?_⟩;rw[Qps R];cases rs with
 |some rs=>
  refine Zp ?_;have S1:Wv P w C D v H (ls++[]) N:=by rw[List.append_nil];exact S
  have F1:J9 v.L v.M H H:=J9.refl;have hc1:=hc;obtain⟨r,hrv,Zw⟩:∃r:Lr,Qaa H v.Ex rv r/\Okl v.fs v.x.links (ls++[]) a b r:=by
   cases rs with
   |told n=>exact⟨.told n,R,aj⟩
   |asked=>exact⟨.asked,R,aj⟩
  obtain⟨more1,l⟩:∃m:List Ln,m=[]:=⟨_,Xb⟩;rw[<-l]at S1 Zw;obtain⟨N1,ab⟩:∃N1:Nat->Nat->Option Nat,N1=N:=⟨_,Xb⟩;have sub1:Qgl N N1:=by rw[ab];exactλ_ _ h=>h
  have cov1:∀m,Cov v N m->(∀p q,(p,q)∈Xw v.fs (a,b,Ga rs)->Cn (v.x.links.take m) p q)->Cov v N1 m:=by rw[ab];exactλ_ h _=>h
  rw[<-ab]at S1;have ml:more1.length<=12100:=by rw[l];exact Gx _
  infer_instance
 |none=>
  refine Yr ?_;have X2:=S.net.same S.Oy;obtain⟨dx,o1⟩:=S.ob;refine⟨_,Xb,v.sh,D,dx,_,_,Xb,o1,T.cl,T.net,Qqn _,_,Xb,v.n,v.A,v.fs,v.tb,v.x,.ref c,(a,b,Gg),Xb,X2,⟨c,rv,Xb,hc,R⟩,av,aw,λL5 es H5 g5 O ah ai=>⟨L5,Xb,⟨_,Zc.of ah⟩,λJ d=>?_⟩⟩;obtain⟨aE,aD⟩:=ad rfl;have aK:=Gr ai;have aO:(Xw v.fs (a,b,Gg)).length=(Zk v.fs a).length:=by simp only[Xw,List.length_zip];omega
  have Z:=S.fr g5;have ar:L5≠v.L:=λz=>by obtain⟨vs,l1,_⟩:=S.li;rw[z,l1]at O;cases O
  have au:L5≠v.M:=λz=>by obtain⟨vs,l1,_⟩:=S.nu;rw[z,l1]at O;cases O
  have ap:J≠v.L:=λz=>by obtain⟨vs,l1,_⟩:=Z.li;rw[z,l1]at d;cases d
  have aJ:J≠v.M:=λz=>by obtain⟨vs,l1,_⟩:=Z.nu;rw[z,l1]at d;cases d
  have aI:v.H0 J=Gg:=Z.Oy.free d;have s5:=Qg d (.lst []);obtain⟨aQ,an,_⟩:=Z.li;obtain⟨aP,ao,_⟩:=Z.nu;refine O6 (K:=K) (a:=L5) (xs:=es) (small (by omega)) (λi ys σ Y=>∃(x0 x1:Option V)(more:List Ln)(N1:Nat->Nat->Option Nat)(G:List Nat),σ=[x0,x1,Ga (.ref v.sh)]/\ys=G.map jv/\G.length=i/\Wv P w C D {v with Ex:=λb=>v.Ex b\/b=J} Y (ls++more) N1/\J9 v.L v.M H5 Y/\Qgl N N1/\more.length<=i*121/\(∀m,Cov v N m->(∀p q,(p,q)∈Xw v.fs (a,b,Gg)->Cn (v.x.links.take m) p q)->Cov v N1 m)/\
    (∀j k u u':Nat,G[j]?=Ga k->(Xw v.fs (a,b,Gg))[j]?=Ga (u,u')->∃r,(ls++more)[k]?=Ga (u,u',r)))
   ⟨_,_,[],N,[],Xb,Xb,Xb,by rw[List.append_nil];exact Z.more d,J9.of s5,λ_ _ h=>h,Gx _,λ_ h _=>h,by simp⟩ (λi ys σ Y _⟨_,_,_,_,_,_,_,_,_,U,_⟩=>Zc.of (U.keep _ _ ah ar au)) ?_ ?_
  ·rintro i y ys σ Y hi aF ⟨x0,x1,more,N1,G,rfl,rfl,ac,S6,U,X,aG,af,aa⟩ ae;obtain⟨⟨p,p'⟩,hp,c5,rfl,az⟩:=Qx ai hi;have W:(p,p')∈Xw v.fs (a,b,Gg):=List.mem_of_getElem? hp;have c6:=U.tp ao an az;have il:i<es.length:=(List.getElem?_eq_some_iff.mp hi).1;have go:=(aB p p' W).sub X;obtain⟨ax,o6⟩:=S6.ob;refine⟨c5,_,Xb,Z2.of c6,Xb,_,_,Xb,_,_,Xb,Xb,?_⟩;refine⟨_,Xb,v.sh,ax,_,Xb,o6,Rt v,_,Xb,_,Xb,{v with Ex:=λb=>v.Ex b\/b=J},ls++more,N1,p,p',Xb,S6,Sl p go.aS,Sl p' go.bS,Sl,.inr ⟨Xb,⟨go.inv,go.aS,go.bS,go.eq,go.hS,go.st⟩⟩,by rw[Gm Xb,List.length_append];omega,λk' B N2 H7 S7 F7 aC aq aH ag _ _ _=>?_⟩;have r7:=F7.keep _ _ ae ap aJ;have aM:B.length<=2*v.x.S.length+1:=aH;refine⟨r7,_,_,more++B,N2,G++[k'],Xb,by rw[List.map_append];rfl,by rw[List.length_append,List.length_singleton,ac],by rw[<-List.append_assoc];exact S7.grow (.inr Xb) r7 ap aI,⟨λb' o e h1 h2=>Qi (F7.keep _ _ (U.keep _ _ e h1 h2) h1 h2) (Qc e d),λb' h=>U.there _ (F7.there _ (Zz h))⟩,λi j h=>aq _ _ (X _ _ h),by rw[List.length_append];omega,λm aA hm=>ag m (af m aA hm) (hm p p' W),λj k0 u u' h1 h2=>?_⟩;rcases Tk j G.length with hj|hj
   ·rw[List.getElem?_append_left hj]at h1;obtain⟨r,hr'⟩:=aa j k0 u u' h1 h2;rw[<-List.append_assoc];exact⟨r,Qqx hr'⟩
   ·rw[List.getElem?_append_right hj]at h1;have:j=G.length:=by
     rcases Tk (j - G.length) 1 with h'|h'
     ·omega
     ·rw[List.getElem?_eq_none (by simpa using h')]at h1;cases h1
    subst this;simp at h1;subst h1;rw[ac,hp]at h2;cases h2;rw[<-List.append_assoc];exact S7.ok _ _ _ aC
  ·rintro ys σ Y aF ⟨x0,x1,more1,N1,G,rfl,rfl,ac,S6,U,sub1,aG,cov1,aa⟩ ae;refine⟨by show 2<=Gi;decide,λc4 ay=>?_⟩;have s4:=Qg ay (.tup [.str "like",.ref J]);have S1:=(S6.less S.exL).fr s4;have F1:J9 v.L v.M H (upd Y c4 (.tup [.str "like",.ref J])):=(J9.of g5).trans (U.trans (J9.of s4));have hc1:=s4 _ _ (U.tp ao an (g5 _ _ hc));generalize am:V.ref c4=rv;obtain⟨r,hr'⟩:∃r:Lr,r=.like G:=⟨_,Xb⟩;have hrv:Qaa (upd Y c4 (.tup [.str "like",.ref J])) v.Ex rv r:=by rw[hr'];exact⟨c4,J,am.symm,Qb,s4 _ _ ae,λz=>by obtain⟨o,e⟩:=Z.exA J z;rw[d]at e;cases e⟩
   have Zw:Okl v.fs v.x.links (ls++more1) a b r:=by rw[hr'];refine⟨aE,aD,by omega,λj k p p' h1 h2 h3=>aa j k p p' h1 ?_⟩;simp only[Xw];rw[List.getElem?_zip_eq_some];exact⟨h2,h3⟩
   have ml:more1.length<=12100:=by omega
   infer_instance
end
def Qjb(P:Gk)(w:Gv)(C D:Gc):Sp:=λvs H Q _=>∃(sh dx t n:Gc)(A:Na)(fs:List Fm)(tb:Nat)(x:Nn)(us:List V)(H0:Hp),vs=[.ref sh,.ref t,.ref n]/\H sh=Ga (.ins D dx [])/\H0 sh=Gg/\Qz H0 H/\Z5 P w C H0 n A fs tb x/\H0 t=Ga (.lst us)/\
 ∀(L M:Gc)(H':Hp),Wv P w C D ⟨sh,n,t,L,M,A,fs,tb,x,us,H0,λb=>b=L\/∃o,H0 b=Ga o⟩ H' [] (λ_ _=>Gg)->Q .non H'
def Qms(H:Hp)(X:Gc->Prop)(us:List V)(v:V)(ls:List Ln):Prop:=∃L vs,v=.ref L/\H L=Ga (.lst vs)/\¬X L/\Paired (Qgh H X us) vs ls
def Qis(P:Gk)(w:Gv)(C:Gc):Sp:=λvs H Q _=>∃(t n:Gc)(A:Na)(fs:List Fm)(tb:Nat)(x:Nn)(us:List V)(one a:Nat),vs=[.ref t,.ref n,jv one,jv a]/\Z5 P w C H n A fs tb x/\Xz (Yc fs) (Zk fs) x []/\Qel fs x.S/\one∈x.S/\a∈x.S/\x.lead one=x.lead a/\x.S.length<=60/\x.links.length<64/\(∀p,(Zk fs p).length<=100)/\H t=Ga (.lst us)/\fs.length=us.length/\
 ∀(v:V)(ls:List Ln)(H':Hp),Qz H H'->Qms H' (λb=>∃o,H b=Ga o) us v ls->Gdl fs x.links ls->(∃r,ls.getLast?=Ga (one,a,r))->Q v H'
abbrev mkv(sh n t L M:Gc)(A:Na)(fs:List Fm)(tb:Nat)(x:Nn)(us:List V)(H0:Hp):Sv:=⟨sh,n,t,L,M,A,fs,tb,x,us,H0,λb=>b=L\/∃o,H0 b=Ga o⟩
theorem Qg9(I:Xz (Yc fs) (Zk fs) x []){st:List (Nat×Nat)}(h:Qap x.up a b st)(g:(p,q)∈st):∃k,x.Y9 p q=Ga k/\∀n,Cn (x.links.take n) a b->k<n:=by obtain⟨l1,l2,P,Q,s,m,c,d,e,f,ne,rfl⟩:=h;exact I.fst.way c d e f ne p q g
section
variable{P:Gk}{w:Gv}{K:Gd}{mg:Ta->Option Value}{base:Heap}
theorem Qrg:Qv ["self","things","net"] ["self","things","net"] (Qk Qbp):=by eq_refl
theorem Qoj(F:Wu K "__init__" "Showing.__init__" Qbp f0 fd)(T:Qnp K D):Qr P w K mg base Z3 1 f0 fd ["self","things","net"] (Qjb P w C D):=by
 refine F.ok Qrg (λvs H Q E h=>?_) (λcdv A outer s H vs Q E G h=>?_)
 ·obtain⟨sh,dx,t,n,A,fs,tb,x,us,H0,rfl,_⟩:=h;rfl
 obtain⟨sh,dx,t,n,A,fs,tb,x,us,H0,rfl,g,u,d,X,B,q⟩:=h;refine⟨_,Qd (Yu (pv 0) (pv 1) rfl) (Qd (Yu (pv 0) (pv 2) rfl) (Qd (Yu (pv 0) (Zt Qe) rfl) (Qh (Yu (pv 0) Ov Xb)))),?_⟩;refine⟨_,Xb,_,Xb,sh,D,dx,[],Xb,g,T.cl,T.things,by show 0<1000;decide,?_⟩;refine⟨_,Xb,_,Xb,sh,D,dx,_,Xb,Qb,T.cl,T.net,by show 1<1000;decide,Gx _,λL v=>?_⟩;rw[U7]at v⊢;have a:H L=Gg:=Zz v;have l:L≠sh:=Gp (Qc g a);refine⟨_,Xb,sh,D,dx,_,Xb,Qi Qb (Gp l),T.cl,T.lines,by show 2<1000;decide,λM y=>?_⟩;have f:=Zz y;have m:=Zz f;have c:H M=Gg:=Zz m;have r:M≠sh:=Gp (Qc g c);have p:L≠M:=λz=>by rw[<-z,Qb]at f;cases f
 refine⟨_,Xb,sh,D,dx,_,Xb,Qi Qb (Gp r),T.cl,T.U9,by show 3<1000;decide,?_⟩;refine q L M _ ⟨⟨dx,Qb⟩,λb o e=>?_,d.free a,d.free c,X,B,⟨[],?_,.nil⟩,⟨[],?_,Gx _,λi j=>rfl⟩,(λi j k h=>nomatch h),Gdl.nil,.inl Xb,λb hb=>?_⟩
 ·have bs:b≠sh:=Qc e u;exact Qi (Qi (Qi (Qi (Qi (d _ _ e) bs) (Qc (d _ _ e) a)) bs) (Qc (d _ _ e) c)) bs
 ·exact Qi (Qi (Qi Qb l) p) l
 ·exact Qi Qb r
 ·have hb:b=L\/∃o,H0 b=Ga o:=hb;rcases hb with hb|⟨o,e⟩
  ·rw[hb];exact⟨_,Qi (Qi (Qi Qb l) p) l⟩
  ·have bs:b≠sh:=Qc e u;exact⟨o,Qi (Qi (Qi (Qi (Qi (d _ _ e) bs) (Qc (d _ _ e) a)) bs) (Qc (d _ _ e) c)) bs⟩
theorem Qhf:Qv ["things","net","one","other","showing","number"] ["things","net","one","other"] (Qk Qgb):=by eq_refl
theorem Qos(F:Wu K "lines_between" "lines_between" Qgb f fd)(T:Qnp K D)(TN:V5 K mg C)(mD:MG mg "Showing" D)(aA:Mk K D fI)(GI:Qr P w K mg base Z3 1 fI fdI ["self","things","net"] (Qjb P w C D))(bI:Binds K fdI ["self","things","net"] [])
  (GN:Qr P w K mg base Z3 3 fN fdN ["net","one","other"] (Qip P w C))(kN:KI K fN)(bN:Binds K fdN ["net","one","other"] [])(mN:MG mg "links_needed" fN)
  (mL:Z8 K D "line_for" fL)(bL:Binds K fdL ["self","one","other"] [])(GL:Qr P w K mg base Z3 4 fL fdL ["self","one","other"] (Qcb P w C D Gf))(mW:Z8 K D "write_link" fW)(bW:Binds K fdW ["self","link"] [])(GW:Qr P w K mg base Z3 5 fW fdW ["self","link"] (Qmv P w C D)):
  Qr P w K mg base Z3 6 f fd ["things","net","one","other"] (Qis P w C):=by
 refine F.ok Qhf (λvs H Q E h=>?_) (λcdv A outer s H vs Q E hr h=>?_)
 ·obtain⟨t,n,A,fs,tb,x,us,one,d,rfl,_⟩:=h;rfl
 obtain⟨t,n,A,fs,tb,x,us,one,d,rfl,X,I,FO,oS,tS,he,hS,ap,few,ht,ae,q⟩:=h;have aH:Z9 2 _:=hr.mono (by omega);have aI:Z9 3 _:=hr.mono (by omega);have aJ:Z9 4 _:=hr.mono (by omega);have nd:=Qhf.nd;refine⟨_,Qd (Qs 4 nd (Qg8 aA GI aH rfl mD bI .nil Q4 (Qa (pv 0) (Qa (pv 1) Qe))))
  (Qd (Ye Gy rfl (Y2 (Zy GN aI rfl mN kN bN .nil Q4 (Qa (pv 1) (Qa (pv 2) (Qa (pv 3) Qe))))) (Ya 5 nd)
   (Qh (Ze (Q9 (pv 4) T.cl mW GW hr bW .nil Q4 (Qa (Qn Zi (Qm (pv 1) rfl) (pv 5)) Qe)))))
  (Qd (Ze (Q9 (pv 4) T.cl mL GL aJ bL .nil Q4 (Qa (pv 2) (Qa (pv 3) Qe))))
  (Qh (Qu (Qm (pv 4) rfl))))),?_⟩
 refine⟨_,Xb,_,Xb,λsh dx au aF aV=>?_⟩;have s0:Qz H (upd (upd H dx (.own sh)) sh (.ins D dx [])):=λc o e=>by rw[Qf (Qc e au),Qf (Qc e aF)];exact e
 refine⟨sh,dx,t,n,A,fs,tb,x,us,H,Xb,Qb,au,s0,X,ht,λL M H1 S1=>⟨Xb,?_⟩⟩;have X1:=X.same S1.Oy;obtain⟨aw,ar,ax⟩:=X.li;obtain⟨aD,on⟩:=X.ob;refine⟨_,Xb,_,Xb,_,Xb,n,A,fs,tb,x,one,d,Xb,X1,I,FO,oS,tS,he,by omega,ap,λL2 ns H2 g2 aa an aj aO Dn=>⟨L2,Xb,⟨_,Zc.of an⟩,?_⟩⟩;have S2:=S1.fr g2;have S2:Wv P w C D (mkv sh n t L M A fs tb x us H) H2 [] (λ_ _=>Gg):=S2;have ay:L2≠L:=λz=>by obtain⟨vs,l1,_⟩:=S1.li;rw[z,l1]at aa;cases aa
 have az:L2≠M:=λz=>by obtain⟨vs,l1,_⟩:=S1.nu;rw[z,l1]at aa;cases aa
 have ak:∀{j i k J:Nat},j<i->ns[j]?=Ga k->ns[i]?=Ga J->k<J:=λ{j i k J}ab h1 h2=>by obtain⟨a1,b1⟩:=List.getElem?_eq_some_iff.mp h1;obtain⟨a2,b2⟩:=List.getElem?_eq_some_iff.mp h2;have le:=List.pairwise_iff_getElem.mp aO j i a1 a2 ab;have ne:=List.pairwise_iff_getElem.mp aj j i a1 a2 ab;rw[b1,b2]at le ne;omega
 have am:∀{N:Nat->Nat->Option Nat}{i:Nat},(∀j k a b r,j<i->ns[j]?=Ga k->x.links[k]?=Ga (a,b,r)->(N a b).isSome=Gf)->∀{u u' j k:Nat},j<i->ns[j]?=Ga k->x.Y9 u u'=Ga k->Dr N u u':=λ{N i}h{u u' j k}B hk hl=>by
  obtain⟨r,h1|h1⟩:=I.fst.Qf0 u u' k hl
  ·exact .inl (h j k u u' r B hk h1)
  ·exact .inr (h j k u' u r B hk h1)
 have aQ:=Gr ax;refine Xh (K:=K) (a:=L2) (xs:=ns.map jv) (λi σ H3=>∃(x5:Option V)(ls:List Ln)(N:Nat->Nat->Option Nat),σ=[Ga (.ref t),Ga (.ref n),Ga (jv one),Ga (jv d),Ga (.ref sh),x5]/\Wv P w C D (mkv sh n t L M A fs tb x us H) H3 ls N/\J9 L M H2 H3/\ls.length<=i*12101/\
   (∀j k a b r,j<i->ns[j]?=Ga k->x.links[k]?=Ga (a,b,r)->(N a b).isSome=Gf)/\(∀m,(∀j k,j<i->ns[j]?=Ga k->k<m)->Cov (mkv sh n t L M A fs tb x us H) N m)/\((N one d).isSome=Gf->∃r,ls.getLast?=Ga (one,d,r)))
  ⟨_,[],_,Xb,S2,J9.refl,Gx _,(λj k a b r h=>by omega),(λm _ i j h=>by cases h),(λh=>by cases h)⟩ (λi σ H3 _⟨_,_,_,_,_,F3,_⟩=>Zc.of (F3.keep _ _ an ay az)) ?_ ?_
 ·rintro i y σ H3 hi ⟨x5,ls,N,rfl,S3,F3,aq,Z,R,U⟩;rw[List.getElem?_map]at hi;cases eq:ns[i]? with
  |none=>rw[eq]at hi;cases hi
  |some k=>
   rw[eq]at hi;cases hi;have ah:k∈ns:=List.mem_of_getElem? eq;have kl:=Dn.lt k ah;have kw:k<aw.length:=by omega
   have aR:i<ns.length:=(List.getElem?_eq_some_iff.mp eq).1;have aG:ns.length<=64:=by have:ns.length<=(List.range x.links.length).length:=Xf aj λk hk=>List.mem_range.mpr (Dn.lt k hk);rw[List.length_range]at this;omega
   obtain⟨⟨a,b,rs⟩,l,av⟩:=Qx ax (List.getElem?_eq_getElem kw);obtain⟨aS,bS,W⟩:=I.lnk k a b rs l;have aN:=S3.Oy _ _ on;have aK:=S3.Oy _ _ ar;obtain⟨ad,o3⟩:=S3.ob;have aP:Qt H H3:=Qt.of S3.Oy;have aE:∀p q,(p,q)∈Xw fs (a,b,rs)->Go (mkv sh n t L M A fs tb x us H) N p q:=λp q v=>by
    obtain⟨pS,qS,cn⟩:=Qmu I l v;refine⟨I,pS,qS,(I.conn p pS q qS).mpr (cn.mono λz hz=>List.mem_of_mem_take hz),by show x.S.length<=1000;omega,λst G u u' Y=>?_⟩;obtain⟨J,g,_⟩:=Qg9 I G Y;obtain⟨d1,d2⟩:=Dn.low k ah _ l p q v st G u u' Y J g;obtain⟨j,B⟩:=List.mem_iff_getElem?.mp d1;have ab:j<i:=by
     rcases Fa j i with h|h|h
     ·exact h
     ·subst h;rw[eq]at B;cases B;omega
     ·have:=ak h eq B;omega
    exact am Z ab B g
   refine⟨_,Xb,sh,ad,_,Xb,o3,Qgk _,_,Xb,n,C,aD,_,_,Xb,aN,TN.cl,TN.links,Uy _,_,Xb,A.k,aw,_,_,Xb,Xb,Zc.of aK,Qy (List.getElem?_eq_getElem kw),mkv sh n t L M A fs tb x us H,ls,N,_,a,b,rs,Xb,S3,av.Ql aP,List.mem_of_getElem? l,FO.lt a aS,FO.lt b bS,ae,λp hp=>by show p<us.length;rw[<-ae];exact FO.lt p hp,hS,few a,λz=>⟨(W z).1,(W z).2.1⟩,aE,by omega,λmore N1 r H4 S4 F4 ac aL O=>?_⟩;have aB:∀m,k<m->∀p q,(p,q)∈Xw fs (a,b,rs)->Cn (x.links.take m) p q:=λm hm p q v=>by
    obtain⟨pS,qS,cn⟩:=Qmu I l v;refine cn.mono λz hz=>?_;have:x.links.take k=(x.links.take m).take k:=by rw[List.take_take,E4 (by omega)]
    rw[this]at hz;exact List.mem_of_mem_take hz
   have al:Cov (mkv sh n t L M A fs tb x us H) N1 k:=O k (R k λj J B g=>ak B g eq) λp q v=>(Qmu I l v).2.2;refine⟨_,ls++more++[(a,b,r)],_,Xb,S4,F3.trans F4,by rw[List.length_append,List.length_append,List.length_singleton];omega,λj J a' b' r' B af ag=>?_,λm hm=>?_,λh=>?_⟩
   ·rcases Tk j i with h|h
    ·exact Qmn _ _ (ac _ _ (Z j J a' b' r' h af ag))
    ·have:j=i:=by omega
     subst this;rw[eq]at af;cases af;rw[l]at ag;cases ag;rw[Qlf];rfl
   ·have km:=hm i k (by omega) eq;exact Qln (O m (R m λj J B g=>hm j J (by omega) g) (aB m km)) (.link (List.mem_of_getElem? (i:=k) (by rw[List.getElem?_take_of_lt km];exact l)))
   ·by_cases ao:one=a/\d=b
    ·obtain⟨rfl,rfl⟩:=ao;exact⟨r,List.getLast?_concat⟩
    ·unfold putN at h;rw[Gh ao]at h;have cn:=al _ _ h;obtain⟨st,p,q',j,G,v,B,aU⟩:=Dn.only k ah;obtain⟨J,g,hb⟩:=Qg9 I G v;rw[B]at g;cases g;have:=hb k cn;omega
 ·rintro σ H3 ⟨x5,ls,N,rfl,S3,F3,aq,Z,R,U⟩;rw[List.length_map]at aq Z;have aG:ns.length<=64:=by have:ns.length<=(List.range x.links.length).length:=Xf aj λk hk=>List.mem_range.mpr (Dn.lt k hk);rw[List.length_range]at this;omega
  obtain⟨ad,o3⟩:=S3.ob;have go:Go (mkv sh n t L M A fs tb x us H) N one d:=by refine⟨I,oS,tS,he,by show x.S.length<=1000;omega,λst G u u' Y=>?_⟩;obtain⟨J,g,_⟩:=Qg9 I G Y;obtain⟨j,B⟩:=List.mem_iff_getElem?.mp (Dn.top st G u u' Y J g);exact am Z (List.getElem?_eq_some_iff.mp B).1 B g
  have Sl:∀p∈x.S,p<us.length:=λp hp=>by rw[<-ae];exact FO.lt p hp
  refine⟨_,Xb,sh,ad,_,Xb,o3,Rt _,_,Xb,_,Xb,mkv sh n t L M A fs tb x us H,ls,N,one,d,Xb,S3,Sl one oS,Sl d tS,Sl,.inr ⟨Xb,go⟩,by rw[Gm rfl];omega,λk more N4 H4 S4 F4 aT ac aL O ai _ aM=>?_⟩;obtain⟨aC,o4⟩:=S4.ob;obtain⟨vs,l1,l2⟩:=S4.li;refine⟨_,Xb,sh,D,aC,_,_,Xb,o4,T.cl,T.lines,Qc0 _,q (.ref L) (ls++more) H4 S4.Oy ⟨L,vs,Xb,l1,(λ⟨o,e⟩=>by have:=S4.L0;dsimp only[mkv]at this;rw[this]at e;cases e),_root_.L2.Paired.Z7 l2 λ_ _ h=>h.ex λc ys _ hx z=>hx (.inr z)⟩ S4.good ?_⟩;cases hN:N one d with
  |none=>exact ai hN
  |some k0=>rw[aM (by rw[hN];exactλz=>nomatch z),List.append_nil];exact U (by rw[hN];rfl)
end
def tfs(ts:List Th):List Fm:=ts.map (fm ts)
def tg(ts:List Th)(p:Nat):Th:=ts.getD p (.mk Em [])
theorem V9(h:ts[p]?=Ga t):tg ts p=t:=by unfold tg;rw[List.getD_eq_getElem?_getD,h];rfl
theorem Rk(h:t∈ts):tg ts (ts.idxOf t)=t:=V9 (Ir h)
theorem We(h:p<ts.length):ts[p]?=Ga (tg ts p):=by rw[List.getElem?_eq_getElem h,V9 (List.getElem?_eq_getElem h)]
theorem Wf(h:ts[p]?=Ga t):Yc (tfs ts) p=t.word/\Zk (tfs ts) p=t.parts.map λq=>ts.idxOf q:=by unfold Yc Zk tfs;rw[List.getD_eq_getElem?_getD,List.getElem?_map,h];exact⟨Xb,Xb⟩
theorem W9(ts:List Th):(tfs ts).length=ts.length:=by simp[tfs]
structure Eqs(fs:List Fm)(x:Nn)(sm:List (Nat×Nat)):Prop where
 ins:∀p q,(p,q)∈sm->p∈x.S/\q∈x.S
 eq:∀p q,(p,q)∈sm->x.lead p=x.lead q
 snd:∀E,Ec (Yc fs) (Zk fs) x.S E->(∀p q,(p,q)∈sm->E p q)->∀p∈x.S,∀q∈x.S,x.lead p=x.lead q->E p q
def Qdh(a:List En):List (Nat×Nat):=a.filterMap λ(e:En)=>if e.1=("same":Ta)then Ga e.2 else Gg
theorem Vv:(p,q)∈Qdh ens↔sme p q∈ens:=by
 unfold Qdh;rw[List.mem_filterMap];constructor
 ·rintro⟨⟨k,a,b⟩,h,e⟩;split at e
  ·rename_i c
   have c:k=("same":Ta):=c;cases e;subst c;exact h
  ·cases e
 ·exactλh=>⟨_,h,Gm Xb⟩
theorem Qly(U:Tup fs x ens ens.length):Eqs fs x (Qdh ens):=by refine⟨λp q h=>U.ins _ (Vv.mp h),λp q h=>?_,λE X h=>U.snd E X λj p q _ a=>h p q (Vv.mpr (List.mem_of_getElem? a))⟩;obtain⟨j,a⟩:=List.mem_iff_getElem?.mp (Vv.mp h);exact U.eq j p q (List.getElem?_eq_some_iff.mp a).1 a
theorem Quu{d:Nn}{c:List (Nat×Nat)}{r:Option U3}(Q:Eqs fs x c)(M:Mgd fs x d a b r [])(aS:a∈x.S)(bS:b∈x.S):Eqs fs d (c++[(a,b)]):=by
 have e:=M.S;refine⟨λp q h=>?_,λp q h=>?_,λE X h=>?_⟩
 ·rw[e];rcases List.mem_append.mp h with h|h
  ·exact Q.ins p q h
  ·simp at h;rw[h.1,h.2];exact⟨aS,bS⟩
 ·rcases List.mem_append.mp h with h|h
  ·obtain⟨i,j⟩:=Q.ins p q h;exact M.mono p i q j (Q.eq p q h)
  ·simp at h;rw[h.1,h.2];exact M.eq.nil
 ·rw[e]at X;have f:=Q.snd E X λp q g=>h p q (List.mem_append_left _ g);exact(M.snd E X ⟨f,λu v s m=>by simp at m;rw[m.1,m.2.1];exact h a b (by simp)⟩).1
theorem Eqs.cg(nd:ts.Nodup)(cl:Vx ts){y:List (Nat×Nat)}(I:Xz (Yc (tfs ts)) (Zk (tfs ts)) x [])(C:Qel (tfs ts) x.S)(Q:Eqs (tfs ts) x y)
  (h1:∀a b,(Gf,a,b)∈tl->∃p q,(p,q)∈y/\ts[p]?=Ga a/\ts[q]?=Ga b)(h2:∀p q,(p,q)∈y->(Gf,tg ts p,tg ts q)∈tl)(d:p∈x.S)(f:q∈x.S):x.lead p=x.lead q↔Cg tl (tg ts p) (tg ts q):=by
 have lt:∀p∈x.S,p<ts.length:=λp d=>by have:=C.lt p d;rwa[W9]at this
 have at_:∀p∈x.S,ts[p]?=Ga (tg ts p):=λp d=>We (lt p d);have mem:∀p∈x.S,tg ts p∈ts:=λp d=>List.mem_of_getElem? (at_ p d);have m:∀p∈x.S,ts.idxOf (tg ts p)=p:=λp d=>Rr nd (at_ p d);constructor
 ·refineλh=>Q.snd (λp q=>Cg tl (tg ts p) (tg ts q)) ⟨λ_=>.refl _,λ_ _ h=>.symm h,λ_ _ _ h k=>.trans h k,λp d q f hw g=>?_⟩ (λp q h=>.told (h2 p q h)) p d q f h;obtain⟨A,l⟩:=Wf (at_ p d);obtain⟨B,z⟩:=Wf (at_ q f);rw[A,B]at hw;rw[l,z]at g;have K:=mem p d;have L:=mem q f;generalize tg ts p=a at*;generalize tg ts q=b at*;cases a with
  |mk u ps=>
   cases b with
   |mk v O=>simp only[Th.word,Th.parts]at hw g;subst hw;have p1:=Xl cl K;have p2:=Xl cl L;simp only[Th.parts]at p1 p2;obtain⟨G,g⟩:=g;rw[List.length_map,List.length_map]at G;refine .cong (CgL.of G λi s t J j=>?_);have:=g i (ts.idxOf s) (ts.idxOf t) (by rw[List.getElem?_map,J];rfl) (by rw[List.getElem?_map,j];rfl);dsimp only at this;rwa[Rk (p1 s (List.mem_of_getElem? J)),Rk (p2 t (List.mem_of_getElem? j))]at this
 ·intro c;have T:I8 tl (x.S.map (tg ts)) (λt=>((x.lead (ts.idxOf t):Nat):Int)):=by
   refine⟨λw ps h q f=>?_,λa b h=>?_,λw ps O n r e=>?_⟩
   ·obtain⟨p,d,e⟩:=List.mem_map.mp h;have o:=Xl cl (mem p d) q (by rw[e];exact f);obtain⟨_,l⟩:=Wf (at_ p d);have:ts.idxOf q∈Zk (tfs ts) p:=by rw[l,e];exact List.mem_map.mpr ⟨q,f,Xb⟩
    exact List.mem_map.mpr ⟨_,C.pts p d _ this,Rk o⟩
   ·obtain⟨p,q,H,ea,F⟩:=h1 a b h;obtain⟨M,N⟩:=Q.ins p q H;refine⟨List.mem_map.mpr ⟨p,M,V9 ea⟩,List.mem_map.mpr ⟨q,N,V9 F⟩,?_⟩;rw[Rr nd ea,Rr nd F,Q.eq p q H]
   ·obtain⟨p,d,D⟩:=List.mem_map.mp n;obtain⟨q,f,E⟩:=List.mem_map.mp r;obtain⟨A,l⟩:=Wf (at_ p d);obtain⟨B,z⟩:=Wf (at_ q f);have:=I.cong d f (by simp only[Zj,Df];rw[A,B,l,z,D,E];refine⟨Xb,?_⟩;simp only[Th.parts,List.map_map];have:=congrArg (List.map DD) e;simp only[List.map_map]at this;exact this)
    rw[<-D,<-E,m p d,m q f,this]
  have:=T.complete (List.mem_map.mpr ⟨p,d,Xb⟩) (List.mem_map.mpr ⟨q,f,Xb⟩) c;simp only[m p d,m q f]at this;omega
abbrev Lt:=Th×Th×Lr
def Cht(pre:List Lt):Th->List Nat->Th->Prop
 |p,[],q=>p=q
 |p,k::a,q=>∃m r,pre[k]?=Ga (p,m,r)/\Cht pre m a q
def Okt(tl:Tl)(d:Option (Th×Th))(pre:List Lt)(a b:Th):Lr->Prop
 |.told n=>tl[n]?=Ga (Gf,a,b)
 |.asked=>d=Ga (a,b)
 |.turn k=>∃r,pre[k]?=Ga (b,a,r)
 |.chain c=>Cht pre a c b
 |.like c=>a.word=b.word/\a.parts.length=b.parts.length/\c.length=a.parts.length/\∀(j k:Nat)(p q:Th),c[j]?=Ga k->a.parts[j]?=Ga p->b.parts[j]?=Ga q->∃r,pre[k]?=Ga (p,q,r)
def Gdt(tl:Tl)(c:Option (Th×Th))(ls:List Lt):Prop:=∀(i:Nat)a b r,ls[i]?=Ga (a,b,r)->Okt tl c (ls.take i) a b r
def lth(ts:List Th)(l:Ln):Lt:=(tg ts l.1,tg ts l.2.1,l.2.2)
theorem Qgr{pre:List Ln}{r:Lr}(h:pre[k]?=Ga (p,q,r)):(pre.map (lth ts))[k]?=Ga (tg ts p,tg ts q,r):=by rw[List.getElem?_map,h];rfl
theorem Qso{ts:List Th}{pre:List Ln}:∀{a:List Nat}{p q:Nat},Chn pre p a q->Cht (pre.map (lth ts)) (tg ts p) a (tg ts q)
 |[],p,q,h=>by have:p=q:=h;rw[this];rfl
 |k::a,p,q,⟨m,r,h1,h2⟩=>⟨tg ts m,r,Qgr h1,Qso h2⟩
theorem Qkh(cl:Vx ts){w:Option (Th×Th)}(g:Gdl (tfs ts) lks ls)(lt:∀l∈ls,l.1<ts.length/\l.2.1<ts.length)
  (B:∀a b n,(a,b,Ga (.told n))∈lks->tl[n]?=Ga (Gf,tg ts a,tg ts b))(z:∀a b,(a,b,Ga .asked)∈lks->w=Ga (tg ts a,tg ts b)):Gdt tl w (ls.map (lth ts)):=by
 intro i a b r hi;rw[List.getElem?_map]at hi;cases e:ls[i]? with
 |none=>rw[e]at hi;cases hi
 |some l=>
  rw[e]at hi;obtain⟨p,q,G⟩:=l;cases hi;dsimp only;generalize G=r at*;have ok:=g i p q r e;obtain⟨lp,t⟩:=lt _ (List.mem_of_getElem? e);rw[<-List.map_take];cases r with
  |told n=>exact B p q n ok
  |asked=>exact z p q ok
  |turn k=>obtain⟨d,h⟩:=ok;exact⟨d,Qgr h⟩
  |chain D=>exact Qso ok
  |like D=>obtain⟨h1,h2,m,y⟩:=ok;obtain⟨H,f⟩:=Wf (We lp);obtain⟨I,x⟩:=Wf (We t);have E:tg ts p∈ts:=List.mem_of_getElem? (We lp);have F:tg ts q∈ts:=List.mem_of_getElem? (We t);rw[f,x,List.length_map,List.length_map]at h2;rw[f,List.length_map]at m;refine⟨by rw[<-H,<-I];exact h1,h2,m,λj k u v A o s=>?_⟩;have C:=y j k (ts.idxOf u) (ts.idxOf v) A (by rw[f,List.getElem?_map,o];rfl) (by rw[x,List.getElem?_map,s];rfl);obtain⟨d,c⟩:=C;have:=Qgr (ts:=ts) c;rw[Rk (Xl cl E u (List.mem_of_getElem? o)),Rk (Xl cl F v (List.mem_of_getElem? s))]at this;exact⟨d,this⟩
def Qy8(H:Hp)(X:Gc->Prop)(v:V)(l:Lt):Prop:=∃c a b rv,v=.ref c/\H c=Ga (.tup [a,b,rv])/\Yj H a l.1/\Yj H b l.2.1/\Qaa H X rv l.2.2
def Wl(H:Hp)(X:Gc->Prop)(v:V)(ls:List Lt):Prop:=∃L vs,v=.ref L/\H L=Ga (.lst vs)/\¬X L/\Paired (Qy8 H X) vs ls
theorem Wl.kp{X:Gc->Prop}{H H':Hp}(a:Qt H H')(lp:∀{c:Gc}{ys:List V},H c=Ga (.lst ys)->¬X c->H' c=Ga (.lst ys)){v:V}{ls:List Lt}(h:Wl H X v ls):Wl H' X v ls:=by obtain⟨L,vs,h1,h2,b,d⟩:=h;exact⟨L,vs,h1,lp h2 b,b,L2.Paired.Z7 d λ_ _⟨c,l,m,rv,f,g,i,j,k⟩=>⟨c,l,m,rv,f,a _ _ g,i.Ql a,j.Ql a,k.kp (λe=>a _ _ e) lp⟩⟩
theorem Wl.ex{X Y:Gc->Prop}{H:Hp}(a:∀c ys,H c=Ga (.lst ys)->¬X c->¬Y c){v:V}{ls:List Lt}(h:Wl H X v ls):Wl H Y v ls:=by obtain⟨L,vs,h1,h2,b,d⟩:=h;exact⟨L,vs,h1,h2,a _ _ h2 b,L2.Paired.Z7 d λ_ _⟨c,k,l,rv,e,f,g,i,j⟩=>⟨c,k,l,rv,e,f,g,i,j.ex a⟩⟩
theorem Qrv{us:List V}(d:Zq H us ts)(h:Qms H X us v ls):Wl H X v (ls.map (lth ts))/\∀l∈ls,l.1<ts.length/\l.2.1<ts.length:=by
 obtain⟨L,vs,h1,h2,o,g⟩:=h;have a:=d.length;have key:∀{vs:List V}{ls:List Ln},Paired (Qgh H X us) vs ls->Paired (Qy8 H X) vs (ls.map (lth ts))/\∀l∈ls,l.1<ts.length/\l.2.1<ts.length:=by
  intro vs ls h;induction h with
  |nil=>exact⟨.nil,λl m=>nomatch m⟩
  |@cons v l vs ls n t i=>
   obtain⟨c,u,w,rv,p,q,j,k,r⟩:=n;have l1:l.1<ts.length:=by rw[<-a];exact(List.getElem?_eq_some_iff.mp j).1
   have l2:l.2.1<ts.length:=by rw[<-a];exact(List.getElem?_eq_some_iff.mp k).1
   obtain⟨x,e,i1⟩:=d.at (We l1);obtain⟨y,f,i2⟩:=d.at (We l2);rw[j]at e;rw[k]at f;cases e;cases f;refine⟨.cons ⟨c,u,w,rv,p,q,i1,i2,r⟩ i.1,λs b=>?_⟩;rcases List.mem_cons.mp b with rfl|b
   ·exact⟨l1,l2⟩
   ·exact i.2 s b
 exact⟨⟨L,vs,h1,h2,o,(key g).1⟩,(key g).2⟩
structure Wth(tl:Tl)(S:List Th)(rs:List Row):Prop where
 ex:∃L:Th->Nat,(∀s∈S,∀t∈S,L s=L t↔Cg tl s t)/\(∀t∈S,(t.word,t.parts.map L,L t)∈rs)/\∀r∈rs,∃t∈S,r=(t.word,t.parts.map L,L t)
 cl:∀t∈S,∀p∈t.parts,p∈S
 nd:(rs.map λr=>(r.1,r.2.1)).Nodup
theorem Qp2(nd:ts.Nodup)(cl:Vx ts){k:List Row}(j:Qel (tfs ts) x.S)(W:Wok (tfs ts) x k)(h:∀p∈x.S,∀q∈x.S,x.lead p=x.lead q↔Cg tl (tg ts p) (tg ts q)):Wth tl (x.S.map (tg ts)) k:=by
 have lt:∀p∈x.S,p<ts.length:=λp a=>by have:=j.lt p a;rwa[W9]at this
 have at_:∀p∈x.S,ts[p]?=Ga (tg ts p):=λp a=>We (lt p a);have mem:∀p∈x.S,tg ts p∈ts:=λp a=>List.mem_of_getElem? (at_ p a);have g:∀p∈x.S,ts.idxOf (tg ts p)=p:=λp a=>Rr nd (at_ p a);obtain⟨N,n1,n2,n3⟩:=W.ex;have d:∀p∈x.S,Ve (tfs ts) x N p=((tg ts p).word,(tg ts p).parts.map (λt=>N (x.lead (ts.idxOf t))),N (x.lead (ts.idxOf (tg ts p)))):=λp a=>by obtain⟨n,i⟩:=Wf (at_ p a);unfold Ve;rw[n,i,List.map_map,g p a];rfl
 refine⟨⟨λt=>N (x.lead (ts.idxOf t)),λs m t c=>?_,λt c=>?_,λr l=>?_⟩,λt c q b=>?_,W.nd⟩
 ·obtain⟨p,a,rfl⟩:=List.mem_map.mp m;obtain⟨q,b,rfl⟩:=List.mem_map.mp c;dsimp only;rw[g p a,g q b,<-h p a q b];exact⟨n1 p a q b,λe=>by rw[e]⟩
 ·obtain⟨p,a,rfl⟩:=List.mem_map.mp c;rw[<-d p a];exact n2 p a
 ·obtain⟨p,a,rfl⟩:=n3 r l;exact⟨_,List.mem_map.mpr ⟨p,a,Xb⟩,d p a⟩
 ·obtain⟨p,a,rfl⟩:=List.mem_map.mp c;have f:=Xl cl (mem p a) q b;obtain⟨_,i⟩:=Wf (at_ p a);have:ts.idxOf q∈Zk (tfs ts) p:=by rw[i];exact List.mem_map.mpr ⟨q,b,Xb⟩
  exact List.mem_map.mpr ⟨_,j.pts p a _ this,Rk f⟩
def Wo(p t e:Gc):List (Ta×V):=[("places",.ref p),("told",.ref t),("entries",.ref e)]
theorem Ur(p t e:Gc):(Wo p t e).lookup ("places":Ta)=Ga (.ref p):=by rfl
theorem Qb1(p t e:Gc):(Wo p t e).lookup ("told":Ta)=Ga (.ref t):=by rfl
theorem Vy(p t e:Gc):(Wo p t e).lookup ("entries":Ta)=Ga (.ref e):=by rfl
theorem Qe3(p t e:Gc):(Wo p t e).lookup ("answer":Ta)=Gg:=by rfl
theorem Qoc(p t e:Gc):(Wo p t e).lookup ("go_back":Ta)=Gg:=by rfl
theorem Qur(p t e:Gc):(Wo p t e).lookup ("tell":Ta)=Gg:=by rfl
theorem Qx6(p t e:Gc):(Wo p t e).lookup ("ask":Ta)=Gg:=by rfl
theorem Jr(p t e:Gc):(Wo p t e).lookup ("lines_for":Ta)=Gg:=by rfl
theorem Qo9(a f d:Gc):(Ju a f d).lookup ("things":Ta)=Ga (.ref a):=by rfl
theorem Qh3(a f d:Gc):(Ju a f d).lookup ("forms":Ta)=Ga (.ref f):=by rfl
theorem Qcv(a f d:Gc):(Ju a f d).lookup ("place_of":Ta)=Gg:=by rfl
theorem Qoy(p t e t':Gc):Yg "told" (.ref t') (Wo p t e)=Wo p t' e:=by rfl
theorem Od(p t e a:Gc):Yg "entries" (.ref a) (Wo p t e)=Wo p t a:=by rfl
def Qeh(ts:List Th):List En->Tl->Prop:=Paired λ(e:En)(p:Bool×Th×Th)=>e.1=tw p.1/\ts[e.2.1]?=Ga p.2.1/\ts[e.2.2]?=Ga p.2.2
structure Vj(P:Gk)(w:Gv)(CP CB:Gc)(H:Hp)(bk p a f d t e:Gc)(ts:List Th)(tl:Tl):Prop where
 ob:∃dx,H bk=Ga (.ins CB dx (Wo p t e))
 pl:Pl P w CP H p a f d ts
 to:∃vs,H t=Ga (.lst vs)/\Uj H vs tl
 en:∃es ens,H e=Ga (.lst es)/\Paired (Qcw H) es ens/\Qeh ts ens tl
 ta:t≠a
 tf:t≠f
 te:t≠e
 ea:e≠a
 ef:e≠f
structure Few(U ts:List Th)(tl:Tl):Prop where
 sub:∀t∈ts,t∈U
 cl:Vx U
 good:∀t∈U,t.good
 len:U.length<=60
 tl:tl.length<=900
theorem Qq7{l:List Th}(nd:l.Nodup)(h:∀p∈l,p∈S):l.length<=S.length:=by
 induction l generalizing S with
 |nil=>simp
 |cons a r c=>rw[List.nodup_cons]at nd;have:=c (S:=S.erase a) nd.2 λp b=>(List.mem_erase_of_ne (show p≠a fromλz=>nd.1 (by rw[<-z];exact b))).mpr (h p (List.mem_cons_of_mem _ b));have e:=List.length_erase_of_mem (h a List.mem_cons_self);have pos:0<S.length:=List.length_pos_of_mem (h a List.mem_cons_self);simp only[List.length_cons];omega
theorem Few.le(h:Few U ts tl)(nd:ts.Nodup):ts.length<=60:=TY (Qq7 nd h.sub) h.len
def Lst(tl b:Tl)(n:Nat)(a c:Th):Prop:=tl[n]?=Ga (Gq,a,c)/\Cg b a c/\∀(j:Nat)d e,j<n->tl[j]?=Ga (Gq,d,e)->¬Cg b d e
def Jj(H:Hp)(X:Gc->Prop)(tl:Tl):Dd->V->Prop
 |.back i,v=>v=(Vf tl (.back i)).2
 |.tell b s t,v=>(¬Ro (tl++[(b,s,t)])/\v=.int ((tl.length:Int)+1))\/
   ∃d n a c lv ls,v=.ref d/\H d=Ga (.tup [.str "clash",jv n,lv])/\Lst (tl++[(b,s,t)]) (tl++[(b,s,t)]) n a c/\Wl H X lv ls/\Gdt (tl++[(b,s,t)]) Gg ls/\∃r,ls.getLast?=Ga (a,c,r)
 |.ask s t,v=>(Cg tl s t/\∃d lv ls,v=.ref d/\H d=Ga (.tup [.str "equal",lv])/\Wl H X lv ls/\Gdt tl Gg ls/\∃r,ls.getLast?=Ga (s,t,r))\/
   (¬Cg tl s t/\∃d n a c lv ls,v=.ref d/\H d=Ga (.tup [.str "unlike",jv n,lv])/\Lst tl (tl++[(Gf,s,t)]) n a c/\Wl H X lv ls/\Gdt tl (Ga (s,t)) ls/\∃r,ls.getLast?=Ga (a,c,r))\/
   (¬Cg tl s t/\(∀a c,(Gq,a,c)∈tl->¬Cg (tl++[(Gf,s,t)]) a c)/\∃d g h e f S,v=.ref d/\H d=Ga (.tup [.str "open",g,h])/\Jf H X g e/\Jf H X h f/\Wth tl S e/\Wth (tl++[(Gf,s,t)]) S f/\s∈S/\t∈S/\∀b a c,(b,a,c)∈tl->a∈S/\c∈S)
theorem Jj.kp{X:Gc->Prop}{H H':Hp}(f:Qt H H')(lp:∀{c:Gc}{ys:List V},H c=Ga (.lst ys)->¬X c->H' c=Ga (.lst ys)){tl:Tl}:∀{d:Dd}{v:V},Jj H X tl d v->Jj H' X tl d v
 |.back i,v,h=>h
 |.tell b s t,v,h=>by
  rcases h with h|⟨g,n,a,c,lv,ls,h1,h2,j,k,m⟩
  ·exact .inl h
  ·exact .inr ⟨g,n,a,c,lv,ls,h1,f _ _ h2,j,k.kp f lp,m⟩
 |.ask s t,v,h=>by
  rcases h with⟨l,g,lv,ls,h1,h2,j,k⟩|⟨l,g,n,a,c,lv,ls,h1,h2,j,k,m⟩|⟨l,o,g,r,u,p,q,S,h1,h2,j,k,m⟩
  ·exact .inl ⟨l,g,lv,ls,h1,f _ _ h2,j.kp f lp,k⟩
  ·exact .inr (.inl ⟨l,g,n,a,c,lv,ls,h1,f _ _ h2,j,k.kp f lp,m⟩)
  ·exact .inr (.inr ⟨l,o,g,r,u,p,q,S,h1,f _ _ h2,j.kp (λe=>f _ _ e) lp,k.kp (λe=>f _ _ e) lp,m⟩)
theorem Jj.ex{X Y:Gc->Prop}{H:Hp}(l:∀c ys,H c=Ga (.lst ys)->¬X c->¬Y c){tl:Tl}:∀{d:Dd}{v:V},Jj H X tl d v->Jj H Y tl d v
 |.back i,v,h=>h
 |.tell b s t,v,h=>by
  rcases h with h|⟨e,n,a,c,lv,ls,h1,h2,f,g,k⟩
  ·exact .inl h
  ·exact .inr ⟨e,n,a,c,lv,ls,h1,h2,f,g.ex l,k⟩
 |.ask s t,v,h=>by
  rcases h with⟨j,e,lv,ls,h1,h2,f,g⟩|⟨j,e,n,a,c,lv,ls,h1,h2,f,g,k⟩|⟨j,m,e,q,r,o,p,S,h1,h2,f,g,k⟩
  ·exact .inl ⟨j,e,lv,ls,h1,h2,f.ex l,g⟩
  ·exact .inr (.inl ⟨j,e,n,a,c,lv,ls,h1,h2,f,g.ex l,k⟩)
  ·exact .inr (.inr ⟨j,m,e,q,r,o,p,S,h1,h2,f.ex l,g.ex l,k⟩)
theorem Jj.head{X:Gc->Prop}{H:Hp}{tl:Tl}:∀{d:Dd}{v:V},Jj H X tl d v->Qcd H v (Vf tl d).2
 |.back i,v,h=>.inl h
 |.tell b s t,v,h=>by
  rcases h with⟨h1,h2⟩|⟨e,n,a,c,lv,ls,h1,h2,g,_⟩
  ·left;simp only[Vf];rw[Gh h1,h2]
  ·right;have hb:Ro (tl++[(b,s,t)]):=⟨a,c,List.mem_of_getElem? g.1,g.2.1⟩;simp only[Vf];rw[Gm hb];exact⟨e,_,h1,h2⟩
 |.ask s t,v,h=>by
  right;rcases h with⟨f,e,lv,ls,h1,h2,_⟩|⟨f,e,n,a,c,lv,ls,h1,h2,g,_⟩|⟨f,j,e,m,o,p,q,S,h1,h2,_⟩
  ·refine⟨e,[lv],h1,?_⟩;simp only[Vf,kindOf];rw[Gm f];exact h2
  ·refine⟨e,[jv n,lv],h1,?_⟩;simp only[Vf,kindOf];rw[Gh f,Gm ⟨a,c,List.mem_of_getElem? g.1,g.2.1⟩];exact h2
  ·refine⟨e,[m,o],h1,?_⟩;simp only[Vf,kindOf];rw[Gh f,Gh λ⟨a,c,k,l⟩=>j a c k l];exact h2
theorem Qnk(h:t.good):t.parts.length<=100:=by
 cases t with
 |mk u ps=>have:=Zx ps;have:=h.2.2;simp only[Th.size]at this;simp only[Th.parts];omega
theorem Qju{p:Th}(h:p∈t.parts):p.depth<t.depth:=by
 cases t with
 |mk u ps=>simp only[Th.parts]at h;have:=X9 h;simp only[Th.depth];omega
theorem Qt5(h:t.ok=Gf):TU t.word=Gf:=by
 cases t with
 |mk u ps=>simp only[Th.ok,Tn]at h;exact h.1
theorem Qmh(h:¬p<ts.length):Yc (tfs ts) p=Em/\Zk (tfs ts) p=[]:=by unfold Yc Zk tfs;rw[List.getD_eq_getElem?_getD,List.getElem?_eq_none (by rw[List.length_map];omega)];exact⟨Xb,Xb⟩
theorem Qwo(nd:ts.Nodup)(cl:Vx ts)(c:∀t∈ts,t.good)(l:ts.length<=60):Qyi (tfs ts) (λp=>(tg ts p).depth)/\∀p,(tg ts p).depth<59:=by
 have mem:∀{p:Nat},p<ts.length->tg ts p∈ts:=λh=>List.mem_of_getElem? (We h);refine⟨⟨λp=>?_,λp=>?_,λp a q b=>?_,λp q a b d e=>?_,by rw[W9];omega⟩,λp=>?_⟩
 ·by_cases h:p<ts.length
  ·rw[(Wf (We h)).1];exact Qt5 (c _ (mem h)).1
  ·rw[(Qmh h).1];decide+kernel
 ·by_cases h:p<ts.length
  ·rw[(Wf (We h)).2,List.length_map];exact Qnk (c _ (mem h))
  ·rw[(Qmh h).2];exact Gx _
 ·rw[W9]at a⊢;rw[(Wf (We a)).2]at b;obtain⟨s,f,rfl⟩:=List.mem_map.mp b;have:=Xl cl (mem a) s f;refine⟨List.idxOf_lt_length_of_mem this,?_⟩;rw[Rk this];exact Qju f
 ·rw[W9]at a b;obtain⟨j,g⟩:=Wf (We a);obtain⟨k,i⟩:=Wf (We b);rw[j,k]at d;rw[g,i]at e;have:=Qj5 (ts:=ts) (Xl cl (mem a)) (Xl cl (mem b)) (LW d e);rw[<-Rr nd (We a),<-Rr nd (We b),this]
 ·by_cases h:p<ts.length
  ·have:=(c _ (mem h)).2.1;omega
  ·have:tg ts p=.mk Em []:=by unfold tg;rw[List.getD_eq_getElem?_getD,List.getElem?_eq_none (by omega)];rfl
   rw[this];simp[Th.depth,Wa]
theorem Qcp{b:Bool}(h:("same":Ta)=tw b):b=Gf:=by
 cases b with
 |true=>rfl
 |false=>exact absurd h (by decide+kernel)
theorem Qjs{b:Bool}(h:("unlike":Ta)=tw b):b=Gq:=by
 cases b with
 |true=>exact absurd h (by decide+kernel)
 |false=>rfl
theorem Qbz(R:Qeh ts ens tl){k:Ta}(h:ens[j]?=Ga (k,p,q)):∃b,k=tw b/\tl[j]?=Ga (b,tg ts p,tg ts q):=by obtain⟨⟨b,s,t⟩,h1,h2,a,c⟩:=Qx R h;exact⟨b,h2,by rw[h1,V9 a,V9 c]⟩
theorem R3(R:Qeh ts ens tl){b:Bool}{s:Th}(h:tl[j]?=Ga (b,s,t)):∃p q,ens[j]?=Ga (tw b,p,q)/\ts[p]?=Ga s/\ts[q]?=Ga t:=by
 have e:=Gr R;have a:j<ens.length:=by rw[e];exact(List.getElem?_eq_some_iff.mp h).1
 obtain⟨⟨f,s',t'⟩,h1,h2,c,d⟩:=Qx R (List.getElem?_eq_getElem a);rw[h]at h1;cases h1;refine⟨ens[j].2.1,ens[j].2.2,?_,c,d⟩;rw[List.getElem?_eq_getElem a,<-h2]
theorem Qjl{c:List En}(R:Qeh ts ens tl)(e:∀p q,sme p q∈c↔sme p q∈ens):
  (∀a b,(Gf,a,b)∈tl->∃p q,(p,q)∈Qdh c/\ts[p]?=Ga a/\ts[q]?=Ga b)/\∀p q,(p,q)∈Qdh c->(Gf,tg ts p,tg ts q)∈tl:=by
 constructor
 ·intro a b h;obtain⟨j,d⟩:=List.mem_iff_getElem?.mp h;obtain⟨p,q,h1,h2,f⟩:=R3 R d;exact⟨p,q,Vv.mpr ((e p q).mpr (List.mem_of_getElem? h1)),h2,f⟩
 ·intro p q h;obtain⟨j,d⟩:=List.mem_iff_getElem?.mp ((e p q).mp (Vv.mp h));obtain⟨b,h1,h2⟩:=Qbz R d;rw[Qcp h1]at h2;exact List.mem_of_getElem? h2
theorem Qmd{b:Tl}(R:Qeh ts ens tl)(hS:∀e∈ens,e.2.1∈x.S/\e.2.2∈x.S)(cg:∀p∈x.S,∀q∈x.S,x.lead p=x.lead q↔Cg b (tg ts p) (tg ts q))(h:Qxh x ens Gg):∀a c,(Gq,a,c)∈tl->¬Cg b a c:=λa c i f=>by obtain⟨j,g⟩:=List.mem_iff_getElem?.mp i;obtain⟨p,q,h1,h2,d⟩:=R3 R g;obtain⟨k,l⟩:=hS _ (List.mem_of_getElem? h1);refine h j p q h1 ((cg p k q l).mpr ?_);rw[V9 h2,V9 d];exact f
theorem Ql8{a:Tl}{n:Nat}(R:Qeh ts ens tl)(hS:∀e∈ens,e.2.1∈x.S/\e.2.2∈x.S)(cg:∀p∈x.S,∀q∈x.S,x.lead p=x.lead q↔Cg a (tg ts p) (tg ts q))(h:Qxh x ens (Ga n)):
  ∃p q,ens[n]?=Ga (unl p q)/\x.lead p=x.lead q/\p∈x.S/\q∈x.S/\Lst tl a n (tg ts p) (tg ts q):=by
 obtain⟨⟨p,q,h1,h2⟩,r⟩:=h;obtain⟨l,o⟩:=hS _ (List.mem_of_getElem? h1);obtain⟨b,hb,g⟩:=Qbz R h1;rw[Qjs hb]at g;refine⟨p,q,h1,h2,l,o,g,(cg p l q o).mp h2,λj w y t c s=>?_⟩;obtain⟨k,m,i,u,v⟩:=R3 R c;obtain⟨d,f⟩:=hS _ (List.mem_of_getElem? i);refine r j k m t i ((cg k d m f).mpr ?_);rw[V9 u,V9 v];exact s
structure Qef(K:Gd)(mg:Ta->Option Value)(C:Gc):Prop where
 cl:Cls K C
 places:Yn K C "places"
 told:Yn K C "told"
 entries:Yn K C "entries"
 mgC:mg "Book"=Ga (.ref C)
 no:∃u,mg "NO_MOMENT"=Ga u/\RelV (.str "no moment") u
structure Lng(fs:List Fm)(x:Nn):Prop where
 inv:Xz (Yc fs) (Zk fs) x []
 fok:Qel fs x.S
 len:x.S.length<=60
 lk:x.links.length<64
 few:∀p,(Zk fs p).length<=100
def Rv(P:Gk)(w:Gv)(C CP c:Gc):Sp:=λvs H Q _=>∃(bk p a f d t e:Gc)(ts:List Th)(tl:Tl)(n:Gc)(A:Na)(tb:Nat)(x:Nn)(ev:V)(k:Ta)(p1 p2:Nat),vs=[.ref bk,.ref n,ev]/\Vj P w CP c H bk p a f d t e ts tl/\Qcw H ev (k,p1,p2)/\Z5 P w C H n A (tfs ts) tb x/\Lng (tfs ts) x/\p1∈x.S/\p2∈x.S/\x.lead p1=x.lead p2/\
 ∀(v:V)(ls:List Ln)(H':Hp),Qz H H'->Wl H' (λb=>∃o,H b=Ga o) v (ls.map (lth ts))->(∀l∈ls,l.1<ts.length/\l.2.1<ts.length)->Gdl (tfs ts) x.links ls->(∃r,ls.getLast?=Ga (p1,p2,r))->Q v H'
section
variable{P:Gk}{w:Gv}{K:Gd}{mg:Ta->Option Value}{base:Heap}
theorem Vj.same{CP c:Gc}{H H':Hp}{bk p a f d t e:Gc}{ts:List Th}{tl:Tl}(B:Vj P w CP c H bk p a f d t e ts tl)(g:Qz H H'):Vj P w CP c H' bk p a f d t e ts tl:=by obtain⟨dx,l⟩:=B.ob;obtain⟨vs,m,n⟩:=B.to;obtain⟨es,b,i,j,k⟩:=B.en;exact⟨⟨dx,g _ _ l⟩,B.pl.same g,⟨vs,g _ _ m,n.Ql (Qt.of g)⟩,⟨es,b,g _ _ i,L2.Paired.Z7 j λ_ _ h=>h.Ql (Qt.of g),k⟩,B.ta,B.tf,B.te,B.ea,B.ef⟩
theorem Qj8:Qv ["self","net","entry"] ["self","net","entry"] (Qk Im):=by eq_refl
theorem Qh0(F:Wu K "lines_for" "Book.lines_for" Im f0 fd)(T:Qef K mg CB)(TP:Qee K mg CP)(G:Qr P w K mg base Z3 6 fB fdB ["things","net","one","other"] (Qis P w C))(z:KI K fB)(m:Binds K fdB ["things","net","one","other"] [])(D:MG mg "lines_between" fB):
  Qr P w K mg base Z3 7 f0 fd ["self","net","entry"] (Rv P w C CP CB):=by
 refine F.ok Qj8 (λvs H Q E h=>?_) (λcdv A outer s H vs Q E y h=>?_)
 ·obtain⟨bk,p,a,f,d,t,e,ts,tl,n,A,tb,x,ev,k,p1,p2,rfl,_⟩:=h;rfl
 obtain⟨bk,p,a,f,d,t,e,ts,tl,n,A,tb,x,ev,k,p1,p2,rfl,B,⟨c,rfl,j⟩,X,i,L,M,o,q⟩:=h;refine⟨_,Qh (Qu (Zy G y rfl D z m .nil Q4 (Qa (Qm (Qm (pv 0) rfl) rfl) (Qa (pv 1) (Qa (Qn Q5 (pv 2) Qj) (Qa (Qn Q5 (pv 2) Qj) Qe)))))),?_⟩;obtain⟨dx,I⟩:=B.ob;obtain⟨dp,J⟩:=B.pl.ob;obtain⟨us,N,l⟩:=B.pl.th;refine⟨_,Xb,bk,CB,dx,_,_,Xb,I,T.cl,T.places,Ur _ _ _,p,CP,dp,_,_,Xb,J,TP.cl,TP.nT,Qo9 _ _ _,_,Xb,_,Xb,c,_,_,_,Xb,Xb,Z2.of j,Iw _ _ _,_,Xb,c,_,_,_,Xb,Xb,Z2.of j,Qhs _ _ _ _,a,n,A,tfs ts,tb,x,us,p1,p2,Xb,X,i.inv,i.fok,L,M,o,i.len,i.lk,i.few,N,by rw[W9,l.length],λv ls H' g u r b=>?_⟩;obtain⟨l1,l2⟩:=Qrv (l.same g) u;exact q v ls H' g l1 l2 r b
end
theorem Nok.same{P:Gk}{w:Gv}{C:Gc}{H0 H H':Hp}{n:Gc}{A:Na}{fs:List Fm}{tb:Nat}{x:Nn}(N:Nok P w C H0 H n A fs tb x)(g:Qz H H'):Nok P w C H0 H' n A fs tb x:=⟨N.at_.same g,N.inv,N.fok,N.new,N.nn,N.Oy.trans g,N.len,N.tt,N.cl,N.tbb⟩
theorem Nok.lng(N:Nok P w C H0 H n A fs tb x)(few:∀p,(Zk fs p).length<=100):Lng fs x:=⟨N.inv,N.fok,N.len,by have:=N.cl;have:=N.len;omega,few⟩
theorem Nok.room(N:Nok P w C H0 H n A fs tb x):x.S.length<=10000/\Vs x<=10000/\cls x+x.links.length<=10000/\tb+cls x*Vs x<=900000:=by
 have b:=N.len;have a:=N.tt;have c:=N.cl;have d:=N.tbb;have e:x.links.length*Vs x+cls x*Vs x<=60*6000:=by rw[<-Ef];exact FK (by omega) a
 exact⟨by omega,by omega,by omega,by omega⟩
def Qv3(P:Gk)(w:Gv)(CP c:Gc):Sp:=λvs H Q _=>∃(bk p a f d t e:Gc)(ts:List Th)(tl:Tl)(U:List Th)(ev:V)(p1 p2:Nat),vs=[.ref bk,ev]/\Vj P w CP c H bk p a f d t e ts tl/\Few U ts tl/\Qcw H ev (("ask":Ta),p1,p2)/\p1<ts.length/\p2<ts.length/\
 ∀(v:V)(H':Hp),Qz H H'->Jj H' (λb=>∃o,H b=Ga o) tl (.ask (tg ts p1) (tg ts p2)) v->Q v H'
variable{w:Ta}
theorem Qpo(R:Qeh ts ens tl):∀e∈ens,e.2.1<ts.length/\e.2.2<ts.length:=λe c=>by obtain⟨j,d⟩:=List.mem_iff_getElem?.mp c;obtain⟨y,_,_,a,b⟩:=Qx R d;exact⟨(List.getElem?_eq_some_iff.mp a).1,(List.getElem?_eq_some_iff.mp b).1⟩
theorem Qdn(h:∃r,ls.getLast?=Ga (p,q,r)):∃r,(ls.map (lth ts)).getLast?=Ga (tg ts p,tg ts q,r):=by obtain⟨r,h⟩:=h;exact⟨r,by rw[List.getLast?_map,h];rfl⟩
section
variable{P:Gk}{w:Gv}{K:Gd}{mg:Ta->Option Value}{base:Heap}
theorem Qv7:Qv ["self","entry","net","apart","number"] ["self","entry"] (Qk Qvn):=by eq_refl
theorem Qyh{fE fM:Gc}{an ao am:Tt}(F:Wu K "ask" "Book.ask" Qvn f0 fd)(T:Qef K mg CB)(TP:Qee K mg CP)(TN:V5 K mg C)
  (GN:Qr P w K mg base Z3 61 fN fdN ["forms","told"] (Qf1 P w C))(kN:KI K fN)(bN:Binds K fdN ["forms","told"] [])(mN:MG mg "net_of" fN)
  (mE:Z8 K C "equal" fE)(GE:Qr P w K mg base Z3 1 fE an ["self","one","other"] (Qbs P w C))(bE:Binds K an ["self","one","other"] [])(mR:Z8 K C "rows" fR)(GR:Qr P w K mg base Z3 2 fR fdR ["self"] (Qr8 P w C))(bR:Binds K fdR ["self"] [])
  (mM:Z8 K C "merge" fM)(GM:Qr P w K mg base Z3 4 fM ao ["self","one","other","reason"] (Qf9 P w C))(bM:Binds K ao ["self","one","other","reason"] [])
  (GC:Qr P w K mg base Z3 2 fC am ["net","entries"] (Qgz P w C))(kC:KI K fC)(bC:Binds K am ["net","entries"] [])(mC:MG mg "least_clash" fC)
  (mL:Z8 K CB "lines_for" fL)(GL:Qr P w K mg base Z3 7 fL fdL ["self","net","entry"] (Rv P w C CP CB))(bL:Binds K fdL ["self","net","entry"] []):
  Qr P w K mg base Z3 62 f0 fd ["self","entry"] (Qv3 P w CP CB):=by
 refine F.ok Qv7 (λvs H Q E h=>?_) (λcdv A outer s H vs Q E hr h=>?_)
 ·obtain⟨bk,p,a,f,d,t,e,ts,tl,U,ev,p1,p2,rfl,_⟩:=h;rfl
 obtain⟨bk,p,a,f,d,t,e,ts,tl,U,ev,p1,p2,rfl,B,FW,⟨i,rfl,D⟩,aq,ar,q⟩:=h;have aQ:Z9 1 _:=hr.mono (by omega);have ah:Z9 2 _:=hr.mono (by omega);have aR:Z9 4 _:=hr.mono (by omega);have av:Z9 7 _:=hr.mono (by omega);have nd:=Qv7.nd;refine⟨_,Qd (Qs 2 nd (Zy GN hr rfl mN kN bN .nil Q4 (Qa (Qm (Qm (pv 0) rfl) rfl) (Qa (Zo Uc (Qm (pv 0) rfl) (Zt (Qa (pv 1) Qe))) Qe))))
  (Qd (Zn (Xu (Q9 (pv 2) TN.cl mE GE aQ bE .nil Q4 (Qa (Qn Q5 (pv 1) Qj) (Qa (Qn Q5 (pv 1) Qj) Qe))))
   (Qh (Qu (Za (Qa Zf (Qa (Q9 (pv 0) T.cl mL GL av bL .nil Q4 (Qa (pv 2) (Qa (pv 1) Qe))) Qe))))) Q6)
  (Qd (Qs 3 nd (Qhx (pv 2) TN.cl mR GR ah bR .nil Q4))
  (Qd (Ze (Q9 (pv 2) TN.cl mM GM aR bM .nil Q4 (Qa (Qn Q5 (pv 1) Qj) (Qa (Qn Q5 (pv 1) Qj) (Qa (Za (Qa Zf Qe)) Qe)))))
  (Qd (Qs 4 nd (Zy GC ah rfl mC kC bC .nil Q4 (Qa (pv 2) (Qa (Qm (pv 0) rfl) Qe))))
  (Qd (Zn (Qp Oc (pv 4) Uh (Q3 _))
   (Qh (Qu (Za (Qa Zf (Qa (pv 4) (Qa (Q9 (pv 0) T.cl mL GL av bL .nil Q4 (Qa (pv 2) (Qa (Qn Zi (Qm (pv 0) rfl) (pv 4)) Qe))) Qe)))))) Q6)
  (Qh (Qu (Za (Qa Zf (Qa (pv 3) (Qa (Qhx (pv 2) TN.cl mR GR ah bR .nil Q4) Qe))))))))))),?_⟩
 obtain⟨dx,o1⟩:=B.ob;obtain⟨dp,o2⟩:=B.pl.ob;obtain⟨ws,f1,f2⟩:=B.pl.fo;obtain⟨es,g,e1,e2,R⟩:=B.en;have G:=B.pl.nd;have k:=B.pl.cl;have ab:=FW.le G;obtain⟨TK,aB⟩:=Qwo G k (λt ht=>FW.good t (FW.sub t ht)) ab;have aT:es.length=tl.length:=(Gr e2).trans (Gr R);have aU:=FW.tl;refine⟨_,Xb,bk,CB,dx,_,_,Xb,o1,T.cl,T.places,Ur _ _ _,p,CP,dp,_,_,Xb,o2,TP.cl,TP.nF,Qh3 _ _ _,_,Xb,bk,CB,dx,_,_,Xb,o1,T.cl,T.entries,Vy _ _ _,_,Xb,by show 1<=Gi;decide,λr0 aP=>?_⟩;have s0:=Qg aP (.lst [.ref i]);refine⟨e,r0,es,[.ref i],Xb,Xb,s0 _ _ e1,Qb,by rw[GQ];simp only[List.length_singleton];omega,λr1 au=>?_⟩;have s1:=s0.trans (Qg au (.lst (es++[.ref i])));have g1:(upd (upd H r0 (.lst [.ref i])) r1 (.lst (es++[.ref i]))) r1=Ga (.lst (es++[.ref i])):=Qb;generalize upd (upd H r0 (.lst [.ref i])) r1 (.lst (es++[.ref i]))=H1 at s1 g1;have al:=Qt.of s1;have aA:Paired (Qcw H1) (es++[.ref i]) (g++[(("ask":Ta),p1,p2)]):=DE (L2.Paired.Z7 e2 λ_ _ h=>h.Ql al) ⟨i,Xb,al _ _ D⟩;refine⟨f,r1,ws,_,tfs ts,_,_,Xb,s1 _ _ f1,L2.Paired.Z7 f2 λ_ _ h=>h.Ql al,g1,aA,TK,by rw[W9];exact ab,aB,λen ag=>?_,by rw[<-Gr aA,List.length_append,List.length_singleton];omega,λn A tb x H2 N _ U=>?_⟩
 ·rw[W9];rcases List.mem_append.mp ag with h|h
  ·exact Qpo R en h
  ·have:en=(("ask":Ta),p1,p2):=by simpa using h
   rw[this];exact⟨aq,ar⟩
 have S2:Qz H H2:=s1.trans N.Oy;have J:∀p q,sme p q∈g++[(("ask":Ta),p1,p2)]↔sme p q∈g:=λp q=>by
  rw[List.mem_append];constructor
  ·rintro(h|h)
   ·exact h
   ·rw[List.mem_singleton]at h;exact absurd (show("same":Ta)="ask"from congrArg (·.1) h) (by decide+kernel)
  ·exact .inl
 obtain⟨aC,aD⟩:=Qjl R J;have EQ:=Qly U;have ac:∀p∈x.S,∀q∈x.S,x.lead p=x.lead q↔Cg tl (tg ts p) (tg ts q):=λp hp q hq=>EQ.cg G k N.inv N.fok aC aD hp hq;have M:∀a b n,(a,b,Ga (.told n))∈x.links->tl[n]?=Ga (Gf,tg ts a,tg ts b):=λa b n h=>by
  rcases U.rsn _ h with z|⟨j,p',q',h1,h2⟩
  ·cases z
  ·cases h1;have hj:n<g.length:=by
    rcases Tk n g.length with h|h
    ·exact h
    ·rw[List.getElem?_append_right h]at h2;have:n - g.length=0:=by
      rcases Tk (n - g.length) 1 with h'|h'
      ·omega
      ·rw[List.getElem?_eq_none (by simpa using h')]at h2;cases h2
     rw[this]at h2;have h2:((("ask":Ta),p1,p2):En)=sme a b:=by simpa using h2
     exact absurd (show("ask":Ta)="same"from congrArg (·.1) h2) (by decide+kernel)
   rw[List.getElem?_append_left hj]at h2;obtain⟨b',h3,h4⟩:=Qbz R h2;rw[Qcp h3]at h4;exact h4
 have L:∀a b,¬(a,b,Ga U3.asked)∈x.links:=λa b h=>by
  rcases U.rsn _ h with z|⟨j,p',q',h1,h2⟩
  ·cases z
  ·cases h1
 obtain⟨W,X⟩:=U.ins (("ask":Ta),p1,p2) (by simp);have W:p1∈x.S:=W;have X:p2∈x.S:=X;have aa:∀en∈g,en.2.1∈x.S/\en.2.2∈x.S:=λen ag=>U.ins en (List.mem_append_left _ ag);obtain⟨dn,on⟩:=N.at_.ob;refine⟨_,Xb,n,dn,_,Xb,on,Qdy _,_,Xb,i,_,_,_,Xb,Xb,Z2.of (S2 _ _ D),Iw _ _ _,_,Xb,i,_,_,_,Xb,Xb,Z2.of (S2 _ _ D),Qhs _ _ _ _,n,A,_,tb,x,p1,p2,Xb,N.at_,W,X,_,Xb,?_⟩;by_cases I:x.lead p1=x.lead p2
 ·rw[GX I];refine Yr ?_;have hC:=(ac p1 W p2 X).mp I;refine⟨_,Xb,bk,dx,_,Xb,S2 _ _ o1,Jr _ _ _,_,Xb,_,Xb,bk,p,a,f,d,t,e,ts,tl,n,A,tb,x,.ref i,_,p1,p2,Xb,B.same S2,⟨i,Xb,S2 _ _ D⟩,N.at_,N.lng TK.few,W,X,I,λlv ls H3 g3 hl hb hg l=>?_⟩;refine⟨by show 2<=Gi;decide,λc5 aL=>?_⟩;have s5:=Qg aL (.tup [.str "equal",lv]);refine q _ _ ((S2.trans g3).trans s5) (.inl ⟨hC,c5,lv,ls.map (lth ts),Xb,Qb,(hl.ex λc ys _ J⟨o,ho⟩=>J ⟨o,S2 _ _ ho⟩).kp (Qt.of s5) (λe _=>s5 _ _ e),Qkh k hg hb M (λa b h=>absurd h (L a b)),Qdn l⟩)
 ·rw[Gz I];refine Zp ?_;have hC:¬Cg tl (tg ts p1) (tg ts p2):=λz=>I ((ac p1 W p2 X).mpr z);refine⟨_,Xb,n,dn,_,Xb,on,Qm2 _,n,A,_,tb,x,Xb,N.at_,N.fok,N.inv,by have:=N.len;omega,λv1 aE H3 g3 aw W1=>?_⟩;have S3:=S2.trans g3;have N3:=N.same g3;refine⟨_,Xb,n,dn,_,Xb,g3 _ _ on,Qji _,_,Xb,i,_,_,_,Xb,Xb,Z2.of (S3 _ _ D),Iw _ _ _,_,Xb,i,_,_,_,Xb,Xb,Z2.of (S3 _ _ D),Qhs _ _ _ _,by show 1<=Gi;decide,λc4 aK=>?_⟩;have s4:=Qg aK (.tup [.str "asked"]);have N4:=N3.same s4;obtain⟨z1,z2,z3,z4⟩:=N.room;refine⟨n,A,_,tb,x,p1,p2,.ref c4,Ga .asked,Xb,N4.at_,N.fok,⟨c4,Xb,Qb⟩,by simp,W,X,N.inv,z1,z2,z3,z4,λZ H5 Y5 M5 F5=>?_⟩;have N5:=N4.merged Y5 M5 F5;have S5:Qz H H5:=s1.trans N5.Oy;have aH:=Quu EQ M5 W X;have eS:=M5.S;have ad:∀p∈Z.S,∀q∈Z.S,Z.lead p=Z.lead q↔Cg (tl++[(Gf,tg ts p1,tg ts p2)]) (tg ts p) (tg ts q):=λp hp q hq=>aH.cg G k N5.inv N5.fok (λa b h=>by
   rcases List.mem_append.mp h with h|h
   ·obtain⟨u,v,h1,h2⟩:=aC a b h;exact⟨u,v,List.mem_append_left _ h1,h2⟩
   ·have:(Gf,a,b)=(Gf,tg ts p1,tg ts p2):=by simpa using h
    cases this;exact⟨p1,p2,by simp,We aq,We ar⟩) (λu v h=>by
   rcases List.mem_append.mp h with h|h
   ·exact List.mem_append_left _ (aD u v h)
   ·have:(u,v)=(p1,p2):=by simpa using h
    cases this;simp) hp hq
  have r:∀en∈g,en.2.1∈Z.S/\en.2.2∈Z.S:=by rw[eS];exact aa
  refine⟨_,Xb,_,Xb,bk,CB,dx,_,_,Xb,S5 _ _ o1,T.cl,T.entries,Vy _ _ _,n,e,A,_,_,Z,es,g,Xb,N5.at_,S5 _ _ e1,L2.Paired.Z7 e2 λ_ _ h=>h.Ql (Qt.of S5),r,λo H6 g6 ap=>?_⟩;have O:=S5.trans g6;have N6:=N5.same g6;have aG:∀{c:Gc}{ys:List V},H3 c=Ga (.tup ys)->H6 c=Ga (.tup ys):=λ{c ys}ec=>g6 _ _ (F5.keep _ _ (s4 _ _ ec) (N4.at_.Qk4 (s4 _ _ ec)));have az:∀{c:Gc}{ys:List V},H3 c=Ga (.lst ys)->¬(∃o,H2 c=Ga o)->H6 c=Ga (.lst ys):=λ{c ys}ec J=>g6 _ _ (F5.keep _ _ (s4 _ _ ec) (λz=>J (by have:=N.at_.own z;rcases this with⟨_,h⟩|⟨_,h⟩|⟨_,h⟩|⟨_,h⟩<;>exact⟨_,h⟩)))
  have ai:=(aw.kp aG az).ex (Y:=λb=>∃o,H b=Ga o) λc ys _ J⟨o,ho⟩=>J ⟨o,S2 _ _ ho⟩;refine⟨_,Xb,Xb,_,Xb,?_⟩;rw[Qgq];cases o with
  |some m=>
   refine Yr ?_;obtain⟨p',q',h1,h2,aj,ak,aN⟩:=Ql8 R r ad ap;have hm:m<es.length:=by rw[Gr e2];exact(List.getElem?_eq_some_iff.mp h1).1
   obtain⟨y,hy,ay⟩:=Qx e2 (List.getElem?_eq_getElem hm);rw[h1]at hy;cases hy;obtain⟨cm,aJ,aM⟩:=ay;refine⟨_,Xb,_,Xb,bk,dx,_,Xb,O _ _ o1,Jr _ _ _,_,Xb,_,Xb,bk,CB,dx,_,_,Xb,O _ _ o1,T.cl,T.entries,Vy _ _ _,_,Xb,e,es,_,_,Xb,Xb,Zc.of (O _ _ e1),Qy (List.getElem?_eq_getElem hm),bk,p,a,f,d,t,e,ts,tl,n,A,_,Z,_,_,p',q',Xb,B.same O,⟨cm,aJ,O _ _ aM⟩,N6.at_,N6.lng TK.few,aj,ak,h2,λlv ls H7 g7 hl hb hg l=>?_⟩;refine⟨by show 3<=Gi;decide,λc8 af=>?_⟩;have s8:=Qg af (.tup [.str "unlike",jv m,lv]);refine q _ _ ((O.trans g7).trans s8) (.inr (.inl ⟨hC,c8,m,_,_,lv,ls.map (lth ts),Xb,Qb,aN,(hl.ex λc ys _ J⟨o,ho⟩=>J ⟨o,O _ _ ho⟩).kp (Qt.of s8) (λe _=>s8 _ _ e),Qkh k hg hb (λa b n h=>?_) (λa b h=>?_),Qdn l⟩))
   ·rcases M5.rsn _ h with z|z|z
    ·exact M a b n z
    ·cases z
    ·cases z
   ·rcases M5.rsn _ h with z|z|z
    ·exact absurd z (L a b)
    ·cases z;rfl
    ·cases z
  |none=>refine Zp ?_;have aO:=Qmd R r ad ap;obtain⟨aI,aS⟩:=N6.at_.ob;refine⟨_,Xb,_,Xb,n,aI,_,Xb,aS,Qm2 _,n,A,_,_,Z,Xb,N6.at_,N6.fok,N6.inv,by have:=N6.len;omega,λv2 aF H7 g7 ax W2=>?_⟩;refine⟨by show 3<=Gi;decide,λc8 af=>?_⟩;have s8:=Qg af (.tup [.str "open",v1,v2]);have ae:=g7.trans s8;refine q _ _ (O.trans ae) (.inr (.inr ⟨hC,aO,c8,v1,v2,aE,aF,x.S.map (tg ts),Xb,Qb,ai.kp (λe=>ae _ _ e) (λe _=>ae _ _ e),(ax.ex λc ys _ J⟨o,ho⟩=>J ⟨o,O _ _ ho⟩).kp (λe=>s8 _ _ e) (λe _=>s8 _ _ e),Qp2 G k N.fok W1 ac,by rw[<-eS];exact Qp2 G k N5.fok W2 ad,List.mem_map.mpr ⟨p1,W,Xb⟩,List.mem_map.mpr ⟨p2,X,Xb⟩,λb a c hm=>?_⟩));obtain⟨j,hj⟩:=List.mem_iff_getElem?.mp hm;obtain⟨p',q',h1,h2,h3⟩:=R3 R hj;obtain⟨aj,ak⟩:=aa _ (List.mem_of_getElem? h1);exact⟨List.mem_map.mpr ⟨p',aj,V9 h2⟩,List.mem_map.mpr ⟨q',ak,V9 h3⟩⟩
end
theorem Qsg(xs:List V){i:Int}(a:0<=i)(h1:i<=(xs.length:Int)):Uw xs Gg (Ga i)=xs.take i.toNat:=by
 unfold Uw;rw[HT.Og];have:HT.Wg xs.length xs.length (Ga i)=i.toNat:=by show(if i<0 then(i+(xs.length:Int)).toNat else min i.toNat xs.length)=_;rw[Gh (by omega)];omega
 rw[this];simp
theorem Qv8(a f d p t e:Gc){c dx b:Gc}:HO.ins C dx (Ju a f d)=HO.ins c b (Wo p t e)->False:=λz=>by injection z with _ _ z;unfold Ju Wo at z;injection z with z _;injection z with z _;exact absurd z (by decide+kernel)
theorem Qqb(R:Qeh ts ens tl)(k:Nat):Qeh ts (ens.take k) (tl.take k):=by
 induction R generalizing k with
 |nil=>simp;exact .nil
 |cons h t a=>
  cases k with
  |zero=>exact .nil
  |succ k=>exact .cons h (a k)
theorem Qay{β:Type}{F:α->β->Prop}{xs:List α}{ys:List β}(R:Paired F xs ys)(k:Nat):Paired F (xs.take k) (ys.take k):=by
 induction R generalizing k with
 |nil=>simp;exact .nil
 |cons h t a=>
  cases k with
  |zero=>exact .nil
  |succ k=>exact .cons h (a k)
structure FrK(bk t:Gc)(H H':Hp):Prop where
 keep:∀b o,H b=Ga o->b≠bk->b≠t->H' b=Ga o
 there:∀b,H' b=Gg->H b=Gg
variable{p:Gc}
def Qq2(P:Gk)(w:Gv)(CP g:Gc):Sp:=λvs H Q _=>∃(bk p a f d t e:Gc)(ts:List Th)(tl:Tl)(U:List Th)(h ev:V)(b:Bool)(p1 p2:Nat),vs=[.ref bk,h,ev]/\Vj P w CP g H bk p a f d t e ts tl/\Few U ts tl/\Qbh H h (.tell b (tg ts p1) (tg ts p2))/\Qcw H ev (tw b,p1,p2)/\p1<ts.length/\p2<ts.length/\
 ∀(v:V)(c:Gc)(H':Hp),Vj P w CP g H' bk p a f d t c ts (Vf tl (.tell b (tg ts p1) (tg ts p2))).1->Jj H' (λb=>∃o,H b=Ga o) tl (.tell b (tg ts p1) (tg ts p2)) v->FrK bk t H H'->(c=e\/H c=Gg)->Q v H'
def Qiy(P:Gk)(w:Gv)(CP c:Gc):Sp:=λvs H Q _=>∃(bk p a f d t e:Gc)(ts:List Th)(tl:Tl)(i:Int),vs=[.ref bk,.int i]/\Vj P w CP c H bk p a f d t e ts tl/\
 ∀(v:V)(t' b:Gc)(H':Hp),Vj P w CP c H' bk p a f d t' b ts (Vf tl (.back i)).1->v=(Vf tl (.back i)).2->FrK bk bk H H'->(t'=t\/H t'=Gg)->(b=e\/H b=Gg)->Q v H'
section
variable{P:Gk}{w:Gv}{K:Gd}{mg:Ta->Option Value}{base:Heap}
theorem Qiq:Qv ["self","moment","forgotten"] ["self","moment"] (Qk Qbr):=by eq_refl
theorem Qnr(F:Wu K "go_back" "Book.go_back" Qbr f0 fd)(T:Qef K mg CB)(X:Jl mg):Qr P w K mg base Z3 1 f0 fd ["self","moment"] (Qiy P w CP CB):=by
 refine F.ok Qiq (λvs H Q E h=>?_) (λcdv A outer s H vs Q E hr h=>?_)
 ·obtain⟨bk,p,a,f,d,t,e,ts,tl,i,rfl,_⟩:=h;rfl
 obtain⟨bk,p,a,f,d,t,e,ts,tl,i,rfl,B,q⟩:=h;obtain⟨nu,n1,n2⟩:=T.no;have nd:=Qiq.nd;refine⟨_,Qd (Qs 2 nd (Zo Qc6 (Qo Zb rfl X.len GO (Qa (Qm (pv 0) rfl) Qe)) (pv 1)))
  (Qd (Zn (PW.pt (R5 (Qp Ob (pv 1) Qj (Q3 _)) (Rh (Qp Ob (pv 2) Qj (Q3 _))))) (Qh (Qu (Oi rfl n1 n2))) Q6)
  (Qd (Yu (pv 0) (Ys Vq (Qm (pv 0) rfl) Xt (Yt (pv 1))) rfl)
  (Qd (Yu (pv 0) (Ys Vq (Qm (pv 0) rfl) Xt (Yt (pv 1))) rfl)
  (Qh (Qu (pv 2)))))),?_⟩
 obtain⟨dx,g⟩:=B.ob;obtain⟨dp,op⟩:=B.pl.ob;obtain⟨vs,V,W⟩:=B.to;obtain⟨es,aa,O,S,R⟩:=B.en;have lv:=Gr W;have le:=(Gr S).trans (Gr R);refine⟨_,Xb,bk,CB,dx,_,_,Xb,g,T.cl,T.told,Qb1 _ _ _,t,vs,Xb,.inl (Zc.of V),_,Xb,_,_,Xb,Xb,?_⟩;refine⟨_,Xb,_,_,Xb,Xb,_,Xb,?_⟩;have no:¬(0<=i/\i<=(tl.length:Int))->Q (.str "no moment") H:=λh=>q _ t e H (by simp only[Vf];rw[Gh h];exact B) (by simp only[Vf];rw[Gh h]) ⟨λ_ _ e _ _=>e,λ_ h=>h⟩ (.inl Xb) (.inl Xb);by_cases hi:i<0
 ·rw[GX hi];refine Yr (Yr ?_);exact no (λz=>by omega)
 rw[Gz hi];refine Zp ⟨_,Xb,_,_,Xb,Xb,_,Xb,?_⟩;by_cases U:(vs.length:Int) - i<0
 ·rw[GX U];refine Yr ?_;exact no (λz=>by omega)
 rw[Gz U];refine Zp ?_;have C:0<=i:=by omega
 have h1:i<=(tl.length:Int):=by omega
 refine⟨_,Xb,bk,CB,dx,_,_,Xb,g,T.cl,T.told,Qb1 _ _ _,_,Xb,_,Xb,t,vs,Xb,Zc.of V,λt' k=>?_⟩;rw[Qsg vs C (by omega)];have s1:=Qg k (.lst (vs.take i.toNat));refine⟨_,Xb,bk,CB,dx,_,Xb,s1 _ _ g,T.cl,T.told,by show 3<1000;decide,?_⟩;rw[Qoy];have u:bk≠t':=Qc g k;have Z:e≠bk:=Yb O g nofun;generalize l:upd (upd H t' (.lst (vs.take i.toNat))) bk (.ins CB dx (Wo p t' e))=H2;have D:∀{b o},H b=Ga o->b≠bk->H2 b=Ga o:=λe h=>by rw[<-l];exact Qi (s1 _ _ e) h
 have M:H2 bk=Ga (.ins CB dx (Wo p t' e)):=by rw[<-l];exact Qb
 have x:H2 t'=Ga (.lst (vs.take i.toNat)):=by rw[<-l];exact Qi Qb (Gp u)
 have v:∀{b},H2 b=Gg->H b=Gg:=λ{b}h=>by rw[<-l]at h;exact s1.free (Zz h)
 refine⟨_,Xb,bk,CB,dx,_,_,Xb,M,T.cl,T.entries,Vy _ _ _,_,Xb,_,Xb,e,es,Xb,Zc.of (D O Z),λn c=>?_⟩;rw[Qsg es C (by omega)];have G:=Qg c (.lst (es.take i.toNat));refine⟨_,Xb,bk,CB,dx,_,Xb,G _ _ M,T.cl,T.entries,by show 3<1000;decide,?_⟩;rw[Od];have L:bk≠n:=Qc M c;have N:t'≠n:=Qc x c;generalize j:upd (upd H2 n (.lst (es.take i.toNat))) bk (.ins CB dx (Wo p t' n))=y;have r:∀{b o},H b=Ga o->b≠bk->y b=Ga o:=λe h=>by rw[<-j];exact Qi (G _ _ (D e h)) h
 have m:Qt H y:=λb xs e=>r e (Yb e g nofun);obtain⟨us,I,_⟩:=B.pl.th;obtain⟨ws,J,_⟩:=B.pl.fo;obtain⟨kvs,d1,_⟩:=B.pl.kn;have Y:Vj P w CP CB y bk p a f d t' n ts (tl.take i.toNat):=by
  refine⟨⟨dx,by rw[<-j];exact Qb⟩,B.pl.keep (λo e=>r e (Yb op g (Qv8 _ _ _ _ _ _))) (λo e=>r e (Yb I g nofun)) (λo e=>r e (Yb J g nofun)) (λo e=>r e (Yb d1.at_ g nofun)) m,⟨_,by rw[<-j];exact Qi (G _ _ x) (Gp u),Uj.Ql m (Qay W _)⟩,⟨_,_,by rw[<-j];exact Qi Qb (Gp L),L2.Paired.Z7 (Qay S _) λ_ _ h=>h.Ql m,Qqb R _⟩,Gp (Qc I k),Gp (Qc J k),N,?_,?_⟩
  ·exact Gp (Qc (D I (Yb I g nofun)) c)
  ·exact Gp (Qc (D J (Yb J g nofun)) c)
 refine⟨_,Xb,q _ t' n y (by simp only[Vf];rw[Gm ⟨C,h1⟩];exact Y) (by simp only[Vf];rw[Gm ⟨C,h1⟩,lv]) ⟨λb o e h _=>r e h,λb h=>v (by rw[<-j]at h;exact G.free (Zz h))⟩ (.inr k) (.inr (v c))⟩
theorem Qp0:Qv ["self","deed","entry","entries","net","number"] ["self","deed","entry"] (Qk Qll):=by eq_refl
theorem Qt2{ac:Tt}(F:Wu K "tell" "Book.tell" Qll f0 fd)(T:Qef K mg CB)(TP:Qee K mg CP)(B0:Jl mg)
  (GN:Qr P w K mg base Z3 61 fN fdN ["forms","told"] (Qf1 P w C))(kN:KI K fN)(bN:Binds K fdN ["forms","told"] [])(mN:MG mg "net_of" fN)
  (GC:Qr P w K mg base Z3 2 fC ac ["net","entries"] (Qgz P w C))(kC:KI K fC)(bC:Binds K ac ["net","entries"] [])(mC:MG mg "least_clash" fC)
  (mL:Z8 K CB "lines_for" fL)(GL:Qr P w K mg base Z3 7 fL fdL ["self","net","entry"] (Rv P w C CP CB))(bL:Binds K fdL ["self","net","entry"] []):
  Qr P w K mg base Z3 62 f0 fd ["self","deed","entry"] (Qq2 P w CP CB):=by
 refine F.ok Qp0 (λvs H Q E h=>?_) (λcdv A outer s H vs Q E hr h=>?_)
 ·obtain⟨bk,p,a,f,d,t,e,ts,tl,U,dv,ev,b,p1,p2,rfl,_⟩:=h;rfl
 obtain⟨bk,p,a,f,d,t,e,ts,tl,U,dv,ev,b,p1,p2,rfl,B,FW,av,⟨k,rfl,au⟩,az,aA,q⟩:=h;have aC:Z9 2 _:=hr.mono (by omega);have aD:Z9 7 _:=hr.mono (by omega);have nd:=Qp0.nd;refine⟨_,Qd (Qs 3 nd (Zo Uc (Qm (pv 0) rfl) (Zt (Qa (pv 2) Qe))))
  (Qd (Qs 4 nd (Zy GN hr rfl mN kN bN .nil Q4 (Qa (Qm (Qm (pv 0) rfl) rfl) (Qa (pv 3) Qe))))
  (Qd (Qs 5 nd (Zy GC aC rfl mC kC bC .nil Q4 (Qa (pv 4) (Qa (pv 3) Qe))))
  (Qd (Zn (Qp Oc (pv 5) Uh (Q3 _))
   (Qh (Qu (Za (Qa Zf (Qa (pv 5) (Qa (Q9 (pv 0) T.cl mL GL aD bL .nil Q4 (Qa (pv 4) (Qa (Qn Zi (pv 3) (pv 5)) Qe))) Qe)))))) Q6)
  (Qd (Ze (Xq Gs GF GV Z0 (Qm (pv 0) rfl) (Qa (pv 1) Qe)))
  (Qd (Yu (pv 0) (pv 3) rfl)
  (Qh (Qu (Qo Zb rfl B0.len GO (Qa (pv 3) Qe))))))))),?_⟩
 obtain⟨dx,r⟩:=B.ob;obtain⟨dp,o2⟩:=B.pl.ob;obtain⟨ws,f1,f2⟩:=B.pl.fo;obtain⟨us,u1,_⟩:=B.pl.th;obtain⟨kvs,d1,_⟩:=B.pl.kn;obtain⟨vs,t1,t2⟩:=B.to;obtain⟨es,ab,e1,e2,R⟩:=B.en;have W:=B.pl.nd;have L:=B.pl.cl;have J:=FW.le W;obtain⟨TK,aj⟩:=Qwo W L (λt ht=>FW.good t (FW.sub t ht)) J;have aw:es.length=tl.length:=(Gr e2).trans (Gr R);have aL:vs.length=tl.length:=Gr t2;have aK:=FW.tl;refine⟨_,Xb,bk,CB,dx,_,_,Xb,r,T.cl,T.entries,Vy _ _ _,_,Xb,by show 1<=Gi;decide,λr0 aB=>?_⟩;have s0:=Qg aB (.lst [.ref k]);refine⟨e,r0,es,[.ref k],Xb,Xb,s0 _ _ e1,Qb,by rw[GQ];simp only[List.length_singleton];omega,λi I=>?_⟩;have v:H i=Gg:=s0.free I;have s1:=s0.trans (Qg I (.lst (es++[.ref k])));have g1:(upd (upd H r0 (.lst [.ref k])) i (.lst (es++[.ref k]))) i=Ga (.lst (es++[.ref k])):=Qb;generalize upd (upd H r0 (.lst [.ref k])) i (.lst (es++[.ref k]))=H1 at s1 g1;have Z:=Qt.of s1;have u:Paired (Qcw H1) (es++[.ref k]) (ab++[(tw b,p1,p2)]):=DE (L2.Paired.Z7 e2 λ_ _ h=>h.Ql Z) ⟨k,Xb,Z _ _ au⟩;have R':Qeh ts (ab++[(tw b,p1,p2)]) (tl++[(b,tg ts p1,tg ts p2)]):=DE R ⟨Xb,We az,We aA⟩;refine⟨_,Xb,bk,CB,dx,_,_,Xb,s1 _ _ r,T.cl,T.places,Ur _ _ _,p,CP,dp,_,_,Xb,s1 _ _ o2,TP.cl,TP.nF,Qh3 _ _ _,_,Xb,f,i,ws,_,tfs ts,_,_,Xb,s1 _ _ f1,L2.Paired.Z7 f2 λ_ _ h=>h.Ql Z,g1,u,TK,by rw[W9];exact J,aj,λen ax=>by rw[W9];exact Qpo R' en ax,by rw[<-Gr u,List.length_append,List.length_singleton];omega,λn A tb x H2 N _ U=>?_⟩;have S2:Qz H H2:=s1.trans N.Oy;obtain⟨aH,aI⟩:=Qjl R' (λp q=>Iff.rfl);have EQ:=Qly U;have aa:∀p∈x.S,∀q∈x.S,x.lead p=x.lead q↔Cg (tl++[(b,tg ts p1,tg ts p2)]) (tg ts p) (tg ts q):=λp hp q hq=>EQ.cg W L N.inv N.fok aH aI hp hq;have Y:∀a b' n,(a,b',Ga (.told n))∈x.links->(tl++[(b,tg ts p1,tg ts p2)])[n]?=Ga (Gf,tg ts a,tg ts b'):=λa b' n h=>by
  rcases U.rsn _ h with z|⟨j,p',q',h1,h2⟩
  ·cases z
  ·cases h1;obtain⟨aJ,h3,h4⟩:=Qbz R' h2;rw[Qcp h3]at h4;exact h4
 have X:∀a b,¬(a,b,Ga U3.asked)∈x.links:=λa b h=>by
  rcases U.rsn _ h with z|⟨j,p',q',h1,h2⟩
  ·cases z
  ·cases h1
 refine⟨_,Xb,_,Xb,n,i,A,_,tb,x,_,_,Xb,N.at_,N.Oy _ _ g1,L2.Paired.Z7 u λ_ _ h=>h.Ql (Qt.of N.Oy),U.ins,λo H3 g3 ad=>?_⟩;have G:=S2.trans g3;have N3:=N.same g3;have ag:=N3.Oy _ _ g1;refine⟨_,Xb,Xb,_,Xb,?_⟩;rw[Qgq];cases o with
 |some m=>
  refine Yr ?_;obtain⟨p',q',h1,h2,aE,aF,O⟩:=Ql8 R' U.ins aa ad;have hm:m<(es++[V.ref k]).length:=by rw[Gr u];exact(List.getElem?_eq_some_iff.mp h1).1
  obtain⟨y,hy,af⟩:=Qx u (List.getElem?_eq_getElem hm);rw[h1]at hy;cases hy;obtain⟨cm,ap,ar⟩:=af;refine⟨_,Xb,_,Xb,bk,dx,_,Xb,G _ _ r,Jr _ _ _,_,Xb,_,Xb,_,Xb,i,_,_,_,Xb,Xb,Zc.of ag,Qy (List.getElem?_eq_getElem hm),bk,p,a,f,d,t,e,ts,tl,n,A,_,x,_,_,p',q',Xb,B.same G,⟨cm,ap,N3.Oy _ _ ar⟩,N3.at_,N3.lng TK.few,aE,aF,h2,λlv ls H7 g7 hl hb hg M=>?_⟩;refine⟨by show 3<=Gi;decide,λc8 aq=>?_⟩;have s8:=Qg aq (.tup [.str "clash",jv m,lv]);have S8:=(G.trans g7).trans s8;have g:Ro (tl++[(b,tg ts p1,tg ts p2)]):=⟨_,_,List.mem_of_getElem? O.1,O.2.1⟩;refine q _ e _ (by simp only[Vf];rw[Gm g];exact B.same S8) (.inr ⟨c8,m,_,_,lv,ls.map (lth ts),Xb,Qb,O,(hl.ex λc ys _ hx⟨o,ho⟩=>hx ⟨o,G _ _ ho⟩).kp (Qt.of s8) (λe _=>s8 _ _ e),Qkh L hg hb Y (λa b h=>absurd h (X a b)),Qdn M⟩) ⟨λb o e _ _=>S8 _ _ e,λb h=>S8.free h⟩ (.inl Xb)
 |none=>
  refine Zp ?_;have ay:=Qmd R' U.ins aa ad;have g:¬Ro (tl++[(b,tg ts p1,tg ts p2)]):=λ⟨a,c,h1,h2⟩=>ay a c h1 h2;have t3:=G _ _ t1;refine⟨_,Xb,bk,CB,dx,_,_,Xb,G _ _ r,T.cl,T.told,Qb1 _ _ _,.inl ⟨Xb,_,Zc.of t3⟩,_,Xb,t,vs,_,Xb,Xb,t3,by rw[GQ];omega,?_⟩;have tb:t≠bk:=Yb t1 r nofun;refine⟨_,Xb,_,Xb,bk,CB,dx,_,Xb,Qi (G _ _ r) (Gp tb),T.cl,T.entries,by show 3<1000;decide,?_⟩;rw[Od];have ai:t≠i:=Qc t1 v;have aG:bk≠i:=Qc r v;generalize l:upd (upd H3 t (.lst (vs++[dv]))) bk (.ins CB dx (Wo p t i))=H4;have k4:∀{b o},H b=Ga o->b≠bk->b≠t->H4 b=Ga o:=λe h1 h2=>by rw[<-l];exact Qi (Qi (G _ _ e) h2) h1
  have D:Qt H H4:=λb xs e=>k4 e (Yb e r nofun) (Yb e t1 nofun);have ah:H4 i=Ga (.lst (es++[.ref k])):=by rw[<-l];exact Qi (Qi ag (Gp ai)) (Gp aG)
  have ak:Qt H1 H4:=λc xs ec=>by have:H3 c=Ga (.tup xs):=N3.Oy _ _ ec;rw[<-l];exact Qi (Qi this (Yb this t3 nofun)) (Yb this (G _ _ r) nofun)
  obtain⟨ca,v1,v2,al,am,an,ao⟩:=av;have BK:Vj P w CP CB H4 bk p a f d t i ts (tl++[(b,tg ts p1,tg ts p2)]):=by refine⟨⟨dx,by rw[<-l];exact Qb⟩,B.pl.keep (λo e=>k4 e (Yb o2 r (Qv8 _ _ _ _ _ _)) (Yb o2 t1 nofun)) (λo e=>k4 e (Yb u1 r nofun) (Gp B.ta)) (λo e=>k4 e (Yb f1 r nofun) (Gp B.tf)) (λo e=>k4 e (Yb d1.at_ r nofun) (Yb d1.at_ t1 nofun)) D,⟨_,by rw[<-l];exact Qi Qb tb,DE (t2.Ql D) ⟨ca,v1,v2,al,D _ _ am,an.Ql D,ao.Ql D⟩⟩,⟨_,_,ah,L2.Paired.Z7 u λ_ _ h=>h.Ql ak,R'⟩,B.ta,B.tf,ai,Gp (Qc u1 v),Gp (Qc f1 v)⟩
  refine⟨_,Xb,i,_,Xb,.inl (Zc.of ah),?_⟩;have ae:((es++[V.ref k]).length:Int)=(tl.length:Int)+1:=by rw[List.length_append,List.length_singleton,aw];omega
  rw[ae];exact q _ i H4 (by simp only[Vf];rw[Gh g];exact BK) (.inl ⟨g,Xb⟩) ⟨λb o e h1 h2=>k4 e h1 h2,λb h=>G.free (by rw[<-l]at h;exact Zz (Zz h))⟩ (.inr v)
end
structure FrA(bk a f d t:Gc)(H H':Hp):Prop where
 keep:∀b o,H b=Ga o->b≠bk->b≠a->b≠f->b≠d->b≠t->H' b=Ga o
 there:∀b,H' b=Gg->H b=Gg
def Ow(P:Gk)(w:Gv)(CP i:Gc):Sp:=λvs H Q _=>∃(bk p a f d t e:Gc)(ts:List Th)(tl:Tl)(U:List Th)(j:V)(g:Dd),vs=[.ref bk,j]/\Vj P w CP i H bk p a f d t e ts tl/\Few U ts tl/\Qbh H j g/\g.fits U/\
 ∀(v:V)(t' h:Gc)(c:List Th)(H':Hp),Vj P w CP i H' bk p a f d t' h c (Vf tl g).1->Jj H' (λb=>(∃o,H b=Ga o)\/b=t') tl g v->(∀x∈c,x∈U)->FrA bk a f d t H H'->(t'=t\/H t'=Gg)->(h=e\/H h=Gg)->Q v H'
def Qch(P:Gk)(w:Gv)(CP c:Gc):Sp:=λvs H Q _=>∃(bk dx:Gc),vs=[.ref bk]/\H bk=Ga (.ins c dx [])/\
 ∀(p a f d t e:Gc)(H':Hp),Vj P w CP c H' bk p a f d t e [] []->(∀b o,H b=Ga o->b≠bk->H' b=Ga o)->H a=Gg->H f=Gg->H d=Gg->H t=Gg->H e=Gg->Q .non H'
theorem Qf2{m:List Th}(h:ts[j]?=Ga t):(ts++m)[j]?=Ga t:=by rw[List.getElem?_append_left (List.getElem?_eq_some_iff.mp h).1];exact h
section
variable{P:Gk}{w:Gv}{K:Gd}{mg:Ta->Option Value}{base:Heap}
theorem Vj.place{bk a t e:Gc}{m:List Th}(B:Vj P w CP CB H bk p a f d t e ts tl)(x:Pl P w CP H' p a f d (ts++m))(F:Fr3 a f d H H'):Vj P w CP CB H' bk p a f d t e (ts++m) tl:=by obtain⟨dx,b⟩:=B.ob;obtain⟨us,o,_⟩:=B.pl.th;obtain⟨r,q,_⟩:=B.pl.fo;obtain⟨kvs,c,_⟩:=B.pl.kn;obtain⟨vs,j,n⟩:=B.to;obtain⟨es,g,i,l,R⟩:=B.en;have k:=F.Ql B.pl;refine⟨⟨dx,F.keep _ _ b (Yb b o nofun) (Yb b q nofun) (Yb b c.at_ nofun)⟩,x,⟨vs,F.keep _ _ j B.ta B.tf (Yb j c.at_ nofun),n.Ql k⟩,⟨es,g,F.keep _ _ i B.ea B.ef (Yb i c.at_ nofun),L2.Paired.Z7 l λ_ _ h=>h.Ql k,L2.Paired.Z7 R λ_ _ h=>⟨h.1,Qf2 h.2.1,Qf2 h.2.2⟩⟩,B.ta,B.tf,B.te,B.ea,B.ef⟩
theorem Few.grow(F:Few U ts tl)(b:t∈U):Few U (Yo ts t.inside) tl:=⟨λs a=>by
 rw[Qd3]at a;rcases a with h|h
 ·exact F.sub s h
 ·exact F.cl t b s h,F.cl,F.good,F.len,F.tl⟩
theorem Qst:Qv ["self"] ["self"] (Qk Qb3):=by eq_refl
theorem Qn0(F:Wu K "__init__" "Book.__init__" Qb3 f0 fd)(T:Qef K mg CB)(TP:Qee K mg CP)(v:Mk K CP fI)(J:Qr P w K mg base Z3 1 fI fdI ["self"] (Qin P w CP))(L:Binds K fdI ["self"] []):Qr P w K mg base Z3 3 f0 fd ["self"] (Qch P w CP CB):=by
 refine F.ok Qst (λvs H Q E h=>?_) (λcdv A outer s H vs Q E U h=>?_)
 ·obtain⟨bk,dx,rfl,_⟩:=h;rfl
 obtain⟨bk,dx,rfl,l,q⟩:=h;refine⟨_,Qd (Yu (pv 0) (Qd6 v J U rfl TP.mgC L .nil Q4) rfl) (Qd (Yu (pv 0) (Zt Qe) rfl) (Qh (Yu (pv 0) (Zt Qe) rfl))),?_⟩;intro p dp y x S;have u:Qz H (upd (upd H dp (.own p)) p (.ins CP dp [])):=λc o e=>Qi (Qi e (Qc e x)) (Qc e y);refine⟨p,dp,Xb,Qb,λa f d H1 r W O R hd=>⟨Xb,?_⟩⟩;have n:Qz H H1:=λb o e=>W b o (u _ _ e) (Qc e y);have Y:p≠bk:=Gp (Qc l y);obtain⟨N,X⟩:=r.ob;obtain⟨us,B,_⟩:=r.th;obtain⟨Z,C,_⟩:=r.fo;obtain⟨kvs,M,_⟩:=r.kn;refine⟨_,Xb,bk,CB,dx,[],Xb,n _ _ l,T.cl,T.places,by show 0<1000;decide,Gx _,λt V=>?_⟩;have m:=n _ _ l;have j:=Zz V;have tb:t≠bk:=Gp (Qc m j);refine⟨_,Xb,bk,CB,dx,_,Xb,Qi Qb (Gp tb),T.cl,T.told,by show 1<1000;decide,Gx _,λe I=>?_⟩;have i:=Zz (Zz (Zz I));have D:e≠bk:=Gp (Qc m i);have G:t≠e:=λz=>by have:=Zz I;rw[<-z,Qb]at this;cases this
 refine⟨_,Xb,bk,CB,dx,_,Xb,Qi Qb (Gp D),T.cl,T.entries,by show 2<1000;decide,?_⟩;have kp:∀{b o},H1 b=Ga o->b≠bk->(upd (upd (upd (upd (upd H1 bk (.ins CB dx (Yg "places" (.ref p) []))) t (.lst [])) bk (.ins CB dx (Yg "told" (.ref t) (Yg "places" (.ref p) [])))) e (.lst [])) bk (.ins CB dx (Yg "entries" (.ref e) (Yg "told" (.ref t) (Yg "places" (.ref p) []))))) b=Ga o:=λk hb=>Qi (Qi (Qi (Qi (Qi k hb) (Qc k j)) hb) (Qc k i)) hb;refine q p a f d t e _ ⟨⟨dx,Qb⟩,r.keep (λo g=>kp g Y) (λo g=>kp g (Yb B m nofun)) (λo g=>kp g (Yb C m nofun)) (λo g=>kp g (Yb M.at_ m nofun)) (λb xs g=>kp g (Yb g m nofun)),⟨[],Qi (Qi (Qi Qb tb) G) tb,.nil⟩,⟨[],[],Qi Qb D,.nil,.nil⟩,Gp (Qc B j),Gp (Qc C j),G,Gp (Qc B i),Gp (Qc C i)⟩ (λb o g hb=>kp (n _ _ g) hb) (u.free O) (u.free R) (u.free hd) (n.free j) (n.free i)
theorem Qiu:Qv ["self","deed","entry"] ["self","deed"] (Qk Qbu):=by eq_refl
theorem Qvp{d:V}{a:Dd}(h:Qbh H d a):∃c k xs,d=.ref c/\H c=Ga (.tup (.str k::xs))/\(k="back"↔∃i,a=.back i)/\(k="ask"↔∃s t,a=.ask s t):=by
 cases a with
 |tell b s t=>
  obtain⟨c,e,f,h1,h2,_⟩:=h;refine⟨c,_,_,h1,h2,⟨λz=>?_,λ⟨i,z⟩=>by cases z⟩,⟨λz=>?_,λ⟨i,j,z⟩=>by cases z⟩⟩
  ·cases b<;>exact absurd z (by decide+kernel)
  ·cases b<;>exact absurd z (by decide+kernel)
 |ask s t=>obtain⟨c,e,f,h1,h2,_⟩:=h;exact⟨c,_,_,h1,h2,⟨λz=>absurd z (by decide+kernel),λ⟨i,z⟩=>by cases z⟩,⟨λz=>⟨s,t,rfl⟩,λ_=>rfl⟩⟩
 |back i=>obtain⟨c,h1,h2⟩:=h;exact⟨c,_,_,h1,h2,⟨λz=>⟨i,Xb⟩,λ_=>rfl⟩,⟨λz=>absurd z (by decide+kernel),λ⟨i,j,z⟩=>by cases z⟩⟩
theorem Qo3{fG fP fT:Gc}{ac ad ae:Tt}(F:Wu K "answer" "Book.answer" Qbu f0 fd)(T:Qef K mg CB)(TP:Qee K mg CP)
  (mG:Z8 K CB "go_back" fG)(GG:Qr P w K mg base Z3 1 fG ac ["self","moment"] (Qiy P w CP CB))(bG:Binds K ac ["self","moment"] [])(mP:Z8 K CP "place_of" fP)(GP:Qr P w K mg base Z3 52 fP ad ["self","thing"] (Qen P w CP))(bP:Binds K ad ["self","thing"] [])
  (mA:Z8 K CB "ask" fA)(GA:Qr P w K mg base Z3 62 fA fdA ["self","entry"] (Qv3 P w CP CB))(bA:Binds K fdA ["self","entry"] [])(mT:Z8 K CB "tell" fT)(GT:Qr P w K mg base Z3 62 fT ae ["self","deed","entry"] (Qq2 P w CP CB))(bT:Binds K ae ["self","deed","entry"] []):
  Qr P w K mg base Z3 63 f0 fd ["self","deed"] (Ow P w CP CB):=by
 refine F.ok Qiu (λvs H Q E h=>?_) (λcdv A outer s H vs Q E hr h=>?_)
 ·obtain⟨bk,p,a,f,d,t,e,ts,tl,U,dv,dd,rfl,_⟩:=h;rfl
 obtain⟨bk,p,a,f,d,t,e,ts,tl,U,dv,dd,rfl,B,Z,x,g,q⟩:=h;have aq:Z9 1 _:=hr.mono (by omega);have D:Z9 52 _:=hr.mono (by omega);have nd:=Qiu.nd;refine⟨_,Qd (Zn (Qp Wi (Qn Q5 (pv 1) Qj) Zf (Q3 _)) (Qh (Qu (Q9 (pv 0) T.cl mG GG aq bG .nil Q4 (Qa (Qn Q5 (pv 1) Qj) Qe)))) Q6)
  (Qd (Qs 2 nd (Za (Qa (Qn Q5 (pv 1) Qj) (Qa (Q9 (Qm (pv 0) rfl) TP.cl mP GP D bP .nil Q4 (Qa (Qn Q5 (pv 1) Qj) Qe)) (Qa (Q9 (Qm (pv 0) rfl) TP.cl mP GP D bP .nil Q4 (Qa (Qn Q5 (pv 1) Qj) Qe)) Qe)))))
  (Qd (Zn (Qp Wi (Qn Q5 (pv 1) Qj) Zf (Q3 _)) (Qh (Qu (Q9 (pv 0) T.cl mA GA hr bA .nil Q4 (Qa (pv 2) Qe)))) Q6)
  (Qh (Qu (Q9 (pv 0) T.cl mT GT hr bT .nil Q4 (Qa (pv 1) (Qa (pv 2) Qe))))))),?_⟩
 obtain⟨dx,o1⟩:=B.ob;obtain⟨c,k,xs,rfl,R,kb,ka⟩:=Qvp x;refine⟨_,Xb,c,_,_,_,Xb,Xb,Z2.of R,Ri _ _,Xb,_,Xb,?_⟩;rw[Yf];obtain⟨us,u1,_⟩:=B.pl.th;obtain⟨ws,w1,_⟩:=B.pl.fo;obtain⟨kvs,d1,_⟩:=B.pl.kn;obtain⟨aD,t1,_⟩:=B.to;by_cases hb:k="back"
 ·subst hb;rw[Ey];refine Yr ?_;obtain⟨i,rfl⟩:=kb.mp rfl;obtain⟨c',h1,h2⟩:=x;cases h1;refine⟨_,Xb,bk,dx,_,Xb,o1,Qoc _ _ _,_,Xb,c,_,_,_,Xb,Xb,Z2.of h2,Iw _ _ _,bk,p,a,f,d,t,e,ts,tl,i,Xb,B,λv t' e' H' B' S F' ar an=>?_⟩;exact q v t' e' ts H' B' S Z.sub ⟨λb o m h1 _ _ _ _=>F'.keep b o m h1 h1,F'.there⟩ ar an
 have av:(k==("back":Ta))=Gq:=by simpa using hb
 rw[av];refine Zp ?_;obtain⟨s,j,n,r,au,i1,i2,hs,ht,am⟩:∃s j n r,xs=[n,r]/\Yj H n s/\Yj H r j/\s∈U/\j∈U/\((k="ask"/\dd=.ask s j)\/(k≠"ask"/\∃b,k=tw b/\dd=.tell b s j)):=by
  cases dd with
  |tell b s j=>obtain⟨c',n,r,h1,h2,N,O⟩:=x;cases h1;rw[R]at h2;cases h2;exact⟨s,j,n,r,Xb,N,O,g.1,g.2,.inr ⟨(λz=>by obtain⟨_,_,z⟩:=ka.mp z;cases z),b,rfl,rfl⟩⟩
  |ask s j=>obtain⟨c',n,r,h1,h2,N,O⟩:=x;cases h1;rw[R]at h2;cases h2;exact⟨s,j,n,r,Xb,N,O,g.1,g.2,.inl ⟨Xb,Xb⟩⟩
  |back i=>exact absurd (kb.mpr ⟨i,Xb⟩) hb
 subst au;obtain⟨dp,op⟩:=B.pl.ob;have gs:=Z.good s hs;have gt:=Z.good j ht;have az:=Z.le B.pl.nd;refine⟨_,Xb,c,_,_,_,Xb,Xb,Z2.of R,Ri _ _,_,Xb,bk,CB,dx,_,_,Xb,o1,T.cl,T.places,Ur _ _ _,p,dp,_,Xb,op,Qcv _ _ _,_,Xb,c,_,_,_,Xb,Xb,Z2.of R,Iw _ _ _,p,n,s,a,f,d,ts,Xb,B.pl,i1,gs.1,by have:=gs.2.1;omega,by have:=gs.2.2;omega,λG H1 x1 ap F1=>?_⟩;obtain⟨m1,ab⟩:=Vc s.inside ts;have ah:=x1;rw[ab]at ah;have I:=B.place ah F1;rw[<-ab]at I;have FW1:=Z.grow hs;have aA:=FW1.le I.pl.nd;have W:=F1.Ql B.pl;obtain⟨ak,aw⟩:=I.ob;obtain⟨aj,ax⟩:=I.pl.ob;refine⟨_,Xb,bk,CB,ak,_,_,Xb,aw,T.cl,T.places,Ur _ _ _,p,aj,_,Xb,ax,Qcv _ _ _,_,Xb,c,_,_,_,Xb,Xb,Z2.of (W _ _ R),Qhs _ _ _ _,p,r,j,a,f,d,_,Xb,I.pl,i2.Ql W,gt.1,by have:=gt.2.1;omega,by have:=gt.2.2;omega,λV H2 x2 af F2=>?_⟩;obtain⟨m2,M⟩:=Vc j.inside (Yo ts s.inside);have ai:=x2;rw[M]at ai;have B2:=I.place ai F2;rw[<-M]at B2;have FW2:=FW1.grow ht;have X:Qt H H2:=λb xs m=>(F2.Ql I.pl) _ _ (W _ _ m);have C:(Yo (Yo ts s.inside) j.inside)[G]?=Ga s:=by rw[M];exact Qf2 ap
 refine⟨by show 3<=Gi;decide,λL al=>?_⟩;have s3:=Qg al (.tup [.str k,jv G,jv V]);have J:=B2.same s3;generalize ay:Yo (Yo ts s.inside) j.inside=l at*;have e1:=V9 C;have e2:=V9 af;have l1:G<l.length:=(List.getElem?_eq_some_iff.mp C).1;have l2:V<l.length:=(List.getElem?_eq_some_iff.mp af).1;have Y:Fr3 a f d H (upd H2 L (.tup [.str k,jv G,jv V])):=(F1.trans F2).trans (Fr3.of s3);obtain⟨aa,o3⟩:=J.ob;obtain⟨aB,u3,_⟩:=J.pl.th;obtain⟨aE,w3,_⟩:=J.pl.fo;obtain⟨aC,t3,_⟩:=J.to;have y:(upd H2 L (.tup [.str k,jv G,jv V])) c=Ga (.tup (.str k::[n,r])):=s3 _ _ (X _ _ R);have back:∀b o,H b=Ga o->∃u,(upd H2 L (.tup [.str k,jv G,jv V])) b=Ga u:=λb o m=>Sk.mp λz=>by rw[Y.there b z]at m;cases m
 refine⟨_,Xb,c,_,_,_,Xb,Xb,Z2.of y,Ri _ _,Xb,_,Xb,?_⟩;rw[Yf];rcases am with⟨rfl,rfl⟩|⟨hk,b,rfl,rfl⟩
 ·rw[Ey];refine Yr ?_;refine⟨_,Xb,bk,aa,_,Xb,o3,Qx6 _ _ _,_,Xb,bk,p,a,f,d,t,e,l,tl,U,.ref L,G,V,Xb,J,FW2,⟨L,Xb,Qb⟩,l1,l2,λv H4 g4 S=>?_⟩;rw[e1,e2]at S;refine q v t e l H4 (J.same g4) (S.ex λc' ys _ hx z=>hx ?_) FW2.sub ⟨λb o m h1 h2 N O h5=>g4 _ _ (Y.keep b o m h2 N O),λb h=>Y.there b (g4.free h)⟩ (.inl Xb) (.inl Xb);rcases z with⟨o,ho⟩|z
  ·exact back _ _ ho
  ·rw[z];exact⟨_,t3⟩
 ·have ag:(tw b==("ask":Ta))=Gq:=by simpa using hk
  rw[ag];refine Zp ?_;refine⟨_,Xb,bk,aa,_,Xb,o3,Qur _ _ _,_,Xb,_,Xb,bk,p,a,f,d,t,e,l,tl,U,.ref c,.ref L,b,G,V,Xb,J,FW2,?_,⟨L,Xb,Qb⟩,l1,l2,λv e' H4 B4 S F4 ao=>?_⟩
  ·rw[e1,e2];exact⟨c,n,r,Xb,y,(i1.Ql X).same s3,(i2.Ql X).same s3⟩
  ·rw[e1,e2]at B4 S;refine q v t e' l H4 B4 (S.ex λc' ys _ hx z=>hx ?_) FW2.sub ⟨λb o m h1 h2 N O h5=>F4.keep _ _ (Y.keep b o m h2 N O) h1 h5,λb h=>Y.there b (F4.there b h)⟩ (.inl Xb) (ao.elim .inl λz=>.inr (Y.there _ z));rcases z with⟨o,ho⟩|z
   ·exact back _ _ ho
   ·rw[z];exact⟨_,t3⟩
end
def Qv0(H:Hp)(X:Gc->Prop)(dl:List Dd)(a:List V):Prop:=∀(k:Nat)(d:Dd)(v:V),dl[k]?=Ga d->a[k]?=Ga v->Jj H X (after [] (dl.take k)) d v
def Qj3:Sp:=λvs H Q _=>∃(l:Gc)(es:List V)(dl:List Dd)(U:List Th),vs=[.ref l]/\H l=Ga (.lst es)/\X0 H es dl/\Qg3 U/\(∀d∈dl,d.fits U)/\dl.length<=800/\
 ∀(r:Gc)(a:List V)(H':Hp),Qz H H'->H r=Gg->H' r=Ga (.lst a)->a.length=dl.length->Qv0 H' (λb=>b=r) dl a->Q (.ref r) H'
def Qa0(P:Gk)(w:Gv)(CP b:Gc):Sp:=λvs H Q _=>∃(l:Gc)(es:List V)(dl:List Dd)(U:List Th),vs=[.ref l]/\H l=Ga (.lst es)/\X0 H es dl/\Qg3 U/\(∀d∈dl,d.fits U)/\dl.length<=800/\
 ∀(bk p a f d t e:Gc)(ts:List Th)(H':Hp),Qz H H'->Vj P w CP b H' bk p a f d t e ts (after [] dl)->(∀x∈ts,x∈U)->Q (.ref bk) H'
def Qg4:Sp:=λvs H Q _=>∃(l:Gc)(es:List V)(dl:List Dd)(U:List Th),vs=[.ref l]/\H l=Ga (.lst es)/\X0 H es dl/\Qg3 U/\(∀d∈dl,d.fits U)/\dl.length<=800/\
 ∀(r:Gc)(a:List V)(H':Hp),Qz H H'->H' r=Ga (.lst a)->Uj H' a (after [] dl)->Q (.ref r) H'
theorem Qp1{dl:List Dd}(a:Qg3 U)(h:∀x∈ts,x∈U)(b:dl.length<=800)(i:Nat):Few U ts (after [] (dl.take i)):=⟨h,a.cl,a.good,a.len,by have:=Ij (ds:=dl.take i) (tl:=[]);rw[List.length_take]at this;simp only[List.length_nil]at this;omega⟩
section
variable{P:Gk}{w:Gv}{K:Gd}{mg:Ta->Option Value}{base:Heap}
theorem Vj.but{CP g:Gc}{H:Hp}{bk p a f d t e r:Gc}{ts:List Th}{tl:Tl}{ys zs:List V}(B:Vj P w CP g H bk p a f d t e ts tl)(c:H r=Ga (.lst ys))(m:r≠a)(o:r≠f)(rt:r≠t)(n:r≠e):Vj P w CP g (upd H r (.lst zs)) bk p a f d t e ts tl:=by
 obtain⟨dx,i⟩:=B.ob;obtain⟨vs,q,s⟩:=B.to;obtain⟨es,b,k,l,R⟩:=B.en;have j:Qt H (upd H r (.lst zs)):=Zs λxs e=>by rw[c]at e;cases e
 exact⟨⟨dx,Qi i (Yb i c nofun)⟩,B.pl.but c m o,⟨vs,Qi q (Gp rt),s.Ql j⟩,⟨es,b,Qi k (Gp n),L2.Paired.Z7 l λ_ _ h=>h.Ql j,R⟩,B.ta,B.tf,B.te,B.ea,B.ef⟩
theorem FrA.Ql{bk a t e:Gc}(F:FrA bk a f d t H H')(B:Vj P w CP CB H bk p a f d t e ts tl):Qt H H':=λb xs c=>by obtain⟨dx,h⟩:=B.ob;obtain⟨us,j,_⟩:=B.pl.th;obtain⟨m,k,_⟩:=B.pl.fo;obtain⟨kvs,g,_⟩:=B.pl.kn;obtain⟨vs,i,l⟩:=B.to;exact F.keep _ _ c (Yb c h nofun) (Yb c j nofun) (Yb c k nofun) (Yb c g.at_ nofun) (Yb c i nofun)
theorem FrA.lst{CP g:Gc}{H H':Hp}{bk p a f d t e:Gc}{ts:List Th}{tl:Tl}(F:FrA bk a f d t H H')(B:Vj P w CP g H bk p a f d t e ts tl){c:Gc}{xs:List V}(b:H c=Ga (.lst xs))(h1:c≠a)(h2:c≠f)(i:c≠t):H' c=Ga (.lst xs):=by obtain⟨dx,j⟩:=B.ob;obtain⟨kvs,h,_⟩:=B.pl.kn;exact F.keep _ _ b (Yb b j nofun) h1 h2 (Yb b h.at_ nofun) i
theorem Qeu:Qv ["deeds","book"] ["deeds"] (Qk Jp):=by eq_refl
theorem Q1s:(["deed","book"]:List Ta).Nodup:=by decide+kernel
theorem Qkz(F:Wu K "answers" "answers" Jp f0 fd)(T:Qef K mg CB)(ah:Mk K CB fI)(GI:Qr P w K mg base Z3 3 fI fdI ["self"] (Qch P w CP CB))(bI:Binds K fdI ["self"] [])
  (mA:Z8 K CB "answer" fA)(GA:Qr P w K mg base Z3 63 fA fdA ["self","deed"] (Ow P w CP CB))(bA:Binds K fdA ["self","deed"] []):Qr P w K mg base Z3 64 f0 fd ["deeds"] Qj3:=by
 refine F.ok Qeu (λvs H Q E h=>?_) (λcdv A outer s H vs Q E hr h=>?_)
 ·obtain⟨l,es,dl,U,rfl,_⟩:=h;rfl
 obtain⟨l,es,dl,U,rfl,hl,Z,hU,aa,ac,q⟩:=h;have aq:Z9 4 _:=hr.mono (by omega);have nd:=Qeu.nd;refine⟨_,Qd (Ud (i:=1) nd rfl (Er Xb) (Qd6 ah GI aq rfl T.mgC bI .nil Q4))
  (Qh (Qu (Vm (te:=Qhq CB "answer" (Ow P w CP CB) [] E0 (V2 1) (Qfd (V2 0) Qnl)) (own:=["deed"]) (fv:=[(1,"book")]) rfl (S:=(by eq_refl:X8 (Qk Jp) _)) (.cons rfl (Dj Xb) rfl .nil)
   (Y2 (pv 0)) (λ_ _ _ _ _=>Xc (i:=0) Q1s rfl (Dj Xb) (Er Xb)) (λ_ _ _ _ _=>Wh) (λ_ _ _ _ _=>Q9 (pv 1) T.cl mA GA hr bA .nil Q4 (Qa (pv 0) Qe))))),?_⟩
 intro bk dx M al aB;have s0:Qz H (upd (upd H dx (.own bk)) bk (.ins CB dx [])):=λc o e=>Qi (Qi e (Qc e al)) (Qc e M);refine⟨bk,dx,Xb,Qb,λp a f d t e H1 R k1 ha hf hd ht he=>⟨Xb,?_⟩⟩;have g1:Qz H H1:=λb o B=>k1 b o (s0 _ _ B) (Qc B M);have aj:=s0.free ha;have an:=s0.free hf;have ak:=s0.free hd;have ar:=s0.free ht;refine⟨_,Xb,l,Xb,⟨_,Zc.of (g1 _ _ hl)⟩,λr n=>?_⟩;obtain⟨us,u1,_⟩:=R.pl.th;obtain⟨ws,w1,_⟩:=R.pl.fo;obtain⟨aD,t1,_⟩:=R.to;obtain⟨az,ay,e1,_⟩:=R.en;have ra:r≠a:=Gp (Qc u1 n);have rf:r≠f:=Gp (Qc w1 n);have rt:r≠t:=Gp (Qc t1 n);have re:r≠e:=Gp (Qc e1 n);have s2:=Qg n (.lst []);have au:es.length=dl.length:=Gr Z;refine O6 (K:=K) (a:=l) (xs:=es) (small (by omega)) (λi ys σ H2=>∃(x0:Option V)(t e:Gc)(ts:List Th),σ=[x0,Ga (.ref bk)]/\Vj P w CP CB H2 bk p a f d t e ts (after [] (dl.take i))/\(∀x∈ts,x∈U)/\Qz H H2/\H t=Gg/\r≠t/\r≠e/\Qv0 H2 (λb=>b=a\/b=f\/b=t\/b=r) (dl.take i) ys)
  ⟨_,t,e,[],Xb,R.same s2,(λx j=>nomatch j),g1.trans s2,ar,rt,re,(λk d v D=>by simp at D)⟩ (λi ys σ H2 _⟨_,_,_,_,_,_,_,g,_⟩=>Zc.of (g _ _ hl)) ?_ ?_
 ·rintro i y ys σ H2 hi ad ⟨x0,t,e,ts,rfl,I,sub,X,t0,rt,re,G⟩ u;obtain⟨dd,N,hy⟩:=Qx Z hi;obtain⟨ai,o2⟩:=I.ob;have ax:Qt H H2:=Qt.of X;refine⟨_,Xb,bk,ai,_,Xb,o2,Qe3 _ _ _,_,Xb,bk,p,a,f,d,t,e,ts,_,U,y,dd,Xb,I,Qp1 hU sub ac i,hy.Ql ax,aa dd (List.mem_of_getElem? N),λv t' e' aw W B3 hv ag F3 O am=>?_⟩;have r3:=F3.lst I u ra rf rt;have af:r≠t':=O.elim (λz=>z▸rt) (λz=>Qc u z);have ae:r≠e':=am.elim (λz=>z▸re) (λz=>Qc u z);have g3:Qz H W:=λb o B=>F3.keep b o (X _ _ B) (Qc B M) (Qc B aj) (Qc B an) (Qc B ak) (Qc B t0);have av:H t'=Gg:=O.elim (λz=>z▸t0) (λz=>X.free z);obtain⟨aC,u2,_⟩:=I.pl.th;obtain⟨aE,w2,_⟩:=I.pl.fo;refine⟨r3,_,t',e',aw,Xb,(by rw[Rf N];exact B3.but r3 ra rf af ae),ag,λb o B=>Qi (g3 _ _ B) (Qc B (g1.free n)),av,af,ae,λk dk vk D m=>?_⟩;have L:Qt W (upd W r (.lst (ys++[v]))):=Zs λxs e=>by rw[r3]at e;cases e
  have J:∀{c:Gc}{xs:List V},W c=Ga (.lst xs)->¬(c=a\/c=f\/c=t'\/c=r)->(upd W r (.lst (ys++[v]))) c=Ga (.lst xs):=λC j=>Qi C (λz=>j (.inr (.inr (.inr z))));have ao:k<i+1:=by have:=(List.getElem?_eq_some_iff.mp D).1;rw[List.length_take]at this;omega
  have ek:(dl.take (i+1)).take k=dl.take k:=by rw[List.take_take,E4 (by omega)]
  rw[ek];rw[List.getElem?_take_of_lt ao]at D;rcases Tk k i with ap|aA
  ·rw[List.getElem?_append_left (by omega)]at m;have h0:=G k dk vk (by rw[List.getElem?_take_of_lt ap];exact D) m;rw[List.take_take,E4 (by omega)]at h0;have h1:=h0.ex (Y:=λb=>b=a\/b=f\/b=t\/b=t'\/b=r) λc xs C j z=>by
    rcases z with z|z|z|z|z
    ·exact j (.inl z)
    ·exact j (.inr (.inl z))
    ·exact j (.inr (.inr (.inl z)))
    ·rcases O with w3|w3
     ·exact j (.inr (.inr (.inl (z.trans w3))))
     ·rw[z,w3]at C;cases C
    ·exact j (.inr (.inr (.inr z)))
   have h2:=h1.kp (F3.Ql I) λ{c xs}C j=>F3.lst I C (λz=>j (.inl z)) (λz=>j (.inr (.inl z))) (λz=>j (.inr (.inr (.inl z))));have h3:=h2.ex (Y:=λb=>b=a\/b=f\/b=t'\/b=r) λc xs C j z=>by
    rcases z with z|z|z|z
    ·exact j (.inl z)
    ·exact j (.inr (.inl z))
    ·exact j (.inr (.inr (.inr (.inl z))))
    ·exact j (.inr (.inr (.inr (.inr z))))
   exact h3.kp L J
  ·have ab:k=i:=by omega
   subst ab;rw[List.getElem?_append_right (by omega),ad,Nat.sub_self]at m;have m:v=vk:=by simpa using m
   subst m;rw[N]at D;cases D;exact(hv.ex (Y:=λb=>b=a\/b=f\/b=t'\/b=r) λc xs C j z=>by
    rcases z with z|z|z|z
    ·exact j (.inl (by rw[z];exact⟨_,u2⟩))
    ·exact j (.inl (by rw[z];exact⟨_,w2⟩))
    ·exact j (.inr z)
    ·exact j (.inl (by rw[z];exact⟨_,u⟩))).kp L J
 ·rintro ys σ H2 ad ⟨x0,t,e,ts,rfl,I,sub,X,t0,rt,re,G⟩ u;rw[au,List.take_length]at G;exact q r ys H2 X (g1.free n) u (by omega) λk dk vk D m=>(G k dk vk D m).ex λc xs C j z=>j (.inr (.inr (.inr z)))
theorem Qa8:Qv ["deeds","book","deed"] ["deeds"] (Qk Jd):=by eq_refl
theorem Qfz(F:Wu K "book_after" "book_after" Jd f0 fd)(T:Qef K mg CB)(I:Mk K CB fI)(GI:Qr P w K mg base Z3 3 fI fdI ["self"] (Qch P w CP CB))(bI:Binds K fdI ["self"] [])
  (mA:Z8 K CB "answer" fA)(GA:Qr P w K mg base Z3 63 fA fdA ["self","deed"] (Ow P w CP CB))(bA:Binds K fdA ["self","deed"] []):Qr P w K mg base Z3 64 f0 fd ["deeds"] (Qa0 P w CP CB):=by
 refine F.ok Qa8 (λvs H Q E h=>?_) (λcdv A outer s H vs Q E hr h=>?_)
 ·obtain⟨l,es,dl,U,rfl,_⟩:=h;rfl
 obtain⟨l,es,dl,U,rfl,hl,u,hU,B,C,q⟩:=h;have R:Z9 4 _:=hr.mono (by omega);have nd:=Qa8.nd;refine⟨_,Qd (Qs 1 nd (Qd6 I GI R rfl T.mgC bI .nil Q4))
  (Qd (Ye Gy rfl (Y2 (pv 0)) (Ya 2 nd) (Qh (Ze (Q9 (pv 1) T.cl mA GA hr bA .nil Q4 (Qa (pv 2) Qe)))))
  (Qh (Qu (pv 1)))),?_⟩
 intro bk dx k N ab;have D:Qz H (upd (upd H dx (.own bk)) bk (.ins CB dx [])):=λc o e=>Qi (Qi e (Qc e N)) (Qc e k);refine⟨bk,dx,Xb,Qb,λp a f d t e H1 B1 k1 ha hf hd ht he=>⟨Xb,?_⟩⟩;have g1:Qz H H1:=λb o j=>k1 b o (D _ _ j) (Qc j k);have L:=D.free ha;have O:=D.free hf;have M:=D.free hd;have W:es.length=dl.length:=Gr u;refine⟨_,Xb,l,Xb,⟨_,Zc.of (g1 _ _ hl)⟩,Xh (K:=K) (a:=l) (xs:=es) (λi σ H2=>∃(Z:Option V)(t e:Gc)(ts:List Th),σ=[Ga (.ref l),Ga (.ref bk),Z]/\Vj P w CP CB H2 bk p a f d t e ts (after [] (dl.take i))/\(∀x∈ts,x∈U)/\Qz H H2/\H t=Gg)
  ⟨_,t,e,[],Xb,B1,(λx hx=>nomatch hx),g1,D.free ht⟩ (λi σ H2 _⟨_,_,_,_,_,_,_,g,_⟩=>Zc.of (g _ _ hl)) ?_ ?_⟩
 ·rintro i y σ H2 hi ⟨Z,t,e,ts,rfl,m,sub,n,X⟩;obtain⟨dd,r,hy⟩:=Qx u hi;obtain⟨J,o2⟩:=m.ob;refine⟨_,Xb,bk,J,_,Xb,o2,Qe3 _ _ _,_,Xb,bk,p,a,f,d,t,e,ts,_,U,y,dd,Xb,m,Qp1 hU sub C i,hy.Ql (Qt.of n),B dd (List.mem_of_getElem? r),λv t' e' Y H3 B3 hv G F3 S aa=>?_⟩;exact⟨_,t',e',Y,Xb,(by rw[Rf r];exact B3),G,λb o j=>F3.keep b o (n _ _ j) (Qc j k) (Qc j L) (Qc j O) (Qc j M) (Qc j X),S.elim (λz=>z▸X) (λz=>n.free z)⟩
 ·rintro σ H2 ⟨Z,t,e,ts,rfl,m,sub,n,X⟩;rw[W,List.take_length]at m;exact⟨_,Xb,q bk p a f d t e ts H2 n m sub⟩
theorem Qhj:Qv ["deeds"] ["deeds"] (Qk Jb):=by eq_refl
theorem Qgx(F:Wu K "told_after" "told_after" Jb f0 fd)(T:Qef K mg CB)(j:Qr P w K mg base Z3 64 fB fdB ["deeds"] (Qa0 P w CP CB))(u:KI K fB)(k:Binds K fdB ["deeds"] [])(v:MG mg "book_after" fB):Qr P w K mg base Z3 65 f0 fd ["deeds"] Qg4:=by
 refine F.ok Qhj (λvs H Q E h=>?_) (λcdv A outer s H vs Q E r h=>?_)
 ·obtain⟨l,es,dl,U,rfl,_⟩:=h;rfl
 obtain⟨l,es,dl,U,rfl,o,g,n,b,c,q⟩:=h;refine⟨_,Qh (Qu (Qm (Zy j r rfl v u k .nil Q4 (Qa (pv 0) Qe)) rfl)),?_⟩;refine⟨_,Xb,l,es,dl,U,Xb,o,g,n,b,c,λbk p a f d t e ts H1 m i sub=>?_⟩;obtain⟨dx,x⟩:=i.ob;obtain⟨vs,y,z⟩:=i.to;exact⟨bk,CB,dx,_,_,Xb,x,T.cl,T.told,Qb1 _ _ _,q t vs H1 m y z⟩
theorem Qpr{ps:List Ta}(G:Qr P w K mg base Z3 k f0 fd ps Qj3):Qr P w K mg base Z3 k f0 fd ps O7:=by
 have imp:∀vs H Q E,O7 vs H Q E->Qj3 vs H Q E:=by
  rintro vs H Q E ⟨l,es,dl,U,h1,h2,p,t,u,B,q⟩;refine⟨l,es,dl,U,h1,h2,p,t,u,by omega,λr i H' g _ y j ok=>q r i H' g y ?_⟩;have x:(R0 [] dl).length=dl.length:=Qar [] dl;have key:∀{i:List V}{e:List V},i.length=e.length->(∀(k:Nat)v h,i[k]?=Ga v->e[k]?=Ga h->Qcd H' v h)->Paired (Qcd H') i e:=by
   intro i;induction i with
   |nil=>intro e j _;cases e with
    |nil=>exact .nil
    |cons _ _=>simp at j
   |cons v i z=>
    intro e j f;cases e with
    |nil=>simp at j
    |cons h e=>exact .cons (f 0 v h rfl rfl) (z (by simpa using j) λk v h h1 h2=>f (k+1) v h h1 h2)
  refine key (by omega) λk v h o m=>?_;have n:k<dl.length:=by rw[<-j];exact(List.getElem?_eq_some_iff.mp o).1
  have:=(ok k _ v (List.getElem?_eq_getElem n) o).head;rw[O3 (List.getElem?_eq_getElem n)]at m;cases m;exact this
 exact⟨λvs H Q E h=>G.1 vs H Q E (imp vs H Q E h),λA outer s H args us vs Q E a b c d h=>G.2 A outer s H args us vs Q E a b c d (imp vs H Q E h)⟩
theorem Qns{ps:List Ta}(G:Qr P w K mg base Z3 k f0 fd ps Qg4):Qr P w K mg base Z3 k f0 fd ps Qjz:=by
 have imp:∀vs H Q E,Qjz vs H Q E->Qg4 vs H Q E:=by rintro vs H Q E ⟨l,es,dl,U,h1,h2,e,f,g,i,q⟩;exact⟨l,es,dl,U,h1,h2,e,f,g,by omega,q⟩
 exact⟨λvs H Q E h=>G.1 vs H Q E (imp vs H Q E h),λA outer s H args us vs Q E a b c d h=>G.2 A outer s H args us vs Q E a b c d (imp vs H Q E h)⟩
end
open PySem L2 Sb
structure Blt(mg:Ta->Option Value):Prop where
 len:mg "len"=Gg
 min:mg "min"=Gg
 abs:mg "abs"=Gg
 list:mg "list"=Gg
 tuple:mg "tuple"=Gg
 str:mg "str"=Gg
 bool:mg "bool"=Gg
 int:mg "int"=Gg
 isinstance:mg "isinstance"=Gg
 range:mg "range"=Gg
 reversed:mg "reversed"=Gg
def Qmq:T6->List T6
 |.While _ b _ _=>b
 |_=>[]
abbrev cSt(i:Nat):T6:=(Vo Wn).getD i (.Pass ⟨0,0,0,0⟩)
abbrev Qzw:T6:=(Qmq (cSt 7)).getD 1 (.Pass ⟨0,0,0,0⟩)
abbrev Qzu:T6:=(Qmq (cSt 7)).getD 2 (.Pass ⟨0,0,0,0⟩)
abbrev cN:List Ta:=["_law_told","_law_things","_law_todo","_law_word","_law_one","_law_other","_law_leaders","_law_part","_law_pairs","_law_names","_law_going","_law_k","_law_j","_law_two","_law_inner","_law_old","_law_name"]
theorem Us:Qv cN ["_law_told","_law_things"] (Qk Wn):=by eq_refl
theorem nd2:(["_law_part","_law_leaders"]:List Ta).Nodup:=by decide+kernel
def Good(tl:Tl)(S:List Th)(a:List (Th×Th)):Prop:=∀p∈a,p.1∈S/\p.2∈S/\Cg tl p.1 p.2
def Snd(tl:Tl)(S:List Th)(L:Th->Int):Prop:=∀x∈S,∀y∈S,L x=L y->Cg tl x y
def Crs(S:List Th)(L a:Th->Int):Prop:=∀x∈S,∀y∈S,L x=L y->a x=a y
abbrev s4(j k l m n o:Option V)(d:Gc)(p:Option V)(pl i:Gc)(g:Bool)(a b c e f h:Option V):St:=[j,k,l,m,n,o,Ga (.ref d),p,Ga (.ref pl),Ga (.ref i),Ga (.bl g),a,b,c,e,f,h]
section
variable{P:Gk}{w:Gv}{K:Gd}{mg:Ta->Option Value}{base:Heap}{f:Gc}{cdv:Value}{A:TL}{outer:List LL}{s:Gj}{Hi:Hp}{E:XK}
abbrev XC(P:Gk)(w:Gv)(K:Gd)(mg:Ta->Option Value)(base:Heap)(f:Gc)(cdv:Value)(A:TL)(outer:List LL)(s:Gj)(Hi:Hp)(E:XK):Cx:=(Qhl Z3 P w K mg base cN "_law_classes" (Qk Wn) f cdv A outer s Hi E).nox
theorem Qnh(hu:(XC P w K mg base f cdv A outer s Hi E).A.units+64<DP):∃t,PS (XC P w K mg base f cdv A outer s Hi E) Qzu t/\∀(tl:Tl)(S:List Th)(L:Th->Int)(d pl U:Gc)(pq nv:List V)(m:List (Th×Th))(H0:Hp)(x0 x1 x2 x3 x7:Option V)
  (hN:Num P w H0 d S L)(R:H0 pl=Ga (.lst pq))(ac:Qae H0 pq m)(aa:H0 U=Ga (.lst nv))(ab:Zq H0 nv S)(hG:Good tl S m)(hS:Snd tl S L)(ae:S.length<=3000),
  Tr t
   (λσ H=>H=H0/\∃W X v B C F q l,σ=s4 x0 x1 x2 x3 W X d x7 pl U Gq v B C F q l)
   (λσ H=>∃g b W X v B C F q l,σ=s4 x0 x1 x2 x3 W X d x7 pl U g v B C F q l/\Ig d H0 H/\Num P w H d S b/\Snd tl S b/\Crs S L b/\(∀p∈m,b p.1=b p.2)/\(g=Gq->∀t∈S,b t=L t)/\(g=Gf->∃x∈S,∃y∈S,L x≠L y/\b x=b y)):=by
 have nd:=Us.nd;refine⟨_,(Ye Gy rfl (Y2 (pv 8)) (Vi rfl (Zl (Ya 4 nd) (Zl (Ya 5 nd) X5)))
  (Qd (Qs 15 nd (Qn (Uq hu) (pv 6) (pv 4)))
  (Qh (Zn (Qp J1 (pv 15) (Qn (Uq hu) (pv 6) (pv 5)) (Q3 _))
  (Qd (Qs 10 nd Vd)
  (Qh (Ye Gy rfl (Y2 (pv 9)) (Ya 16 nd)
  (Qh (Zn (Qp Wi (Qn (Uq hu) (pv 6) (pv 16)) (pv 15) (Q3 _))
  (Qh (O0 (Qn (Uq hu) (pv 6) (pv 5)) (Qcc (pv 6) (pv 16) (Qdq hu)))) Q6))))) Q6)))),?_⟩
 intro tl S L d pl U pq nv m H0 x0 x1 x2 x3 x7 hN R ac aa ab hG hS ae;rintro D σ H ⟨rfl,W,X,v,B,C,F,q,l,rfl⟩ k;obtain⟨od,Q⟩:=hN.at;have am:pl≠d:=Zh R Q (by intro z;cases z);have ah:U≠d:=Zh aa Q (by intro z;cases z);refine⟨_,Xb,pl,Xb,⟨_,Zc.of R⟩,Xh (K:=K) (a:=pl) (xs:=pq) (λi σ H1=>∃g b W X q l,σ=s4 x0 x1 x2 x3 W X d x7 pl U g v B C F q l/\Ig d H H1/\Num P w H1 d S b/\Snd tl S b/\Crs S L b/\(∀p∈m.take i,b p.1=b p.2)/\(g=Gq->∀t∈S,b t=L t)/\(g=Gf->∃x∈S,∃y∈S,L x≠L y/\b x=b y))
  ⟨Gq,L,W,X,q,l,Xb,Ig.refl,hN,hS,λ_ _ _ _ e=>e,by simp,λ_ _ _=>rfl,λe=>by cases e⟩ (λi σ H1 _⟨_,_,_,_,_,_,_,O,_⟩=>Zc.of (O _ _ R am)) ?_ ?_⟩
 ·rintro i x σ H1 hi ⟨g,b,W,X,q,l,rfl,O,N,snd,G,dn,gf,gt⟩;obtain⟨⟨u1,M⟩,eu,a',v1,v2,rfl,ak,t1,t2⟩:=Qx ac hi;have tu:Qt H H1:=O.Ql Q (λxs z=>by cases z);obtain⟨b1,_,_,_,rfl,_,_,_⟩:=t1.inv;obtain⟨b2,_,_,_,rfl,_,_,_⟩:=t2.inv;have t1:=t1.Ql tu;have t2:=t2.Ql tu;obtain⟨m1,m2,mc⟩:=hG (u1,M) (List.mem_of_getElem? eu);have tk:m.take (i+1)=m.take i++[(u1,M)]:=by rw[List.take_add_one,eu];rfl
  refine⟨a',_,Xb,Z2.of (tu _ _ ak),Xb,_,_,Xb,_,_,Xb,Xb,?_⟩;refine⟨_,Xb,_,Xb,N.get m1 t1 ?_⟩;refine⟨_,Xb,_,Xb,_,Xb,N.get m2 t2 ⟨Xb,_,Xb,?_⟩⟩;rw[Vp];refine Va (λc=>?_) (λc=>?_)
  ·have c:b u1≠b M:=by simpa using c
   generalize ho:b u1=o at*;generalize hn:b M=n at*;have al:∀t,mrg b o n t≠o:=λt z=>by
    unfold mrg at z;split at z
    ·exact c z.symm
    ·rename_i h;exact h z
   have ad:mrg b o n M=n:=by unfold mrg;rw[Gh (by rw[hn];exactλz=>c z.symm)];exact hn
   have ag:=O _ _ aa ah;refine⟨_,Xb,U,Xb,⟨_,Zc.of ag⟩,Xh (K:=K) (a:=U) (xs:=nv) (λj σ H2=>∃L2 l,σ=s4 x0 x1 x2 x3 (Ga (.ref b1)) (Ga (.ref b2)) d x7 pl U Gf v B C F (Ga (.int o)) l/\Ig d H1 H2/\Num P w H2 d S L2/\(∀t∈S,L2 t=b t\/L2 t=mrg b o n t)/\(∀t∈S.take j,L2 t=mrg b o n t))
    ⟨b,_,Xb,Ig.refl,N,λt _=>.inl Xb,by simp⟩ (λj σ H2 _⟨_,_,_,r,_⟩=>Zc.of (r _ _ ag ah)) ?_ ?_⟩
   ·rintro j y σ H2 hj ⟨L2,l,rfl,r,N2,l1,l2⟩;obtain⟨u0,e0,J⟩:=ab.get hj;have T:=List.mem_of_getElem? e0;have an:Qt H H2:=(O.trans r).Ql Q (λxs z=>by cases z);obtain⟨b0,_,_,_,rfl,_,_,_⟩:=J.inv;have J:=J.Ql an;have ai:S.take (j+1)=S.take j++[u0]:=by rw[List.take_add_one,e0];rfl
    refine⟨_,Xb,_,Xb,N2.get T J ⟨_,Xb,Xb,_,Xb,?_⟩⟩;rw[Vp];refine Va (λY=>?_) (λY=>?_)
    ·have Y:L2 u0=o:=by simpa using Y
     have e2:L2 M=n:=by
      rcases l1 M m2 with z|z
      ·rw[z,hn]
      ·rw[z,ad]
     have Z:mrg b o n u0=n:=by
      rcases l1 u0 T with z|z
      ·unfold mrg;rw[Gm (by rw[<-z];exact Y)]
      ·exact absurd (z.symm.trans Y) (al u0)
     refine⟨_,Xb,_,Xb,N2.get m2 (t2.Ql (r.Ql N.at.choose_spec (λxs z=>by cases z))) ⟨_,rfl,_,rfl,N2.put (by omega) T J λH3 aj N3=>?_⟩⟩;refine⟨_,_,Xb,r.trans aj,N3,λt I=>?_,λt I=>?_⟩
     ·by_cases z:t=u0
      ·subst z;right;rw[Gm Xb,e2,Z]
      ·rw[Gh z];exact l1 t I
     ·by_cases z:t=u0
      ·subst z;rw[Gm Xb,e2,Z]
      ·rw[Gh z];rw[ai,List.mem_append,List.mem_singleton]at I;exact l2 t (I.resolve_right z)
    ·have Y:L2 u0≠o:=by simpa using Y
     refine⟨_,_,Xb,r,N2,l1,λt I=>?_⟩;rw[ai,List.mem_append,List.mem_singleton]at I;rcases I with I|I
     ·exact l2 t I
     ·subst I;rcases l1 t T with z|z
      ·rw[z];unfold mrg;rw[Gh (by rw[<-z];exact Y)]
      ·exact z
   ·rintro σ H2 ⟨L2,l,rfl,r,N2,l1,l2⟩;rw[ab.length,List.take_length]at l2;have ml:∀x∈S,L2 x=mrg b o n x:=l2;refine⟨Gf,L2,_,_,_,_,Xb,O.trans r,N2,?_,?_,?_,(λe=>by cases e),λ_=>?_⟩
    ·intro x hx y J e;rw[ml x hx,ml y J]at e;rw[<-ho,<-hn]at e;exact Qo1 m1 m2 snd mc x hx y J e
    ·intro x hx y J e;rw[ml x hx,ml y J];exact Qrb (G x hx y J e)
    ·intro p u;rw[tk,List.mem_append,List.mem_singleton]at u;rcases u with u|u
     ·have af:=hG p (List.mem_of_mem_take u);rw[ml _ af.1,ml _ af.2.1];exact Qrb (dn p u)
     ·subst u;show L2 u1=L2 M;rw[ml _ m1,ml _ m2,ad];unfold mrg;rw[Gm ho]
    ·refine⟨u1,m1,M,m2,λz=>c ?_,?_⟩
     ·have:=G u1 m1 M m2 z;rw[ho,hn]at this;exact this
     ·rw[ml _ m1,ml _ m2,ad];unfold mrg;rw[Gm ho]
  ·have c:b u1=b M:=by simpa using c
   refine⟨g,b,_,_,_,_,Xb,O,N,snd,G,λp u=>?_,gf,gt⟩;rw[tk,List.mem_append,List.mem_singleton]at u;rcases u with u|u
   ·exact dn p u
   ·subst u;exact c
 ·rintro σ H1 ⟨g,b,W,X,q,l,rfl,O,N,snd,G,dn,gf,gt⟩;have e:m.take pq.length=m:=by rw[show pq.length=m.length from Gr ac,List.take_length]
  rw[e]at dn;exact k _ _ ⟨g,b,_,_,_,_,_,_,_,_,Xb,O,N,snd,G,dn,gf,gt⟩
end
def Cgt(L:Th->Int)(u v:Th):Prop:=∃w ps a,u=.mk w ps/\v=.mk w a/\ps.map L=a.map L
theorem Qx4{L:Th->Int}(cl:∀w ps,Th.mk w ps∈S->∀p∈ps,p∈S)(hS:Snd tl S L){ps a:List Th}(h1:Th.mk w ps∈S)(h2:Th.mk w a∈S)(e:ps.map L=a.map L):Cg tl (.mk w ps) (.mk w a):=by
 refine .cong (CgL.of (by have:=congrArg List.length e;simpa using this) λi p q c d=>?_);have b:(ps.map L)[i]?=(a.map L)[i]?:=by rw[e]
 rw[List.getElem?_map,List.getElem?_map,c,d]at b;exact hS p (cl _ _ h1 p (List.mem_of_getElem? c)) q (cl _ _ h2 q (List.mem_of_getElem? d)) (Tj b)
section
variable{P:Gk}{w:Gv}{K:Gd}{mg:Ta->Option Value}{base:Heap}{f:Gc}{cdv:Value}{A:TL}{outer:List LL}{s:Gj}{Hi:Hp}{E:XK}
theorem Qht(B:Blt mg)(U:(XC P w K mg base f cdv A outer s Hi E).A.units+64<DP):∃t,PS (XC P w K mg base f cdv A outer s Hi E) Qzw t/\∀(tl:Tl)(S:List Th)(L:Th->Int)(d pl W:Gc)(pq nv:List V)(x:List (Th×Th))(H0:Hp)(x0 x1 x2 x3 x5 x7:Option V)
  (hN:Num P w H0 d S L)(ab:H0 pl=Ga (.lst pq))(aq:Qae H0 pq x)(ah:H0 W=Ga (.lst nv))(aa:Zq H0 nv S)(am:W≠pl)(hG:Good tl S x)(hS:Snd tl S L)(cl:∀w ps,Th.mk w ps∈S->∀p∈ps,p∈S)(hsz:∀t∈S,t.size<=3000)(al:S.length<=3000)(az:x.length<=3000),
  Tr t
   (λσ H=>H=H0/\∃J y m g l G I,σ=s4 x0 x1 x2 x3 J x5 d x7 pl W Gq y m g l G I)
   (λσ H=>∃q b J y m g l G I,σ=s4 x0 x1 x2 x3 J x5 d x7 pl W Gq y m g l G I/\Ig pl H0 H/\H pl=Ga (.lst q)/\Qae H q b/\Good tl S b/\(∀p∈x,p∈b)/\
    (∀(k j:Nat)u v,j<k->S[k]?=Ga u->S[j]?=Ga v->Cgt L u v->(u,v)∈b)):=by
 have nd:=Us.nd;refine⟨_,(Ye Gy rfl (Uv rfl B.range (Qa (Qo Yz rfl B.len GO (Qa (pv 9) Qe)) Qe)) (Ya 11 nd)
  (Qh (Ye Gy rfl (Uv rfl B.range (Qa (pv 11) Qe)) (Ya 12 nd)
  (Qd (Qs 4 nd (Qn Zi (pv 9) (pv 11)))
  (Qd (Qs 13 nd (Qn Zi (pv 9) (pv 12)))
  (Qh (Zn (PW.pt (Vh (Qp Wi (Qn Q5 (pv 4) Qj) (Qn Q5 (pv 13) Qj) (Q3 _)) (Wj (Qp Wi (Qo Yz rfl B.len GO (Qa (pv 4) Qe)) (Qo Yz rfl B.len GO (Qa (pv 13) Qe)) (Q3 _)))))
  (Qd (Qcz (i:=14) (own:=["_law_part"]) (fv:=[(6,"_law_leaders")]) nd rfl rfl rfl (S:=(by eq_refl:X8 (Qk Wn) _)) (.cons rfl (Dj Xb) rfl .nil) (Ue (Ys Rq (pv 4) (Yt Qj) Xt))
   (λ_ _ _ _ _=>Xc (i:=0) nd2 rfl (Dj Xb) (Er Xb)) (λ_ _ _ _ _=>Wh) (λ_ _ _ _ _=>(Qn (r:=Qhp P w) (Uq U) (pv 1) (pv 0))))
  (Qh (Zn (Qp (Qj2 U) (pv 14) (Vm (own:=["_law_part"]) (fv:=[(6,"_law_leaders")]) rfl (S:=(by eq_refl:X8 (Qk Wn) _)) (.cons rfl (Dj Xb) rfl .nil) (Ue (Ys Rq (pv 13) (Yt Qj) Xt))
   (λ_ _ _ _ _=>Xc (i:=0) nd2 rfl (Dj Xb) (Er Xb)) (λ_ _ _ _ _=>Wh) (λ_ _ _ _ _=>(Qn (r:=Qhp P w) (Uq U) (pv 1) (pv 0)))) (Q3 _))
  (Qh (Ze (Xq Gs GF GV Z0 (pv 8) (Qa (Za (Qa (pv 4) (Qa (pv 13) Qe))) Qe)))) Q6))) Q6))))))),?_⟩
 intro tl S L d pl W pq nv x H0 x0 x1 x2 x3 x5 x7 hN ab aq ah aa am hG hS cl hsz al az;rintro D σ H ⟨rfl,J,y,m,g,l,G,I,rfl⟩ kk;obtain⟨od,ak⟩:=hN.at;have aC:d≠pl:=λz=>by rw[z,ab]at ak;cases ak
 have aH:=aa.length;refine⟨_,Xb,_,_,Xb,.inl ⟨nv,Zc.of ah,Xb⟩,_,Xb,by omega,by omega,Uz (lo:=0) (n:=((nv.length:Int)).toNat) (λi σ H1=>∃q b J y m g l,σ=s4 x0 x1 x2 x3 J x5 d x7 pl W Gq y m g l G I/\Ig pl H H1/\H1 pl=Ga (.lst q)/\Qae H1 q b/\Good tl S b/\(∀p∈x,p∈b)/\
    (∀(k j:Nat)u v,k<i->j<k->S[k]?=Ga u->S[j]?=Ga v->Cgt L u v->(u,v)∈b)/\b.length<=3000+i*3000)
  ⟨pq,x,J,y,m,g,l,Xb,Ig.refl,ab,aq,hG,λ_ h=>h,λk j u v h=>by omega,by omega⟩ ?_ ?_⟩
 ·rintro i σ H1 hi ⟨ai,X,J,y,m,g,l,rfl,R,T,Z,g3,g4,g5,g6⟩;have hi:i<S.length:=by omega
  refine⟨_,Xb,_,Xb,by omega,by omega,Uz (lo:=0) (n:=((0+(i:Int))).toNat) (λj σ H2=>∃q b J m g l,σ=s4 x0 x1 x2 x3 J x5 d x7 pl W Gq (Ga (.int (0+(i:Int)))) m g l G I/\Ig pl H H2/\H2 pl=Ga (.lst q)/\Qae H2 q b/\Good tl S b/\(∀p∈x,p∈b)/\
    (∀(k j:Nat)u v,k<i->j<k->S[k]?=Ga u->S[j]?=Ga v->Cgt L u v->(u,v)∈b)/\(∀(Q:Nat)u v,Q<j->S[i]?=Ga u->S[Q]?=Ga v->Cgt L u v->(u,v)∈b)/\b.length<=3000+i*3000+j)
   ⟨ai,X,J,m,g,l,Xb,R,T,Z,g3,g4,g5,λQ u v h=>by omega,by omega⟩ ?_ ?_⟩
  ·rintro j σ H2 hj ⟨M,C,J,m,g,l,rfl,R,T,Z,g3,g4,g5,g6,g7⟩;have hj:j<i:=by omega
   obtain⟨v1,e1,t1⟩:=aa.at (List.getElem?_eq_getElem hi);obtain⟨v2,e2,t2⟩:=aa.at (List.getElem?_eq_getElem (show j<S.length by omega));have tu:Qt H H2:=R.Ql ab (λxs z=>by cases z);have N2:Num P w H2 d S L:=hN.keep (λo h=>R _ _ h aC) tu;have ar:=R _ _ ah am;have m1:S[i]∈S:=List.getElem_mem _;have m2:S[j]∈S:=List.getElem_mem _;have q1:S[i]?=Ga S[i]:=List.getElem?_eq_getElem _;have q2:S[j]?=Ga S[j]:=List.getElem?_eq_getElem _;generalize S[i]=u1 at*;generalize S[j]=u2 at*;obtain⟨b1,w1,aE,N,rfl,rfl,af,an⟩:=(t1.Ql tu).inv;obtain⟨b2,w2,aF,O,rfl,rfl,ag,ao⟩:=(t2.Ql tu).inv;have l1:=an.length;have l2:=ao.length;have z1:=hsz _ m1;have z2:=hsz _ m2;simp only[Th.size]at z1 z2;have y1:=Zx N;have y2:=Zx O;refine⟨_,Xb,_,Xb,W,nv,_,_,Xb,Xb,Zc.of ar,(by rw[EA];exact Qy e1),?_⟩;refine⟨_,Xb,_,Xb,W,nv,_,_,Xb,Xb,Zc.of ar,(by rw[EA];exact Qy e2),?_⟩;refine⟨_,Xb,b1,_,_,_,Xb,Xb,Z2.of af,Qy (j:=0) rfl,_,Xb,b2,_,_,_,Xb,Xb,Z2.of ag,Qy (j:=0) rfl,Xb,_,Xb,?_⟩;rw[Yf];have fin:∀{J g l:Option V}{H3:Hp},Qz H2 H3->¬Cgt L (.mk w1 N) (.mk w2 O)->∃q b aG m av aw,s4 x0 x1 x2 x3 J x5 d x7 pl W Gq (Ga (.int (0+(i:Int)))) (Ga (.int (0+(j:Int)))) g l G I=s4 x0 x1 x2 x3 aG x5 d x7 pl W Gq (Ga (.int (0+(i:Int)))) m av aw G I/\Ig pl H H3/\H3 pl=Ga (.lst q)/\Qae H3 q b/\Good tl S b/\(∀p∈x,p∈b)/\
     (∀(k j:Nat)u v,k<i->j<k->S[k]?=Ga u->S[j]?=Ga v->Cgt L u v->(u,v)∈b)/\(∀(Q:Nat)u v,Q<j+1->S[i]?=Ga u->S[Q]?=Ga v->Cgt L u v->(u,v)∈b)/\b.length<=3000+i*3000+(j+1):=λ{J g l H3}sm no=>by
    refine⟨M,C,_,_,_,_,Xb,R.trans (Ig.of sm),sm _ _ T,Z.Ql (Qt.of sm),g3,g4,g5,λQ u v h U hv c=>?_,by omega⟩;by_cases z:Q=j
    ·subst z;rw[q1]at U;rw[q2]at hv;cases U;cases hv;exact absurd c no
    ·exact g6 Q u v (by omega) U hv c
   refine Va (λc=>?_) (λc=>?_)
   ·have c:w1=w2:=by simpa using c
    subst c;refine⟨_,Xb,_,_,Xb,.inr ⟨_,Z2.of af,Xb⟩,_,Xb,_,_,Xb,.inr ⟨_,Z2.of ag,Xb⟩,Xb,_,Xb,?_⟩;rw[Vp];refine Va (λc2=>?_) (λc2=>?_)
    ·refine⟨_,Xb,_,Xb,b1,_,Xb,Z2.of af,V1 _ _,λr hr=>?_⟩;rw[Qhh];have s3:=Qg hr (.tup aE);refine⟨r,Xb,⟨_,Z2.of Qb⟩,λp Y=>?_⟩;refine Qe0 (K:=K) Qb (an.same s3) (cl _ _ m1) (N2.same s3) Y (by omega) λH4 aD ax=>?_;have ac:Qz H2 H4:=s3.trans aD;refine⟨_,Xb,_,Xb,_,Xb,b2,_,Xb,Z2.of (ac _ _ ag),V1 _ _,λr2 aA=>?_⟩;rw[Qhh];have s5:=Qg aA (.tup aF);refine⟨r2,Xb,⟨_,Z2.of Qb⟩,λp2 ap=>?_⟩;refine Qe0 (K:=K) Qb (ao.same (ac.trans s5)) (cl _ _ m2) (N2.same (ac.trans s5)) ap (by omega) λH6 s6 ay=>?_;have au:Qz H4 H6:=s5.trans s6;have ad:=ac.trans au;refine⟨.list ((N.map L).map Ew),.list ((O.map L).map Ew),.lst (au _ _ ax) (Qdz _),.lst ay (Qdz _),by simp only[Tp];exact Qdd _,by simp only[Tp];exact Qdd _,?_,_,Xb,?_⟩
     ·have:=Qcy (N.map L);simp only[Dg];omega
     have ev:TQ (.list ((N.map L).map Ew)) (.list ((O.map L).map Ew))=decide (N.map L=O.map L):=by simp only[TQ];exact Qjj _ _
     rw[ev];refine Va (λc3=>?_) (λc3=>?_)
     ·have c3:=TJ c3;refine⟨_,Xb,.inl ⟨Xb,_,Zc.of (ad _ _ T)⟩,_,Xb,_,Xb,by show 2<=Gi;decide,λe he=>?_⟩;have s7:=Qg he (.tup [.ref b1,.ref b2]);have ae:=ad.trans s7;have lp:M.length=C.length:=Gr Z;have ib:i*3000<=3000*3000:=D0 _ (by omega);refine⟨pl,M,.ref e,Xb,Xb,ae _ _ T,by rw[GQ];omega,?_⟩;have aj:Qt H2 (upd (upd H6 e (.tup [.ref b1,.ref b2])) pl (.lst (M++[.ref e]))):=(Qt.of ae).trans (Zs λxs z=>by rw[ae _ _ T]at z;cases z);have aB:e≠pl:=λz=>by rw[z,ad _ _ T]at he;cases he
      refine⟨M++[.ref e],C++[(.mk w1 N,.mk w1 O)],_,_,_,_,Xb,λa o h1 h2=>by rw[Qf h2];exact ae _ _ (R _ _ h1 h2),Qb,?_,?_,λp Y=>List.mem_append_left _ (g4 p Y),λk j u v h1 h2 h3 h4 h5=>List.mem_append_left _ (g5 k j u v h1 h2 h3 h4 h5),λQ u v h U hv c=>?_,by rw[List.length_append,List.length_singleton];omega⟩
      ·refine Yq (Z.Ql aj) (.cons ⟨e,_,_,Xb,by rw[Qf aB];exact Qb,(t1.Ql tu).Ql aj,(t2.Ql tu).Ql aj⟩ .nil)
      ·intro p Y;rcases List.mem_append.mp Y with Y|Y
       ·exact g3 p Y
       ·rw[List.mem_singleton]at Y;subst Y;exact⟨m1,m2,Qx4 cl hS m1 m2 c3⟩
      ·by_cases z:Q=j
       ·subst z;rw[q1]at U;rw[q2]at hv;cases U;cases hv;exact List.mem_append_right _ List.mem_cons_self
       ·exact List.mem_append_left _ (g6 Q u v (by omega) U hv c)
     ·have c3:=of_decide_eq_false (Su.mpr c3);refine fin ad ?_;rintro⟨w',ps,qs,z1,z2,z3⟩;cases z1;cases z2;exact c3 z3
    ·refine fin (λ_ _ h=>h) ?_;rintro⟨w',ps,qs,z1,z2,z3⟩;cases z1;cases z2;have:=congrArg List.length z3;simp at this;simp at c2;omega
   ·refine Zp (fin (λ_ _ h=>h) ?_);have c:¬w1=w2:=by simpa using c
    rintro⟨w',ps,qs,z1,z2,z3⟩;cases z1;cases z2;exact c rfl
  ·rintro σ H2 ⟨M,C,J,m,g,l,rfl,R,T,Z,g3,g4,g5,g6,g7⟩;refine⟨M,C,_,_,_,_,_,Xb,R,T,Z,g3,g4,λk j u v h1 h2 h3 h4 h5=>?_,by omega⟩;by_cases z:k=i
   ·subst z;exact g6 j u v (by omega) h3 h4 h5
   ·exact g5 k j u v (by omega) h2 h3 h4 h5
 ·rintro σ H1 ⟨ai,X,J,y,m,g,l,rfl,R,T,Z,g3,g4,g5,g6⟩;refine kk _ _ ⟨ai,X,_,_,_,_,_,_,_,Xb,R,T,Z,g3,g4,λk j u v h1 h2 h3 h4=>g5 k j u v ?_ h1 h2 h3 h4⟩;have:=(List.getElem?_eq_some_iff.mp h2).1;omega
end
section
variable{P:Gk}{w:Gv}{K:Gd}{mg:Ta->Option Value}{base:Heap}{f:Gc}{cdv:Value}{A:TL}{outer:List LL}{s:Gj}{Hi:Hp}{E:XK}
theorem Qub{L:Th->Int}{b:List (Th×Th)}(h:∀(k j:Nat)u v,j<k->S[k]?=Ga u->S[j]?=Ga v->Cgt L u v->(u,v)∈b)(e:∀p∈b,L p.1=L p.2):
  ∀w ps a,Th.mk w ps∈S->Th.mk w a∈S->ps.map L=a.map L->L (.mk w ps)=L (.mk w a):=by
 intro w ps a h1 h2 f;obtain⟨k,d⟩:=List.mem_iff_getElem?.mp h1;obtain⟨j,c⟩:=List.mem_iff_getElem?.mp h2;rcases Fa j k with z|z|z
 ·exact e _ (h k j _ _ z d c ⟨w,ps,a,Xb,Xb,f⟩)
 ·subst z;rw[d]at c;cases c;rfl
 ·exact(e _ (h j k _ _ z c d ⟨w,a,ps,Xb,Xb,f.symm⟩)).symm
theorem Qob(B:Blt mg)(hu:(XC P w K mg base f cdv A outer s Hi E).A.units+64<DP):∃t,PS (XC P w K mg base f cdv A outer s Hi E) (cSt 7) t/\∀(tl:Tl)(S:List Th)(L:Th->Int)(d pl J:Gc)(pq nv:List V)(F:List (Th×Th))(H0:Hp)(x0 x1 x2 x3 x7:Option V)
  (hN:Num P w H0 d S L)(Q:H0 pl=Ga (.lst pq))(af:Qae H0 pq F)(I:H0 J=Ga (.lst nv))(ac:Zq H0 nv S)(Y:J≠pl)(hG:Good tl S F)(hS:Snd tl S L)(cl:∀w ps,Th.mk w ps∈S->∀p∈ps,p∈S)(hsz:∀t∈S,t.size<=3000)(G:S.length<=3000)(ae:F.length<=3000)
  (C:∀a b,(Gf,a,b)∈tl->a∈S/\b∈S/\(a,b)∈F),
  Tr t
   (λσ H=>H=H0/\∃x4 X q r u v x y,σ=s4 x0 x1 x2 x3 x4 X d x7 pl J Gf q r u v x y)
   (λσ H=>∃L',σ[6]?=Ga (Ga (.ref d))/\(∀c o,H0 c=Ga o->c≠d->c≠pl->H c=Ga o)/\Num P w H d S L'/\Tells tl S L'):=by
 have nd:=Us.nd;obtain⟨t1,aq,au⟩:=Qht (P:=P) (w:=w) (K:=K) (mg:=mg) (base:=base) (f:=f) (cdv:=cdv) (A:=A) (outer:=outer) (s:=s) (Hi:=Hi) (E:=E) B hu;obtain⟨t2,ar,av⟩:=Qnh (P:=P) (w:=w) (K:=K) (mg:=mg) (base:=base) (f:=f) (cdv:=cdv) (A:=A) (outer:=outer) (s:=s) (Hi:=Hi) (E:=E) hu;refine⟨_,Vb Gy (Xu (pv 10)) (Qd (Qs 10 nd Vd) (Qd aq (Qd ar (Qh (Qs 8 nd (Zt Qe)))))),?_⟩;intro tl S L d pl J pq nv F H0 x0 x1 x2 x3 x7 hN Q af I ac Y hG hS cl hsz G ae C;rintro D σ H ⟨rfl,x4,X,q,r,u,v,x,y,rfl⟩ kk;obtain⟨od,O⟩:=hN.at;have aw:d≠pl:=λz=>by rw[z,Q]at O;cases O
 have ag:J≠d:=λz=>by rw[z,O]at I;cases I
 refine⟨λm σ H1=>∃g k j n i x4 X q r u v x y,σ=s4 x0 x1 x2 x3 x4 X d x7 j J g q r u v x y/\(∀c o,H c=Ga o->c≠d->c≠pl->H1 c=Ga o)/\Num P w H1 d S k/\Snd tl S k/\
   H1 j=Ga (.lst n)/\Qae H1 n i/\Good tl S i/\i.length<=3000/\(∀c o,H c=Ga o->c≠d->c≠pl->c≠j)/\(∀a b,(Gf,a,b)∈tl->(a,b)∈i\/k a=k b)/\m=(if g=Gf then dis S k+1 else 0)/\(g=Gq->I8 tl S k),
  ⟨_,Gf,L,pl,pq,F,_,_,_,_,_,_,_,_,Xb,λc o e _ _=>e,hN,hS,Q,af,hG,ae,(λ_ _ _ _ h=>h),λa b h=>.inl (C a b h).2.2,Xb,λz=>by cases z⟩,?_⟩
 rintro m σ H1 ⟨g,k,j,n,i,x4,X,q,r,u,v,x,y,rfl,kp,N,snd,g1,g2,g3,g4,g5,g6,rfl,g7⟩;refine⟨_,Xb,g,Xb,?_⟩;cases g with
 |false=>refine Zp (kk _ _ ⟨k,Xb,kp,N,g7 Xb,snd⟩)
 |true=>
  refine Yr ⟨λam H'=>∃m',m'<dis S k+1/\∃g k j n i x4 X q r u v x y,am=s4 x0 x1 x2 x3 x4 X d x7 j J g q r u v x y/\(∀c o,H c=Ga o->c≠d->c≠pl->H' c=Ga o)/\Num P w H' d S k/\Snd tl S k/\
   H' j=Ga (.lst n)/\Qae H' n i/\Good tl S i/\i.length<=3000/\(∀c o,H c=Ga o->c≠d->c≠pl->c≠j)/\(∀a b,(Gf,a,b)∈tl->(a,b)∈i\/k a=k b)/\m'=(if g=Gf then dis S k+1 else 0)/\(g=Gq->I8 tl S k),λam H' h=>h,?_⟩
  have ai:=kp _ _ I ag Y;have aj:J≠j:=g5 _ _ I ag Y;have aa:Qt H H1:=λc xs e=>kp c _ e (λz=>by rw[z,O]at e;cases e) (λz=>by rw[z,Q]at e;cases e);have ak:=ac.Ql aa;have ah:d≠j:=λz=>by obtain⟨o,ho⟩:=N.at;rw[z,g1]at ho;cases ho
  refine au tl S k d j J n nv i H1 x0 x1 x2 x3 X x7 N g1 g2 ai ak aj g3 snd cl hsz G g4 _ _ _ ⟨Xb,_,_,_,_,_,_,_,Xb⟩ ?_;rintro aJ H2 ⟨ap,U,y4,ax,ay,az,aA,aB,aC,rfl,M,a1,a2,a3,a4,a5⟩;have al:Qt H1 H2:=M.Ql g1 (λxs z=>by cases z);have N2:Num P w H2 d S k:=N.keep (λo h=>M _ _ h ah) al;have ao:=M _ _ ai aj;refine av tl S k d j J ap nv U H2 x0 x1 x2 x3 x7 N2 a1 a2 ao (ak.Ql al) a3 snd G _ _ _ ⟨Xb,_,_,_,_,_,_,_,_,Xb⟩ ?_;rintro aK H3 ⟨g',L3,z4,z5,aD,aE,aF,aG,aH,aI,rfl,an,N3,W,ab,b1,T,b3⟩;refine⟨Gx _,λp l=>?_⟩;have R:=Qg l (.lst []);have Z:∀c o,H c=Ga o->c≠d->c≠pl->H3 c=Ga o:=λc o e h1 h2=>an c o (M c o (kp c o e h1 h2) (g5 c o e h1 h2)) h1;have ad:∀c o,H c=Ga o->c≠d->c≠pl->c≠p:=λc o e h1 h2 z=>by rw[<-z,Z c o e h1 h2]at l;cases l
  have told:∀a b,(Gf,a,b)∈tl->L3 a=L3 b:=λa b h=>by
   rcases g6 a b h with z|z
   ·exact b1 _ (a4 _ z)
   ·exact ab a (C a b h).1 b (C a b h).2.1 z
  cases g' with
  |false=>
   have T:=T rfl;have e1:∀p∈U,k p.1=k p.2:=λp l=>by rw[<-T _ (a3 p l).1,<-T _ (a3 p l).2.1];exact b1 p l
   have cg:=Qub a5 e1;refine⟨0,by omega,Gq,L3,p,[],[],_,_,_,_,_,_,_,_,Xb,λc o e h1 h2=>R _ _ (Z c o e h1 h2),N3.same R,W,Qb,.nil,(λp l=>nomatch l),Gx _,ad,λa b h=>.inr (told a b h),Xb,λ_=>⟨cl,λa b h=>⟨(C a b h).1,(C a b h).2.1,told a b h⟩,λw ps qs h1 h2 e=>?_⟩⟩;rw[T _ h1,T _ h2];refine cg w ps qs h1 h2 ?_;rw[<-List.map_congr_left λp l=>T p (cl _ _ h1 p l),<-List.map_congr_left λp l=>T p (cl _ _ h2 p l)];exact e
  |true=>have:=Qxa ab (b3 Xb);exact⟨dis S L3+1,by omega,Gf,L3,p,[],[],_,_,_,_,_,_,_,_,Xb,λc o e h1 h2=>R _ _ (Z c o e h1 h2),N3.same R,W,Qb,.nil,(λp l=>nomatch l),Gx _,ad,λa b h=>.inr (told a b h),Xb,λz=>by cases z⟩
end
theorem Qf5{T:List Th}(h:Zq H xs (T++[t])):∃a x,xs=a++[x]/\Zq H a T/\Yj H x t:=by
 induction T generalizing xs with
 |nil=>
  cases h with
  |cons h1 h2=>cases h2;exact⟨[],_,Xb,.nil,h1⟩
 |cons y r b=>
  cases h with
  |cons h1 h2=>obtain⟨a,x,e,c,d⟩:=b h2;exact⟨_::a,x,by rw[e];rfl,.cons h1 c,d⟩
theorem Xo:∀a b:List Th,Qw (a++b)=Qw a+Qw b
 |[],b=>by simp[Qw]
 |x::a,b=>by simp only[List.cons_append,Qw,Xo a b];omega
theorem W0:∀(l:List Th)(i:Nat),Qw (l.take i)<=Qw l
 |[],i=>by simp
 |x::l,0=>by simp[Qw]
 |x::l,i+1=>by have:=W0 l i;simp only[List.take_succ_cons,Qw];omega
def J2(tl:Tl):List Th:=tl.flatMap λp=>[p.2.1,p.2.2]
theorem Qaf:∀tl:Tl,Qw (J2 tl)=Qw (tl.map (·.2.1))+Qw (tl.map (·.2.2))
 |[]=>by simp[J2,Qw]
 |p::r=>by have:=Qaf r;unfold J2 at this⊢;simp only[List.flatMap_cons,List.map_cons,List.cons_append,List.nil_append,Qw]at this⊢;omega
theorem Qcx:t∈J2 tl↔∃p∈tl,t=p.2.1\/t=p.2.2:=by unfold J2;simp[List.mem_flatMap]
theorem Qcu:∀ds:List TH,Tw ds []=ds.isEmpty
 |[]=>by simp[Tw]
 |_::_=>by simp[Tw]
theorem Quc(b:Bool):(tw b==("same":Ta))=b:=by cases b<;>decide+kernel
theorem Qdp(tl:Tl)(i:Nat)(b:Bool)(u v:Th)(h:tl[i]?=Ga (b,u,v)):I0 (tl.take (i+1))=I0 (tl.take i)++(if b then[(u,v)]else[]):=by unfold I0;rw[List.take_add_one,h,List.filter_append,List.map_append];cases b<;>rfl
theorem Qok(tl:Tl):(I0 tl).length<=tl.length:=by unfold I0;rw[List.length_map];exact List.length_filter_le _ _
section
variable{P:Gk}{w:Gv}{K:Gd}{mg:Ta->Option Value}{base:Heap}
theorem Qlg(F:Wu K "_law_classes" "_law_classes" Wn f fd)(B:Blt mg):Qr P w K mg base Z3 1 f fd ["_law_told","_law_things"] (Qak P w):=by
 refine F.ok Us (λvs H Q E h=>?_) (λcdv A outer s H vs Q E hr h=>?_)
 ·obtain⟨a,b,us,Z,tl,ts,rfl,_⟩:=h;rfl
 obtain⟨a,b,us,Z,tl,ts,rfl,ha,ag,hb,aP,ax,aw,hsz,q⟩:=h;have nd:=Us.nd;have hu:=hr.units;obtain⟨t7,aR,aS⟩:=Qob (P:=P) (w:=w) (K:=K) (mg:=mg) (base:=base) (f:=f) (cdv:=cdv) (A:=A) (outer:=outer) (s:=s) (Hi:=H) (E:=E) B hu;refine⟨_,(Qd (Qs 2 nd (Xn Vn rfl B.list TD (Qa (pv 1) Qe)))
  (Qd (Ye Gy rfl (Y2 (pv 0)) (Vi rfl (Zl (Ya 3 nd) (Zl (Ya 4 nd) (Zl (Ya 5 nd) X5))))
  (Qh (Qs 2 nd (Zo Uc (pv 2) (Zt (Qa (pv 4) (Qa (pv 5) Qe)))))))
  (Qd (Ud (i:=6) nd rfl (Er Xb) Oj)
  (Qd (Vb Gy (Qp (Qr7 hu) (pv 2) (Zt Qe) (Q3 _))
  (Qd (Qs 7 nd (Qd5 Gs DT DU Qb8 (pv 2)))
  (Qh (Zn (Qp (Qds hu) (pv 7) (pv 6) rfl)
  (Qd (O0 (Qo Qjv rfl B.len GO (Qa (pv 6) Qe)) (Qcc (pv 6) (pv 7) (Qdq hu)))
  (Qh (Qs 2 nd (Zo Uc (pv 2) (Xn Vn rfl B.list TD (Qa (Ys Rq (pv 7) (Yt Qj) Xt) Qe)))))) Q6))))
  (Qd (Qcz (i:=8) (own:=["_law_deed"]) (fv:=[]) nd rfl rfl rfl (S:=(by eq_refl:X8 (Qk Wn) _)) .nil (Y2 (pv 0))
   (λ_ _ _ _ _=>Xc (i:=0) (nd1 _) rfl (Dj Xb) (Er Xb)) (λ_ _ _ _ _=>Qic (Qp Wi (Qn (r:=Quv K) Q5 (pv 0) Qj) Zf (Q3 _))) (λ_ _ _ _ _=>Ys (r:=Qzd K) Rq (pv 0) (Yt Qj) Xt))
  (Qd (Qs 9 nd (Xn (Qid Xb) rfl B.list TD (Qa (pv 6) Qe)))
  (Qd (Qs 10 nd Vd)
  (Qd aR
  (Qh (Qu (pv 6))))))))))),?_⟩
 have ay:us.length=tl.length:=Gr ag;have aX:tl.length<=3000:=by have:=Zx (tl.map (·.2.1));rw[List.length_map]at this;omega
 refine⟨_,Xb,b,Z,Xb,.inl (Zc.of hb),λl X=>?_⟩;have s1:=Qg X (.lst Z);refine⟨_,Xb,a,Xb,⟨_,Zc.of (s1 _ _ ha)⟩,Xh (K:=K) (a:=a) (xs:=us) (λi σ H1=>∃(l:Gc)(xs:List V)(x3 x4 x5:Option V),σ=[Ga (.ref a),Ga (.ref b),Ga (.ref l),x3,x4,x5,Gg,Gg,Gg,Gg,Gg,Gg,Gg,Gg,Gg,Gg,Gg]/\Qz H H1/\H l=Gg/\H1 l=Ga (.lst xs)/\Zq H1 xs (ts++J2 (tl.take i)))
  ⟨l,Z,_,_,_,Xb,s1,X,Qb,by simp[J2];exact aP.same s1⟩ (λi σ H1 _⟨_,_,_,_,_,_,sm,_⟩=>Zc.of (sm _ _ ha)) ?_ ?_⟩
 ·rintro i x σ H1 hi ⟨l,xs,x3,x4,x5,rfl,sm,X,I,J⟩;obtain⟨⟨bb,u1,u2⟩,eu,a',v1,v2,rfl,ac,t1,t2⟩:=Qx ag hi;refine⟨a',_,Xb,Z2.of (sm _ _ ac),Xb,_,_,Xb,_,_,Xb,_,_,Xb,Xb,?_⟩;refine⟨_,Xb,_,Xb,_,Xb,by show 2<=Gi;decide,λc hc=>?_⟩;have s2:=Qg hc (.lst [v1,v2]);have lx:=J.length;have b1:=Zx (ts++J2 (tl.take i));have b2:Qw (ts++J2 (tl.take i))<=3000:=by have e1:=Qaf (tl.take i);have e2:=W0 (tl.map (·.2.1)) i;have e3:=W0 (tl.map (·.2.2)) i;rw[List.map_take,List.map_take]at e1;rw[Xo];omega
  refine⟨l,c,xs,[v1,v2],Xb,Xb,s2 _ _ I,Qb,small (by show xs.length+2<=_;omega),λn R=>?_⟩;have s3:=Qg R (.lst (xs++[v1,v2]));have aj:=(sm.trans s2).trans s3;refine⟨n,xs++[v1,v2],_,_,_,Xb,aj,(sm.trans s2).free R,Qb,?_⟩;have e:ts++J2 (tl.take (i+1))=(ts++J2 (tl.take i))++[u1,u2]:=by unfold J2;rw[List.take_add_one,eu,List.flatMap_append,List.append_assoc];rfl
  rw[e];exact((J.same s2).same s3).append (.cons (t1.same aj) (.cons (t2.same aj) .nil))
 rintro σ H1 ⟨l,xs,x3,x4,x5,rfl,sm,X,I,J⟩;rw[ay,List.take_length]at J;have aa:∀t∈ts++J2 tl,t.ok=Gf/\t.depth<=8:=λt k=>by
  rcases List.mem_append.mp k with h|h
  ·exact ax t h
  ·obtain⟨p,u,e⟩:=Qcx.mp h;rcases e with rfl|rfl
   ·exact(aw p u).1
   ·exact(aw p u).2
 have O:Qw (ts++J2 tl)<=3000:=by rw[Xo,Qaf];omega
 have aq:∀t∈ts++J2 tl,t∈ts++J2 tl:=λt h=>h;generalize au:ts++J2 tl=T0 at J aa O aq;intro d hd;have ad:H d=Gg:=sm.free hd;have s2:=Qg hd (Um P w d []);have C:l≠d:=Qc I hd;refine⟨λm σ H2=>∃(l:Gc)(xs:List V)(T S:List Th)(L:Th->Int)(x7:Option V),σ=[Ga (.ref a),Ga (.ref b),Ga (.ref l),x3,x4,x5,Ga (.ref d),x7,Gg,Gg,Gg,Gg,Gg,Gg,Gg,Gg,Gg]/\Qz H H2/\H l=Gg/\l≠d/\H2 l=Ga (.lst xs)/\Zq H2 xs T/\Num P w H2 d S L/\
   (∀x∈S,∀y∈S,L x=L y->x=y)/\(∀x∈S,L x<S.length)/\(∀w ps,Th.mk w ps∈S->∀p∈ps,p∈S\/p∈T)/\(∀t∈T0,t∈S\/t∈T)/\(∀t∈T,t.ok=Gf/\t.depth<=8)/\m=Qw T/\S.length+Qw T<=3000/\(∀t∈S,t.size<=3000),
  ⟨_,l,xs,T0,[],λ_=>0,_,Xb,sm.trans s2,X,C,s2 _ _ I,J.same s2,⟨⟨[],Qb,(λp u=>nomatch u),Xb,(λt k=>nomatch k)⟩,(λt k=>nomatch k)⟩,(λt k=>nomatch k),(λt k=>nomatch k),(λ_ _ k=>nomatch k),λt k=>.inr k,aa,Xb,by simpa using O,(λt k=>nomatch k)⟩,?_⟩
 clear I J X C s2;rintro m σ H2 ⟨l,xs,T,S,L,x7,rfl,aC,X,C,I,J,N,inj,low,cl,al,ah,rfl,sz,ap⟩;have lx:=J.length;have lT:=Zx T;refine⟨_,Xb,Gx _,λz hz=>?_⟩;have s4:=Qg hz (.lst []);have aU:l≠z:=Qc I hz;have az:okL T=Gf:=by rw[Ii,List.all_eq_true];exactλt k=>(ah t k).1
 refine⟨.list (X7 T),.list [],.lst (s4 _ _ I) (J.same s4).dts,.lst Qb .nil,by simp only[Tp];exact Qgn T az,by simp[Tp,Gu],?_,_,Xb,?_⟩
 ·simp only[Dg,To];omega
 have ev:TQ (.list (X7 T)) (.list [])=T.isEmpty:=by
  simp only[TQ];rw[Qcu];cases T with
  |nil=>simp[X7]
  |cons t r=>simp[X7]
 rw[ev];rcases List.eq_nil_or_concat T with rfl|⟨Tr,t,eT⟩
 ·
  refine Zp ?_;have cl:∀w ps,Th.mk w ps∈S->∀p∈ps,p∈S:=λw ps h p u=>(cl w ps h p u).resolve_right (by simp);have al:∀t∈T0,t∈S:=λt h=>(al t h).resolve_right (by simp);have D:=aC.trans s4;have N3:=N.same s4;generalize upd H2 z (.lst [])=H3 at D N3⊢;refine⟨_,Xb,a,Xb,⟨_,Zc.of (D _ _ ha)⟩,λp u=>?_⟩;have sp:=Qg u (.lst []);have aM:H p=Gg:=D.free u;refine Qhu (K:=K) (a:=a) (xs:=us) (small (by omega)) (λi ys σ H4=>(∃x0,σ=[x0])/\Qz H3 H4/\Qae H4 ys (I0 (tl.take i))) ⟨⟨_,Xb⟩,sp,by simp[I0];exact .nil⟩ (λi ys σ H4 _⟨_,g,_⟩=>Zc.of (g _ _ (D _ _ ha))) ?_ ?_
  ·rintro i x ys σ H4 hi ⟨⟨x0,rfl⟩,g,gp⟩ v;obtain⟨⟨bb,u1,u2⟩,eu,a',v1,v2,rfl,ac,t1,t2⟩:=Qx ag hi;have ao:=D.trans g;have a4:=ao _ _ ac;refine⟨_,Xb,a',_,_,_,Xb,Xb,Z2.of a4,Qy (j:=0) rfl,Xb,_,Xb,?_⟩;rw[Yf,Quc];cases bb with
   |true=>
    refine Yr ?_;refine⟨_,Xb,_,Xb,a',_,Xb,Z2.of a4,V1 _ _,λr hr=>?_⟩;rw[Qhh];have s5:=Qg hr (.tup [v1,v2]);have aO:r≠p:=λz=>by rw[z,v]at hr;cases hr
    have t6:Qt H4 (upd (upd H4 r (.tup [v1,v2])) p (.lst (ys++[.ref r]))):=(Qt.of s5).trans (Zs λxs e=>by rw[s5 _ _ v]at e;cases e);refine⟨s5 _ _ v,⟨_,Xb⟩,λc o e=>?_,?_⟩
    ·rw[Qf (Qc e u)];exact s5 _ _ (g _ _ e)
    ·rw[Qdp tl i Gf u1 u2 eu];exact Yq (gp.Ql t6) (.cons ⟨r,v1,v2,Xb,by rw[Qf aO];exact Qb,(t1.same ao).Ql t6,(t2.same ao).Ql t6⟩ .nil)
   |false=>refine Zp ⟨v,⟨_,Xb⟩,g,?_⟩;rw[Qdp tl i Gq u1 u2 eu];simpa using gp
  ·rintro ys σ H4 ⟨_,g,gp⟩ v;rw[ay,List.take_length]at gp;have N4:=N3.same g;obtain⟨kvs,dh,lk,an⟩:=N4.names;refine⟨_,Xb,d,kvs,Xb,dh,λn R=>?_⟩;have sn:=Qg R (.lst (kvs.map λp=>V.ref p.2.1));have inS:∀x∈tl,x.2.1∈S/\x.2.2∈S:=λx M=>by rw[<-au]at al;exact⟨al _ (List.mem_append_right _ (Qcx.mpr ⟨x,M,.inl Xb⟩)),al _ (List.mem_append_right _ (Qcx.mpr ⟨x,M,.inr Xb⟩))⟩
   refine aS tl S L d p n ys _ (I0 tl) _ _ _ _ _ _ (N4.same sn) (sn _ _ v) (gp.Ql (Qt.of sn)) Qb (an.same sn) (Gp (Qc v R)) ?_ ?_ cl ap (by omega) (by have:=Qok tl;omega) ?_ _ _ _ ⟨Xb,_,_,_,_,_,_,_,_,Xb⟩ ?_
   ·rintro⟨x,y⟩ aQ;have h:=Qfj.mp aQ;exact⟨(inS _ h).1,(inS _ h).2,.told h⟩
   ·intro x M y hy e;rw[inj x M y hy e];exact .refl _
   ·intro x y h;exact⟨(inS _ h).1,(inS _ h).2,Qfj.mpr h⟩
   ·rintro a0 H7 ⟨L7,h6,kp,N7,T7⟩;refine⟨_,h6,q d S L7 H7 (λc o e=>?_) ad N7 T7 (λt k=>al t (by rw[<-au];exact List.mem_append_left _ k)) inS⟩;exact kp c o (sn _ _ (g _ _ (D _ _ e))) (Qc e ad) (Qc e aM)
 ·have eT:T=Tr++[t]:=by simpa using eT
  subst eT;have aJ:(Tr++[t]).isEmpty=Gq:=by cases Tr<;>rfl
  rw[aJ];refine Yr ?_;obtain⟨U,x,rfl,k1,k2⟩:=Qf5 J;have af:Qw (Tr++[t])=Qw Tr+t.size:=by rw[Xo];simp[Qw]
  rw[af]at sz;have aT:=Qct t;obtain⟨Y,ab⟩:=ah t (by simp);refine⟨λaF H'=>∃m',m'<Qw (Tr++[t])/\∃(l:Gc)(xs:List V)(T S:List Th)(L:Th->Int)(x7:Option V),aF=[Ga (.ref a),Ga (.ref b),Ga (.ref l),x3,x4,x5,Ga (.ref d),x7,Gg,Gg,Gg,Gg,Gg,Gg,Gg,Gg,Gg]/\Qz H H'/\H l=Gg/\l≠d/\H' l=Ga (.lst xs)/\Zq H' xs T/\Num P w H' d S L/\
   (∀x∈S,∀y∈S,L x=L y->x=y)/\(∀x∈S,L x<S.length)/\(∀w ps,Th.mk w ps∈S->∀p∈ps,p∈S\/p∈T)/\(∀t∈T0,t∈S\/t∈T)/\(∀t∈T,t.ok=Gf/\t.depth<=8)/\m'=Qw T/\S.length+Qw T<=3000/\(∀t∈S,t.size<=3000),λaF H' h=>h,?_⟩
  have ae:(U++[x])[(U++[x]).length - 1]?=Ga x:=by simp
  refine⟨_,Xb,.inl ⟨Xb,_,Zc.of (s4 _ _ I)⟩,l,_,_,Xb,Xb,s4 _ _ I,ae,?_⟩;rw[List.dropLast_concat];have W:Ig l H2 (upd (upd H2 z (.lst [])) l (.lst U)):=λc o e h=>by rw[Qf h];exact s4 _ _ e
  have l5:(upd (upd H2 z (.lst [])) l (.lst U)) l=Ga (.lst U):=Qb;generalize upd (upd H2 z (.lst [])) l (.lst U)=H5 at W l5⊢;have t5:Qt H2 H5:=W.Ql I (λxs e=>by cases e);have aD:Qz H H5:=λc o e=>W c o (aC _ _ e) (Qc e X);have N5:Num P w H5 d S L:=N.keep (λo h=>W _ _ h (Gp C)) t5;have k1:=k1.Ql t5;have k2:=k2.Ql t5;obtain⟨b0,wd,G,ps,rfl,rfl,aH,av⟩:=k2.inv;refine⟨_,Xb,_,Xb,N5.Qzo Y ab k2 ⟨_,Xb,?_⟩⟩;have aB:∀t∈Tr,t.ok=Gf/\t.depth<=8:=λt k=>ah t (List.mem_append_left _ k);refine Va (λc=>?_) (λc=>?_)
  ·have c:¬Th.mk wd ps∈S:=by simpa using c
   obtain⟨kvs,dh,lk,_⟩:=N5.names;refine⟨_,Xb,d,kvs,Xb,dh,_,Xb,_,Xb,N5.add (by omega) c Y ab k2 λH6 aG N6=>?_⟩;have b6:Ig d H5 H6:=aG;obtain⟨o5,aK⟩:=N5.at;have ar:Qt H5 H6:=b6.Ql aK (λxs e=>by cases e);have aE:Qz H H6:=λc o e=>b6 c o (aD _ _ e) (Qc e ad);have l6:=b6 _ _ l5 C;have ax:(Th.mk wd ps).size=Qw ps+1:=by simp only[Th.size]
   have aY:=av.length;have aW:=Zx ps;have aZ:=k1.length;have aV:=Zx Tr;refine⟨_,Xb,_,Xb,_,Xb,b0,_,Xb,Z2.of (ar _ _ aH),V1 _ _,λr aN=>?_⟩;rw[Qhh];have s7:=Qg aN (.tup G);refine⟨r,G,Xb,.inr (Z2.of Qb),λl2 aI=>?_⟩;have s8:=Qg aI (.lst G);refine⟨l,l2,U,G,Xb,Xb,s8 _ _ (s7 _ _ l6),Qb,small (by omega),λn R=>?_⟩;have s9:=Qg R (.lst (U++G));have ak:=s7.trans s8;have am:=ak.trans s9;obtain⟨o6,aL⟩:=N6.at;have aA:∀p∈ps,p.ok=Gf/\p.depth<=8:=λp u=>by
    have h1:okL ps=Gf:=by simp only[Th.ok,Tn]at Y;exact Y.2
    rw[Ii,List.all_eq_true]at h1;have h2:=X9 u;simp only[Th.depth]at ab;exact⟨h1 p u,by omega⟩
   refine⟨Qw (Tr++ps),?_,n,U++G,Tr++ps,S++[Th.mk wd ps],_,_,Xb,aE.trans am,(aE.trans ak).free R,?_,Qb,?_,N6.same am,?_,?_,?_,?_,?_,Xb,?_,?_⟩
   ·rw[af,Xo];omega
   ·exactλz=>by rw[z,ak _ _ aL]at R;cases R
   ·exact((k1.Ql ar).append (av.Ql ar)).same am
   ·intro x M y hy e;rw[List.mem_append,List.mem_singleton]at M hy;by_cases h1:x=Th.mk wd ps
    ·by_cases h2:y=Th.mk wd ps
     ·rw[h1,h2]
     ·rw[Gm h1,Gh h2]at e;have:=low y (hy.resolve_right h2);omega
    ·by_cases h2:y=Th.mk wd ps
     ·rw[Gh h1,Gm h2]at e;have:=low x (M.resolve_right h1);omega
     ·rw[Gh h1,Gh h2]at e;exact inj x (M.resolve_right h1) y (hy.resolve_right h2) e
   ·intro x M;rw[List.mem_append,List.mem_singleton]at M;rw[List.length_append,List.length_singleton];by_cases h1:x=Th.mk wd ps
    ·rw[Gm h1];omega
    ·rw[Gh h1];have:=low x (M.resolve_right h1);omega
   ·intro w' ai h p u;rcases List.mem_append.mp h with h|h
    ·rcases cl w' ai h p u with z|z
     ·exact .inl (List.mem_append_left _ z)
     ·rcases List.mem_append.mp z with z|z
      ·exact .inr (List.mem_append_left _ z)
      ·exact .inl (List.mem_append_right _ z)
    ·rw[List.mem_singleton]at h;cases h;exact .inr (List.mem_append_right _ u)
   ·intro t k;rcases al t k with z|z
    ·exact .inl (List.mem_append_left _ z)
    ·rcases List.mem_append.mp z with z|z
     ·exact .inr (List.mem_append_left _ z)
     ·exact .inl (List.mem_append_right _ z)
   ·intro t k;rcases List.mem_append.mp k with z|z
    ·exact aB t z
    ·exact aA t z
   ·rw[Xo,List.length_append,List.length_singleton];omega
   ·intro t k;rcases List.mem_append.mp k with z|z
    ·exact ap t z
    ·rw[List.mem_singleton]at z;rw[z];omega
  ·have c:Th.mk wd ps∈S:=by simpa using c
   refine⟨Qw Tr,by rw[af];omega,l,U,Tr,S,L,_,Xb,aD,X,C,l5,k1,N5,inj,low,λw' ai h p u=>?_,λt k=>?_,aB,Xb,by omega,ap⟩
   ·rcases cl w' ai h p u with z|z
    ·exact .inl z
    ·rcases List.mem_append.mp z with z|z
     ·exact .inr z
     ·rw[List.mem_singleton]at z;rw[z];exact .inl c
   ·rcases al t k with z|z
    ·exact .inl z
    ·rcases List.mem_append.mp z with z|z
     ·exact .inr z
     ·rw[List.mem_singleton]at z;rw[z];exact .inl c
end
theorem Qek{β:Type}{F:α->β->Prop}{xs:List α}{st:List β}{p:β}(h:Paired F xs (st++[p])):∃a x,xs=a++[x]/\Paired F a st/\F x p:=by
 induction st generalizing xs with
 |nil=>
  cases h with
  |cons h1 h2=>cases h2;exact⟨[],_,Xb,.nil,h1⟩
 |cons y r b=>
  cases h with
  |cons h1 h2=>obtain⟨a,x,e,c,d⟩:=b h2;exact⟨_::a,x,by rw[e];rfl,.cons h1 c,d⟩
theorem Qza(i:Int)(d:0<=i)(h1:i<26):∃c:Nat,atI (("abcdefghijklmnopqrstuvwxyz":Ta).cps.toList) i=Ga c/\c<0x110000:=by
 have b:(("abcdefghijklmnopqrstuvwxyz":Ta).cps.toList).length=26:=by decide+kernel
 have a:∀c∈(("abcdefghijklmnopqrstuvwxyz":Ta).cps.toList),c<0x110000:=by decide+kernel
 have hi:i.toNat<(("abcdefghijklmnopqrstuvwxyz":Ta).cps.toList).length:=by rw[b];omega
 have e:i=((i.toNat:Nat):Int):=by omega
 have q:=Qy (List.getElem?_eq_getElem hi);rw[<-e]at q;exact⟨_,q,a _ (List.getElem_mem hi)⟩
theorem Qkp{c:Nat}{x:Ta}(a:c<0x110000)(h:TU x=Gf):TU ((⟨#[c]⟩:Ta)++x)=Gf:=by show((#[c]++x.cps).all (·<0x110000))=Gf;have h':x.cps.all (·<0x110000)=Gf:=h;rw[Array.all_append,h'];simp[a]
theorem Qqm{c:Nat}{x:Ta}:((⟨#[c]⟩:Ta)++x).length=x.length+1:=by show(#[c]++x.cps).size=x.cps.size+1;simp;omega
theorem Qn3{l:Int}(h1:1<=l)(h:l*2^k<=10^39):k<130:=by
 rcases Tk k 130 with h'|h'
 ·exact h'
 ·exfalso;have e:(2:Int)^130<=2^k:=by
   have:(2:Nat)^130<=2^k:=Nat.pow_le_pow_right (by decide) h'
   exact_mod_cast this
  have b:(2:Int)^k<=l*2^k:=by have a:(0:Int)<=2^k:=M7 (Nw (by decide));have:=EV h1 a;simpa using this
  have c:(10:Int)^39<2^130:=by decide
  omega
theorem Qkf{l:Int}(h1:1<=l / 26 - 1)(h:l*2^k<=10^39):(l / 26 - 1)*2^(k+1)<=10^39:=by
 have a:(0:Int)<2^k:=Nw (by decide);have e:(l / 26 - 1)*2^(k+1)=((l / 26 - 1)*2)*2^k:=by rw[Int.pow_succ];ac_rfl
 rw[e];have:(l / 26 - 1)*2<=l:=by omega
 have:=EV this (M7 a);omega
section
variable{P:Gk}{w:Gv}{K:Gd}{mg:Ta->Option Value}{base:Heap}
theorem Qde:Qv ["_law_cell","_law_left","_law_word"] ["_law_cell"] (Qk Qlo):=by eq_refl
theorem Qvu(F:Wu K "_law_any_word" "_law_any_word" Qlo f fd)(t:mg "abs"=Gg):Qr P w K mg base Z3 1 f fd ["_law_cell"] Qrj:=by
 refine F.ok Qde (λvs H Q E h=>?_) (λcdv A outer s H vs Q E v h=>?_)
 ·obtain⟨n,rfl,_⟩:=h;rfl
 obtain⟨n,rfl,q⟩:=h;refine⟨_,Qd (Ud (i:=1) Qde.nd rfl (Dj Xb) (Zo Xv (Qo Qqv rfl t M9 (Qa (pv 0) Qe)) (Zo Qs4 Qj Qj)))
  (Qd (Ud (i:=2) Qde.nd rfl (Dj Xb) Zf)
  (Qd (Vb Gy (Qp Q0n (pv 1) Qj (Q3 _))
   (Qd (Ud (i:=2) Qde.nd rfl (Dj Xb) (Zo Qkd (Qn Qra Zf (Zo Xv (pv 1) Qj)) (pv 2)))
   (Qh (Ud (i:=1) Qde.nd rfl (Dj Xb) (Zo Qc6 (Zo X6 (pv 1) Qj) Qj)))))
  (Qh (Qu (pv 2))))),?_⟩
 refine⟨_,Xb,n,Xb,_,_,Xb,Xb,⟨by decide,by decide,by decide⟩,_,_,Xb,Xb,(by show(0:Int)<10^DD 39;decide),?_⟩;have L0:0<=(if n<0 then -n else n) % (10:Int)^(DD 39):=TV _ (by decide);have p:(if n<0 then -n else n) % (10:Int)^(DD 39)<10^39:=Tx _ (by decide);refine⟨λm σ H2=>∃(l:Int)(x:Ta),σ=[Ga (.int n),Ga (.int l),Ga (.str x)]/\H2=H/\ -1<=l/\m=(l+1).toNat/\TU x=Gf/\(1<=l->l*2^x.length<=10^39)/\(0<=l->x.length<=131)/\x.length<=132,
  ⟨_,(if n<0 then -n else n) % (10:Int)^(DD 39),"",Xb,Xb,Int.le_trans (by decide) L0,Xb,by decide+kernel,λ_=>?_,λ_=>by decide+kernel,by decide+kernel⟩,?_⟩
 ·have:(("":Ta).length)=0:=by decide+kernel
  rw[this];generalize (if n<0 then -n else n) % (10:Int)^(DD 39)=L at p⊢;omega
 rintro m σ H2 ⟨l,x,rfl,rfl,h1,rfl,h2,j,o,u⟩;refine⟨_,Xb,_,_,Xb,Xb,_,Xb,?_⟩;refine Va (λc=>?_) (λc=>?_)
 ·have g:0<=l:=TJ c;refine⟨λd H'=>∃b,d=[Ga (.int n),Ga (.int (l / 26 - 1)),Ga (.str b)]/\H'=H2/\TU b=Gf/\b.length=x.length+1,?_,?_⟩
  ·rintro d H' ⟨b,rfl,rfl,e,a⟩;refine⟨_,?_,l / 26 - 1,b,Xb,Xb,by omega,Xb,e,λz=>?_,λz=>?_,?_⟩
   ·omega
   ·rw[a];exact Qkf z (j (by omega))
   ·rw[a];have:=Qn3 (k:=x.length) (l:=l) (by omega) (j (by omega));omega
   ·rw[a];have:=o g;omega
  ·obtain⟨ch,e,a⟩:=Qza (l % 26) (TV _ (by decide)) (Tx _ (by decide));refine⟨_,Xb,_,_,Xb,Xb,(by show(0:Int)<26;decide),_,_,ch,Xb,Xb,by decide+kernel,e,_,Xb,_,_,Xb,Xb,?_,?_⟩
   ·have r:((⟨#[ch]⟩:Ta).length)=1:=rfl;have:=o g;rw[GQ,r];omega
   ·refine⟨_,Xb,_,_,Xb,Xb,⟨by decide,by decide⟩,_,_,Xb,Xb,?_⟩;exact⟨_,Xb,Xb,Qkp a h2,Qqm⟩
 ·exact⟨_,Xb,q x (by unfold Iz;rw[h2,GX (by omega)];rfl)⟩
end
def Prs(H0 H:Hp):List V->List TH->Prop:=Paired λx d=>∃a y z,x=.ref a/\H a=Ga (.tup [y,z])/\Dt H0 y d/\Dt H0 z d
theorem Prs.Ql(e:Qt H H')(h:Prs H0 H xs ds):Prs H0 H' xs ds:=
 L2.Paired.Z7 h λx d⟨a,y,z,h1,h2,b,c⟩=>⟨a,y,z,h1,e _ _ h2,b,c⟩
def prD(d:TH):TH:=.tuple [d,d]
theorem Prs.dts(g:Qz H0 H)(h:Prs H0 H xs ds):Re H xs (ds.map prD):=by
 unfold Prs at h;induction h with
 |nil=>exact .nil
 |cons h r f=>obtain⟨a,y,z,b,c,d,e⟩:=h;subst b;exact .cons (.tup c (.cons (d.same g) (.cons (e.same g) .nil))) f
theorem Qpt:∀(ds:List TH),Gu ds=Gf->Gu (ds.map prD)=Gf
 |[],_=>by simp[Gu]
 |d::r,h=>by simp only[Gu,Tn]at h;have h2:=Qpt r h.2;simp[prD,Gu,Tp,h.1,h2]
theorem Rx:∀(xs ys:List TH),Gu (xs++ys)=(Gu xs&&Gu ys)
 |[],ys=>by simp[Gu]
 |x::r,ys=>by simp[Gu,Rx r ys,Bool.and_assoc]
theorem Qe9:∀{xs:List TH}{d:TH},d∈xs->d.depth<=To xs
 |x::r,d,h=>by
  simp only[To];rcases List.mem_cons.mp h with rfl|h
  ·omega
  ·have:=Qe9 h;omega
theorem Qbb:∀(xs:List TH)(n:Nat),Zm (xs.take n)<=Zm xs
 |[],_=>by simp[Zm]
 |x::r,0=>by simp[Zm]
 |x::r,n+1=>by have:=Qbb r n;simp only[List.take_succ_cons,Zm];omega
def TT(b:Bool):String:=if b then"list"else"tuple"
theorem Qxo(b:Bool):DR K (.type (TT b)) [.type "list",.type "tuple"]=Ga Gf:=by
 cases b
 ·exact Qxc
 ·exact Qxl
theorem Qzv(b:Bool):Te K (.type (TT b)) (.type "list")=Ga b:=by
 cases b
 ·exact Qsf
 ·exact Qrr
theorem Qzj(b:Bool):Te K (.type (TT b)) (.type "tuple")=Ga (!b):=by
 cases b
 ·exact Qqw
 ·exact Qxx
def Qem(b:Bool)(ds:List TH):TH:=if b then .list ds else .tuple ds
theorem Qrm{b:Bool}(h:Dt H v (Qem b ds)):∃p xs,v=.ref p/\(Zc K H p xs\/Z2 K H p xs)/\Re H xs ds:=by
 cases b with
 |true=>
  have h:Dt H v (.list ds):=h;cases h with
  |lst e t=>exact⟨_,_,Xb,.inl (Zc.of e),t⟩
 |false=>
  have h:Dt H v (.tuple ds):=h;cases h with
  |tup e t=>exact⟨_,_,Xb,.inr (Z2.of e),t⟩
theorem Qwc{b:Bool}(h:Dt H v (Qem b ds)):Iu K H v (.type (TT b)):=by
 cases b with
 |true=>
  have h:Dt H v (.list ds):=h;cases h with
  |lst e t=>exact .lst e
 |false=>
  have h:Dt H v (.tuple ds):=h;cases h with
  |tup e t=>exact .tup e
theorem Qoi(b:Bool)(is:List TH):Wt (Qem b is)=Zm is+1:=by cases b<;>simp[Qem,Wt]
theorem Qva(b:Bool)(is:List TH):(Qem b is).canLay0=Gu is:=by cases b<;>simp[Qem,Tp]
theorem Qoo(b:Bool)(is:List TH):(Qem b is).depth=To is+1:=by cases b<;>simp[Qem,Dg]
theorem Qy3(d:TH)(h:d.canLay0=Gf):(∃b is,d=Qem b is)\/d=.none\/(∃b,d=.bool b)\/(∃i,d=.int i)\/∃x,d=.str x:=by
 cases d with
 |none=>exact .inr (.inl Xb)
 |bool b=>exact .inr (.inr (.inl ⟨b,Xb⟩))
 |int i=>exact .inr (.inr (.inr (.inl ⟨i,Xb⟩)))
 |str x=>exact .inr (.inr (.inr (.inr ⟨x,Xb⟩)))
 |list is=>exact .inl ⟨Gf,is,Xb⟩
 |tuple is=>exact .inl ⟨Gq,is,Xb⟩
 |dict kvs=>simp[Tp]at h
theorem On(g:Qz H H')(h:Zc K H p xs\/Z2 K H p xs):Zc K H' p xs\/Z2 K H' p xs:=by
 rcases h with h|h
 ·exact .inl (g.seq h)
 ·refine .inr ?_;rcases h with(h|⟨o,h⟩)|h
  ·exact .inl (.inl (g _ _ h))
  ·exact .inl (.inr ⟨o,g _ _ h⟩)
  ·exact .inr h
theorem Qwp{i:Int}{Q:VK}(h:Zc K H p xs\/Z2 K H p xs)(e:atI xs i=Ga v)(q:Q v H):rIx K (.ref p) (.int i) H Q:=by
 rcases h with h|h
 ·exact .inl ⟨p,xs,i,v,Xb,Xb,h,e,q⟩
 ·exact .inr (.inl ⟨p,xs,i,v,Xb,Xb,h,e,q⟩)
section
variable{P:Gk}{w:Gv}{K:Gd}{mg:Ta->Option Value}{base:Heap}
theorem Qp3:Qv ["_law_found","_law_due","_law_todo","_law_one","_law_other","_law_k"] ["_law_found","_law_due"] (Qk sSo):=by eq_refl
theorem Qz6(F:Wu K "_law_so" "_law_so" sSo f fd)(B:Blt mg):Qr P w K mg base Z3 1 f fd ["_law_found","_law_due"] Qzk:=by
 refine F.ok Qp3 (λvs H Q E h=>?_) (λcdv A outer s H vs Q E hr h=>?_)
 ·obtain⟨x,y,d,rfl,_⟩:=h;rfl
 obtain⟨x,y,d,rfl,hx,hy,ah,ap,am,q⟩:=h;have hu:=hr.units;refine⟨_,Qd (Ud (i:=2) Qp3.nd rfl (Dj Xb) (Zt (Qa (Za (Qa (pv 0) (Qa (pv 1) Qe))) Qe)))
  (Qd (Vb Gy (Qp (Qr7 hu) (pv 2) (Zt Qe) (Q3 _))
   (Qd (O0 (Qd5 Gs DT DU Qb8 (pv 2)) (Vi rfl (Zl (Xc (i:=3) Qp3.nd rfl (Dj Xb)) (Zl (Xc (i:=4) Qp3.nd rfl (Dj Xb)) X5))))
   (Qh (Zn (Xu (Qo Qo6 rfl B.isinstance Tb (Qa (pv 4) (Qa (Za (Qa (Xr (v:=.ty "list") rfl B.list TD Xb) (Qa (Xr (v:=.ty "tuple") rfl B.tuple TX Xb) Qe))) Qe))))
    (Qd (Zn (Qp J1 (Qo Xk rfl B.isinstance Tb (Qa (pv 3) (Qa (Xr (v:=.ty "list") rfl B.list TD Xb) Qe))) (Qo Xk rfl B.isinstance Tb (Qa (pv 4) (Qa (Xr (v:=.ty "list") rfl B.list TD Xb) Qe))) (Q3 _)) (Qh (Qu Vd)) Q6)
    (Qd (Zn (Qp J1 (Qo Xk rfl B.isinstance Tb (Qa (pv 3) (Qa (Xr (v:=.ty "tuple") rfl B.tuple TX Xb) Qe))) (Qo Xk rfl B.isinstance Tb (Qa (pv 4) (Qa (Xr (v:=.ty "tuple") rfl B.tuple TX Xb) Qe))) (Q3 _)) (Qh (Qu Vd)) Q6)
    (Qd (Zn (Qp J1 (Qo Zb rfl B.len GO (Qa (pv 3) Qe)) (Qo Zb rfl B.len GO (Qa (pv 4) Qe)) (Q3 _)) (Qh (Qu Vd)) Q6)
    (Qh (Ye Gy rfl (Uv rfl B.range (Qa (Qo Zb rfl B.len GO (Qa (pv 4) Qe)) Qe)) (Xc (i:=5) Qp3.nd rfl (Dj Xb))
     (Qh (Ze (Xq Gs GF GV Z0 (pv 2) (Qa (Za (Qa (Qn Qsi (pv 3) (pv 5)) (Qa (Qn Qsi (pv 4) (pv 5)) Qe))) Qe)))))))))
    (Qh (Zn (Xu (Qo Xk rfl B.isinstance Tb (Qa (pv 4) (Qa (Xr (v:=.ty "str") rfl B.str Le Xb) Qe))))
     (Qh (Zn (PW.pt (R5 (I9 (Xu (Qo Xk rfl B.isinstance Tb (Qa (pv 3) (Qa (Xr (v:=.ty "str") rfl B.str Le Xb) Qe))))) (Rh (Qp J1 (pv 3) (pv 4) (Q3 _))))) (Qh (Qu Vd)) Q6))
     (Qh (Zn (Xu (Qo Xk rfl B.isinstance Tb (Qa (pv 4) (Qa (Xr (v:=.ty "bool") rfl B.bool EL Xb) Qe))))
      (Qh (Zn (PW.pt (R5 (I9 (Xu (Qo Xk rfl B.isinstance Tb (Qa (pv 3) (Qa (Xr (v:=.ty "bool") rfl B.bool EL Xb) Qe))))) (Rh (Qp J1 (pv 3) (pv 4) (Q3 _))))) (Qh (Qu Vd)) Q6))
      (Qh (Zn (Rj (Qxu (pv 4)))
       (Qh (Zn (Rj (Ql2 (pv 3))) (Qh (Qu Vd)) Q6))
       (Qh (Zn (PW.pt (R5 (I9 (Xu (Qo Xk rfl B.isinstance Tb (Qa (pv 3) (Qa (Xr (v:=.ty "int") rfl B.int Nb Xb) Qe))))) (R5 (Xu (Qo Xk rfl B.isinstance Tb (Qa (pv 3) (Qa (Xr (v:=.ty "bool") rfl B.bool EL Xb) Qe)))) (Rh (Qp J1 (pv 3) (pv 4) (Q3 _)))))) (Qh (Qu Vd)) Q6))))))))))))
  (Qh (Qu Vd))),?_⟩
 refine⟨_,Xb,_,Xb,by show 2<=Gi;decide,λe he=>?_⟩;have s1:=Qg he (.tup [x,y]);refine⟨by show 1<=Gi;decide,λl hl=>?_⟩;have s2:=Qg hl (.lst [.ref e]);refine⟨λm σ H2=>∃(xs:List V)(ds:List TH)(X Y r:Option V),σ=[Ga x,Ga y,Ga (.ref l),X,Y,r]/\Qz H H2/\H2 l=Ga (.lst xs)/\Prs H H2 xs ds/\m=Zm ds/\Gu ds=Gf/\(∀d∈ds,d.depth<=60)/\Zm ds<=1000000,
  ⟨_,[.ref e],[d],Gg,Gg,Gg,Xb,s1.trans s2,Qb,.cons ⟨e,x,y,Xb,s2 _ _ Qb,hx,hy⟩ .nil,Xb,by simp[Gu,ah],?_,by simp[Zm];exact ap⟩,?_⟩
 ·intro d' af;rw[List.mem_singleton]at af;subst af;exact am
 have ae:H l=Gg:=s1.free hl;rintro m σ H2 ⟨xs,ds,X,Y,r,rfl,g,g1,g2,rfl,g3,g4,g5⟩;have aw:xs.length=ds.length:=Gr g2;refine⟨_,Xb,Gx _,λz hz=>?_⟩;have s4:=Qg hz (.lst []);have au:l≠z:=Qc g1 hz;refine⟨.list (ds.map prD),.list [],.lst (s4 _ _ g1) ((g2.Ql (Qt.of s4)).dts (g.trans s4)),.lst Qb .nil,by simp only[Tp];exact Qpt ds g3,by simp[Tp,Gu],?_,_,Xb,?_⟩
 ·simp only[Dg,To];omega
 have ev:TQ (.list (ds.map prD)) (.list [])=ds.isEmpty:=by simp only[TQ];rw[Qcu];cases ds<;>rfl
 rw[ev];rcases List.eq_nil_or_concat ds with rfl|⟨j,C,N⟩
 ·refine Zp ?_;exact q _ (g.trans s4)
 ·have N:ds=j++[C]:=by simpa using N
  subst N;have aq:(j++[C]).isEmpty=Gq:=by cases j<;>rfl
  rw[aq];refine Yr ?_;obtain⟨p,xl,ex,k1,⟨a,u,v,ea,e2,e3,e4⟩⟩:=Qek g2;subst ex ea;have S:Zm (j++[C])=Zm j+Wt C:=by rw[Xx];simp[Zm]
  rw[S]at g5;have ar:=Qfs C;rw[Rx]at g3;simp only[Gu,Tn,ME]at g3;obtain⟨ac,O⟩:=g3;have ad:∀d∈j,d.depth<=60:=λd hd=>g4 d (List.mem_append_left _ hd);have al:C.depth<=60:=g4 C (by simp);have R:(p++[V.ref a])[(p++[V.ref a]).length - 1]?=Ga (.ref a):=by simp
  have t5:Qt H2 (upd (upd H2 z (.lst [])) l (.lst p)):=(Qt.of s4).trans (Zs λxs e=>by rw[s4 _ _ g1]at e;cases e);have J:Qz H (upd (upd H2 z (.lst [])) l (.lst p)):=λc o e=>by rw[Qf (Qc e ae)];exact s4 _ _ (g _ _ e)
  have l5:(upd (upd H2 z (.lst [])) l (.lst p)) l=Ga (.lst p):=Qb;have k1:Prs H H2 p j:=k1;have p5:Prs H (upd (upd H2 z (.lst [])) l (.lst p)) p j:=k1.Ql t5;refine⟨λt H'=>∃m',m'<Zm (j++[C])/\∃(xs:List V)(ds:List TH)(X Y r:Option V),t=[Ga x,Ga y,Ga (.ref l),X,Y,r]/\Qz H H'/\H' l=Ga (.lst xs)/\Prs H H' xs ds/\m'=Zm ds/\Gu ds=Gf/\(∀d∈ds,d.depth<=60)/\Zm ds<=1000000,λt H' h=>h,?_⟩;refine⟨_,Xb,.inl ⟨Xb,_,Zc.of (s4 _ _ g1)⟩,l,_,_,Xb,Xb,s4 _ _ g1,R,a,_,Xb,Z2.of (by rw[List.dropLast_concat];exact t5 _ _ e2),Xb,u,_,Xb,v,_,Xb,Xb,?_⟩;rw[List.dropLast_concat];generalize upd (upd H2 z (.lst [])) l (.lst p)=H5 at*;have fin:∀{t:St}{H':Hp}{r:Option V},t=[Ga x,Ga y,Ga (.ref l),Ga u,Ga v,r]->Qz H5 H'->∃m',m'<Zm (j++[C])/\∃(xs:List V)(ds:List TH)(X Y r:Option V),t=[Ga x,Ga y,Ga (.ref l),X,Y,r]/\Qz H H'/\H' l=Ga (.lst xs)/\Prs H H' xs ds/\m'=Zm ds/\Gu ds=Gf/\(∀d∈ds,d.depth<=60)/\Zm ds<=1000000:=λ{t H' r}e gs=>⟨Zm j,by rw[S];omega,p,j,_,_,_,e,J.trans gs,gs _ _ l5,p5.Ql (Qt.of gs),Xb,ac,ad,by omega⟩
  have dv:Dt H5 v C:=e4.same J;have du:Dt H5 u C:=e3.same J;refine⟨_,Xb,by show 2<=Gi;decide,λc hc=>?_⟩;have I:=Qg hc (.tup [.ty "list",.ty "tuple"]);rcases Qy3 C O with⟨b,is,rfl⟩|rfl|⟨bb,rfl⟩|⟨i,rfl⟩|⟨xx,rfl⟩
  ·obtain⟨pu,us,rfl,aj,aa⟩:=Qrm (K:=K) e3;obtain⟨pw,D,rfl,T,ab⟩:=Qrm (K:=K) e4;have tu:=Qwc (K:=K) (du.same I);have tv:=Qwc (K:=K) (dv.same I);have lu:=aa.length;have lw:=ab.length;have ak:Wt (Qem b is)=Zm is+1:=Qoi b is;have av:=Ua is;have Qx2:Gu is=Gf:=by rw[Qva]at O;exact O
   have Z:∀d∈is,d.depth<=60:=λd hd=>by have h1:=Qe9 hd;rw[Qoo]at al;omega
   refine⟨_,c,_,_,TT b,Gf,Xb,Qb,tv,Qxo b,Gf,Xb,Yr ?_⟩;refine⟨_,Xb,_,_,_,b,Xb,tu,Qzv b,_,Xb,_,_,_,b,Xb,tv,Qzv b,Xb,_,Xb,Qez rfl ?_⟩;refine⟨_,Xb,_,_,_,!b,Xb,tu,Qzj b,_,Xb,_,_,_,!b,Xb,tv,Qzj b,Xb,_,Xb,Qez rfl ?_⟩;have L:=J.trans I;refine⟨_,Xb,pu,us,Xb,On L aj,_,Xb,pw,D,Xb,On L T,Xb,_,Xb,Qez (by rw[lu,lw]) ?_⟩;have ai:((D.length:Int)).toNat=D.length:=by simp
   refine⟨_,Xb,pw,D,Xb,On L T,_,Xb,by omega,by omega,Uz (lo:=0) (n:=((D.length:Int)).toNat) (λk σ M=>∃(r:Option V)(G:List V),σ=[Ga x,Ga y,Ga (.ref l),Ga (.ref pu),Ga (.ref pw),r]/\Qz H M/\M l=Ga (.lst (p++G))/\Prs H M (p++G) (j++is.take k))
    ⟨_,[],Xb,L,by rw[List.append_nil];exact I _ _ l5,by rw[List.append_nil,List.take_zero,List.append_nil];exact p5.Ql (Qt.of I)⟩ ?_ ?_⟩
   ·rintro k σ M hk ⟨r,G,rfl,g7,W,g9⟩;rw[ai]at hk;have an:k<us.length:=by omega
    have eu:us[k]?=Ga us[k]:=List.getElem?_eq_getElem an;have ew:D[k]?=Ga D[k]:=List.getElem?_eq_getElem hk;obtain⟨d1,f1,f2⟩:=aa.get eu;obtain⟨d2,f3,f4⟩:=ab.get ew;rw[f1]at f3;cases f3;have lg:(p++G).length=(j++is.take k).length:=Gr g9;have ln:=Ua (j++is.take k);rw[Xx]at ln;have lt:=Qbb is k;refine⟨_,Xb,.inl ⟨Xb,_,Zc.of W⟩,_,Xb,_,Xb,Qwp (On g7 aj) (by rw[EA];exact Qy eu) ?_⟩;refine⟨_,Xb,_,Xb,Qwp (On g7 T) (by rw[EA];exact Qy ew) ?_⟩;refine⟨by show 2<=Gi;decide,λU ag=>?_⟩;have s8:=Qg ag (.tup [us[k],D[k]]);have ao:l≠U:=Qc W ag;refine⟨l,p++G,.ref U,Xb,Xb,s8 _ _ W,by rw[GQ];omega,?_⟩;have t8:Qt M (upd (upd M U (.tup [us[k],D[k]])) l (.lst (p++G++[.ref U]))):=(Qt.of s8).trans (Zs λxs e=>by rw[s8 _ _ W]at e;cases e);refine⟨_,G++[.ref U],Xb,λb o e=>?_,by rw[Qb,List.append_assoc],?_⟩
    ·rw[Qf (Qc e ae)];exact s8 _ _ (g7 _ _ e)
    ·rw[List.take_add_one,f1,<-List.append_assoc,<-List.append_assoc];refine DE (g9.Ql t8) ⟨U,us[k],D[k],Xb,?_,f2,f4⟩;rw[Qf (Gp ao)];exact Qb
   ·rintro σ M ⟨r,G,rfl,g7,W,g9⟩;rw[ai,lw,List.take_length]at g9;refine⟨Zm (j++is),?_,p++G,j++is,_,_,_,Xb,g7,W,g9,Xb,?_,?_,?_⟩
    ·rw[S,Xx,ak];omega
    ·rw[Rx,ac,Qx2];rfl
    ·intro d hd;rcases List.mem_append.mp hd with hd|hd
     ·exact ad d hd
     ·exact Z d hd
    ·rw[Xx];rw[ak]at g5;omega
  ·cases dv;cases du;refine⟨_,c,_,_,_,Gq,Xb,Qb,.non,Qbq Qx9 Qxv,Gq,Xb,Zp ?_⟩;refine⟨_,Xb,_,_,_,Gq,Xb,.non,Qxs,Gq,Xb,Zp ?_⟩;refine⟨_,Xb,_,_,_,Gq,Xb,.non,Qxi,Gq,Xb,Zp ?_⟩;refine⟨_,Xb,_,Xb,Yr ?_⟩;refine⟨_,Xb,_,Xb,Zp ?_⟩;exact fin rfl I
  ·cases dv;cases du;refine⟨_,c,_,_,_,Gq,Xb,Qb,.bl _,Qbq Qxk Qwy,Gq,Xb,Zp ?_⟩;refine⟨_,Xb,_,_,_,Gq,Xb,.bl _,Qw1,Gq,Xb,Zp ?_⟩;refine⟨_,Xb,_,_,_,Gf,Xb,.bl _,Qq1,Gf,Xb,Yr ?_⟩;refine⟨_,Xb,_,_,_,Gf,Xb,.bl _,Qq1,Gf,Xb,Zp ?_⟩;refine⟨_,Xb,_,Xb,Xb,_,Xb,Qez rfl ?_⟩;exact fin rfl I
  ·cases dv;cases du;refine⟨_,c,_,_,_,Gq,Xb,Qb,.int _,Qbq Qx8 Qs5,Gq,Xb,Zp ?_⟩;refine⟨_,Xb,_,_,_,Gq,Xb,.int _,Qxr,Gq,Xb,Zp ?_⟩;refine⟨_,Xb,_,_,_,Gq,Xb,.int _,Qpp,Gq,Xb,Zp ?_⟩;refine⟨_,Xb,_,Xb,Zp ?_⟩;refine⟨_,Xb,_,_,_,Gf,Xb,.int _,Qw7,Gf,Xb,Zp ?_⟩;refine⟨_,Xb,_,_,_,Gq,Xb,.int _,Qpp,Gq,Xb,Zp ?_⟩;refine⟨_,Xb,_,Xb,Xb,_,Xb,Qez rfl ?_⟩;exact fin rfl I
  ·cases dv;cases du;refine⟨_,c,_,_,_,Gq,Xb,Qb,.str _,Qbq Qw8 Qpq,Gq,Xb,Zp ?_⟩;refine⟨_,Xb,_,_,_,Gf,Xb,.str _,Qpf,Gf,Xb,Yr ?_⟩;refine⟨_,Xb,_,_,_,Gf,Xb,.str _,Qpf,Gf,Xb,Zp ?_⟩;refine⟨_,Xb,_,Xb,Xb,_,Xb,Qez rfl ?_⟩;exact fin rfl I
end
theorem Jh{vs:List V}{ps:List Th}(a:H p=Gg)(h:Zq H vs ps):Yj (upd H p (.tup (.str w::vs))) (.ref p) (.mk w ps):=.mk Qb (h.same (Qg a _))
structure Qat(t u:Th)(r:Th):Prop where
 ok:t.ok=Gf->u.ok=Gf->r.ok=Gf
 dep:r.depth<=max t.depth u.depth+1
 siz:r.size<=t.size+u.size+2
 sh:t.short=Gf->u.short=Gf->r.short=Gf
 pts:∀p∈r.parts,p=t\/p=u\/p=.mk "tab" []
theorem Qwr(hw:Iz w=Gf):Qat t u (.mk w [t]):=⟨λa _=>by simp[Th.ok,okL,Iz.str hw,a],by simp only[Th.depth,Wa];omega,by simp only[Th.size,Qw];omega,λa _=>by simp[Th.short,Qax,Iz.len hw,a],λp b=>by simp only[Th.parts,List.mem_cons,List.not_mem_nil,Eb]at b;exact .inl b⟩
theorem Qsj(hw:Iz w=Gf):Qat t u (.mk w [t,u]):=⟨λa b=>by simp[Th.ok,okL,Iz.str hw,a,b],by simp only[Th.depth,Wa];omega,by simp only[Th.size,Qw];omega,λa b=>by simp[Th.short,Qax,Iz.len hw,a,b],λp c=>by simp only[Th.parts,List.mem_cons,List.not_mem_nil,Eb]at c;exact c.elim .inl (λh=>.inr (.inl h))⟩
theorem Qz9(hw:Iz w=Gf)(d:Iz "tab"=Gf):Qat t u (.mk w [t,u,.mk "tab" []]):=⟨λa b=>by simp[Th.ok,okL,Iz.str hw,Iz.str d,a,b],by have:=Qaw t;simp only[Th.depth,Wa];omega,by simp only[Th.size,Qw];omega,λa b=>by simp[Th.short,Qax,Iz.len hw,Iz.len d,a,b],λp c=>by simp only[Th.parts,List.mem_cons,List.not_mem_nil,Eb]at c;exact c⟩
theorem Qvz(hw:Iz w=Gf):Qat t u (.mk w []):=⟨λa b=>by simp[Th.ok,okL,Iz.str hw],by simp only[Th.depth,Wa];omega,by simp only[Th.size,Qw];omega,λa b=>by simp[Th.short,Qax,Iz.len hw],λp c=>by simp[Th.parts]at c⟩
def Qz0(H:Hp)(l:Gc)(t u:Th):Prop:=∃vs:List V,H l=Ga (.lst vs)/\vs.length=4/\∀v∈vs,∃r,Yj H v r/\Qat t u r
theorem Qdx{r:Th}(D:Drawn ts m)(c:ts[a]?=Ga t)(hb:ts[b]?=Ga u)(i:b<5)(R:Qat t u r):Drawn (ts++[r]) (m+1):=by
 have q:a<ts.length:=(List.getElem?_eq_some_iff.mp c).1;have v:b<ts.length:=(List.getElem?_eq_some_iff.mp hb).1;have o:=D.len;have cases:∀(j:Nat)s,(ts++[r])[j]?=Ga s->ts[j]?=Ga s\/(j=ts.length/\s=r):=λj s e=>by
  rcases Tk j ts.length with h|h
  ·left;rw[List.getElem?_append_left h]at e;exact e
  ·right;rw[List.getElem?_append_right h]at e;have d:j - ts.length=0:=by have:=(List.getElem?_eq_some_iff.mp e).1;simp at this;omega
   rw[d]at e;simp at e;exact⟨by omega,e.symm⟩
 have k:=D.dep a t c;have l:=D.dep b u hb;have n:=R.dep;have w:=D.any a t c;have x:=D.tri b u hb (by omega);have y:=R.siz;refine⟨by rw[List.length_append,List.length_singleton];omega,λs f=>?_,λj s e=>?_,λj s e d=>?_,λj s e d=>?_,λj s e d=>?_,λj s e=>?_,λs f=>by
   rcases List.mem_append.mp f with h|h
   ·exact D.sh s h
   ·rw[List.mem_singleton]at h;subst h;exact R.sh (D.sh t (List.mem_of_getElem? c)) (D.sh u (List.mem_of_getElem? hb)),by rw[List.getElem?_append_left (by omega)];exact D.tab,λs f p g=>?_⟩
 ·rcases List.mem_append.mp f with h|h
  ·exact D.ok s h
  ·rw[List.mem_singleton]at h;subst h;exact R.ok (D.ok t (List.mem_of_getElem? c)) (D.ok u (List.mem_of_getElem? hb))
 ·rcases cases j s e with h|⟨rfl,rfl⟩
  ·exact D.dep j s h
  ·omega
 ·rcases cases j s e with h|⟨rfl,rfl⟩
  ·exact D.one j s h d
  ·omega
 ·rcases cases j s e with h|⟨rfl,rfl⟩
  ·exact D.two j s h d
  ·have:=D.one a t c (by omega);have:=D.one b u hb (by omega);omega
 ·rcases cases j s e with h|⟨rfl,rfl⟩
  ·exact D.tri j s h d
  ·have:=D.two a t c (by omega);have:=D.two b u hb (by omega);omega
 ·rcases cases j s e with h|⟨rfl,rfl⟩
  ·exact D.any j s h
  ·omega
 ·rcases List.mem_append.mp f with h|h
  ·exact List.mem_append_left _ (D.cl s h p g)
  ·rw[List.mem_singleton]at h;subst h;refine List.mem_append_left _ ?_;rcases R.pts p g with h|h|h
   ·rw[h];exact List.mem_of_getElem? c
   ·rw[h];exact List.mem_of_getElem? hb
   ·rw[h];exact List.mem_of_getElem? D.tab
theorem Vr(xs:List α)(i:Int)(a:0<=i)(h1:i<xs.length):∃v,atI xs i=Ga v/\xs[i.toNat]?=Ga v:=by
 have hi:i.toNat<xs.length:=by omega
 have e:i=((i.toNat:Nat):Int):=by omega
 have q:=Qy (List.getElem?_eq_getElem hi);rw[<-e]at q;exact⟨_,q,List.getElem?_eq_getElem hi⟩
section
variable{P:Gk}{w:Gv}{K:Gd}{mg:Ta->Option Value}{base:Heap}
theorem Qlr:Qv ["_law_cells","_law_things","_law_cell","_law_rest","_law_one","_law_other","_law_made","_law_word","_law_three"] ["_law_cells"] (Qk Qgv):=by eq_refl
theorem Qrd{g:Gc}{gd:Tt}(F:Wu K "_law_drawn_things" "_law_drawn_things" Qgv f fd)(B:Blt mg)(G:Qr P w K mg base Z3 1 g gd ["_law_cell"] Qrj)(kG:KI K g)(bG:Binds K gd ["_law_cell"] [])(mG:MG mg "_law_any_word" g):
  Qr P w K mg base Z3 2 f fd ["_law_cells"] (Qmy K):=by
 refine F.ok Qlr (λvs H Q E h=>?_) (λcdv A outer s H vs Q E hr h=>?_)
 ·obtain⟨a,ns,rfl,_⟩:=h;rfl
 obtain⟨a,ns,rfl,hS,az,q⟩:=h;have nd:=Qlr.nd;refine⟨_,Qd (Qs 1 nd (Zt (Qa (Za (Qa Zf Qe)) (Qa (Za (Qa Zf Qe)) (Qa (Za (Qa Zf Qe)) Qe)))))
  (Qd (Ye Gy rfl (Y2 (pv 0)) (Ya 2 nd)
   (Qd (Qs 3 nd (Zo X6 (pv 2) Qj))
   (Qd (Qs 4 nd (Qn Zi (pv 1) (Zo Xv (pv 3) (Qo Zb rfl B.len GO (Qa (pv 1) Qe)))))
   (Qd (Qs 5 nd (Qn Zi (pv 1) (Zo Xv (Zo X6 (pv 3) Qj) (Qo (Qo0 Xb) rfl B.min Nc (Qa Qj (Qa (Qo Zb rfl B.len GO (Qa (pv 1) Qe)) Qe))))))
   (Qd (Qs 6 nd (Zt (Qa (Za (Qa Zf (Qa (pv 4) Qe))) (Qa (Za (Qa Zf (Qa (pv 4) (Qa (pv 5) Qe)))) (Qa (Za (Qa Zf (Qa (pv 4) (Qa (pv 5) Qe)))) (Qa (Za (Qa Zf Qe)) Qe))))))
   (Qd (Zn (Qp Wi (Zo Xv (pv 2) Qj) Qj (Q3 _))
    (Qd (Qs 7 nd (Qn Zi (Zt (Qa (Zy G hr rfl mG kG bG .nil Q4 (Qa (Zo X6 (pv 2) Qj) Qe)) (Qa Zf Qe))) (Zo Xv (Zo X6 (pv 2) Qj) Qj)))
    (Qd (Qs 8 nd (Za (Qa (pv 7) (Qa (pv 4) (Qa (pv 5) (Qa (Za (Qa Zf Qe)) Qe))))))
    (Qh (Qs 6 nd (Zt (Qa (Za (Qa (pv 7) (Qa (pv 4) Qe))) (Qa (Za (Qa (pv 7) (Qa (pv 4) (Qa (pv 5) Qe)))) (Qa (pv 8) (Qa (Za (Qa (pv 7) Qe)) Qe)))))))))
    Q6)
   (Qh (Ze (Xq Gs GF GV Z0 (pv 1) (Qa (Qn Zi (pv 6) (Zo Xv (pv 2) Qj)) Qe))))))))))
  (Qh (Qu (pv 1)))),?_⟩
 have aw:Iz ("sab":Ta)=Gf:=by decide+kernel
 have tab:Iz ("tab":Ta)=Gf:=by decide+kernel
 have ay:Iz ("sob":Ta)=Gf:=by decide+kernel
 have ax:Iz ("sat":Ta)=Gf:=by decide+kernel
 have aa:Iz ("fig":Ta)=Gf:=by decide+kernel
 have an:Iz ("fog":Ta)=Gf:=by decide+kernel
 have ar:Iz ("hog":Ta)=Gf:=by decide+kernel
 refine⟨by show 1<=Gi;decide,λp1 h1=>⟨by show 1<=Gi;decide,λp2 h2=>⟨by show 1<=Gi;decide,λp3 h3=>⟨by show 3<=Gi;decide,λp hp=>?_⟩⟩⟩⟩;have s1:=Qg h1 (.tup [.str "sab"]);have s2:=Qg h2 (.tup [.str "tab"]);have s3:=Qg h3 (.tup [.str "sob"]);have s4:=Qg hp (.lst [.ref p1,.ref p2,.ref p3]);have S:H p=Gg:=((s1.trans s2).trans s3).free hp;have i1:Yj _ (.ref p1) (.mk "sab" []):=(Jh (w:="sab") h1 .nil).same ((s2.trans s3).trans s4);have i2:Yj _ (.ref p2) (.mk "tab" []):=(Jh (w:="tab") h2 .nil).same (s3.trans s4);have i3:Yj _ (.ref p3) (.mk "sob" []):=(Jh (w:="sob") h3 .nil).same s4;refine⟨_,Xb,a,Xb,⟨_,(((s1.trans s2).trans s3).trans s4).seq hS⟩,Xh (K:=K) (a:=a) (xs:=ns.map V.int) (λi σ H2=>∃(us:List V)(ts:List Th)(x2 x3 x4 x5 x6 x7 x8:Option V),σ=[Ga (.ref a),Ga (.ref p),x2,x3,x4,x5,x6,x7,x8]/\Qz H H2/\H2 p=Ga (.lst us)/\Zq H2 us ts/\Drawn ts i)
  ⟨_,_,_,_,_,_,_,_,_,Xb,((s1.trans s2).trans s3).trans s4,Qb,.cons i1 (.cons i2 (.cons i3 .nil)),?_⟩ (λi σ H2 _⟨_,_,_,_,_,_,_,_,_,_,g,_⟩=>g.seq hS) ?_ ?_⟩
 ·refine⟨Xb,λt J=>?_,λj t e=>?_,λj t e _=>?_,λj t e _=>?_,λj t e _=>?_,λj t e=>?_,λt J=>by simp at J;rcases J with rfl|rfl|rfl<;>decide+kernel,rfl,λt J p hp=>?_⟩
  ·simp at J;rcases J with rfl|rfl|rfl
   ·simp[Th.ok,okL,Iz.str aw]
   ·simp[Th.ok,okL,Iz.str tab]
   ·simp[Th.ok,okL,Iz.str ay]
  rotate_right
  ·simp at J;rcases J with rfl|rfl|rfl<;>simp[Th.parts]at hp
  all_goals
   have hm:=List.mem_of_getElem? e;simp at hm;rcases hm with rfl|rfl|rfl<;>simp[Th.depth,Wa,Th.size,Qw]
 ·rintro i y σ H2 hi ⟨us,ts,x2,x3,x4,x5,x6,x7,x8,rfl,g,I,N,D⟩;obtain⟨c,rfl⟩:∃z,y=V.int z:=by
   rw[List.getElem?_map]at hi;cases e:ns[i]? with
   |none=>rw[e]at hi;cases hi
   |some z=>rw[e]at hi;exact⟨z,(Tj hi).symm⟩
  have ao:i<(ns.map V.int).length:=(List.getElem?_eq_some_iff.mp hi).1;rw[List.length_map]at ao;have lu:=N.length;have ld:=D.len;have hL:(us.length:Int)=3+i:=by omega
  refine⟨_,Xb,_,_,Xb,Xb,⟨by decide,by decide⟩,?_⟩;obtain⟨m,a1,b1⟩:=Vr us (c / 4 % (us.length:Int)) (TV _ (by omega)) (Tx _ (by omega));refine⟨_,Xb,_,Xb,_,Xb,p,us,Xb,.inl (Zc.of I),_,_,Xb,Xb,(by show(0:Int)<us.length;omega),p,us,_,m,Xb,Xb,Zc.of I,a1,?_⟩;have d:(if(us.length:Int)<5 then(us.length:Int)else 5)<=us.length/\0<(if(us.length:Int)<5 then(us.length:Int)else 5)/\(if(us.length:Int)<5 then(us.length:Int)else 5)<=5:=by split<;>omega
  obtain⟨n,a2,b2⟩:=Vr us (c / 4 / 5 % (if(us.length:Int)<5 then(us.length:Int)else 5)) (TV _ (by omega)) (Int.lt_of_lt_of_le (Tx _ d.2.1) d.1);have am:(c / 4 / 5 % (if(us.length:Int)<5 then(us.length:Int)else 5)).toNat<5:=by have h1:=Tx (c / 4 / 5) d.2.1;have h2:=TV (c / 4 / 5) (Int.ne_of_gt d.2.1);have h3:=d.2.2;omega
  refine⟨_,Xb,_,Xb,_,_,Xb,Xb,⟨by decide,by decide⟩,_,Xb,p,us,Xb,.inl (Zc.of I),5,_,Xb,_,_,Xb,Xb,d.2.1,p,us,_,n,Xb,Xb,Zc.of I,a2,?_⟩;obtain⟨t1,c1,X⟩:=N.get b1;obtain⟨t2,c2,k2⟩:=N.get b2;refine⟨_,Xb,by show 2<=Gi;decide,λq1 ac=>⟨_,Xb,_,Xb,by show 3<=Gi;decide,λq2 ad=>⟨_,Xb,_,Xb,by show 3<=Gi;decide,λq3 ae=>⟨by show 1<=Gi;decide,λq4 ag=>⟨by show 4<=Gi;decide,λl hl=>?_⟩⟩⟩⟩⟩;have U:=Qg ac (.tup [.str "fig",m]);have Z:=Qg ad (.tup [.str "fog",m,n]);have e3:=Qg ae (.tup [.str "fig",m,n]);have e4:=Qg ag (.tup [.str "sat"]);have W:=Qg hl (.lst [.ref q1,.ref q2,.ref q3,.ref q4]);have u:=(((U.trans Z).trans e3).trans e4).trans W;have m1:=(Jh (w:="fig") ac (.one X)).same (((Z.trans e3).trans e4).trans W);have m2:=(Jh (w:="fog") ad (.cons (X.same U) (.one (k2.same U)))).same ((e3.trans e4).trans W);have m3:=(Jh (w:="fig") ae (.cons (X.same (U.trans Z)) (.one (k2.same (U.trans Z))))).same (e4.trans W);have m4:=(Jh (w:="sat") ag .nil).same W;generalize ab:upd (upd (upd (upd (upd H2 q1 (.tup [.str "fig",m])) q2 (.tup [.str "fog",m,n])) q3 (.tup [.str "fig",m,n])) q4 (.tup [.str "sat"])) l (.lst [.ref q1,.ref q2,.ref q3,.ref q4])=H3 at*;have L:Qz0 H3 l t1 t2:=by
   refine⟨_,by rw[<-ab];exact Qb,Xb,λv hv=>?_⟩;simp at hv;rcases hv with rfl|rfl|rfl|rfl
   ·exact⟨_,m1,Qwr aa⟩
   ·exact⟨_,m2,Qsj an⟩
   ·exact⟨_,m3,Qsj aa⟩
   ·exact⟨_,m4,Qvz ax⟩
  clear m1 m2 m3 m4 ab U Z e3 e4 W;refine⟨_,Xb,_,_,Xb,Xb,(by show(0:Int)<9;decide),Xb,_,Xb,?_⟩;refine Va (λ_=>?_) (λ_=>?_)
  ·refine⟨_,Xb,_,_,Xb,Xb,⟨by decide,by decide⟩,_,Xb,λx hx=>⟨by show 2<=Gi;decide,λl2 ap=>?_⟩⟩;have d1:=Qg ap (.lst [.str x,.str "hog"]);obtain⟨wv,a3,b3⟩:=Vr [V.str x,V.str "hog"] (c / 36 % 2) (TV _ (by decide)) (Tx _ (by decide));have au:∃k,wv=.str k/\Iz k=Gf:=by
    have hm:=List.mem_of_getElem? b3;simp at hm;rcases hm with rfl|rfl
    ·exact⟨_,Xb,hx⟩
    ·exact⟨_,Xb,ar⟩
   obtain⟨k,rfl,C⟩:=au;refine⟨_,Xb,_,_,Xb,Xb,⟨by decide,by decide⟩,_,_,Xb,Xb,(by show(0:Int)<2;decide),l2,_,_,_,Xb,Xb,Zc.of Qb,a3,?_⟩;refine⟨_,Xb,_,Xb,_,Xb,by show 1<=Gi;decide,λr1 ak=>⟨by show 4<=Gi;decide,λr2 al=>?_⟩⟩;have d2:=Qg ak (.tup [.str "tab"]);have d3:=Qg al (.tup [.str k,m,n,.ref r1]);refine⟨_,Xb,_,Xb,by show 2<=Gi;decide,λq5 ah=>⟨_,Xb,_,Xb,_,Xb,by show 3<=Gi;decide,λq6 ai=>⟨_,Xb,_,Xb,by show 1<=Gi;decide,λq7 aj=>⟨by show 4<=Gi;decide,λl3 aq=>?_⟩⟩⟩⟩;have d4:=Qg ah (.tup [.str k,m]);have d5:=Qg ai (.tup [.str k,m,n]);have d6:=Qg aj (.tup [.str k]);have Y:=Qg aq (.lst [.ref q5,.ref q6,.ref r2,.ref q7]);have aA:=d1;have z2:=u.trans d1;have z3:=z2.trans d2;have z4:=z3.trans d3;have z5:=z4.trans d4;have z6:=z5.trans d5;have tb:=(Jh (w:="tab") ak .nil);have n1:=(Jh (w:=k) al (.cons (X.same z3) (.cons (k2.same z3) (.one tb)))).same (((d4.trans d5).trans d6).trans Y);have n2:=(Jh (w:=k) ah (.one (X.same z4))).same ((d5.trans d6).trans Y);have n3:=(Jh (w:=k) ai (.cons (X.same z5) (.one (k2.same z5)))).same (d6.trans Y);have n4:=(Jh (w:=k) aj .nil).same Y;have zz:=(z6.trans d6).trans Y;have up:=@Qb (upd (upd (upd (upd (upd (upd H3 l2 (.lst [.str x,.str "hog"])) r1 (.tup [.str "tab"])) r2 (.tup [.str k,m,n,.ref r1])) q5 (.tup [.str k,m])) q6 (.tup [.str k,m,n])) q7 (.tup [.str k])) l3 (.lst [.ref q5,.ref q6,.ref r2,.ref q7]);generalize upd (upd (upd (upd (upd (upd (upd H3 l2 (.lst [.str x,.str "hog"])) r1 (.tup [.str "tab"])) r2 (.tup [.str k,m,n,.ref r1])) q5 (.tup [.str k,m])) q6 (.tup [.str k,m,n])) q7 (.tup [.str k])) l3 (.lst [.ref q5,.ref q6,.ref r2,.ref q7])=H4 at*;have M:Qz0 H4 l3 t1 t2:=by
    refine⟨_,up,Xb,λv hv=>?_⟩;simp at hv;rcases hv with rfl|rfl|rfl|rfl
    ·exact⟨_,n2,Qwr C⟩
    ·exact⟨_,n3,Qsj C⟩
    ·exact⟨_,n1,Qz9 C tab⟩
    ·exact⟨_,n4,Qvz C⟩
   obtain⟨fs,hf,lf,af⟩:=M;obtain⟨v,av,bv⟩:=Vr fs (c % 4) (TV _ (by decide)) (by rw[lf];exact Tx _ (by decide));obtain⟨r,T,R⟩:=af v (List.mem_of_getElem? bv);have O:=zz _ _ I;refine⟨_,Xb,.inl ⟨Xb,_,Zc.of O⟩,_,Xb,_,Xb,_,_,Xb,Xb,(by show(0:Int)<4;decide),l3,fs,_,v,Xb,Xb,Zc.of hf,av,p,us,v,Xb,Xb,O,by rw[GQ];omega,?_⟩;have tu:=Zs (H:=H4) (a:=p) (o:=.lst (us++[v])) λxs e=>by rw[O]at e;cases e
   refine⟨us++[v],ts++[r],_,_,_,_,_,_,_,Xb,λb o e=>?_,Qb,((N.same zz).append (.one T)).Ql tu,Qdx D c1 c2 am R⟩;rw[Qf (Qc e S)];exact zz _ _ (g _ _ e)
  ·skip
   obtain⟨fs,hf,lf,af⟩:=L;obtain⟨v,av,bv⟩:=Vr fs (c % 4) (TV _ (by decide)) (by rw[lf];exact Tx _ (by decide));obtain⟨r,T,R⟩:=af v (List.mem_of_getElem? bv);have O:=u _ _ I;refine⟨_,Xb,.inl ⟨Xb,_,Zc.of O⟩,_,Xb,_,Xb,_,_,Xb,Xb,(by show(0:Int)<4;decide),l,fs,_,v,Xb,Xb,Zc.of hf,av,p,us,v,Xb,Xb,O,by rw[GQ];omega,?_⟩;have tu:=Zs (H:=H3) (a:=p) (o:=.lst (us++[v])) λxs e=>by rw[O]at e;cases e
   refine⟨us++[v],ts++[r],_,_,_,_,_,_,_,Xb,λb o e=>?_,Qb,((N.same u).append (.one T)).Ql tu,Qdx D c1 c2 am R⟩;rw[Qf (Qc e S)];exact u _ _ (g _ _ e)
 ·rintro σ H2 ⟨us,ts,x2,x3,x4,x5,x6,x7,x8,rfl,g,I,N,D⟩;rw[List.length_map]at D;exact⟨_,Xb,q p us ts H2 g S I N D⟩
end
theorem Qeq(b:Bool):(tw b==("unlike":Ta))= !b:=by cases b<;>decide+kernel
section
variable{P:Gk}{w:Gv}{K:Gd}{mg:Ta->Option Value}{base:Heap}
theorem Qqh:Qv ["_law_told","_law_one","_law_other","_law_leaders","_law_word","_law_left","_law_right"] ["_law_told","_law_one","_law_other"] (Qk Qmx):=by eq_refl
theorem Qhy:Qv ["_law_told","_law_deed","_law_every","_law_leaders","_law_word","_law_one","_law_other"] ["_law_told","_law_deed"] (Qk Qb2):=by eq_refl
theorem Qu4{dC:Tt}(F:Wu K "_law_kind" "_law_kind" Qmx f fd)
  (GC:Qr P w K mg base Z3 1 fC dC ["_law_told","_law_things"] (Qak P w))(kC:KI K fC)(bC:Binds K dC ["_law_told","_law_things"] [])(mC:MG mg "_law_classes" fC):
  Qr P w K mg base Z3 2 f fd ["_law_told","_law_one","_law_other"] Qlk:=by
 refine F.ok Qqh (λvs H Q E h=>?_) (λcdv A outer s H vs Q E Z h=>?_)
 ·obtain⟨a,us,tl,v1,v2,x,y,rfl,_⟩:=h;rfl
 obtain⟨a,us,tl,v1,v2,x,y,rfl,J,b,h1,h2,kx,ky,B,hsz,q⟩:=h;have nd:=Qqh.nd;have O:=Z.units;refine⟨_,(Qd (Qs 3 nd (Zy GC Z rfl mC kC bC .nil Q4 (Qa (pv 0) (Qa (Zt (Qa (pv 1) (Qa (pv 2) Qe))) Qe))))
  (Qd (Zn (Qp Wi (Qn (Uq O) (pv 3) (pv 1)) (Qn (Uq O) (pv 3) (pv 2)) (Q3 _))
  (Qh (Qu Zf)) Q6)
  (Qd (Qs 3 nd (Zy GC Z rfl mC kC bC .nil Q4 (Qa (Zo Uc (pv 0) (Zt (Qa (Za (Qa Zf (Qa (pv 1) (Qa (pv 2) Qe)))) Qe))) (Qa (Zt Qe) Qe))))
  (Qd (Ye Gy rfl (Y2 (pv 0)) (Vi rfl (Zl (Ya 4 nd) (Zl (Ya 5 nd) (Zl (Ya 6 nd) X5))))
  (Qh (Zn (PW.pt (Vh (Qp Wi (pv 4) Zf (Q3 _)) (Wj (Qp Wi (Qn (Uq O) (pv 3) (pv 5)) (Qn (Uq O) (pv 3) (pv 6)) (Q3 _)))))
  (Qh (Qu Zf)) Q6)))
  (Qh (Qu Zf)))))),?_⟩
 obtain⟨G,_,_,_,rfl,_,_,_⟩:=h1.inv;obtain⟨I,_,_,_,rfl,_,_,_⟩:=h2.inv;refine⟨_,Xb,_,Xb,_,Xb,by show 2<=Gi;decide,λc hc=>?_⟩;have s1:=Qg hc (.lst [.ref G,.ref I]);refine⟨a,c,us,_,tl,[x,y],Xb,s1 _ _ J,b.Ql (Qt.of s1),Qb,.cons (h1.same s1) (.cons (h2.same s1) .nil),?_,B,by simp only[Qw];omega,λd S L H1 g1 hd N T C ab=>?_⟩
 ·intro t M;simp only[List.mem_cons,List.not_mem_nil,Eb]at M;rcases M with rfl|rfl
  ·exact kx
  ·exact ky
 have R:=s1.trans g1;have hx:x∈S:=C x (by simp);have hy:y∈S:=C y (by simp);refine⟨_,Xb,_,Xb,N.get hx (h1.same R) ⟨_,Xb,_,Xb,N.get hy (h2.same R) ⟨Xb,_,Xb,?_⟩⟩⟩;rw[Vp];refine Va (λc=>?_) (λc=>?_)
 ·have c:L x=L y:=by simpa using c
  exact q _ _ R (.inl ⟨Xb,(T.iff hx hy).mp c⟩)
 have nc:¬Cg tl x y:=λz=>by have:=(T.iff hx hy).mpr z;simp[this]at c
 refine⟨_,Xb,_,Xb,_,Xb,by show 3<=Gi;decide,λe he=>?_⟩;have s2:=Qg he (.tup [.str "same",.ref G,.ref I]);refine⟨by show 1<=Gi;decide,λl hl=>?_⟩;have s3:=Qg hl (.lst [.ref e]);have aa:us.length=tl.length:=Gr b;have ad:tl.length<=3000:=by have:=Zx (tl.map (·.2.1));rw[List.length_map]at this;omega
 have sB:=(R.trans s2).trans s3;refine⟨a,l,us,[.ref e],Xb,Xb,sB _ _ J,Qb,small (by show us.length+1<=_;omega),λn hn=>?_⟩;have s4:=Qg hn (.lst (us++[.ref e]));refine⟨Gx _,λz hz=>?_⟩;have s5:=Qg hz (.lst []);have U:=(sB.trans s4).trans s5;have r:Qw ([]:List Th)+Qw ((tl++[(Gf,x,y)]).map (·.2.1))+Qw ((tl++[(Gf,x,y)]).map (·.2.2))<=3000:=by rw[List.map_append,List.map_append,Xo,Xo];simp only[List.map_cons,List.map_nil,Qw];omega
 refine⟨n,z,us++[.ref e],[],tl++[(Gf,x,y)],[],Xb,s5 _ _ Qb,?_,Qb,.nil,(λt M=>nomatch M),?_,r,λd2 S2 L2 H2 g2 ac N2 T2 _ g=>?_⟩
 ·exact Yq (b.Ql (Qt.of U)) (.cons ⟨e,.ref G,.ref I,Xb,s5 _ _ (s4 _ _ (s3 _ _ Qb)),h1.same U,h2.same U⟩ .nil)
 ·intro p k;rcases List.mem_append.mp k with k|k
  ·exact B p k
  ·rw[List.mem_singleton]at k;subst k;exact⟨kx,ky⟩
 have j:=U.trans g2;refine⟨_,Xb,a,Xb,⟨_,Zc.of (j _ _ J)⟩,Xh (K:=K) (a:=a) (xs:=us) (λi σ D=>D=H2/\(∃x4 x5 x6,σ=[Ga (.ref a),Ga (.ref G),Ga (.ref I),Ga (.ref d2),x4,x5,x6])/\∀u v,(Gq,u,v)∈tl.take i->¬Cg (tl++[(Gf,x,y)]) u v)
  ⟨Xb,⟨_,_,_,Xb⟩,by simp⟩ (λi σ D _⟨e,_⟩=>Zc.of (by rw[e];exact j _ _ J)) ?_ ?_⟩
 ·rintro i p σ D hi ⟨rfl,⟨x4,x5,x6,rfl⟩,o⟩;obtain⟨⟨X,V,W⟩,eu,a',w1,w2,rfl,Y,t1,t2⟩:=Qx b hi;obtain⟨c1,_,_,_,rfl,_,_,_⟩:=t1.inv;obtain⟨c2,_,_,_,rfl,_,_,_⟩:=t2.inv;have mem:=List.mem_of_getElem? eu;have i2:=g (X,V,W) (List.mem_append_left _ mem);have tk:tl.take (i+1)=tl.take i++[(X,V,W)]:=by rw[List.take_add_one,eu];rfl
  refine⟨a',_,Xb,Z2.of (j _ _ Y),Xb,_,_,Xb,_,_,Xb,_,_,Xb,Xb,?_⟩;refine⟨_,Xb,Xb,_,Xb,?_⟩;rw[Yf,Qeq];cases X with
  |true=>
   refine Zp (Zp ⟨Xb,⟨_,_,_,Xb⟩,λu v h=>?_⟩);rw[tk,List.mem_append,List.mem_singleton]at h;rcases h with h|h
   ·exact o u v h
   ·cases h
  |false=>
   refine Yr ?_;refine⟨_,Xb,_,Xb,N2.get i2.1 (t1.same j) ⟨_,Xb,_,Xb,N2.get i2.2 (t2.same j) ⟨Xb,_,Xb,?_⟩⟩⟩;rw[Vp];refine Va (λm=>?_) (λm=>?_)
   ·have m:L2 V=L2 W:=by simpa using m
    exact q _ _ j (.inr (.inl ⟨Xb,nc,V,W,mem,(T2.iff i2.1 i2.2).mp m⟩))
   ·refine⟨Xb,⟨_,_,_,Xb⟩,λu v h=>?_⟩;rw[tk,List.mem_append,List.mem_singleton]at h;rcases h with h|h
    ·exact o u v h
    ·cases h;intro z;have:=(T2.iff i2.1 i2.2).mpr z;simp[this]at m
 ·rintro σ D ⟨rfl,_,o⟩;rw[aa,List.take_length]at o;exact q _ _ j (.inr (.inr ⟨Xb,nc,o⟩))
theorem Qot{U:Tt}(F:Wu K "_law_barred" "_law_barred" Qb2 f fd)
  (GC:Qr P w K mg base Z3 1 fC U ["_law_told","_law_things"] (Qak P w))(kC:KI K fC)(bC:Binds K U ["_law_told","_law_things"] [])(mC:MG mg "_law_classes" fC):
  Qr P w K mg base Z3 2 f fd ["_law_told","_law_deed"] Qcs:=by
 refine F.ok Qhy (λvs H Q E h=>?_) (λcdv A outer s H vs Q E Y h=>?_)
 ·obtain⟨a,e,us,tl,v1,v2,b,x,y,rfl,_⟩:=h;rfl
 obtain⟨a,e,us,tl,v1,v2,b,x,y,rfl,ha,C,he,h1,h2,kx,ky,O,hsz,q⟩:=h;have nd:=Qhy.nd;have Z:=Y.units;refine⟨_,(Qd (Qs 2 nd (Zo Uc (pv 0) (Zt (Qa (pv 1) Qe))))
  (Qd (Qs 3 nd (Zy GC Y rfl mC kC bC .nil Q4 (Qa (pv 2) (Qa (Zt Qe) Qe))))
  (Qd (Ye Gy rfl (Y2 (pv 2)) (Vi rfl (Zl (Ya 4 nd) (Zl (Ya 5 nd) (Zl (Ya 6 nd) X5))))
  (Qh (Zn (PW.pt (Vh (Qp Wi (pv 4) Zf (Q3 _)) (Wj (Qp Wi (Qn (Uq Z) (pv 3) (pv 5)) (Qn (Uq Z) (pv 3) (pv 6)) (Q3 _)))))
  (Qh (Qu Vd)) Q6)))
  (Qh (Qu Vd))))),?_⟩
 have ac:us.length=tl.length:=Gr C;have ab:tl.length<=3000:=by have:=Zx (tl.map (·.2.1));rw[List.length_map]at this;omega
 refine⟨_,Xb,_,Xb,by show 1<=Gi;decide,λl hl=>?_⟩;have s3:=Qg hl (.lst [.ref e]);refine⟨a,l,us,[.ref e],Xb,Xb,s3 _ _ ha,Qb,small (by show us.length+1<=_;omega),λn hn=>?_⟩;have s4:=Qg hn (.lst (us++[.ref e]));refine⟨_,Xb,Gx _,λz hz=>?_⟩;have s5:=Qg hz (.lst []);have sC:=(s3.trans s4).trans s5;have B:Qw ([]:List Th)+Qw ((tl++[(b,x,y)]).map (·.2.1))+Qw ((tl++[(b,x,y)]).map (·.2.2))<=3000:=by rw[List.map_append,List.map_append,Xo,Xo];simp only[List.map_cons,List.map_nil,Qw];omega
 have d:Uj H (us++[.ref e]) (tl++[(b,x,y)]):=Yq C (.cons ⟨e,v1,v2,Xb,he,h1,h2⟩ .nil);have R:(us++[V.ref e]).length=(tl++[(b,x,y)]).length:=Gr d;have r:=s5 _ _ (@Qb _ n (.lst (us++[.ref e])));have o:∀p∈tl++[(b,x,y)],(p.2.1.ok=Gf/\p.2.1.depth<=8)/\p.2.2.ok=Gf/\p.2.2.depth<=8:=by
  intro p j;rcases List.mem_append.mp j with j|j
  ·exact O p j
  ·rw[List.mem_singleton]at j;subst j;exact⟨kx,ky⟩
 generalize us++[V.ref e]=G at*;generalize tl++[(b,x,y)]=c at*;refine⟨n,z,G,[],c,[],Xb,r,d.Ql (Qt.of sC),Qb,.nil,(λt ht=>nomatch ht),o,B,λd2 S2 L2 H2 X aa S T _ g=>?_⟩;have D:=sC.trans X;have nD:=X _ _ r;refine⟨_,Xb,n,Xb,⟨_,Zc.of nD⟩,Xh (K:=K) (a:=n) (xs:=G) (λi σ I=>I=H2/\(∃x4 x5 x6,σ=[Ga (.ref a),Ga (.ref e),Ga (.ref n),Ga (.ref d2),x4,x5,x6])/\∀u v,(Gq,u,v)∈c.take i->¬Cg c u v)
  ⟨Xb,⟨_,_,_,Xb⟩,by simp⟩ (λi σ I _⟨e,_⟩=>Zc.of (by rw[e];exact nD)) ?_ ?_⟩
 ·rintro i p σ I hi ⟨rfl,⟨x4,x5,x6,rfl⟩,m⟩;obtain⟨⟨M,J,L⟩,W,a',w1,w2,rfl,N,t1,t2⟩:=Qx d hi;obtain⟨c1,_,_,_,rfl,_,_,_⟩:=t1.inv;obtain⟨c2,_,_,_,rfl,_,_,_⟩:=t2.inv;have mem:=List.mem_of_getElem? W;have i2:=g (M,J,L) mem;have tk:c.take (i+1)=c.take i++[(M,J,L)]:=by rw[List.take_add_one,W];rfl
  refine⟨a',_,Xb,Z2.of (D _ _ N),Xb,_,_,Xb,_,_,Xb,_,_,Xb,Xb,?_⟩;refine⟨_,Xb,Xb,_,Xb,?_⟩;rw[Yf,Qeq];cases M with
  |true=>
   refine Zp (Zp ⟨Xb,⟨_,_,_,Xb⟩,λu v h=>?_⟩);rw[tk,List.mem_append,List.mem_singleton]at h;rcases h with h|h
   ·exact m u v h
   ·cases h
  |false=>
   refine Yr ?_;refine⟨_,Xb,_,Xb,S.get i2.1 (t1.same D) ⟨_,Xb,_,Xb,S.get i2.2 (t2.same D) ⟨Xb,_,Xb,?_⟩⟩⟩;rw[Vp];refine Va (λk=>?_) (λk=>?_)
   ·have k:L2 J=L2 L:=by simpa using k
    exact q Gf _ D ⟨λ_=>⟨J,L,mem,(T.iff i2.1 i2.2).mp k⟩,λ_=>rfl⟩
   ·refine⟨Xb,⟨_,_,_,Xb⟩,λu v h=>?_⟩;rw[tk,List.mem_append,List.mem_singleton]at h;rcases h with h|h
    ·exact m u v h
    ·cases h;intro z;have:=(T.iff i2.1 i2.2).mpr z;simp[this]at k
 ·rintro σ I ⟨rfl,_,m⟩;rw[R,List.take_length]at m;exact q Gq _ D ⟨λz=>by(cases z),λ⟨u,v,h1,h2⟩=>absurd h2 (m u v h1)⟩
end
section
variable{P:Gk}{w:Gv}{K:Gd}{mg:Ta->Option Value}{base:Heap}
theorem Qwu:Qv ["_law_cell","_law_size"] ["_law_cell"] (Qk Qvt):=by eq_refl
theorem Qxw(F:Wu K "_law_any" "_law_any" Qvt f fd):Qr P w K mg base Z3 1 f fd ["_law_cell"] Qwa:=by
 refine F.ok Qwu (λvs H Q E h=>?_) (λcdv A outer s H vs Q E e h=>?_)
 ·obtain⟨n,rfl,_⟩:=h;rfl
 obtain⟨n,rfl,q⟩:=h;have nd:=Qwu.nd;refine⟨_,(Qd (Qs 1 nd (Zo Xv (Zo X6 (pv 0) Qj) (Zo Qs4 Qj Qj)))
  (Qh (Qu (Zo Qs0 (pv 1) (Qn Zi (Zt (Qa Qj (Qa (Qa9 Jv Qj) Qe))) (Zo Xv (pv 0) Qj)))))),?_⟩
 refine⟨_,Xb,_,_,Xb,Xb,⟨by decide,by decide⟩,_,_,Xb,Xb,⟨by decide,by decide,by decide⟩,_,_,Xb,Xb,(by show(0:Int)<10^DD 59;decide),?_⟩;refine⟨_,Xb,_,Xb,by show 2<=Gi;decide,λl a=>?_⟩;obtain⟨v,c,d⟩:=Vr [V.int 1,V.int (-1)] (n % 2) (TV _ (by decide)) (Tx _ (by decide));have b:=List.mem_of_getElem? d;simp only[List.mem_cons,List.not_mem_nil,Eb]at b;refine⟨_,Xb,_,_,Xb,Xb,(by show(0:Int)<2;decide),l,_,_,v,Xb,Xb,Zc.of Qb,c,?_⟩;rcases b with rfl|rfl
 ·exact⟨_,_,Xb,Xb,.inr ⟨by decide,by decide⟩,q _ _ (Qg a _)⟩
 ·exact⟨_,_,Xb,Xb,.inr ⟨by decide,by decide⟩,q _ _ (Qg a _)⟩
theorem Qsr:Qv ["_law_script","_law_most","_law_bound"] ["_law_script","_law_most","_law_bound"] (Qk Qmg):=by eq_refl
theorem Qvr(F:Wu K "_law_room" "_law_room" Qmg f fd)(B:Blt mg):Qr P w K mg base Z3 1 f fd ["_law_script","_law_most","_law_bound"] (Qp7 K):=by
 refine F.ok Qsr (λvs H Q E h=>?_) (λcdv A outer s H vs Q E e h=>?_)
 ·obtain⟨a,ns,m,b,rfl,_⟩:=h;rfl
 obtain⟨a,ns,m,b,rfl,hS,d,q⟩:=h;have nd:=Qsr.nd;refine⟨_,(Qd (Zn (Qp Qca (Qo Yz rfl B.len GO (Qa (pv 0) Qe)) Qj (Q3 _))
  (Qh (Qu (pv 2))) Q6)
  (Qh (Qu (pv 1)))),?_⟩
 refine⟨_,Xb,_,_,Xb,.inl ⟨_,hS,Xb⟩,_,_,Xb,Xb,_,Xb,?_⟩;refine Va (λc=>?_) (λc=>?_)
 ·exfalso;have c:=TJ c;rw[List.length_map]at c;omega
 ·exact⟨_,Xb,q⟩
theorem Qmr:Qv ["_law_cells","_law_things","_law_deeds","_law_k","_law_rest","_law_one","_law_other","_law_way","_law_odd"] ["_law_cells","_law_things"] (Qk Qf7):=by eq_refl
theorem Qsn{dA:Tt}(F:Wu K "_law_drawn_deeds" "_law_drawn_deeds" Qf7 f fd)(B:Blt mg)
  (GA:Qr P w K mg base Z3 1 fA dA ["_law_cell"] Qwa)(kA:KI K fA)(bA:Binds K dA ["_law_cell"] [])(mA:MG mg "_law_any" fA):
  Qr P w K mg base Z3 2 f fd ["_law_cells","_law_things"] (Qmi K):=by
 refine F.ok Qmr (λvs H Q E h=>?_) (λcdv A outer s H vs Q E hr h=>?_)
 ·obtain⟨a,b,ns,us,ts,rfl,_⟩:=h;rfl
 obtain⟨a,b,ns,us,ts,rfl,hS,ab,hb,D,ad,ac,q⟩:=h;have nd:=Qmr.nd;have af:=D.length;refine⟨_,(Qd (Qs 2 nd (Zt Qe))
  (Qd (Ye Gy rfl (Uv rfl B.range (Qa (Qo Yz rfl B.len GO (Qa (pv 0) Qe)) Qe)) (Ya 3 nd)
  (Qd (Qs 4 nd (Zo X6 (Qn Zi (pv 0) (pv 3)) Qj))
  (Qd (Qs 5 nd (Qn Zi (pv 1) (Zo Xv (Zo Qav (pv 4) (pv 3)) (Qo Yz rfl B.len GO (Qa (pv 1) Qe)))))
  (Qd (Qs 6 nd (Qn Zi (pv 1) (Zo Xv (Zo Qav (Zo Qav (Zo X6 (pv 4) Qj) (Zo Qs0 Qj (pv 3))) Qj) (Qo Yz rfl B.len GO (Qa (pv 1) Qe)))))
  (Qd (Qs 7 nd (Zo Xv (Qn Zi (pv 0) (pv 3)) Qj))
  (Qh (Zn (Qp Ob (pv 7) Qj (Q3 _))
  (Qh (Ze (Xq Gs GF GV Z0 (pv 2) (Qa (Za (Qa Zf (Qa (pv 5) (Qa (pv 6) Qe)))) Qe)))) (Qh (Zn (Qp Ob (pv 7) Qj (Q3 _))
  (Qh (Ze (Xq Gs GF GV Z0 (pv 2) (Qa (Za (Qa Zf (Qa (pv 5) (Qa (pv 6) Qe)))) Qe)))) (Qh (Zn (Qp Ob (pv 7) Qj (Q3 _))
  (Qh (Ze (Xq Gs GF GV Z0 (pv 2) (Qa (Za (Qa Zf (Qa (pv 5) (Qa (pv 6) Qe)))) Qe)))) (Qd (Qs 8 nd (Zy GA hr rfl mA kA bA .nil Q4 (Qa (Qn Zi (pv 0) (pv 3)) Qe)))
  (Qh (Ze (Xq Gs GF GV Z0 (pv 2) (Qa (Za (Qa Zf (Qa (Qn Zi (Zt (Qa (Zo Xv (pv 4) Qj) (Qa Qj (Qa (Qa9 Jv Qj) (Qa (pv 8) Qe))))) (Zo Xv (Zo X6 (pv 4) Qj) Qj)) Qe))) Qe))))))))))))))))
  (Qh (Qu (pv 2))))),?_⟩
 refine⟨Gx _,λp hp=>?_⟩;have s1:=Qg hp (.lst []);refine⟨_,Xb,_,_,Xb,.inl ⟨_,s1.seq hS,Xb⟩,_,Xb,by omega,by rw[List.length_map];omega,Uz (lo:=0) (n:=(((ns.map V.int).length:Int)).toNat) (λi σ H1=>∃(es:List V)(dl:List Dd)(S T U W X Y:Option V),σ=[Ga (.ref a),Ga (.ref b),Ga (.ref p),S,T,U,W,X,Y]/\Qz H H1/\H1 p=Ga (.lst es)/\X0 H1 es dl/\dl.length=i/\∀d∈dl,d.fits ts)
  ⟨[],[],_,_,_,_,_,_,Xb,s1,Qb,.nil,Xb,λd hd=>nomatch hd⟩ ?_ ?_⟩
 ·rintro i σ H1 hi ⟨es,dl,S,T,U,W,X,Y,rfl,y,k,g2,g3,g4⟩;have hi:i<ns.length:=by rw[List.length_map]at hi;omega
  have ae:es.length=dl.length:=Gr g2;generalize hc:ns[i]=c;have ec:atI (ns.map V.int) (0+(i:Int))=Ga (.int c):=by rw[EA];refine Qy ?_;rw[List.getElem?_map,List.getElem?_eq_getElem hi,hc];rfl
  have pos:(0:Int)<us.length:=by omega
  obtain⟨t,a1,f1⟩:=Vr us ((c / 10+(0+(i:Int))) % us.length) (TV _ (by omega)) (Tx _ pos);obtain⟨u,a2,f2⟩:=Vr us ((c / 10 / 7+2*(0+(i:Int))+1) % us.length) (TV _ (by omega)) (Tx _ pos);obtain⟨O,e1,i1⟩:=D.get f1;obtain⟨R,e2,i2⟩:=D.get f2;have I:=List.mem_of_getElem? e1;have J:=List.mem_of_getElem? e2;have r:=y _ _ hb;refine⟨_,Xb,_,Xb,a,_,_,_,Xb,Xb,y.seq hS,ec,_,_,Xb,Xb,⟨by decide,by decide⟩,?_⟩;refine⟨_,Xb,_,Xb,_,Xb,_,_,Xb,Xb,_,Xb,_,_,Xb,.inl ⟨us,Zc.of r,Xb⟩,_,_,Xb,Xb,pos,b,us,_,t,Xb,Xb,Zc.of r,a1,?_⟩;refine⟨_,Xb,_,Xb,_,_,Xb,Xb,⟨by decide,by decide⟩,_,Xb,_,_,Xb,Xb,.inl ⟨by decide,by decide⟩,_,_,Xb,Xb,_,_,Xb,Xb,_,Xb,_,_,Xb,.inl ⟨us,Zc.of r,Xb⟩,_,_,Xb,Xb,pos,b,us,_,u,Xb,Xb,Zc.of r,a2,?_⟩;refine⟨_,Xb,_,Xb,a,_,_,_,Xb,Xb,y.seq hS,ec,_,_,Xb,Xb,(by show(0:Int)<10;decide),?_⟩;have fin:∀{v:Hp}{e:Gc}{xs:List V}{d:Dd}{Z:Option V},Qz H1 v->v e=Gg->d.fits ts->Qbh (upd (upd v e (.tup xs)) p (.lst (es++[.ref e]))) (.ref e) d->
    ∃(M:List V)(dl:List Dd)(S T U W X Y:Option V),[Ga (V.ref a),Ga (.ref b),Ga (.ref p),Ga (.int (0+(i:Int))),Ga (.int (c / 10)),Ga t,Ga u,Ga (.int (c % 10)),Z]=[Ga (.ref a),Ga (.ref b),Ga (.ref p),S,T,U,W,X,Y]/\Qz H (upd (upd v e (.tup xs)) p (.lst (es++[.ref e])))/\(upd (upd v e (.tup xs)) p (.lst (es++[.ref e]))) p=Ga (.lst M)/\X0 (upd (upd v e (.tup xs)) p (.lst (es++[.ref e]))) M dl/\dl.length=i+1/\∀d∈dl,d.fits ts:=by
   intro v e xs d Z N g hf hd;have s4:=Qg g (.tup xs);have p4:=s4 _ _ (N _ _ k);have L:Qt H1 (upd (upd v e (.tup xs)) p (.lst (es++[.ref e]))):=((Qt.of N).trans (Qt.of s4)).trans (Zs λys z=>by rw[p4]at z;cases z);refine⟨es++[.ref e],dl++[d],_,_,_,_,_,_,Xb,λq o hq=>?_,Qb,Yq (g2.Ql L) (.cons hd .nil),by rw[List.length_append,List.length_singleton,g3],λd' aa=>?_⟩
   ·rw[Qf (Qc hq hp)];exact s4 _ _ (N _ _ (y _ _ hq))
   ·rcases List.mem_append.mp aa with z|z
    ·exact g4 d' z
    ·rw[List.mem_singleton]at z;rw[z];exact hf
  have j:∀{x:Ta}{e:Gc}{d:Dd},H1 e=Gg->d.fits ts->(d=.ask O R/\x="ask"\/∃bb,d=.tell bb O R/\x=tw bb)->Qbh (upd (upd H1 e (.tup [.str x,t,u])) p (.lst (es++[.ref e]))) (.ref e) d:=by
   intro x e d g hf hd;have s4:=Qg g (.tup [.str x,t,u]);have p4:=s4 _ _ k;have C:e≠p:=λz=>by rw[z,k]at g;cases g
   have L:Qt H (upd (upd H1 e (.tup [.str x,t,u])) p (.lst (es++[.ref e]))):=((Qt.of y).trans (Qt.of s4)).trans (Zs λys z=>by rw[p4]at z;cases z);have at_:(upd (upd H1 e (.tup [.str x,t,u])) p (.lst (es++[.ref e]))) e=Ga (.tup [.str x,t,u]):=by rw[Qf C];exact Qb
   rcases hd with⟨rfl,rfl⟩|⟨bb,rfl,rfl⟩
   ·exact⟨e,t,u,Xb,at_,i1.Ql L,i2.Ql L⟩
   ·exact⟨e,t,u,Xb,at_,i1.Ql L,i2.Ql L⟩
  refine⟨_,Xb,_,_,Xb,Xb,_,Xb,?_⟩;refine Va (λc1=>?_) (λc1=>?_)
  ·refine⟨_,Xb,.inl ⟨Xb,_,Zc.of k⟩,_,Xb,_,Xb,by show 3<=Gi;decide,λe g=>?_⟩;refine⟨p,es,.ref e,Xb,Xb,Qg g _ _ _ k,by rw[GQ];omega,?_⟩;exact fin (d:=.tell Gf O R) (λ_ _ h=>h) g ⟨I,J⟩ (j g ⟨I,J⟩ (.inr ⟨Gf,Xb,Xb⟩))
  refine⟨_,Xb,_,_,Xb,Xb,_,Xb,?_⟩;refine Va (λc2=>?_) (λc2=>?_)
  ·refine⟨_,Xb,.inl ⟨Xb,_,Zc.of k⟩,_,Xb,_,Xb,by show 3<=Gi;decide,λe g=>?_⟩;refine⟨p,es,.ref e,Xb,Xb,Qg g _ _ _ k,by rw[GQ];omega,?_⟩;exact fin (d:=.tell Gq O R) (λ_ _ h=>h) g ⟨I,J⟩ (j g ⟨I,J⟩ (.inr ⟨Gq,Xb,Xb⟩))
  refine⟨_,Xb,_,_,Xb,Xb,_,Xb,?_⟩;refine Va (λc3=>?_) (λc3=>?_)
  ·refine⟨_,Xb,.inl ⟨Xb,_,Zc.of k⟩,_,Xb,_,Xb,by show 3<=Gi;decide,λe g=>?_⟩;refine⟨p,es,.ref e,Xb,Xb,Qg g _ _ _ k,by rw[GQ];omega,?_⟩;exact fin (d:=.ask O R) (λ_ _ h=>h) g ⟨I,J⟩ (j g ⟨I,J⟩ (.inl ⟨Xb,Xb⟩))
  refine⟨_,Xb,_,Xb,a,_,_,_,Xb,Xb,y.seq hS,ec,_,Xb,λm H2 s2=>?_⟩;refine⟨_,Xb,.inl ⟨Xb,_,Zc.of (s2 _ _ k)⟩,_,Xb,_,_,Xb,Xb,(by show(0:Int)<4;decide),_,Xb,_,Xb,by show 4<=Gi;decide,λl hl=>?_⟩;have N:=Qg hl (.lst [.int (c / 10 % 4),.int 0,.int (-1),.int m]);obtain⟨v3,a3,f3⟩:=Vr [V.int (c / 10 % 4),.int 0,.int (-1),.int m] (c / 10 / 4 % 4) (TV _ (by decide)) (Tx _ (by decide));have hv:=List.mem_of_getElem? f3;obtain⟨z,rfl⟩:∃z,v3=V.int z:=by simp only[List.mem_cons,List.not_mem_nil,Eb]at hv;rcases hv with h|h|h|h<;>exact⟨_,h⟩
  refine⟨_,Xb,_,_,Xb,Xb,⟨by decide,by decide⟩,_,_,Xb,Xb,(by show(0:Int)<4;decide),l,_,_,.int z,Xb,Xb,Zc.of Qb,a3,by show 2<=Gi;decide,λe g=>?_⟩;have G:=s2.trans N;have C:e≠p:=λz=>by rw[z,G _ _ k]at g;cases g
  refine⟨p,es,.ref e,Xb,Xb,Qg g _ _ _ (G _ _ k),by rw[GQ];omega,?_⟩;exact fin (d:=.back z) G g TC ⟨e,Xb,by rw[Qf C];exact Qb⟩
 ·rintro σ H1 ⟨es,dl,S,T,U,W,X,Y,rfl,y,k,g2,g3,g4⟩;refine⟨_,Xb,q p es dl H1 y hp k g2 ?_ g4⟩;rw[g3,List.length_map];omega
end
def Qzi:T6->List T6
 |.For _ _ b _ _=>b
 |_=>[]
abbrev lSt(i:Nat):T6:=(Vo Qgj).getD i (.Pass ⟨0,0,0,0⟩)
abbrev Q2c:T6:=(Qzi (lSt 7)).getD 2 (.Pass ⟨0,0,0,0⟩)
abbrev lN:List Ta:=["_law_script","_law_things","_law_deeds","_law_one","_law_far","_law_handed","_law_found","_law_told","_law_k","_law_deed","_law_due"]
theorem Qm0:Qv lN ["_law_script"] (Qk Qgj):=by eq_refl
theorem Qf8(ns:List Int)(j k:Nat):∃a:List Int,Uw (ns.map V.int) (Ga (j:Int)) (Ga (k:Int))=a.map V.int/\a.length<=k - j/\(ns.length<=j->a=[]):=by
 refine⟨(ns.drop (min j ns.length)).take (min k ns.length - min j ns.length),?_,?_,λh=>?_⟩
 ·unfold Uw;rw[HT.Ot,HT.Ot,List.length_map,List.map_take,List.map_drop]
 ·rw[List.length_take];omega
 ·rw[Nat.min_eq_right h,Nat.sub_eq_zero_of_le (Fj _ _)];simp
theorem Qjd(xs:List V)(i:Int)(a:0<=i):Uw xs Gg (Ga i)=xs.take i.toNat:=by obtain⟨k,rfl⟩:∃k:Nat,i=(k:Int):=⟨i.toNat,by omega⟩;unfold Uw;rw[HT.Og,HT.Ot];simp
section
variable{P:Gk}{w:Gv}{K:Gd}{mg:Ta->Option Value}{base:Heap}{f:Gc}{cdv:Value}{A:TL}{outer:List LL}{s:Gj}{Hi:Hp}{E:XK}
abbrev XL(P:Gk)(w:Gv)(K:Gd)(mg:Ta->Option Value)(base:Heap)(f:Gc)(cdv:Value)(A:TL)(outer:List LL)(s:Gj)(Hi:Hp)(E:XK):Cx:=(Qhl Z3 P w K mg base lN "law" (Qk Qgj) f cdv A outer s Hi E).nox
theorem Qt7(D:Drawn ts m)(e:m<=4):∀t∈ts,t.good:=λt b=>by obtain⟨j,a⟩:=List.mem_iff_getElem?.mp b;have d:j<ts.length:=(List.getElem?_eq_some_iff.mp a).1;have h1:=D.any j t a;have h2:=D.dep j t a;have c:=D.len;exact⟨D.ok t b,by omega,by omega⟩
theorem Qqt(B:Blt mg):∃t,PS (XL P w K mg base f cdv A outer s Hi E) (lSt 2) t/\∀(a r L:Gc)(ns:List Int)(us es:List V)(ts:List Th)(dl:List Dd)(m:Nat)(H0:Hp)
  (hS:Zc K H0 a (ns.map V.int))(hr:H0 r=Ga (.lst us))(u:Zq H0 us ts)(D:Drawn ts m)(hm:m<=4)(hq:H0 L=Ga (.lst es))(o:X0 H0 es dl)(k:∀d∈dl,d.fits ts)(hl:dl.length<=6),
  Tr t (λσ H=>H=H0/\σ=[Ga (.ref a),Ga (.ref r),Ga (.ref L),Gg,Gg,Gg,Gg,Gg,Gg,Gg,Gg])
   (λσ H=>∃q I C Y O,σ=[Ga (.ref a),Ga (.ref r),Ga (.ref q),Y,O,Gg,Gg,Gg,Gg,Gg,Gg]/\Qz H0 H/\H q=Ga (.lst I)/\X0 H I C/\(∃U,Qg3 U/\∀d∈C,d.fits U)/\C.length<=6):=by
 have nd:=Qm0.nd;refine⟨_,(Zn (PW.pt (Vh (Qp Qca (Qo Yz rfl B.len GO (Qa (pv 0) Qe)) Qj (Q3 _)) (Wj (Qp Wi (Zo Xv (Qn Zi (pv 0) Qj) Qj) Qj (Q3 _)))))
  (Qd (Qs 3 nd (Qn Zi (pv 1) Qj))
  (Qd (Qs 4 nd (Qn Zi (pv 1) (Zo Qav Qj (Zo Xv (Zo X6 (Qn Zi (pv 0) Qj) Qj) Qj))))
  (Qh (Qs 2 nd (Zo Uc (Ys Vq (pv 2) Xt (Yt Qj)) (Zt (Qa (Za (Qa Zf (Qa (pv 3) (Qa (pv 4) Qe)))) (Qa (Za (Qa Zf (Qa (Za (Qa Zf (Qa (pv 3) Qe))) (Qa (Za (Qa Zf (Qa (pv 4) Qe))) Qe)))) Qe)))))))) Q6),?_⟩
 intro a r L ns us es ts dl m H0 hS hr u D hm hq o k hl;rintro D' σ H ⟨rfl,rfl⟩ kk;have v:=Qt7 D hm;have an:∀d∈dl,d.good:=λd hd=>by
  have h:=k d hd;cases d with
  |tell b x y=>exact⟨v x h.1,v y h.2⟩
  |ask x y=>exact⟨v x h.1,v y h.2⟩
  |back i=>exact TC
 have aq:=u.length;have ap:=D.len;have no:=kk _ _ ⟨L,es,dl,Gg,Gg,Xb,λ_ _ h=>h,hq,o,⟨ts,⟨R1 D.cl,v,by omega⟩,k⟩,hl⟩;refine⟨_,Xb,_,_,Xb,.inl ⟨_,hS,Xb⟩,_,_,Xb,Xb,_,Xb,?_⟩;refine Va (λc=>?_) (λc=>Zp no);have c:0<ns.length:=by have:=TJ c;rw[List.length_map]at this;omega
 generalize ab:ns[0]=n0;have e0:atI (ns.map V.int) 0=Ga (.int n0):=by refine Qy (j:=0) ?_;rw[List.getElem?_map,List.getElem?_eq_getElem c,ab];rfl
 refine⟨_,Xb,a,_,_,_,Xb,Xb,hS,e0,_,_,Xb,Xb,(by show(0:Int)<3;decide),Xb,_,Xb,?_⟩;refine Va (λc2=>?_) (λc2=>no);obtain⟨W,a1,f1⟩:=Vr us 0 (by decide) (by omega);have b0:=TV (n0 / 3) (show(2:Int)≠0 by decide);have b1:=Tx (n0 / 3) (show(0:Int)<2 by decide);obtain⟨X,a2,f2⟩:=Vr us (1+n0 / 3 % 2) (by omega) (by omega);obtain⟨F,Q,i1⟩:=u.get f1;obtain⟨G,R,i2⟩:=u.get f2;have g1:=v F (List.mem_of_getElem? Q);have g2:=v G (List.mem_of_getElem? R);have z1:=D.one _ _ Q (by decide);have z2:=D.one _ _ R (by omega);have y1:=D.dep _ _ Q;have y2:=D.dep _ _ R;have h3:(1+n0 / 3 % 2).toNat<=2:=by omega
 have h4:(0:Int).toNat=0:=rfl;have Z:TU ("fig":Ta)=Gf:=by decide+kernel
 have gf:∀t:Th,t.good->t.size<=1->t.depth<=3->(Th.mk "fig" [t]).good:=λt g z y=>⟨by simp[Th.ok,okL,Z,g.1],by simp only[Th.depth,Wa];omega,by simp only[Th.size,Qw];omega⟩;refine⟨_,Xb,r,us,_,W,Xb,Xb,Zc.of hr,a1,?_⟩;refine⟨_,Xb,_,Xb,a,_,_,_,Xb,Xb,hS,e0,_,_,Xb,Xb,⟨by decide,by decide⟩,_,_,Xb,Xb,(by show(0:Int)<2;decide),_,_,Xb,Xb,r,us,_,X,Xb,Xb,Zc.of hr,a2,?_⟩;refine⟨_,Xb,_,Xb,L,_,Xb,Zc.of hq,λp1 ac=>?_⟩;rw[Qjd es 4 (by decide)];have s1:=Qg ac (.lst (es.take (DD 4)));refine⟨_,Xb,_,Xb,by show 3<=Gi;decide,λx1 ad=>?_⟩;have s2:=Qg ad (.tup [.str "same",W,X]);refine⟨_,Xb,by show 2<=Gi;decide,λx2 ae=>?_⟩;have s3:=Qg ae (.tup [.str "fig",W]);refine⟨_,Xb,by show 2<=Gi;decide,λY af=>?_⟩;have s4:=Qg af (.tup [.str "fig",X]);refine⟨by show 3<=Gi;decide,λO ag=>?_⟩;have S:=Qg ag (.tup [.str "ask",.ref x2,.ref Y]);refine⟨by show 2<=Gi;decide,λl aa=>?_⟩;have N:=Qg aa (.lst [.ref x1,.ref O]);have ao:es.length=dl.length:=Gr o;have ah:=s1.trans s2;have ai:=ah.trans s3;have aj:=ai.trans s4;have ak:=aj.trans S;have al:=ak.trans N;refine⟨p1,l,_,_,Xb,Xb,(((s2.trans s3).trans s4).trans S).trans N _ _ Qb,Qb,small (by rw[List.length_take];show _+2<=_;omega),λn hn=>?_⟩;have T:=Qg hn (.lst (es.take (DD 4)++[.ref x1,.ref O]));have e:=al.trans T;have M:=((s4.trans S).trans N).trans T;have am:=(S.trans N).trans T;refine kk _ _ ⟨n,_,dl.take 4++[.tell Gf F G,.ask (.mk "fig" [F]) (.mk "fig" [G])],_,_,Xb,e,Qb,?_,?_,?_⟩
 ·refine Yq ?_ (.cons ⟨x1,W,X,Xb,(s3.trans M) _ _ Qb,i1.same e,i2.same e⟩ (.cons ⟨O,.ref x2,.ref Y,Xb,(N.trans T) _ _ Qb,.mk (M _ _ Qb) (.one (i1.same e)),.mk (am _ _ Qb) (.one (i2.same e))⟩ .nil));have all:∀{xs:List V}{ds:List Dd}(n:Nat),X0 H xs ds->X0 H (xs.take n) (ds.take n):=by
   intro xs ds n h;induction h generalizing n with
   |nil=>cases n<;>exact .nil
   |cons h r ih=>
    cases n with
    |zero=>exact .nil
    |succ n=>exact .cons h (ih n)
  exact(all 4 o).same e
 ·have m1:F∈ts:=List.mem_of_getElem? Q;have m2:G∈ts:=List.mem_of_getElem? R;refine⟨ts++[.mk "fig" [F],.mk "fig" [G]],⟨R1 λt ht p J=>?_,λt ht=>?_,by rw[List.length_append];show _+2<=60;omega⟩,λd hd=>?_⟩
  ·rcases List.mem_append.mp ht with z|z
   ·exact List.mem_append_left _ (D.cl t z p J)
   ·simp only[List.mem_cons,List.not_mem_nil,Eb]at z;rcases z with rfl|rfl
    ·simp only[Th.parts,List.mem_cons,List.not_mem_nil,Eb]at J;rw[J];exact List.mem_append_left _ m1
    ·simp only[Th.parts,List.mem_cons,List.not_mem_nil,Eb]at J;rw[J];exact List.mem_append_left _ m2
  ·rcases List.mem_append.mp ht with z|z
   ·exact v t z
   ·simp only[List.mem_cons,List.not_mem_nil,Eb]at z;rcases z with rfl|rfl
    ·exact gf F g1 z1 (by omega)
    ·exact gf G g2 z2 (by omega)
  ·have up:∀{d:Dd},d.fits ts->d.fits (ts++[.mk "fig" [F],.mk "fig" [G]]):=λ{d}h=>by
    cases d with
    |tell b x y=>exact⟨List.mem_append_left _ h.1,List.mem_append_left _ h.2⟩
    |ask x y=>exact⟨List.mem_append_left _ h.1,List.mem_append_left _ h.2⟩
    |back i=>exact TC
   rcases List.mem_append.mp hd with z|z
   ·exact up (k d (List.mem_of_mem_take z))
   ·simp only[List.mem_cons,List.not_mem_nil,Eb]at z;rcases z with rfl|rfl
    ·exact⟨List.mem_append_left _ m1,List.mem_append_left _ m2⟩
    ·exact⟨by simp,by simp⟩
 ·rw[List.length_append,List.length_take];show _+2<=6;omega
end
theorem Qxd(b:Bool):(tw b==("ask":Ta))=Gq:=by cases b<;>decide+kernel
theorem Qg7(b:Bool):(tw b==("back":Ta))=Gq:=by cases b<;>decide+kernel
theorem Qt1:(("ask":Ta)=="ask")=Gf:=by decide+kernel
theorem Qpy:(("back":Ta)=="ask")=Gq:=by decide+kernel
theorem Ui:(("back":Ta)=="back")=Gf:=by decide+kernel
theorem Qo2(n:Nat)(h:Uj H xs tl):Uj H (xs.take n) (tl.take n):=by
 unfold Uj at h⊢;induction h generalizing n with
 |nil=>cases n<;>exact .nil
 |cons h r a=>
  cases n with
  |zero=>exact .nil
  |succ n=>exact .cons h (a n)
section
variable{P:Gk}{w:Gv}{K:Gd}{mg:Ta->Option Value}{base:Heap}{f:Gc}{cdv:Value}{A:TL}{outer:List LL}{s:Gj}{Hi:Hp}{E:XK}
theorem Qtn{W:Gc}{dN dZ:Tt}(B:Blt mg)(hr:Z9 2 (XL P w K mg base f cdv A outer s Hi E).A)
  (GN:Qr P w K mg base Z3 2 fN dN ["_law_told","_law_one","_law_other"] Qlk)(kN:KI K fN)(bN:Binds K dN ["_law_told","_law_one","_law_other"] [])(mN:MG mg "_law_kind" fN)
  (GZ:Qr P w K mg base Z3 2 W dZ ["_law_told","_law_deed"] Qcs)(kZ:KI K W)(bZ:Binds K dZ ["_law_told","_law_deed"] [])(mZ:MG mg "_law_barred" W):
  ∃t,PS (XL P w K mg base f cdv A outer s Hi E) Q2c t/\∀(l e:Gc)(tv:List V)(tl:Tl)(d:Dd)(H0:Hp)(X Y Z x3 x4 x5 x6 x8:Option V)
  (m:H0 l=Ga (.lst tv))(g:Uj H0 tv tl)(hd:Qbh H0 (.ref e) d)(J:d.good)(I:Tlg tl)(ln:tl.length<=10),
  Tr t (λσ H=>H=H0/\σ=[X,Y,Z,x3,x4,x5,x6,Ga (.ref l),x8,Ga (.ref e),Ga (.str "no moment")])
   (λσ H=>∃O M,σ=[X,Y,Z,x3,x4,x5,x6,Ga (.ref O),x8,Ga (.ref e),Ga (Vf tl d).2]/\Ig l H0 H/\(O=l\/H0 O=Gg)/\H O=Ga (.lst M)/\Uj H M (Vf tl d).1):=by
 have nd:=Qm0.nd;refine⟨_,(Zn (Qp Wi (Qn Q5 (pv 9) Qj) Zf (Q3 _))
  (Qh (Qs 10 nd (Zy GN hr rfl mN kN bN .nil Q4 (Qa (pv 7) (Qa (Qn Q5 (pv 9) Qj) (Qa (Qn Q5 (pv 9) Qj) Qe)))))) (Qh (Zn (PW.pt (Vh (Qp Wi (Qn Q5 (pv 9) Qj) Zf (Q3 _)) (Wj (Qrl Ql7 Ql7 Qj (Qn Q5 (pv 9) Qj) (Qo Yz rfl B.len GO (Qa (pv 7) Qe))))))
  (Qd (Qs 10 nd (Zo Qc6 (Qo Yz rfl B.len GO (Qa (pv 7) Qe)) (Qn Q5 (pv 9) Qj)))
  (Qh (Qs 7 nd (Ys Vq (pv 7) Xt (Yt (Qn Q5 (pv 9) Qj)))))) (Qh (Zn (PW.pt (Vh (Qp J1 (Qn Q5 (pv 9) Qj) Zf (Q3 _)) (Wj (Xu (Zy GZ hr rfl mZ kZ bZ .nil Q4 (Qa (pv 7) (Qa (pv 9) Qe)))))))
  (Qh (Qs 10 nd Zf)) (Qh (Zn (Qp J1 (Qn Q5 (pv 9) Qj) Zf (Q3 _))
  (Qd (Ze (Xq Gs GF GV Z0 (pv 7) (Qa (pv 9) Qe)))
  (Qh (Qs 10 nd (Qo Yz rfl B.len GO (Qa (pv 7) Qe))))) Q6))))))),?_⟩
 intro l e tv tl d H0 X Y Z x3 x4 x5 x6 x8 m g hd J I ln;rintro D σ H ⟨rfl,rfl⟩ q;have r:tv.length=tl.length:=Gr g;have sz:=Qpv I;have L:∀p∈tl,(p.2.1.ok=Gf/\p.2.1.depth<=8)/\p.2.2.ok=Gf/\p.2.2.depth<=8:=λp N=>⟨⟨(I p N).1.1,(I p N).1.2.1⟩,(I p N).2.1,(I p N).2.2.1⟩;cases d with
 |tell b x y=>
  obtain⟨a',T,U,ea,h,Q,R⟩:=hd;cases ea;have C:=J.1;have G:=J.2;have zx:=C.2.2;have zy:=G.2.2;refine⟨_,Xb,e,_,_,_,Xb,Xb,Z2.of h,Qy (j:=0) rfl,Xb,_,Xb,?_⟩;rw[Yf,Qxd];refine Zp ?_;refine⟨_,Xb,e,_,_,_,Xb,Xb,Z2.of h,Qy (j:=0) rfl,Xb,_,Xb,?_⟩;rw[Yf,Qg7];refine Zp (Zp ?_);refine⟨_,Xb,e,_,_,_,Xb,Xb,Z2.of h,Qy (j:=0) rfl,Xb,_,Xb,?_⟩;rw[Yf,Qg7];refine Yr ?_;refine⟨_,Xb,_,Xb,l,e,tv,tl,T,U,b,x,y,Xb,m,g,h,Q,R,⟨C.1,C.2.1⟩,⟨G.1,G.2.1⟩,L,by omega,λrr H1 s1 hb=>⟨rr,Xb,?_⟩⟩;cases rr with
  |true=>
   refine Yr ?_;have a:Vf tl (.tell b x y)=(tl,.str "clash"):=by simp only[Vf];rw[Gm (hb.mp Xb)]
   rw[a]at q;exact q _ _ ⟨l,tv,Xb,Ig.of s1,.inl Xb,s1 _ _ m,g.Ql (Qt.of s1)⟩
  |false=>
   refine Zp ?_;have nb:¬Ro (tl++[(b,x,y)]):=λz=>Gw (hb.mpr z);have a:Vf tl (.tell b x y)=(tl++[(b,x,y)],.int ((tl.length:Int)+1)):=by simp only[Vf];rw[Gh nb]
   rw[a]at q;refine⟨_,Xb,e,_,_,_,Xb,Xb,Z2.of (s1 _ _ h),Qy (j:=0) rfl,Xb,_,Xb,?_⟩;rw[Yf,Qg7];refine Yr ?_;refine⟨_,Xb,.inl ⟨Xb,_,Zc.of (s1 _ _ m)⟩,_,Xb,l,tv,_,Xb,Xb,s1 _ _ m,by rw[GQ];omega,?_⟩;have S:Qt H (upd H1 l (.lst (tv++[.ref e]))):=(Qt.of s1).trans (Zs λxs z=>by rw[s1 _ _ m]at z;cases z);refine⟨_,Xb,_,_,Xb,.inl ⟨_,Zc.of Qb,Xb⟩,?_⟩;have el:(((tv++[V.ref e]).length:Nat):Int)=(tl.length:Int)+1:=by rw[List.length_append,List.length_singleton,r];omega
   rw[el];exact q _ _ ⟨l,tv++[.ref e],Xb,λc o h1 h2=>by rw[Qf h2];exact s1 _ _ h1,.inl Xb,Qb,Yq (g.Ql S) (.cons ⟨e,T,U,Xb,S _ _ h,Q.Ql S,R.Ql S⟩ .nil)⟩
 |ask x y=>
  obtain⟨a',T,U,ea,h,Q,R⟩:=hd;cases ea;have C:=J.1;have G:=J.2;have zx:=C.2.2;have zy:=G.2.2;refine⟨_,Xb,e,_,_,_,Xb,Xb,Z2.of h,Qy (j:=0) rfl,Xb,_,Xb,?_⟩;rw[Yf,Qt1];refine Yr ?_;refine⟨_,Xb,_,Xb,e,_,_,_,Xb,Xb,Z2.of h,Qy (j:=1) rfl,_,Xb,e,_,_,_,Xb,Xb,Z2.of h,Qy (j:=2) rfl,l,tv,tl,T,U,x,y,Xb,m,g,Q,R,⟨C.1,C.2.1⟩,⟨G.1,G.2.1⟩,L,by omega,λk H1 s1 hk=>?_⟩;have a:Vf tl (.ask x y)=(tl,.str k):=by simp only[Vf];rw[hk.eq]
  rw[a]at q;exact q _ _ ⟨l,tv,Xb,Ig.of s1,.inl Xb,s1 _ _ m,g.Ql (Qt.of s1)⟩
 |back i=>
  obtain⟨a',ea,h⟩:=hd;cases ea;refine⟨_,Xb,e,_,_,_,Xb,Xb,Z2.of h,Qy (j:=0) rfl,Xb,_,Xb,?_⟩;rw[Yf,Qpy];refine Zp ?_;refine⟨_,Xb,e,_,_,_,Xb,Xb,Z2.of h,Qy (j:=0) rfl,Xb,_,Xb,?_⟩;rw[Yf,Ui];refine Yr ?_;refine⟨_,Xb,e,_,_,_,Xb,Xb,Z2.of h,Qy (j:=1) rfl,_,_,Xb,Xb,_,Xb,?_⟩;refine Va (λu=>?_) (λu=>?_)
  ·have u:0<=i:=TJ u;refine⟨_,Xb,_,_,Xb,.inl ⟨_,Zc.of m,Xb⟩,_,_,Xb,Xb,_,Xb,?_⟩;refine Va (λv=>?_) (λv=>?_)
   ·have v:i<=(tv.length:Int):=TJ v;have a:Vf tl (.back i)=(tl.take i.toNat,.int ((tl.length:Int) - i)):=by simp only[Vf];rw[Gm ⟨u,by rw[<-r];exact v⟩]
    rw[a]at q;refine⟨_,Xb,_,_,Xb,.inl ⟨_,Zc.of m,Xb⟩,_,Xb,e,_,_,_,Xb,Xb,Z2.of h,Qy (j:=1) rfl,_,_,Xb,Xb,?_⟩;refine⟨_,Xb,_,Xb,e,_,_,_,Xb,Xb,Z2.of h,Qy (j:=1) rfl,_,Xb,l,_,Xb,Zc.of m,λn hn=>?_⟩;rw[Qjd tv i u,r];have s1:=Qg hn (.lst (tv.take i.toNat));exact q _ _ ⟨n,_,Xb,Ig.of s1,.inr hn,Qb,Qo2 _ (g.Ql (Qt.of s1))⟩
   ·have v:¬i<=(tv.length:Int):=λz=>v (GX z);have a:Vf tl (.back i)=(tl,.str "no moment"):=by simp only[Vf];rw[Gh (λz=>v (by rw[r];exact z.2))]
    rw[a]at q;refine⟨_,Xb,e,_,_,_,Xb,Xb,Z2.of h,Qy (j:=0) rfl,Xb,_,Xb,?_⟩;rw[Yf,Ui];refine Zp (Zp ?_);refine⟨_,Xb,e,_,_,_,Xb,Xb,Z2.of h,Qy (j:=0) rfl,Xb,_,Xb,?_⟩;rw[Yf,Ui];refine Zp ?_;exact q _ _ ⟨l,tv,Xb,Ig.refl,.inl Xb,m,g⟩
  ·have u:¬0<=i:=λz=>u (GX z);have a:Vf tl (.back i)=(tl,.str "no moment"):=by simp only[Vf];rw[Gh (λz=>u z.1)]
   rw[a]at q;refine⟨Gq,Xb,Zp ?_⟩;refine⟨_,Xb,e,_,_,_,Xb,Xb,Z2.of h,Qy (j:=0) rfl,Xb,_,Xb,?_⟩;rw[Yf,Ui];refine Zp (Zp ?_);refine⟨_,Xb,e,_,_,_,Xb,Xb,Z2.of h,Qy (j:=0) rfl,Xb,_,Xb,?_⟩;rw[Yf,Ui];refine Zp ?_;exact q _ _ ⟨l,tv,Xb,Ig.refl,.inl Xb,m,g⟩
end
theorem Qon(tl:Tl)(x y:Th):TU (kindOf tl x y)=Gf:=by
 unfold kindOf;split
 ·decide+kernel
 ·split<;>decide+kernel
theorem Qom(tl:Tl)(d:Dd):(∃x,(Vf tl d).2=.str x/\TU x=Gf)\/∃i,(Vf tl d).2=.int i:=by
 cases d with
 |ask x y=>exact .inl ⟨_,Xb,Qon tl x y⟩
 |back i=>
  simp only[Vf];split
  ·exact .inr ⟨_,Xb⟩
  ·exact .inl ⟨_,Xb,by decide+kernel⟩
 |tell b x y=>
  simp only[Vf];split
  ·exact .inl ⟨_,Xb,by decide+kernel⟩
  ·exact .inr ⟨_,Xb⟩
theorem Qvi(h:(∃x,v=.str x/\TU x=Gf)\/∃i,v=.int i):∃d:TH,(∀H,Dt H v d)/\d.canLay0=Gf/\Wt d<=1000000/\d.depth<=60:=by
 rcases h with⟨x,rfl,a⟩|⟨i,rfl⟩
 ·exact⟨.str x,λ_=>.str x,by simp[Tp,a],by simp[Wt],by simp[Dg]⟩
 ·exact⟨.int i,λ_=>.int i,by simp[Tp],by simp[Wt],by simp[Dg]⟩
theorem Qs1(h:(∃x,v=.str x/\TU x=Gf)\/∃i,v=.int i):∃t,Iu K H v t/\Te K t (.type "tuple")=Ga Gq:=by
 rcases h with⟨x,rfl,a⟩|⟨i,rfl⟩
 ·exact⟨_,.str x,Qpq⟩
 ·exact⟨_,.int i,Qs5⟩
section
variable{P:Gk}{w:Gv}{K:Gd}{mg:Ta->Option Value}{base:Heap}
theorem Qxe{M nW nT:Nat}{fD fE fS fZ fT:Gc}{dD dE dR dW dS dN dZ dT:Tt}{pW pT:Ta}(F:Wu K "law" "law" Qgj f0 fd)(B:Blt mg)(hM:2<=M)(hW:nW<=M)(hT:nT<=M)
  (GD:Qr P w K mg base Z3 2 fD dD ["_law_cells"] (Qmy K))(kD:KI K fD)(bD:Binds K dD ["_law_cells"] [])(mD:MG mg "_law_drawn_things" fD)
  (GE:Qr P w K mg base Z3 2 fE dE ["_law_cells","_law_things"] (Qmi K))(kE:KI K fE)(bE:Binds K dE ["_law_cells","_law_things"] [])(mE:MG mg "_law_drawn_deeds" fE)
  (GR:Qr P w K mg base Z3 1 fR dR ["_law_script","_law_most","_law_bound"] (Qp7 K))(kR:KI K fR)(bR:Binds K dR ["_law_script","_law_most","_law_bound"] [])(mR:MG mg "_law_room" fR)
  (GS:Qr P w K mg base Z3 1 fS dS ["_law_found","_law_due"] Qzk)(kS:KI K fS)(bS:Binds K dS ["_law_found","_law_due"] [])(mS:MG mg "_law_so" fS)
  (GN:Qr P w K mg base Z3 2 fN dN ["_law_told","_law_one","_law_other"] Qlk)(kN:KI K fN)(bN:Binds K dN ["_law_told","_law_one","_law_other"] [])(mN:MG mg "_law_kind" fN)
  (GZ:Qr P w K mg base Z3 2 fZ dZ ["_law_told","_law_deed"] Qcs)(kZ:KI K fZ)(bZ:Binds K dZ ["_law_told","_law_deed"] [])(mZ:MG mg "_law_barred" fZ)
  (GW:Qr P w K mg base Z3 nW fW dW [pW] O7)(kW:KI K fW)(bW:Binds K dW [pW] [])(mW:MG mg "answers" fW)
  (GT:Qr P w K mg base Z3 nT fT dT [pT] Qjz)(kT:KI K fT)(bT:Binds K dT [pT] [])(mT:MG mg "told_after" fT):
  Qr P w K mg base Z3 (M+1) f0 fd ["_law_script"] (Ql4 K):=by
 refine F.ok Qm0 (λvs H Q E h=>?_) (λcdv A outer s H vs Q E hr h=>?_)
 ·obtain⟨a,ns,rfl,_⟩:=h;rfl
 obtain⟨a,ns,rfl,hS,ap,q⟩:=h;have nd:=Qm0.nd;have hu:=hr.units;have ah:Z9 2 _:=hr.mono hM;have L:Z9 1 _:=hr.mono (by omega);have aP:Z9 nW _:=hr.mono hW;have aO:Z9 nT _:=hr.mono hT;obtain⟨tM,aV,aX⟩:=Qqt (P:=P) (w:=w) (K:=K) (mg:=mg) (base:=base) (f:=f0) (cdv:=cdv) (A:=A) (outer:=outer) (s:=s) (Hi:=H) (E:=E) B;obtain⟨tD,aU,aW⟩:=Qtn (P:=P) (w:=w) (K:=K) (mg:=mg) (base:=base) (f:=f0) (cdv:=cdv) (A:=A) (outer:=outer) (s:=s) (Hi:=H) (E:=E) B ah GN kN bN mN GZ kZ bZ mZ;refine⟨_,(Qd (Qs 1 nd (Zy GD ah rfl mD kD bD .nil Q4 (Qa (Zo Uc (Ys Vq (pv 0) (Yt Qj) (Yt Qj)) (Ys Vq (pv 0) (Yt Qj) (Yt Qj))) Qe)))
  (Qd (Qs 2 nd (Zy GE ah rfl mE kE bE .nil Q4 (Qa (Ys Vq (pv 0) (Yt Qj) (Yt (Zo Qav Qj (Zy GR L rfl mR kR bR .nil Q4 (Qa (pv 0) (Qa Qj (Qa Qj Qe))))))) (Qa (pv 1) Qe))))
  (Qd aV
  (Qd (Qs 5 nd (Xn Vn rfl B.list TD (Qa (pv 2) Qe)))
  (Qd (Qs 6 nd (Zy GW aP rfl mW kW bW .nil Q4 (Qa (pv 5) Qe)))
  (Qd (Zn (PW.pt (R5 (I9 (Xu (Qo Xk rfl B.isinstance Tb (Qa (pv 6) (Qa (Xr (v:=.ty "list") rfl B.list TD Xb) Qe))))) (R5 (Qp J1 (Qo Yz rfl B.len GO (Qa (pv 6) Qe)) (Qo Yz rfl B.len GO (Qa (pv 2) Qe)) (Q3 _)) (Rh (I9 (Xu (Zy GS L rfl mS kS bS .nil Q4 (Qa (pv 5) (Qa (pv 2) Qe)))))))))
  (Qh (Qu Vd)) Q6)
  (Qd (Qs 7 nd (Zt Qe))
  (Qd (Ye Gy rfl (Uv rfl B.range (Qa (Qo Yz rfl B.len GO (Qa (pv 2) Qe)) Qe)) (Ya 8 nd)
  (Qd (Qs 9 nd (Qn Zi (pv 2) (pv 8)))
  (Qd (Qs 10 nd Zf)
  (Qd aU
  (Qd (Qs 3 nd (Qn Zi (pv 6) (pv 8)))
  (Qd (Zn (PW.pt (Vh (Xu (Qo Xk rfl B.isinstance Tb (Qa (pv 3) (Qa (Xr (v:=.ty "tuple") rfl B.tuple TX Xb) Qe)))) (Wj (Qp Qca (Qo Yz rfl B.len GO (Qa (pv 3) Qe)) Qj (Q3 _)))))
  (Qh (Qs 3 nd (Qn Q5 (pv 3) Qj))) Q6)
  (Qh (Zn (I9 (Xu (Zy GS L rfl mS kS bS .nil Q4 (Qa (pv 3) (Qa (pv 10) Qe)))))
  (Qh (Qu Vd)) Q6))))))))
  (Qh (Qu (Zy GS L rfl mS kS bS .nil Q4 (Qa (Zy GT aO rfl mT kT bT .nil Q4 (Qa (Xn Vn rfl B.list TD (Qa (pv 2) Qe)) Qe)) (Qa (pv 7) Qe))))))))))))),?_⟩
 obtain⟨t,X,aY,_⟩:=Qf8 ns 1 5;obtain⟨a1,Y,_,al⟩:=Qf8 ns 64 70;obtain⟨aj,Z,aZ,_⟩:=Qf8 ns 5 11;have al:=al (by omega);subst al;have X:Uw (ns.map V.int) (Ga 1) (Ga 5)=t.map V.int:=X;have Y:Uw (ns.map V.int) (Ga 64) (Ga 70)=[]:=Y;have Z:Uw (ns.map V.int) (Ga 5) (Ga (5+6))=aj.map V.int:=Z;refine⟨_,Xb,_,Xb,_,Xb,a,_,Xb,hS,λp1 aK=>?_⟩;rw[X];have s1:=Qg aK (.lst (t.map V.int));refine⟨_,Xb,_,Xb,_,Xb,a,_,Xb,s1.seq hS,λp2 aL=>?_⟩;rw[Y];have s2:=Qg aL (.lst []);refine⟨p1,p2,_,_,Xb,Xb,s2 _ _ Qb,Qb,small (by rw[List.length_map];show _+0<=_;omega),λp3 aM=>?_⟩;rw[List.append_nil];have s3:=Qg aM (.lst (t.map V.int));refine⟨p3,t,Xb,Zc.of Qb,by omega,λr us ts H1 g1 _ gl ga D=>?_⟩;have sA:=((s1.trans s2).trans s3).trans g1;have a0:=D.len;refine⟨_,Xb,_,Xb,_,Xb,a,ns,_,_,Xb,sA.seq hS,ap,_,_,Xb,Xb,_,Xb,a,_,Xb,sA.seq hS,λp4 aN=>?_⟩;rw[Z];have s4:=Qg aN (.lst (aj.map V.int));refine⟨_,Xb,p4,r,aj,us,ts,Xb,Zc.of Qb,by omega,s4 _ _ gl,ga.same s4,by omega,by omega,λq0 es dl H2 g2 _ W T ld am=>?_⟩;have sB:=(sA.trans s4).trans g2;refine aX a r q0 ns us es ts dl t.length H2 (sB.seq hS) (g2 _ _ (s4 _ _ gl)) ((ga.same s4).same g2) D (by omega) W T am (by omega) _ _ _ ⟨Xb,Xb⟩ ?_;clear T ld am W;rintro a3 H3 ⟨qd,es,dl,x3,x4,rfl,g3,W,T,⟨U,hU,g⟩,ld⟩;have good:∀d∈dl,d.good:=λd hd=>hU.Q1g (g d hd);have aq:es.length=dl.length:=Gr T;refine⟨_,Xb,qd,es,Xb,.inl (Zc.of W),λhh aJ=>?_⟩;have s5:=Qg aJ (.lst es);refine⟨_,Xb,hh,es,dl,U,Xb,Qb,T.same s5,hU,g,by omega,λaa rs H4 g4 gf gr=>?_⟩;have aS:rs.length=dl.length:=by rw[show rs.length=(R0 [] dl).length from Gr gr,Qar]
 have s6:=s5.trans g4;obtain⟨y1,y2,y3⟩:=Qih (ds:=dl.map ddD) (λd hd=>by obtain⟨e,he,rfl⟩:=List.mem_map.mp hd;exact Qti (good e he)) (by rw[List.length_map];omega)
 refine⟨_,Xb,_,_,_,Gf,Xb,.lst gf,Qrr,Gf,Xb,?_⟩;refine Zp ?_;refine⟨_,Xb,_,_,Xb,.inl ⟨_,Zc.of gf,Xb⟩,_,Xb,_,_,Xb,.inl ⟨_,Zc.of (s6 _ _ W),Xb⟩,Xb,_,Xb,?_⟩;rw[Vp];have aA:(((rs.length:Nat):Int)==((es.length:Nat):Int))=Gf:=by rw[aS,aq];simp
 rw[aA];refine Zp ?_;refine⟨_,Xb,_,Xb,_,_,.list (dl.map ddD),Xb,.lst (g4 _ _ Qb) ((T.same s5).same g4).dts,.lst (s6 _ _ W) (T.same s6).dts,y1,y2,y3,λH5 g5=>⟨Gf,Xb,Zp ?_⟩⟩;refine⟨Gx _,λC J=>?_⟩;have s7:=Qg J (.lst []);have aw:=(s6.trans g5).trans s7;have ax:=g5.trans s7;generalize aG:upd H5 C (.lst [])=R at*;have O:R C=Ga (.lst []):=by rw[<-aG];exact Qb
 have ac:=aw _ _ W;have an:=T.same aw;have aD:=ax _ _ gf;have aE:Paired (Qcd R) rs (R0 [] dl):=L2.Paired.Z7 gr λv h hh=>by
  rcases hh with z|⟨a,xs,z1,z2⟩
  ·exact .inl z
  ·exact .inr ⟨a,xs,z1,ax _ _ z2⟩
 have nq:H5 C=Gg:=J;have ar:qd≠C:=Qc ((s6.trans g5) _ _ W) J;have aT:aa≠C:=Qc (g5 _ _ gf) J;refine⟨_,Xb,_,_,Xb,.inl ⟨_,Zc.of ac,Xb⟩,_,Xb,by omega,by omega,Uz (lo:=0) (n:=((es.length:Int)).toNat) (λk σ S=>∃(l:Gc)(tv:List V)(x3 x8 x9 ak:Option V),σ=[Ga (.ref a),Ga (.ref r),Ga (.ref qd),x3,x4,Ga (.ref hh),Ga (.ref aa),Ga (.ref l),x8,x9,ak]/\(∀c o,R c=Ga o->c≠C->S c=Ga o)/\(∀c o,R c=Ga o->c≠C->c≠l)/\S l=Ga (.lst tv)/\Uj S tv (after [] (dl.take k)))
  ⟨C,[],_,_,_,_,Xb,λc o e _=>e,λc o _ h=>h,O,by simp[after];exact .nil⟩ ?_ ?_⟩
 ·rintro k σ S hk ⟨l,tv,x3,x8,x9,ak,rfl,kp,nl,ab,G⟩;have hk:k<dl.length:=by omega
  have tu:Qt R S:=λc xs e=>kp c _ e (λz=>by rw[z,O]at e;cases e);obtain⟨x,ex⟩:∃x,es[k]?=Ga x:=⟨_,List.getElem?_eq_getElem (by omega)⟩;obtain⟨d,ed,aH⟩:=Qx an ex;have I:=aH.Ql tu;obtain⟨e,rfl⟩:∃e,x=V.ref e:=by
   cases d with
   |tell b x y=>obtain⟨a,_,_,h,_⟩:=I;exact⟨a,h⟩
   |ask x y=>obtain⟨a,_,_,h,_⟩:=I;exact⟨a,h⟩
   |back i=>obtain⟨a,h,_⟩:=I;exact⟨a,h⟩
  have aC:=good d (List.mem_of_getElem? ed);have af:Tlg (after [] (dl.take k)):=Rp (λp hp=>nomatch hp) λd hd=>good d (List.mem_of_mem_take hd);have ai:(after [] (dl.take k)).length<=10:=by have:=Ij (ds:=dl.take k) (tl:=[]);rw[List.length_take]at this;simp at this;omega
  have ad:=kp _ _ ac ar;refine⟨_,Xb,_,Xb,qd,es,_,_,Xb,Xb,Zc.of ad,(by rw[EA];exact Qy ex),?_⟩;refine aW l e tv (after [] (dl.take k)) d S _ _ _ _ _ _ _ _ ab G I aC af ai _ _ _ ⟨Xb,Xb⟩ ?_;rintro a4 H8 ⟨l',ay,rfl,bt,ll,ao,ae⟩;have N:∀c o,R c=Ga o->c≠C->H8 c=Ga o:=λc o e h=>bt c o (kp c o e h) (nl c o e h);have au:∀c o,R c=Ga o->c≠C->c≠l':=λc o e h=>by
   rcases ll with z|z
   ·rw[z];exact nl c o e h
   ·intro y;rw[<-y,kp c o e h]at z;cases z
  rw[<-Rf ed]at ae;obtain⟨v,ev⟩:∃v,rs[k]?=Ga v:=⟨_,List.getElem?_eq_getElem (by omega)⟩;obtain⟨hv,eh,aI⟩:=Qx aE ev;rw[O3 ed]at eh;cases eh;have sc:=Qom (after [] (dl.take k)) d;obtain⟨dd,dt,d1,d2,d3⟩:=Qvi sc;refine⟨_,Xb,_,Xb,aa,rs,_,_,Xb,Xb,Zc.of (N _ _ aD aT),(by rw[EA];exact Qy ev),?_⟩;rcases aI with rfl|⟨av,xv,rfl,ag⟩
  ·obtain⟨ty,aQ,aR⟩:=Qs1 (K:=K) (H:=H8) sc;refine⟨_,Xb,_,_,_,Gq,Xb,aQ,aR,Gq,Xb,Zp (Zp ?_)⟩;refine⟨_,Xb,_,Xb,_,_,dd,Xb,dt _,dt _,d1,d2,d3,λH9 u=>⟨Gf,Xb,Zp ?_⟩⟩;exact⟨l',ay,_,_,_,_,Xb,λc o e h=>u _ _ (N c o e h),au,u _ _ ao,ae.Ql (Qt.of u)⟩
  ·have m:=N _ _ ag (λz=>by rw[z,O]at ag;cases ag);refine⟨_,Xb,_,_,_,Gf,Xb,.tup m,Qqw,Gf,Xb,Yr ?_⟩;refine⟨_,Xb,_,_,Xb,.inr ⟨_,Z2.of m,Xb⟩,_,_,Xb,Xb,_,Xb,?_⟩;rw[GX (show(0:Int)<(((Vf (after [] (dl.take k)) d).2::xv).length:Int) by rw[List.length_cons];omega)];refine Yr ?_;refine⟨_,Xb,av,_,_,_,Xb,Xb,Z2.of m,Qy (j:=0) rfl,?_⟩;refine⟨_,Xb,_,Xb,_,_,dd,Xb,dt _,dt _,d1,d2,d3,λH9 u=>⟨Gf,Xb,Zp ?_⟩⟩;exact⟨l',ay,_,_,_,_,Xb,λc o e h=>u _ _ (N c o e h),au,u _ _ ao,ae.Ql (Qt.of u)⟩
 ·rintro σ S ⟨l,tv,x3,x8,x9,ak,rfl,kp,nl,ab,G⟩;have e7:dl.take (((es.length:Int)).toNat)=dl:=by rw[Dm,aq,List.take_length]
  rw[e7]at G;have tu:Qt R S:=λc xs e=>kp c _ e (λz=>by rw[z,O]at e;cases e);have ad:=kp _ _ ac ar;have af:Tlg (after [] dl):=Rp (λp hp=>nomatch hp) good;have ai:=Ij (ds:=dl) (tl:=[]);obtain⟨z1,z2,z3⟩:=Qih (ds:=(after [] dl).map tlD) (Quk af) (by rw[List.length_map];simp at ai;omega);refine⟨_,Xb,qd,es,Xb,.inl (Zc.of ad),λn hn=>?_⟩;have s8:=Qg hn (.lst es);refine⟨n,es,dl,U,Xb,Qb,(an.Ql tu).same s8,hU,g,by omega,λrt a2 H9 u aF aB=>?_⟩;refine⟨_,Xb,_,_,.list ((after [] dl).map tlD),Xb,.lst aF aB.dts,.lst (u _ _ (s8 _ _ ab)) ((G.Ql (Qt.of s8)).Ql (Qt.of u)).dts,z1,z2,z3,λaz _=>q az⟩
end
end K05
namespace Sb
open PySem L2
def Y1(K:Gd)(x q:Ta)(st:T6)(f:Gc):Prop:=∃oc od an sl kV b pm a ct,K.lookup f=Ga ⟨oc,od,.func (Eg x q (Iq st) (Vo st) (Qk st) .none kV b pm an a ct),sl⟩/\Sh K a q=Gf/\T9 K (.ref f)=Gf
abbrev NsF(K:Gd)(x:Ta)(f:Gc):Prop:=EM K T4 x=Ga (Ga (.ref f))
abbrev FiF(K:Gd)(c:Gc)(x:Ta)(f:Gc):Prop:=GJ K (.ref c) x=Ga (Ga (.ref f))
abbrev NsN(K:Gd)(x:Ta):Prop:=EM K T4 x=Ga Gg
end Sb
namespace K05
open PySem L2 Sb
section
variable{K:Gd}
theorem Qxy{l:SY}{w:Gv}{h:Heap}{mg:Ta->Option Value}{fa CP A c m i f0 f1 f2 f3 f4 f5 f6 f7 f8 f9 ae af ag ah ai aj ak al am ao cn co cp ap aq ar au cq av aw ax ay az aA cr cs cu cv cw cx cy cz cA cC cD cE cF:Gc}(X:K.In h)(G:h.Ns T4 mg)(fr:mg "law"=Ga (.ref fa)){fY dk dm dl:Bc}
  (aP:NsF K "Places" CP)(pP:Dq K CP Em=Gf)(dP:Dw K CP=Gf)(oP:DJ K CP=Gf)(sP:GJ K (.ref CP) "__setattr__"=Ga (Ga (.builtin "object.__setattr__")))(mP:DW K CP=Gf)(cP:T9 K (.ref CP)=Gf)
  (H:GJ K (.ref CP) "things"=Ga Gg)(V:GJ K (.ref CP) "forms"=Ga Gg)(Y:GJ K (.ref CP) "known"=Ga Gg)(aW:NsF K "Walk" A)(pW:Dq K A Em=Gf)(dW:Dw K A=Gf)(oW:DJ K A=Gf)
  (sW:GJ K (.ref A) "__setattr__"=Ga (Ga (.builtin "object.__setattr__")))(mW:DW K A=Gf)(cW:T9 K (.ref A)=Gf)(J:GJ K (.ref A) "places"=Ga Gg)(aa:GJ K (.ref A) "steps"=Ga Gg)(aN:NsF K "Net" c)
  (pN:Dq K c Em=Gf)(dN:Dw K c=Gf)(oN:DJ K c=Gf)(sN:GJ K (.ref c) "__setattr__"=Ga (Ga (.builtin "object.__setattr__")))(mN:DW K c=Gf)(cN:T9 K (.ref c)=Gf)(Q:GJ K (.ref c) "forms"=Ga Gg)
  (R:GJ K (.ref c) "leads"=Ga Gg)(u:GJ K (.ref c) "members"=Ga Gg)(U:GJ K (.ref c) "users"=Ga Gg)(T:GJ K (.ref c) "table"=Ga Gg)(S:GJ K (.ref c) "links"=Ga Gg)(F:GJ K (.ref c) "link_at"=Ga Gg)
  (O:GJ K (.ref c) "above"=Ga Gg)(aS:NsF K "Showing" m)(pS:Dq K m Em=Gf)(dS:Dw K m=Gf)(oS:DJ K m=Gf)(sS:GJ K (.ref m) "__setattr__"=Ga (Ga (.builtin "object.__setattr__")))(mS:DW K m=Gf)
  (cS:T9 K (.ref m)=Gf)(I:GJ K (.ref m) "things"=Ga Gg)(aZ:GJ K (.ref m) "net"=Ga Gg)(Z:GJ K (.ref m) "lines"=Ga Gg)(z:GJ K (.ref m) "numbers"=Ga Gg)(aB:NsF K "Book" i)(pB:Dq K i Em=Gf)
  (dB:Dw K i=Gf)(oB:DJ K i=Gf)(sB:GJ K (.ref i) "__setattr__"=Ga (Ga (.builtin "object.__setattr__")))(mB:DW K i=Gf)(cB:T9 K (.ref i)=Gf)(E:GJ K (.ref i) "places"=Ga Gg)(aD:GJ K (.ref i) "told"=Ga Gg)
  (t:GJ K (.ref i) "entries"=Ga Gg)(ck:EM K T4 "FEW_PARTS"=Ga (Ga (.int 4 dk)))(cm:EM K T4 "WALKS_ANEW"=Ga (Ga (.int 1024 dm)))(cl:EM K T4 "STEPS_ANEW"=Ga (Ga (.int 40000 dl)))(eq:EM K T4 "NO_MOMENT"=Ga (Ga (.str "no moment" fY)))
  (a0:NsF K "top_words" f0)(h0:Y1 K "top_words" "top_words" Qpj f0)(a1:FiF K CP "__init__" f1)(i1:Ti K (.ref f1)=Gf)(h1:Y1 K "__init__" "Places.__init__" Qbx f1)(a2:FiF K CP "place_of" f2)(i2:Ti K (.ref f2)=Gf)
  (h2:Y1 K "place_of" "Places.place_of" Oq f2)(a3:FiF K A "__init__" f3)(i3:Ti K (.ref f3)=Gf)(h3:Y1 K "__init__" "Walk.__init__" Qbt f3)(a4:NsF K "place_among" f4)(h4:Y1 K "place_among" "place_among" Qgd f4)
  (a5:NsF K "share_of" f5)(h5:Y1 K "share_of" "share_of" Qg0 f5)(a6:FiF K A "place_within" f6)(i6:Ti K (.ref f6)=Gf)(h6:Y1 K "place_within" "Walk.place_within" U2 f6)(a7:FiF K CP "place_by_form" f7)
  (i7:Ti K (.ref f7)=Gf)(h7:Y1 K "place_by_form" "Places.place_by_form" Qbw f7)(a8:NsF K "net_of" f8)(h8:Y1 K "net_of" "net_of" Qga f8)(a9:FiF K c "__init__" f9)(i9:Ti K (.ref f9)=Gf)(h9:Y1 K "__init__" "Net.__init__" Ol f9)
  (dQ:FiF K c "take_in" ae)(fs:Ti K (.ref ae)=Gf)(eO:Y1 K "take_in" "Net.take_in" Rz ae)(dR:FiF K c "key_of" af)(ft:Ti K (.ref af)=Gf)(eP:Y1 K "key_of" "Net.key_of" Ru af)(dT:FiF K c "equal" ag)
  (fu:Ti K (.ref ag)=Gf)(eQ:Y1 K "equal" "Net.equal" Qgm ag)(dU:FiF K c "merge" ah)(fv:Ti K (.ref ah)=Gf)(eR:Y1 K "merge" "Net.merge" Qgp ah)(dV:FiF K c "merge_link" ai)(fw:Ti K (.ref ai)=Gf)
  (eS:Y1 K "merge_link" "Net.merge_link" Jc ai)(dX:FiF K c "hang" aj)(fx:Ti K (.ref aj)=Gf)(eT:Y1 K "hang" "Net.hang" Qlu aj)(dY:FiF K c "give_over" ak)(fy:Ti K (.ref ak)=Gf)(eU:Y1 K "give_over" "Net.give_over" Ik ak)
  (dZ:FiF K c "way" al)(fz:Ti K (.ref al)=Gf)(eV:Y1 K "way" "Net.way" Quz al)(d0:FiF K c "way_up" am)(fA:Ti K (.ref am)=Gf)(eW:Y1 K "way_up" "Net.way_up" Qf3 am)(d1:FiF K c "rows" ao)(fB:Ti K (.ref ao)=Gf)
  (eX:Y1 K "rows" "Net.rows" Qiw ao)(d2:NsF K "lines_between" cn)(eY:Y1 K "lines_between" "lines_between" Qgb cn)(d3:NsF K "links_needed" co)(eZ:Y1 K "links_needed" "links_needed" Qb4 co)(bX:NsF K "pairs_below" cp)
  (e0:Y1 K "pairs_below" "pairs_below" Qfv cp)(d4:FiF K m "__init__" ap)(fC:Ti K (.ref ap)=Gf)(e1:Y1 K "__init__" "Showing.__init__" Qbp ap)(d5:FiF K m "write" aq)(fD:Ti K (.ref aq)=Gf)(e2:Y1 K "write" "Showing.write" Qgw aq)
  (d6:FiF K m "write_link" ar)(fE:Ti K (.ref ar)=Gf)(e3:Y1 K "write_link" "Showing.write_link" Vt ar)(d7:FiF K m "line_for" au)(fF:Ti K (.ref au)=Gf)(e4:Y1 K "line_for" "Showing.line_for" Jy au)
  (d8:NsF K "answers" cq)(e5:Y1 K "answers" "answers" Jp cq)(d9:FiF K i "__init__" av)(fG:Ti K (.ref av)=Gf)(e6:Y1 K "__init__" "Book.__init__" Qb3 av)(ea:FiF K i "answer" aw)(fH:Ti K (.ref aw)=Gf)
  (e7:Y1 K "answer" "Book.answer" Qbu aw)(eb:FiF K i "go_back" ax)(fI:Ti K (.ref ax)=Gf)(e8:Y1 K "go_back" "Book.go_back" Qbr ax)(ec:FiF K i "tell" ay)(fJ:Ti K (.ref ay)=Gf)(e9:Y1 K "tell" "Book.tell" Qll ay)
  (ed:FiF K i "ask" az)(fK:Ti K (.ref az)=Gf)(fb:Y1 K "ask" "Book.ask" Qvn az)(ee:FiF K i "lines_for" aA)(fL:Ti K (.ref aA)=Gf)(fc:Y1 K "lines_for" "Book.lines_for" Im aA)(bY:NsF K "least_clash" cr)
  (fe:Y1 K "least_clash" "least_clash" Qfu cr)(ef:NsF K "book_after" cs)(ff:Y1 K "book_after" "book_after" Jd cs)(eg:NsF K "told_after" cu)(fg:Y1 K "told_after" "told_after" Jb cu)(eh:NsF K "_law_any_word" cv)
  (fh:Y1 K "_law_any_word" "_law_any_word" Qlo cv)(ei:NsF K "_law_so" cw)(fi:Y1 K "_law_so" "_law_so" sSo cw)(ej:NsF K "_law_drawn_things" cx)(fj:Y1 K "_law_drawn_things" "_law_drawn_things" Qgv cx)(ek:NsF K "_law_drawn_deeds" cy)(fk:Y1 K "_law_drawn_deeds" "_law_drawn_deeds" Qf7 cy)
  (el:NsF K "_law_room" cz)(fl:Y1 K "_law_room" "_law_room" Qmg cz)(em:NsF K "_law_any" cA)(fm:Y1 K "_law_any" "_law_any" Qvt cA)(bZ:NsF K "_law_classes" cC)(fn:Y1 K "_law_classes" "_law_classes" Wn cC)(en:NsF K "_law_kind" cD)
  (fo:Y1 K "_law_kind" "_law_kind" Qmx cD)(eo:NsF K "_law_barred" cE)(fp:Y1 K "_law_barred" "_law_barred" Qb2 cE)(ep:NsF K "law" cF)(fq:Y1 K "law" "law" Qgj cF)(ab:NsN K "len")(bc:NsN K "min")(ba:NsN K "abs")(D:NsN K "list")
  (q:NsN K "tuple")(bd:NsN K "str")(aE:NsN K "bool")(bb:NsN K "int")(j:NsN K "isinstance")(p:NsN K "range")(d:NsN K "reversed")(o:NsN K "enumerate")(be:NsN K "zip")(L:NsN K "sorted")
  :∃fd:Tt,(∀(s:Gj)(v:Value),LV s fd ⟨[v],[]⟩ [("_law_script",v)])/\∀base:Heap,K.In base->base.Ns T4 mg->Qr l.prog w K mg base Z3 67 fa fd ["_law_script"] (Ql4 K):=by
 have e:=fr.symm.trans (Ep X G ep);cases e;have g:=λ{x:Ta}{f:Gc}(e:NsF K x f)=>Ep X G e;have y:=λ{x:Ta}(e:NsN K x)=>NR X G e;have TP:Qee K mg CP:=⟨⟨pP,dP,oP,sP⟩,H,V,Y,g aP⟩;have TW:Qqk K mg A:=⟨⟨pW,dW,oW,sW⟩,J,aa,g aW,⟨_,Ep X G ck,⟨_,Xb⟩⟩,⟨_,Ep X G cm,⟨_,Xb⟩⟩,⟨_,Ep X G cl,⟨_,Xb⟩⟩⟩;have n:V5 K mg c:=⟨⟨pN,dN,oN,sN⟩,Q,R,u,U,T,S,F,O,g aN⟩;have TS:Qnp K m:=⟨⟨pS,dS,oS,sS⟩,I,aZ,Z,z⟩;have TB:Qef K mg i:=⟨⟨pB,dB,oB,sB⟩,E,aD,t,g aB,⟨_,Ep X G eq,⟨_,Xb⟩⟩⟩;have B:Blt mg:=⟨y ab,y bc,y ba,y D,y q,y bd,y aE,y bb,y j,y p,y d⟩;have r:Jl mg:=⟨y ab,y D,y q,y p,y d,y o,y be,y L⟩;obtain⟨_,_,_,_,_,_,_,_,_,b,a,k0⟩:=h0;have F0:=Zd (st:=Qpj) b a k0;have b0:=F0.binds (ps:=["thing"]) (by eq_refl);obtain⟨_,_,_,_,_,_,_,_,_,b,a,k1⟩:=h1;have F1:=Zd (st:=Qbx) b a k1;have b1:=F1.binds (ps:=["self"]) (by eq_refl);obtain⟨_,_,_,_,_,_,_,_,_,b,a,k2⟩:=h2;have F2:=Zd (st:=Oq) b a k2;have b2:=F2.binds (ps:=["self","thing"]) (by eq_refl);have m2:Z8 K CP "place_of" f2:=⟨a2,i2,k2⟩;obtain⟨_,_,_,_,_,_,_,_,_,b,a,k3⟩:=h3;have F3:=Zd (st:=Qbt) b a k3;have b3:=F3.binds (ps:=["self","places"]) (by eq_refl);obtain⟨_,_,_,_,_,_,_,_,_,b,a,k4⟩:=h4;have F4:=Zd (st:=Qgd) b a k4;have b4:=F4.binds (ps:=["met","thing"]) (by eq_refl);obtain⟨_,_,_,_,_,_,_,_,_,b,a,k5⟩:=h5;have F5:=Zd (st:=Qg0) b a k5;have b5:=F5.binds (ps:=["spare","inner"]) (by eq_refl);obtain⟨_,_,_,_,_,_,_,_,_,b,a,k6⟩:=h6;have F6:=Zd (st:=U2) b a k6;have b6:=F6.binds (ps:=["self","thing","near","spare"]) (by eq_refl);have m6:Z8 K A "place_within" f6:=⟨a6,i6,k6⟩;obtain⟨_,_,_,_,_,_,_,_,_,b,a,k7⟩:=h7;have F7:=Zd (st:=Qbw) b a k7;have b7:=F7.binds (ps:=["self","thing","form"]) (by eq_refl);have m7:Z8 K CP "place_by_form" f7:=⟨a7,i7,k7⟩;obtain⟨_,_,_,_,_,_,_,_,_,b,a,k8⟩:=h8;have F8:=Zd (st:=Qga) b a k8;have b8:=F8.binds (ps:=["forms","told"]) (by eq_refl);obtain⟨_,_,_,_,_,_,_,_,_,b,a,k9⟩:=h9;have F9:=Zd (st:=Ol) b a k9;have b9:=F9.binds (ps:=["self","forms"]) (by eq_refl);obtain⟨_,_,_,_,_,_,_,_,_,b,a,cG⟩:=eO;have bf:=Zd (st:=Rz) b a cG;have ca:=bf.binds (ps:=["self","place"]) (by eq_refl);have dg:Z8 K c "take_in" ae:=⟨dQ,fs,cG⟩;obtain⟨_,_,_,_,_,_,_,_,_,b,a,cH⟩:=eP;have aF:=Zd (st:=Ru) b a cH;have aK:=aF.binds (ps:=["self","place"]) (by eq_refl);have aU:Z8 K c "key_of" af:=⟨dR,ft,cH⟩;obtain⟨_,_,_,_,_,_,_,_,_,b,a,cI⟩:=eQ;have bg:=Zd (st:=Qgm) b a cI;have aL:=bg.binds (ps:=["self","one","other"]) (by eq_refl);have aV:Z8 K c "equal" ag:=⟨dT,fu,cI⟩;obtain⟨_,_,_,_,_,_,_,_,_,b,a,cJ⟩:=eR;have bh:=Zd (st:=Qgp) b a cJ;have cb:=bh.binds (ps:=["self","one","other","reason"]) (by eq_refl);have dh:Z8 K c "merge" ah:=⟨dU,fv,cJ⟩;obtain⟨_,_,_,_,_,_,_,_,_,b,a,cK⟩:=eS;have bi:=Zd (st:=Jc) b a cK;have er:=bi.binds (ps:=["self","link"]) (by eq_refl);have fP:Z8 K c "merge_link" ai:=⟨dV,fw,cK⟩;obtain⟨_,_,_,_,_,_,_,_,_,b,a,cL⟩:=eT;have bj:=Zd (st:=Qlu) b a cL;have es:=bj.binds (ps:=["self","low","high"]) (by eq_refl);have fQ:Z8 K c "hang" aj:=⟨dX,fx,cL⟩;obtain⟨_,_,_,_,_,_,_,_,_,b,a,cM⟩:=eU;have bk:=Zd (st:=Ik) b a cM;have et:=bk.binds (ps:=["self","gone","kept"]) (by eq_refl);have fR:Z8 K c "give_over" ak:=⟨dY,fy,cM⟩;obtain⟨_,_,_,_,_,_,_,_,_,b,a,cO⟩:=eV;have bl:=Zd (st:=Quz) b a cO;have aM:=bl.binds (ps:=["self","one","other"]) (by eq_refl);have aX:Z8 K c "way" al:=⟨dZ,fz,cO⟩;obtain⟨_,_,_,_,_,_,_,_,_,b,a,cQ⟩:=eW;have bm:=Zd (st:=Qf3) b a cQ;have eu:=bm.binds (ps:=["self","place"]) (by eq_refl);have fS:Z8 K c "way_up" am:=⟨d0,fA,cQ⟩;obtain⟨_,_,_,_,_,_,_,_,_,b,a,cR⟩:=eX;have bn:=Zd (st:=Qiw) b a cR;have ev:=bn.binds (ps:=["self"]) (by eq_refl);have fT:Z8 K c "rows" ao:=⟨d1,fB,cR⟩;obtain⟨_,_,_,_,_,_,_,_,_,b,a,cT⟩:=eY;have bo:=Zd (st:=Qgb) b a cT;have ew:=bo.binds (ps:=["things","net","one","other"]) (by eq_refl);obtain⟨_,_,_,_,_,_,_,_,_,b,a,cU⟩:=eZ;have bp:=Zd (st:=Qb4) b a cU;have ex:=bp.binds (ps:=["net","one","other"]) (by eq_refl);obtain⟨_,_,_,_,_,_,_,_,_,b,a,aQ⟩:=e0;have bq:=Zd (st:=Qfv) b a aQ;have ce:=bq.binds (ps:=["net","link"]) (by eq_refl);obtain⟨_,_,_,_,_,_,_,_,_,b,a,fM⟩:=e1;have br:=Zd (st:=Qbp) b a fM;have ey:=br.binds (ps:=["self","things","net"]) (by eq_refl);obtain⟨_,_,_,_,_,_,_,_,_,b,a,cV⟩:=e2;have bs:=Zd (st:=Qgw) b a cV;have aO:=bs.binds (ps:=["self","one","other","reason"]) (by eq_refl);have aY:Z8 K m "write" aq:=⟨d5,fD,cV⟩;obtain⟨_,_,_,_,_,_,_,_,_,b,a,cX⟩:=e3;have bt:=Zd (st:=Vt) b a cX;have ez:=bt.binds (ps:=["self","link"]) (by eq_refl);have fU:Z8 K m "write_link" ar:=⟨d6,fE,cX⟩;obtain⟨_,_,_,_,_,_,_,_,_,b,a,cY⟩:=e4;have aG:=Zd (st:=Jy) b a cY;have ad:=aG.binds (ps:=["self","one","other"]) (by eq_refl);have aC:Z8 K m "line_for" au:=⟨d7,fF,cY⟩;obtain⟨_,_,_,_,_,_,_,_,_,b,a,cZ⟩:=e5;have bu:=Zd (st:=Jp) b a cZ;have eA:=bu.binds (ps:=["deeds"]) (by eq_refl);obtain⟨_,_,_,_,_,_,_,_,_,b,a,fN⟩:=e6;have bv:=Zd (st:=Qb3) b a fN;have cf:=bv.binds (ps:=["self"]) (by eq_refl);obtain⟨_,_,_,_,_,_,_,_,_,b,a,c0⟩:=e7;have bw:=Zd (st:=Qbu) b a c0;have cg:=bw.binds (ps:=["self","deed"]) (by eq_refl);have di:Z8 K i "answer" aw:=⟨ea,fH,c0⟩;obtain⟨_,_,_,_,_,_,_,_,_,b,a,c1⟩:=e8;have bx:=Zd (st:=Qbr) b a c1;have eB:=bx.binds (ps:=["self","moment"]) (by eq_refl);have fV:Z8 K i "go_back" ax:=⟨eb,fI,c1⟩;obtain⟨_,_,_,_,_,_,_,_,_,b,a,c2⟩:=e9;have bz:=Zd (st:=Qll) b a c2;have eC:=bz.binds (ps:=["self","deed","entry"]) (by eq_refl);have fW:Z8 K i "tell" ay:=⟨ec,fJ,c2⟩;obtain⟨_,_,_,_,_,_,_,_,_,b,a,c3⟩:=fb;have bA:=Zd (st:=Qvn) b a c3;have eD:=bA.binds (ps:=["self","entry"]) (by eq_refl);have fX:Z8 K i "ask" az:=⟨ed,fK,c3⟩;obtain⟨_,_,_,_,_,_,_,_,_,b,a,c4⟩:=fc;have bB:=Zd (st:=Im) b a c4;have ch:=bB.binds (ps:=["self","net","entry"]) (by eq_refl);have dj:Z8 K i "lines_for" aA:=⟨ee,fL,c4⟩;obtain⟨_,_,_,_,_,_,_,_,_,b,a,aR⟩:=fe;have bC:=Zd (st:=Qfu) b a aR;have ci:=bC.binds (ps:=["net","entries"]) (by eq_refl);obtain⟨_,_,_,_,_,_,_,_,_,b,a,c5⟩:=ff;have bD:=Zd (st:=Jd) b a c5;have eE:=bD.binds (ps:=["deeds"]) (by eq_refl);obtain⟨_,_,_,_,_,_,_,_,_,b,a,c6⟩:=fg;have bE:=Zd (st:=Jb) b a c6;have eF:=bE.binds (ps:=["deeds"]) (by eq_refl);obtain⟨_,_,_,_,_,_,_,_,_,b,a,c7⟩:=fh;have bF:=Zd (st:=Qlo) b a c7;have eG:=bF.binds (ps:=["_law_cell"]) (by eq_refl);obtain⟨_,_,_,_,_,_,_,_,_,b,a,c8⟩:=fi;have bG:=Zd (st:=sSo) b a c8;have eH:=bG.binds (ps:=["_law_found","_law_due"]) (by eq_refl);obtain⟨_,_,_,_,_,_,_,_,_,b,a,c9⟩:=fj;have bH:=Zd (st:=Qgv) b a c9;have eI:=bH.binds (ps:=["_law_cells"]) (by eq_refl);obtain⟨_,_,_,_,_,_,_,_,_,b,a,da⟩:=fk;have bI:=Zd (st:=Qf7) b a da;have eJ:=bI.binds (ps:=["_law_cells","_law_things"]) (by eq_refl);obtain⟨_,_,_,_,_,_,_,_,_,b,a,db⟩:=fl;have bJ:=Zd (st:=Qmg) b a db;have eK:=bJ.binds (ps:=["_law_script","_law_most","_law_bound"]) (by eq_refl);obtain⟨_,_,_,_,_,_,_,_,_,b,a,dd⟩:=fm;have bK:=Zd (st:=Qvt) b a dd;have eL:=bK.binds (ps:=["_law_cell"]) (by eq_refl);obtain⟨_,_,_,_,_,_,_,_,_,b,a,aT⟩:=fn;have bL:=Zd (st:=Wn) b a aT;have cj:=bL.binds (ps:=["_law_told","_law_things"]) (by eq_refl);obtain⟨_,_,_,_,_,_,_,_,_,b,a,de⟩:=fo;have bM:=Zd (st:=Qmx) b a de;have eM:=bM.binds (ps:=["_law_told","_law_one","_law_other"]) (by eq_refl);obtain⟨_,_,_,_,_,_,_,_,_,b,a,df⟩:=fp;have bN:=Zd (st:=Qb2) b a df;have eN:=bN.binds (ps:=["_law_told","_law_deed"]) (by eq_refl);obtain⟨oc,od,an,sl,kV,dc,pm,cd,ct,b,a,fO⟩:=fq;have dn:=Zd (st:=Qgj) b a fO;have MP:Mk K CP f1:=⟨mP,a1,i1,cP⟩;have MW:Mk K A f3:=⟨mW,a3,i3,cW⟩;have MN:Mk K c f9:=⟨mN,a9,i9,cN⟩;have MS:Mk K m ap:=⟨mS,d4,fC,cS⟩;have MB:Mk K i av:=⟨mB,d9,fG,cB⟩;refine⟨Eg "law" "law" (Iq Qgj) (Vo Qgj) (Qk Qgj) .none kV dc pm an cd ct,λs v=>.of_eq Xb,λbase _ _=>?_⟩;have G0:=Qyl (P:=l.prog) (w:=w) (mg:=mg) (base:=base) F0 r;have G7:=Qn6 (P:=l.prog) (w:=w) (mg:=mg) (base:=base) F7 TP r;have G4:=Qrn (P:=l.prog) (w:=w) (mg:=mg) (base:=base) F4 r;have G5:=Qqu (P:=l.prog) (w:=w) (mg:=mg) (base:=base) F5;have G3:=Qoe (P:=l.prog) (w:=w) (mg:=mg) (base:=base) F3 TW;have G6:=Qdi (P:=l.prog) (w:=w) (mg:=mg) (base:=base) F6 TP TW r m6 b6 G0 k0 b0 (g a0) G4 k4 b4 (g a4) G5 k5 b5 (g a5) m7 G7 b7 50;have G2:=Qjy F2 TW MW G3 b3 m6 b6 G6;have G1:=Qn2 (P:=l.prog) (w:=w) (mg:=mg) (base:=base) F1 TP;have aH:=Qpi (P:=l.prog) (w:=w) (mg:=mg) (base:=base) bg n;have bO:=Qsz (P:=l.prog) (w:=w) (mg:=mg) (base:=base) aF n r;have N:=Qn1 (P:=l.prog) (w:=w) (mg:=mg) (base:=base) aF n r;have dt:=Qr1 (P:=l.prog) (w:=w) (mg:=mg) (base:=base) bm n;have dr:=Quy (P:=l.prog) (w:=w) (mg:=mg) (base:=base) bj n;have ds:=Qvf bk n aU bO aK;have dq:=Qgi bi n r fQ dr es fR ds et;have bP:=Qqc bh n aV aH aL fP dq er;have G9:=Qk3 (P:=l.prog) (w:=w) (mg:=mg) (base:=base) F9 n;have dp:=Qi0 bf n dg ca aU bO aK 59;have G8:=Qsv F8 n r MN G9 b9 dg dp ca dh bP cb;have bV:=Qqr bC n r aV aH aL;have aI:=Qyf bl n r fS dt eu;have du:=Qus bn n r aU N aK;have bQ:=Qqj (P:=l.prog) (w:=w) (mg:=mg) (base:=base) bq n r;have dw:=Qno bp n r aX aI aM bQ aQ ce (g bX);have aJ:=Qs2 (P:=l.prog) (w:=w) (mg:=mg) (base:=base) (C:=c) bs TS r;have ac:=Qml (g:=Gq) (k:=2) (by decide) aG TS n aC ad Qzn aX aI aM aY aJ aO;have bR:=Qml (g:=Gf) (k:=3) (by decide) aG TS n aC ad ac aX aI aM aY aJ aO;have dy:=Qqp bt TS aC ad bR bQ aQ ce (g bX) aY aJ aO;have dx:=Qoj (P:=l.prog) (w:=w) (mg:=mg) (base:=base) (C:=c) br TS;have dv:=Qos bo TS n (Ep X G aS) MS dx ey dw cU ex (g d3) aC ad bR fU ez dy;have bU:=Qh0 bB TB TP dv cT ew (g d2);have dD:=Qyh bA TB TP n G8 k8 b8 (g a8) aV aH aL fT du ev dh bP cb bV aR ci (g bY) dj bU ch;have dC:=Qt2 bz TB TP r G8 k8 b8 (g a8) bV aR ci (g bY) dj bU ch;have dA:=Qnr (P:=l.prog) (w:=w) (mg:=mg) (base:=base) (CP:=CP) bx TB r;have bS:=Qn0 bv TB TP MP G1 b1;have bT:=Qo3 bw TB TP fV dA eB m2 G2 b2 fX dD eD fW dC eC;have dz:=Qkz bu TB MB bS cf di bT cg;have dE:=Qfz bD TB MB bS cf di bT cg;have dF:=Qgx bE TB dE c5 eE (g ef);have dG:=Qvu (P:=l.prog) (w:=w) (mg:=mg) (base:=base) bF B.abs;have dI:=Qrd bH B dG c7 eG (g eh);have dL:=Qxw (P:=l.prog) (w:=w) (mg:=mg) (base:=base) bK;have dJ:=Qsn bI B dL dd eL (g em);have dK:=Qvr (P:=l.prog) (w:=w) (mg:=mg) (base:=base) bJ B;have dH:=Qz6 (P:=l.prog) (w:=w) (mg:=mg) (base:=base) bG B;have bW:=Qlg (P:=l.prog) (w:=w) (mg:=mg) (base:=base) bL B;have dM:=Qu4 bM bW aT cj (g bZ);have dO:=Qot bN bW aT cj (g bZ);exact Qxe (M:=66) dn B (by decide) (by decide) (by decide) dI c9 eI (g ej) dJ da eJ (g ek) dK db eK (g el) dH c8 eH (g ei) dM de eM (g en) dO df eN (g eo) (Qpr dz) cZ eA (g d8) (Qns dF) c6 eF (g eg)
end
theorem Q2g{l:SY}{q:Gk}{b:List Ta}{i:(Ta->Option Value)->Heap->Prop}{e:Gv->Heap->Prop}{d:RX}{K:NO->Gd}(o:l.most=Ga 63)(c:d.params.defaults=[])
  (j:∀(w:Gv)(h:Heap),e w h->(K w.params).In h)
  (F:∀(w:Gv)(mg:Ta->Option Value)(g:Gc)(h:Heap),(K w.params).In h->h.Ns T4 mg->mg d.name=Ga (.ref g)->
   ∃fd:Tt,(∀(s:Gj)(u:Value),LV s fd ⟨[u],[]⟩ [("_law_script",u)])/\∀base:Heap,(K w.params).In base->base.Ns T4 mg->Qr l.prog w (K w.params) mg base Z3 67 g fd ["_law_script"] (Ql4 (K w.params))):
  Mz q b i e l.row.toRowW d [] (λf vs=>FG f vs):=
 L2.Quq (n:=63) (k:=67) (x:="_law_script") (CX:=λ_=>Z3) (sp:=λw=>Ql4 (K w.params)) o (by decide) c ⟨Xb,by decide,by decide⟩ j F (λ_ _ a ns m _ hS=>⟨a,ns,Xb,hS,m,λ_=>rfl⟩) λ_ _ _ _ _ z=>z
end K05
open PySem PySem.W PyProof.Rows
set_option maxRecDepth 100000 in
set_option maxHeartbeats 0 in
theorem PySem.Challenge.cw_samebook_k05_equal_unlike_or_open_holds : PySem.Challenge.rw_samebook_k05_equal_unlike_or_open.Holds := by
  w_on; o_law; k_head; (case hw => w_witness2)
  k_fill
  refine K05.Q2g (l := PySem.Challenge.rw_samebook_k05_equal_unlike_or_open) rfl rfl (λ w h Y => PySem.W.kIn_of Y) ?F
  case F =>
    intro w mg b h KX G a
    refine' K05.Qxy KX G a ?_ ?_ ?_ ?_ ?_ ?_ ?_ ?_ ?_ ?_ ?_ ?_ ?_ ?_ ?_ ?_ ?_ ?_ ?_ ?_ ?_ ?_ ?_ ?_ ?_ ?_ ?_ ?_ ?_ ?_ ?_ ?_ ?_ ?_ ?_ ?_ ?_ ?_ ?_ ?_ ?_ ?_ ?_ ?_ ?_ ?_ ?_ ?_ ?_ ?_ ?_ ?_ ?_ ?_ ?_ ?_ ?_ ?_ ?_ ?_ ?_ ?_ ?_ ?_ ?_ ?_ ?_ ?_ ?_ ?_ ?_ ?_ ?_ ?_ ?_ ?_ ?_ ?_ ?_ ?_ ?_ ?_ ?_ ?_ ?_ ?_ ?_ ?_ ?_ ?_ ?_ ?_ ?_ ?_ ?_ ?_ ?_ ?_ ?_ ?_ ?_ ?_ ?_ ?_ ?_ ?_ ?_ ?_ ?_ ?_ ?_ ?_ ?_ ?_ ?_ ?_ ?_ ?_ ?_ ?_ ?_ ?_ ?_ ?_ ?_ ?_ ?_ ?_ ?_ ?_ ?_ ?_ ?_ ?_ ?_ ?_ ?_ ?_ ?_ ?_ ?_ ?_ ?_ ?_ ?_ ?_ ?_ ?_ ?_ ?_ ?_ ?_ ?_ ?_ ?_ ?_ ?_ ?_ ?_ ?_ ?_ ?_ ?_ ?_ ?_ ?_ ?_ ?_ ?_ ?_ ?_ ?_ ?_ ?_ ?_ ?_ ?_ ?_ ?_ ?_ ?_ ?_ ?_ ?_ ?_ ?_ ?_ ?_ ?_ ?_ ?_ ?_ ?_
    all_goals first | exact ⟨_, _, _, _, _, _, _, _, _, by k_is, by k_is, by k_is⟩ | (show _ = _; k_is) | skip
