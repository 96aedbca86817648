import PyProof.Rows.All
import Wide.All
import OpenK.AllK
import Wide.FinOn
import Lean
import PyProof.EqAt
import PyProof.EqKinds
import PyProof.TupleCall
import KE.KIsAll
import KE.KRevIter
import PyProof.P3In
import PyProof.P3Eq
import KE.KDictList
import KE.KDictSum
import KE.KDictLaws
import PyProof.ZipIter
import KE.KItemsList
import PySem.Challenge.RW_samebook_k07_whole_order_and_words
set_option maxHeartbeats 16000000
abbrev Gg:=@if_neg
abbrev Gk:=@if_pos
abbrev Gx:=@decide_eq_false
abbrev GQ:=@decide_eq_true
abbrev TC:=@of_decide_eq_true
abbrev T6:=@if_false
abbrev Dg:=@beq_eq_false_iff_ne
abbrev DZ:=@beq_self_eq_true
abbrev Ep:=@or_false
abbrev EE:=@beq_iff_eq
abbrev EO:=@decide_eq_true_eq
abbrev E7:=@if_true
abbrev LB:=@and_true
open Option renaming some->Ga,none->Ge,map_some->TQ,isSome_map->DC,map_eq_some_iff->Eb,ne_none_iff_exists'->EG,isSome_iff_exists->ER,isSome_some->SG,getD_none->Lh,none->Fk
open PySem renaming wpAny_bind->Gb,Addr->Gc,wpAny_pure->Gd,sizeLine->Gh,Shared->Gi,Program->Gj,World->Gs,sizeLine_eq->Gu,Str->Gy,model->GJ,starEach->GX,FuncData->Td,wpAny_call_entry->Tn,wpAny_newObj_type->To,wpAny_field->Tt,Around->Tv,wpAny_callSpecial?_slot->Tx,PyData->TF,Expr->TJ,wpAny_holding->TR,sysModules->TU,wpAny_Call_Name_kw->TX,wpAny_seqItems->TY,Stmt->T4,compareOp->T5,mainGlobals->T8,wpAny_truthy_bool->Db,wpAny_dictEntries->Df,wpAny_mono->Dh,wpAny_setField_rec->Di,cLine->Dk,wpAny_typeNameOfWhole_keyiter->Dl,IsPair->Dm,wpAny_typeNameOfWhole_valiter->Do,wpAny_specialOf->Dq,backTo->Du,tupleKind_room_in1->Dz,wpAny_passesOwn->DB,wpAny_typeNameOf_keyiter->DG,wpAny_typeNameOf_valiter->DI,Obj->DL,wpAny_dictEpoch->DQ,DictEntry->DR,builtinLookup_eq_fast->DS,wpAny_setField->DW,wpAny_isInstance->D0,wpAny_notOrdered_dict->Ed,wpAny_isOneOf_valiter->Ef,wpAny_rule->Eg,wpAny_attempt->Ej,NameKind->El,ReadsAll->Eo,wpAny_pyIter_revIter->Er,wpAny_updateSeq_pair->Es,wpAny_execs_nil->Et,wpAny_updateSeq->Ev,wpAny_ite_split->Ew,typeLookup_type->Ey,call_meetsIn->EB,wpAny_pyIter_tuple->ED,wpAny_fieldsOf->EF,wpAny_letGo->EL,wpAny_pyIter_slot->EM,wpAny_comprehension_free->ET,wpAny_onRaise->EU,Scope->EV,wpAny_Call_method0_late->EW,wpAny_Dict_empty->EX,Pos->E1,wpAny_pyNext_range_end->E3,wpAny_pyIter_rangeiter->E4,codeAny_mono->E6,wpAny_Call_method_late->E8,call_meets->E9,IsZip->Sc,wpAny_isTrue_Compare1->Sd,wpAny_isOneOf_keyiter->Se,wpAny_pyNext_rev_item->Sg,IsRangeIter->Sj,isSubtype_stop->Sm,wpAny_pyIter_keyiter->Sn,wpAny_pyNext_rev_end->So,wpAny_standAt->Sw,Reads->Sx,wpAny_handled->Sy,plainId_quiet->SA,wpAny_pyIter_range->SE,IsPart->SF,wpAny_getItem_heap->SH,wpAny_setItem_heap->SI,call_reversed_list->SJ,Env->SM,wpAny_assign_Name->SN,BindsTo->SS,Keyword->SV,eqIsQuiet_byValue->SX,wpAny_pyIter_enum->S0,wpAny_pyHash_int->Lb,wpAny_pyHash_str->Lc,wpAny_execs_cons->Le,wpAny_forIn_list->Lm,wpAny_of_eq->Lp,wpAny_throw->Lq,wpAny_ret_mkInt->Lu,codeAny_builtin->Lv,wpAny_Name->Lx,ZipApart->LD,wpAny_newTuple->LF,intBits_le_64->LI,evalPart_none->LJ,call_list_seq->LL,wpAny_in_heap->LM,Result->LX,wpAny_typeOf->LZ,seqIndex_neg->L1,seqIndex_of->Fj,HeapKind->Fl,wpAny_call->Fu,typeIs_str->Fv,PlainAttrs->Fw,Params->Fx,DefRec->FL,Sem->FN,Tok->FP
open Bool renaming true->Gf,false->Gp,false_ne_true->Gw,and_eq_true->GO,false_eq_true->Tw,and_eq_true_iff->DV,eq_iff_iff->D1,eq_false_iff->EK,or_false->LK,not_true->LO,and_true->LQ
open Nat renaming le_refl->Gm,zero_le->Gv,ne_of_lt->GV,lt_of_lt_of_le->Ta,lt_or_ge->Tb,ne_of_gt->Tk,le_trans->TL,le_add_right->T3,lt_irrefl->Dx,lt_succ_self->Dy,mul_le_mul_right->DE,add_lt_add_left->DK,add_mul->DM,lt_of_le_of_lt->D2,le_succ->D9,min_eq_left->Eu,lt_add_of_pos_right->EY,le_of_lt->E2,add_le_add_left->Ss,not_lt->SK,le_of_eq->SO,add_zero->SY,lt_succ_of_lt->S9,lt_trichotomy->La,min_le_right->Lg,le_of_not_lt->Ll,succ_ne_self->Lo,one_mul->Ls,mul_le_mul->LC,add_assoc->LN,lt_trans->L6,sub_self->L8
open Ne renaming symm->Gn
open PySem.PassesOwn renaming never->Gq
open PySem.PyData renaming canLayAll0->Gr,canLay0->Tg,depthAll->Tj,eqvAll->Tp,eqv->Tq,strOk->TW,depth->Dj,int->DX
open PyProof.Rows renaming boot_isinstance->Gz,boot_tuple->Tz,boot_list->TD,callWith_type1->T9,slot_tuple_getitem->DJ,boot_bool->DP,subscriptTail_builtinR->Ea,AllBare->EJ,IntsAre->Sa,boot_str->Sh,boot_int->Si,Constant_none->Su,callWith_builtin1->Lf,wpAny_notIn_heap->Lj,isnot_none_gen->Ly,slicePart_none->Lz,Subscript_->LA,zipApart_new->LG,boot_reversed->LP,boot_sorted->LU,isTrue_plain->LV,boot_abs->Fa,boot_min->Fc,is_none_gen->Ff,isTrue_and->Fs,boot_range->Ft,Call_->FK
open Array renaming getElem?_eq_getElem->GY,length_toList->Ts,getElem?_toList->TV,getElem?_eq_none->T1,toArray_toList->DD,forIn_toList->D4,getElem?_append_left->EH,all_append->EZ,append_assoc->SD,size_push->Lw,toList->LW
open Option.some renaming inj->Tc,injEq->FC
open Int renaming emod_lt_of_pos->Te,emod_nonneg->Tu,toNat_natCast->Dc,toNat->Dp,zero_add->DF,mul_le_mul_of_nonneg_right->Ei,ediv_one->LY,le_of_lt->L9,pow_pos->Fo
open PySem.NameKind renaming free->Tf,cell->ES
open True renaming intro->Ti
open Prod.mk renaming injEq->TH
open Classical renaming propDecidable->TM,choose->Eh,choose_spec->Sf,byContradiction->LH
open Or renaming inl->TZ,inr->DO
open PySem.Str renaming ofString->De,empty->DY
open ForInStep renaming yield->Ds
open PySem.Calls renaming callWith_builtin->Dw,spliced_cons->DN,spliced_nil->DT,evalArgs_plain->Em,Name_function_global->EC,call_function_entry->EI,call_len_list->Sr
open PySem.Obj renaming data_mapFields->DA,mapSeq->DU,isFreed_of_fields->Ee,mapFields->Ek,cls_mapFields->EN,data_mapDictKeys->Sk
open Sum renaming inl->Ez,inr->EA
open PyProof renaming noPylong_small->E5
open PySem.Around renaming under_plainId->Sq,under->SQ
open Function renaming comp->Sz
open PySem.Code renaming isFrame->SR,frames->Fi
open Prod renaming ext->SU
open PySem.AutoSeq1 renaming list_extend_list_list_0->SW
open PySem.Shared renaming TypeIs->LR,heap->Fn
open PySem.MeetsSeq renaming list_pop_last->L4
open Sum.inr renaming inj->Fd
open PySem.CmpOp renaming NotIn->Fe,In->FJ
open PySem.Data renaming fields->Fg,cell->FE,seq->FM
open PySem.IsRange renaming new->Fh
open PySem.SeqAt.EqAt renaming int_str->Fp,str_int->Fq
open PySem.W renaming pre_splitW->Fy,OpenLaw->FA
open PySem.W.WShape renaming has->Fz
open Eq renaming refl->FD
open PySem.DictEntry renaming refKey->FF
open PyProof.Rows.IsTup renaming new->FG
open PySem.W.WData renaming int->FH
open PySem.Expr renaming Call->FI
open Sum.inl renaming inj->FQ
open PySem.W.OpenLaw renaming pre->FR
abbrev Xb:=@rfl
set_option Elab.async false
set_option linter.all false
set_option maxRecDepth 100000
local macro_rules
 |`(tactic|eq_refl)=>`(tactic|first
  |exact⟨Xb,Xb,Xb,by decide+kernel,Xb,by decide+kernel,by decide+kernel⟩
  |exact⟨by rfl,by decide+kernel,by decide+kernel,by decide+kernel⟩
  |exactλ_ _ _ _ _ _ us hl=>match us,hl with|[_],_=>rfl
  |exactλ_ _ _ _ _ _ us hl=>match us,hl with|[_,_],_=>rfl
  |exactλ_ _ _ _ _ _ us hl=>match us,hl with|[_,_,_],_=>rfl
  |exactλ_ _ _ _ _ _ us hl=>match us,hl with|[_,_,_,_],_=>rfl
  |exactλ_ _ _ _ _ _ us hl=>match us,hl with|[_,_,_,_,_],_=>rfl)
namespace L2
open PySem PySem.Spec PyProof.Rows
variable{a b C:Gc}{P:Gj}{w:Gs}{o:DL}{t' i k n:Nat}{N ps:List Gy}{x:Gy}{M:Model}{A:Tv}{E Q:Value->Gi->Prop}{u:Value}{e tg:TJ}{s:Gi}{pins:List (Gc×DL)}{pos:E1}{op:CmpOp}{K:PySem.W.Frag}{body:List T4}{fp:List Gc}{pl:FN Bool}{f:Value->Value->FN Value}{us:List Value}{kw:List (Gy×Value)}{mg:Gy->Option Value}
abbrev Xh:=Sum Int Gy
def Qd8:Xh->Value->Bool
 |.inl k,v=>Value.isInt k v
 |.inr x,v=>Value.isStrOf x v
def Q2w(w:Gs):Xh->Int
 |.inl k=>hashInt k
 |.inr x=>hashStr w x
theorem Ys:∀{k:Xh}{v:Value},Qd8 k v=Gf->(∃i t,k=Ez i/\v=Value.int i t)\/(∃x t,k=EA x/\v=Value.str x t)
 |.inl i,v,h=>by obtain⟨t,e⟩:=Value.isInt_shape (k:=i) (v:=v) h;exact .inl ⟨i,t,Xb,e⟩
 |.inr x,v,h=>by obtain⟨t,e⟩:=Value.isStrOf_shape (x:=x) (v:=v) h;exact .inr ⟨x,t,Xb,e⟩
theorem Qoc(i:Int)(t:FP):Qd8 (.inl i) (.int i t)=Gf:=by simp[Qd8,Value.isInt]
theorem Qnd(x:Gy)(t:FP):Qd8 (.inr x) (.str x t)=Gf:=by simp[Qd8,Value.isStrOf]
theorem Qxl(a b:Int):decide ((Ez a:Xh)=Ez b)=(a==b):=by
 by_cases e:a=b
 ·subst e;simp
 ·have h:¬(Ez a:Xh)=Ez b:=λq=>e (FQ q);rw[Gx h];exact(Dg.mpr e).symm
theorem Qys(a b:Gy):decide ((EA a:Xh)=EA b)=decide (a=b):=by
 by_cases e:a=b
 ·subst e;simp
 ·have h:¬(EA a:Xh)=EA b:=λq=>e (Fd q);rw[Gx h,Gx e]
theorem Qxs(a:Int)(b:Gy):decide ((Ez a:Xh)=EA b)=Gp:=Gx (λq=>nomatch q)
theorem Qyh(a:Gy)(b:Int):decide ((EA a:Xh)=Ez b)=Gp:=Gx (λq=>nomatch q)
def Z9(prog:Gj)(w:Gs):PySem.KeyKind prog w Xh where
 is:=Qd8
 hash:=Q2w w
 inj:=λv a b f hb=>by
  rcases Ys f with⟨i,t,rfl,rfl⟩|⟨x,t,rfl,rfl⟩
  ·rcases Ys hb with⟨j,u,rfl,e⟩|⟨y,u,rfl,e⟩
   ·injection e with c _;rw[c]
   ·exact nomatch e
  ·rcases Ys hb with⟨j,u,rfl,e⟩|⟨y,u,rfl,e⟩
   ·exact nomatch e
   ·injection e with c _;rw[c]
 byValue:=λk v h=>by rcases Ys h with⟨i,t,rfl,rfl⟩|⟨x,t,rfl,rfl⟩<;>rfl
 pyHash:=λd h=>by
  rcases Ys d with⟨i,t,rfl,rfl⟩|⟨x,t,rfl,rfl⟩
  ·exact Lb h
  ·exact Lc h
 eqBool:=λg d h=>by
  rcases Ys g with⟨i,t,rfl,rfl⟩|⟨x,t,rfl,rfl⟩
  ·rcases Ys d with⟨j,u,rfl,rfl⟩|⟨y,u,rfl,rfl⟩
   ·rw[Qxl]at h;exact wpAny_eqBool_int h
   ·rw[Qxs]at h;exact Fp i t y u _ _ _ _ h
  ·rcases Ys d with⟨j,u,rfl,rfl⟩|⟨y,u,rfl,rfl⟩
   ·rw[Qyh]at h;exact Fq x t j u _ _ _ _ h
   ·rw[Qys]at h;exact wpAny_eqBool_str h
 «strs»:=λk x t v h=>by
  rcases Ys h with⟨i,u,rfl,e⟩|⟨y,u,rfl,e⟩
  ·exact nomatch e
  ·injection e with c _;subst c;cases v<;>rfl
theorem Qig(prog:Gj)(w:Gs)(i:Int)(t:FP):(Z9 prog w).is (.inl i) (.int i t)=Gf:=Qoc i t
theorem Qg7(prog:Gj)(w:Gs)(x:Gy)(t:FP):(Z9 prog w).is (.inr x) (.str x t)=Gf:=Qnd x t
inductive V where
 |non|bl (b:Bool)|int (i:Int)|str (x:Gy)|byt (b:Array UInt8)|flt (b:UInt64)|ref (a:Gc)|ty (n:String)
 deriving DecidableEq
variable{v:V}{vs xs:List V}
def RelV:V->Value->Prop
 |.non,u=>u=Value.none
 |.bl b,u=>u=Value.bool b
 |.int i,u=>∃t,u=Value.int i t
 |.str x,u=>∃t,u=Value.str x t
 |.byt b,u=>∃t,u=Value.bytes b t
 |.flt b,u=>∃t,u=Value.float b t
 |.ref a,u=>u=Value.ref a
 |.ty n,u=>u=Value.type n
abbrev Zs:List V->List Value->Prop:=Paired RelV
theorem Zs.length{xs:List V}{us:List Value}(r:Zs xs us):xs.length=us.length:=Paired.length r
theorem Zs.get:∀{xs:List V}{us:List Value}{i:Nat}{x:V},Zs xs us->xs[i]?=Ga x->∃u,us[i]?=Ga u/\RelV x u
 |_,_,_,_,.nil,e=>by simp at e
 |_,_,0,_,.cons r _,e=>by simp at e;subst e;exact⟨_,Xb,r⟩
 |_,_,i+1,x,.cons _ t,e=>by obtain⟨u,h1,h2⟩:=Zs.get (i:=i) (x:=x) t (by simpa using e);exact⟨u,by simpa using h1,h2⟩
theorem Zs.append:∀{xs ys:List V}{us a:List Value},Zs xs us->Zs ys a->Zs (xs++ys) (us++a)
 |_,_,_,_,.nil,s=>s
 |_,_,_,_,.cons r t,s=>.cons r (Zs.append t s)
theorem Zs.take:∀{xs:List V}{us:List Value}(n:Nat),Zs xs us->Zs (xs.take n) (us.take n)
 |_,_,0,_=>.nil
 |_,_,_+1,.nil=>.nil
 |_,_,n+1,.cons r t=>.cons r (Zs.take n t)
theorem Zs.drop:∀{xs:List V}{us:List Value}(n:Nat),Zs xs us->Zs (xs.drop n) (us.drop n)
 |_,_,0,r=>r
 |_,_,_+1,.nil=>.nil
 |_,_,n+1,.cons _ t=>Zs.drop n t
def Jk:Option V->Option Value->Prop
 |some v,Ga u=>RelV v u
 |none,Ge=>True
 |_,_=>False
def KV{κ:Type}:List (κ×V)->List (κ×Value)->Prop:=Paired λ(p:κ×V)(q:κ×Value)=>p.1=q.1/\RelV p.2 q.2
def kV:Xh->V
 |.inl i=>.int i
 |.inr x=>.str x
inductive HO where
 |lst (xs:List V)
 |tup (xs:List V)
 |dK (kvs:List (Xh×V))|dT (kvs:List (List Xh×V))
 |set (S:Int->Bool) (n:Nat)
 |ins (C dx:Gc) (fs:List (Gy×V))
 |own (x:Gc)
 |xd (fs:List (Gy×V))
 |met (f x:Gc)
 |rng (lo hi:Int)
 |frz (o:DL) (u:HO)
 |tbl (ps:Array Value)
 |ext (φ:Heap->Prop)
abbrev Hp:=Gc->Option HO
variable{H:Hp}
def upd(H:Hp)(a:Gc)(o:HO):Hp:=λb=>if b=a then Ga o else H b
theorem Qb{H:Hp}{a:Gc}{o:HO}:upd H a o a=Ga o:=by unfold upd;rw[Gk rfl]
theorem Qg{o:HO}(h:b≠a):upd H a o b=H b:=by unfold upd;rw[Gg h]
theorem Vk{o u:HO}:upd (upd H a o) a u=upd H a u:=by
 funext b;unfold upd;split<;>rfl
theorem Zw{o u:HO}(h:H a=Ga o)(h':H b=Ga u)(d:o≠u):a≠b:=by intro e;subst e;rw[h]at h';exact d (Tc h')
theorem Qc{o:HO}(h:H a=Ga o)(h':H b=Ge):a≠b:=by intro e;subst e;rw[h]at h';cases h'
section
variable(P:Gj)(w:Gs)
def Z0(H:Hp)(h:Heap)(a:Gc):HO->Prop
 |.lst xs=>xs.length<=Gh/\∃(its:List Value)(n:Nat),Zs xs its/\h.get? a=Ga {cls:=.type "list",data:=.seq its.toArray n}
 |.tup xs=>xs.length<=Gh/\∃its:List Value,Zs xs its/\IsTup h a its.toArray
 |.dK kvs=>kvs.length<=Gh/\(a==TU)=Gp/\∃vs,KV kvs vs/\h.DictOf (Z9 P w) a vs
 |.dT kvs=>kvs.length<=Gh/\(a==TU)=Gp/\∃xs:List (List Xh×Gc×Value),
   Paired (λ(p:List Xh×V)(q:List Xh×Gc×Value)=>p.1=q.1/\H q.2.1=Ga (.tup (p.1.map kV))/\RelV p.2 q.2.2) kvs xs/\
   ∃o es ep,h.get? a=Ga o/\o.ExactDict/\o.data=.dict es ep/\es.toList=xs.map (entryOfKey (tupleKind (Z9 P w)))/\(xs.map (·.1)).Nodup
 |.set S n=>h.SetOf (intKind P w) a S n
 |.ins C dx fs=>H dx=Ga (.own a)/\fs.length<=1000/\dx≠a/\h.get? a=Ga (PySem.W.instObj C dx)/\
   ∃mA,h.Ns1 dx mA/\(∀f,Jk (fs.lookup f) (mA f))/\PySem.Within mA (fs.map (·.1))
 |.own _=>∃o,h.get? a=Ga o
 |.xd fs=>∃mA,h.Ns1 a mA/\∀f,Jk (fs.lookup f) (mA f)
 |.rng lo hi=>∃t u v,h.get? a=Ga {cls:=.type "range",data:=.fields #[.int lo t,.int hi u,.int 1 v]}
 |.frz o u=>h.get? a=Ga o/\Z0 H h a u
 |.tbl ps=>h.get? a=Ga {cls:=.none,data:=.fields ps}
 |.met f x=>h.get? a=Ga (PySem.W.methodObj (.ref f) (.ref x))
 |.ext φ=>φ h/\(∃o,h.get? a=Ga o)/\∀h1 h2:Heap,φ h1->(∀o,h1.get? a=Ga o->h2.get? a=Ga o)->φ h2
def Rf(H:Hp)(h:Heap):Prop:=∀a o,H a=Ga o->Z0 P w H h a o
end
section
variable{P:Gj}{w:Gs}{H H':Hp}{h h':Heap}{a:Gc}{o:HO}
theorem Z0.lt(x:Z0 P w H h a o):a<h.objs.size:=by
 cases o with
 |lst xs=>obtain⟨_,_,_,_,e⟩:=x;exact Heap.lt_size e
 |tup xs=>obtain⟨_,_,_,p⟩:=x;exact p.lt
 |dK kvs=>obtain⟨_,_,_,_,o,_,_,e,_⟩:=x;exact Heap.lt_size e
 |dT kvs=>obtain⟨_,_,_,_,o,_,_,e,_⟩:=x;exact Heap.lt_size e
 |set S n=>obtain⟨o,_,_,_,e,_⟩:=x;exact Heap.lt_size e
 |ins C dx fs=>obtain⟨_,_,_,e,_⟩:=x;exact Heap.lt_size e
 |own y=>obtain⟨_,e⟩:=x;exact Heap.lt_size e
 |xd fs=>obtain⟨_,⟨_,_,_,e,_⟩,_⟩:=x;exact Heap.lt_size e
 |rng lo hi=>obtain⟨_,_,_,e⟩:=x;exact Heap.lt_size e
 |frz ob u=>obtain⟨e,_⟩:=x;exact Heap.lt_size e
 |tbl ps=>exact Heap.lt_size (show h.get? a=Ga _ from x)
 |met f y=>exact Heap.lt_size (show h.get? a=Ga _ from x)
 |ext φ=>obtain⟨_,⟨_,e⟩,_⟩:=x;exact Heap.lt_size e
theorem Paired.Yb{α β:Type}{F G:α->β->Prop}:∀{c:List α}{l₂:List β},Paired F c l₂->(∀a b,F a b->G a b)->Paired G c l₂
 |_,_,.nil,_=>.nil
 |_,_,.cons r t,f=>.cons (f _ _ r) (Paired.Yb t f)
theorem Z0.Qi7(x:Z0 P w H h a o)(k:∀b u,(b=a\/H b=Ga (.own a))->h.get? b=Ga u->h'.get? b=Ga u)
  (i:∀b,H b=Ga (.own a)->H' b=Ga (.own a))(j:∀b xs,H b=Ga (.tup xs)->H' b=Ga (.tup xs)):Z0 P w H' h' a o:=by
 induction o with
 |lst xs=>obtain⟨z,its,n,r,e⟩:=x;exact⟨z,its,n,r,k _ _ (.inl Xb) e⟩
 |tup xs=>obtain⟨z,its,r,ob,e,c⟩:=x;exact⟨z,its,r,ob,k _ _ (.inl Xb) e,c⟩
 |dK kvs=>obtain⟨z,y,vs,r,ob,es,ep,e,c⟩:=x;exact⟨z,y,vs,r,ob,es,ep,k _ _ (.inl Xb) e,c⟩
 |dT kvs=>obtain⟨z,y,xs,r,ob,es,ep,e,c⟩:=x;exact⟨z,y,xs,Paired.Yb r λp q z=>⟨z.1,j _ _ z.2.1,z.2.2⟩,ob,es,ep,k _ _ (.inl Xb) e,c⟩
 |set S n=>obtain⟨ob,es,ep,t,e,c⟩:=x;exact⟨ob,es,ep,t,k _ _ (.inl Xb) e,c⟩
 |ins C dx fs=>obtain⟨d,z,ne,e,mA,⟨od,es,ep,g,c⟩,r⟩:=x;exact⟨i _ d,z,ne,k _ _ (.inl Xb) e,mA,⟨od,es,ep,k _ _ (.inr d) g,c⟩,r⟩
 |own y=>obtain⟨ob,e⟩:=x;exact⟨ob,k _ _ (.inl Xb) e⟩
 |xd fs=>obtain⟨mA,⟨od,es,ep,e,c⟩,r⟩:=x;exact⟨mA,⟨od,es,ep,k _ _ (.inl Xb) e,c⟩,r⟩
 |rng lo hi=>obtain⟨t,u,v,e⟩:=x;exact⟨t,u,v,k _ _ (.inl Xb) e⟩
 |frz ob u l=>obtain⟨e,q⟩:=x;exact⟨k _ _ (.inl Xb) e,l q⟩
 |tbl ps=>have e:h.get? a=Ga {cls:=.none,data:=.fields ps}:=x;show h'.get? a=Ga {cls:=.none,data:=.fields ps};exact k a _ (.inl Xb) e
 |met f y=>have e:h.get? a=Ga (PySem.W.methodObj (.ref f) (.ref y)):=x;show h'.get? a=Ga (PySem.W.methodObj (.ref f) (.ref y));exact k a _ (.inl Xb) e
 |ext φ=>obtain⟨p,⟨o,e⟩,st⟩:=x;exact⟨st _ _ p λo q=>k _ _ (.inl Xb) q,⟨o,k _ _ (.inl Xb) e⟩,st⟩
theorem Rf.lt(x:Rf P w H h)(e:H a=Ga o):a<h.objs.size:=(x a o e).lt
theorem Rf.fresh(x:Rf P w H h)(e:h.objs.size<=a):H a=Ge:=by
 cases q:H a with
 |none=>rfl
 |some u=>exact absurd (Ta (x.lt q) e) (Dx _)
theorem Rf.kept(x:Rf P w H h)(k:∀b u,h.get? b=Ga u->h'.get? b=Ga u):Rf P w H h':=λa o e=>(x a o e).Qi7 (λb u _ q=>k b u q) (λ_ q=>q) λ_ _ q=>q
theorem Rf.laid(x:Rf P w H h)(k:∀b u,h.get? b=Ga u->h'.get? b=Ga u)(f:h.objs.size<=a)(new:Z0 P w (upd H a o) h' a o):Rf P w (upd H a o) h':=λb u e=>by
 have d:=x.fresh f;by_cases hb:b=a
 ·subst hb;rw[Qb]at e;cases e;exact new
 ·rw[Qg hb]at e;exact(x b u e).Qi7 (λc v _ q=>k c v q) (λc q=>by rw[Qg (Qc q d)];exact q) λc xs q=>by rw[Qg (Qc q d)];exact q
end
def Rd(H:Hp)(a:Gc)(u:HO):Prop:=H a=Ga u\/∃o,H a=Ga (.frz o u)
theorem Rd.ok{h:Heap}{u:HO}(r:Rd H a u)(x:Rf P w H h):Z0 P w H h a u:=by
 rcases r with r|⟨o,r⟩
 ·exact x a u r
 ·obtain⟨_,q⟩:=x a _ r;exact q
def Mut:Option HO->Prop
 |some (.lst _)=>True
 |some (.dK _)=>True
 |some (.dT _)=>True
 |some (.set _ _)=>True
 |some (.ins _ _ _)=>True
 |some (.ext _)=>True
 |_=>False
section
variable{P:Gj}{w:Gs}{H:Hp}{h h':Heap}{x e:Gc}{o':HO}
theorem Rf.write(ok:Rf P w H h)(mu:Mut (H x))(j:e=x\/H e=Ga (.own x))(k:∀b u,b≠e->h.get? b=Ga u->h'.get? b=Ga u)(i:∃u,h'.get? e=Ga u)
  (new:Z0 P w (upd H x o') h' x o'):Rf P w (upd H x o') h':=λb u q=>by
 have d:∀c y,H c=Ga (.own y)->c≠x:=λc y r z=>by subst z;rw[r]at mu;exact mu
 have f:∀c xs,H c=Ga (.tup xs)->c≠x:=λc xs r z=>by subst z;rw[r]at mu;exact mu
 by_cases hb:b=x
 ·subst hb;rw[Qb]at q;cases q;exact new
 ·rw[Qg hb]at q;by_cases a:b=e
  ·have l:H b=Ga (.own x):=by
    rcases j with z|z
    ·exact absurd (a.trans z) hb
    ·rw[a];exact z
   rw[q]at l;cases l;obtain⟨v,m⟩:=i;exact⟨v,by rw[a];exact m⟩
  ·refine(ok b u q).Qi7 (λc v g r=>k c v ?_ r) (λc r=>by rw[Qg (d c b r)];exact r) λc xs r=>by rw[Qg (f c xs r)];exact r
   rcases g with rfl|g
   ·exact a
   ·rintro rfl;rcases j with z|z
    ·exact d c b g z
    ·rw[g]at z;cases z;exact hb rfl
end
structure Un(fs ex:List Gc)(H H':Hp)(h h':Heap):Prop where
 keep:∀b o,h.get? b=Ga o->H b=Ge->b∉fs->b∉ex->h'.get? b=Ga o
 slot:∀b o,h.get? b=Ga o->H b=Ge->b∈fs->b∉ex->∃sl,h'.get? b=Ga {o with slots:=sl}
 free:∀b o,h.get? b=Ga o->H b=Ge->b∉ex->H' b=Ge
 there:∀b o,h.get? b=Ga o->b∉ex->∃o',h'.get? b=Ga o'
 Qk:∀b xs,H b=Ga (.tup xs)->H' b=Ga (.tup xs)
 Ow:∀b o u,H b=Ga (.frz o u)->H' b=Ga (.frz o u)
 Qbo:∀b ps,H b=Ga (.tbl ps)->∃more,H' b=Ga (.tbl (ps++more))
section
variable{fs fs' ex ex':List Gc}{H H1 H2:Hp}{h h1 h2 h':Heap}{a x e:Gc}{o:HO}
theorem Un.any(u:Un fs ex H H1 h h1){ob:DL}(q:h.get? b=Ga ob)(n:H b=Ge)(a:b∉ex):∃sl,h1.get? b=Ga {ob with slots:=sl}:=by
 by_cases hb:b∈fs
 ·exact u.slot b ob q n hb a
 ·exact⟨ob.slots,u.keep b ob q n hb a⟩
theorem Un.trans(a:Un fs ex H H1 h h1)(b:Un fs ex H1 H2 h1 h2):Un fs ex H H2 h h2 where
 keep:=λc ob q n f d=>b.keep c ob (a.keep c ob q n f d) (a.free c ob q n d) f d
 slot:=λc ob q n f d=>by obtain⟨sl,e⟩:=a.slot c ob q n f d;obtain⟨i,g⟩:=b.slot c _ e (a.free c ob q n d) f d;exact⟨i,g⟩
 free:=λc ob q n d=>by obtain⟨o',e⟩:=a.there c ob q d;exact b.free c o' e (a.free c ob q n d) d
 there:=λc ob q d=>by obtain⟨o',e⟩:=a.there c ob q d;exact b.there c o' e d
 Qk:=λc xs q=>b.Qk c xs (a.Qk c xs q)
 Ow:=λc ob xs q=>b.Ow c ob xs (a.Ow c ob xs q)
 Qbo:=λc ps q=>by obtain⟨j,e⟩:=a.Qbo c ps q;obtain⟨k,g⟩:=b.Qbo c _ e;exact⟨j++k,by rw[g,SD]⟩
theorem Un.kept(k:∀b u,h.get? b=Ga u->h'.get? b=Ga u):Un fs ex H H h h':=
 ⟨λb ob q _ _ _=>k b ob q,λb ob q _ _ _=>⟨ob.slots,k b ob q⟩,λ_ _ _ n _=>n,λb ob q _=>⟨ob,k b ob q⟩,λ_ _ q=>q,λ_ _ _ q=>q,λ_ ps q=>⟨#[],by rw[q];simp⟩⟩
theorem Un.refl:Un fs ex H H h h:=Un.kept λ_ _ q=>q
theorem Un.laid(k:∀b u,h.get? b=Ga u->h'.get? b=Ga u)(d:h.objs.size<=a)(c:H a=Ge):Un fs ex H (upd H a o) h h' where
 keep:=λb u q _ _ _=>k b u q
 slot:=λb u q _ _ _=>⟨u.slots,k b u q⟩
 free:=λb u q n _=>by rw[Qg (GV (Ta (Heap.lt_size q) d))];exact n
 there:=λb u q _=>⟨u,k b u q⟩
 Qk:=λb xs q=>by rw[Qg (Qc q c)];exact q
 Ow:=λb u xs q=>by rw[Qg (Qc q c)];exact q
 Qbo:=λb ps q=>⟨#[],by rw[Qg (Qc q c),q];simp⟩
theorem Un.write(mu:Mut (H x))(g:e=x\/H e=Ga (.own x))(k:∀b u,b≠e->h.get? b=Ga u->h'.get? b=Ga u)(c:∃u,h'.get? e=Ga u):Un fs ex H (upd H x o) h h':=by
 have f:∀b,H b=Ge->b≠x:=λb n z=>by subst z;rw[n]at mu;exact mu
 have hb:∀b,H b=Ge->b≠e:=λb n z=>by
  subst z;rcases g with r|r
  ·exact f b n r
  ·rw[n]at r;cases r
 have d:∀b u,H b=Ga u->¬Mut (Ga u)->b≠x:=λb u q i z=>by subst z;rw[q]at mu;exact i mu
 refine⟨λb u q n _ _=>k b u (hb b n) q,λb u q n _ _=>⟨u.slots,k b u (hb b n) q⟩,λb u q n _=>by rw[Qg (f b n)];exact n,λb u q _=>?_,
  λb xs q=>by rw[Qg (d b _ q λz=>z)];exact q,λb u xs q=>by rw[Qg (d b _ q λz=>z)];exact q,λb ps q=>⟨#[],by rw[Qg (d b _ q λz=>z),q];simp⟩⟩
 by_cases a:b=e
 ·subst a;exact c
 ·exact⟨u,k b u a q⟩
end
def trk(h:Heap)(H:Hp):List Gc:=(List.range h.objs.size).filter λa=>(H a).isSome
def Qgz(h:Heap)(H:Hp):Heap:=PySem.W.hideAll h (trk h H)
theorem Qo1(h:Heap)(H:Hp):(Qgz h H).objs.size=h.objs.size:=PySem.W.hideAll_size _ _
theorem Qpj{h:Heap}(e:h.get? b=Ga o)(n:H b=Ge):(Qgz h H).get? b=Ga o:=
 PySem.W.hideAll_get _ e λa=>by have q:(H b).isSome=Gf:=(List.mem_filter.mp a).2;rw[n]at q;simp at q
theorem Qvm{h:Heap}(e:(Qgz h H).get? b=Ga o):h.get? b=Ga o/\H b=Ge:=by
 have a:h.get? b=Ga o:=PySem.W.of_hideAll (trk h H) e;refine⟨a,?_⟩;cases q:H b with
 |none=>rfl
 |some x=>have c:b∈trk h H:=List.mem_filter.mpr ⟨List.mem_range.mpr (Heap.lt_size a),by simp[q]⟩;have z:(Qgz h H).get? b=Ge:=PySem.W.hideAll_none (trk h H) c;rw[z]at e;cases e
def Qtv(g h:Heap)(L:Gc):List (Gc×DL):=(List.range h.objs.size).filterMap λa=>if a=L\/(g.get? a).isSome=Gf then Ge else(h.get? a).map λo=>(a,o)
def Ws(g h:Heap)(L d:Gc):List (Gc×DL):=(Qtv g h L).filter λp=>decide (p.1≠d)
structure Mod(K:PySem.W.Frag)(mg:Gy->Option Value)(base:Heap):Prop where
 kin:K.In base
 glob:base.Ns T8 mg
 blt:∃mb,base.Ns builtinsNs mb/\∀x:Gy,x≠"__name__"->mb x=bootBuiltins x
 nolimit:base.NoLimit
structure Cx where
 prog:Gj
 w:Gs
 K:PySem.W.Frag
 mg:Gy->Option Value
 base:Heap
 A:Tv
 N:List Gy
 s₀:Gi
 H₀:Hp
 env:SM
 outer:List SM
 stack:List SM
 ex:List Gc
 fn:Gy->Bool
 calm:Bool
 pn:List (Gc×DL)
 xe:Value->Gi->Prop
variable{X:Cx}
def frs(l:List SM):List Gc:=l.filterMap (·.frame)
abbrev Cx.fs(X:Cx):List Gc:=frs X.outer
def Vis(a:EV)(x:Gy):Prop:=a.names.lookup x=Ga .local\/a.names.lookup x=Ga .cell\/a.names.lookup x=Ga .free
def Loc(a:EV)(x:Gy):Prop:=a.names.lookup x=Ga .local\/a.names.lookup x=Ga .cell
def Look(env:SM)(h:Heap)(m:Gy->Option Value)(x:Gy)(u:Value):Prop:=
 (env.kindOf x=Ga .local/\m x=Ga u)\/((env.kindOf x=Ga .cell\/env.kindOf x=Ga .free)/\∃c,env.cells.lookup x=Ga c/\h.IsCell c (Ga u))
structure Cx.Ok(X:Cx):Prop where
 mod:Mod X.K X.mg X.base
 kind:X.env.scope.kind=.function
 glob:X.env.globals=T8
 blt:X.env.builtins=builtinsNs
 above:X.s₀.heap.objs.size<=X.env.locals
 inj:∀x y c,X.env.cells.lookup x=Ga c->X.env.cells.lookup y=Ga c->x=y
 has:∀x,(X.env.kindOf x=Ga .cell\/X.env.kindOf x=Ga .free)->∃c,X.env.cells.lookup x=Ga c
 cab:∀x c,X.fn x=Gf->X.env.cells.lookup x=Ga c->X.s₀.heap.objs.size<=c
 hd:X.calm=Gf->X.A.handled=Ge
 frames:X.A.frames=Ga X.stack
 stk:X.stack=X.outer\/(X.stack=X.env::X.outer/\X.env.frame=Ga X.env.locals)
 exf:∀b∈X.ex,b≠X.env.locals/\∀x c,X.env.cells.lookup x=Ga c->c≠b
 bs:∀b o,X.base.get? b=Ga o->X.s₀.heap.get? b=Ga o/\X.H₀ b=Ge
 bsz:X.base.objs.size<=X.s₀.heap.objs.size
 Qqo:∀b o,X.base.get? b=Ga o->b∉X.ex
 Qvi:∀b∈X.ex,b∉X.fs
 Qbp:X.s₀.heap.FunFrames X.base X.outer
 frf:∀b∈X.fs,X.H₀ b=Ge
structure Inv(X:Cx)(pins:List (Gc×DL))(σ:List (Option V))(H:Hp)(s:Gi):Prop where
 ok:X.Ok
 os:s.os=X.s₀.os
 bare:EJ s.gens
 base:Un X.fs X.ex X.H₀ H X.s₀.heap s.heap
 loc:∃m,s.heap.Ns X.env.locals m/\∀(i:Nat)(x:Gy)(v:V),X.N[i]?=Ga x->σ[i]?=Ga (Ga v)->Vis X.env.scope x->∃u,RelV v u/\Look X.env s.heap m x u
 cell:∀x c,X.env.cells.lookup x=Ga c->∃v,s.heap.IsCell c v
 free:H X.env.locals=Ge
 Jt:∀x c,X.env.cells.lookup x=Ga c->H c=Ge
 pin:∀p∈X.pn++pins,s.heap.get? p.1=Ga p.2/\H p.1=Ge/\p.1≠X.env.locals/\p.1∉X.fs/\∀v,p.2.data≠.cell v
 Zu:Rf X.prog X.w H s.heap
 len:σ.length=X.N.length
section
variable{X:Cx}{pins:List (Gc×DL)}{σ:List (Option V)}{H H':Hp}{s:Gi}{h':Heap}
theorem Cx.Ok.Q2l(ok:X.Ok)(e:X.base.get? b=Ga o):b∉X.fs:=λhb=>by have:=(ok.Qbp.mem hb).1;rw[e]at this;cases this
theorem Inv.bs(I:Inv X pins σ H s):∀b o,X.base.get? b=Ga o->s.heap.get? b=Ga o/\H b=Ge:=λb o e=>⟨I.base.keep b o (I.ok.bs b o e).1 (I.ok.bs b o e).2 (I.ok.Q2l e) (I.ok.Qqo b o e),I.base.free b o (I.ok.bs b o e).1 (I.ok.bs b o e).2 (I.ok.Qqo b o e)⟩
theorem Inv.bk(I:Inv X pins σ H s):∀b o,X.base.get? b=Ga o->s.heap.get? b=Ga o:=λb o e=>(I.bs b o e).1
theorem Inv.mod(I:Inv X pins σ H s):Mod X.K X.mg X.base:=I.ok.mod
theorem Inv.Jw(I:Inv X pins σ H s):X.K.In s.heap:=I.ok.mod.kin.keeps I.bk
theorem Inv.lt(I:Inv X pins σ H s):X.env.locals<s.heap.objs.size:=let⟨_,hn,_⟩:=I.loc;hn.lt
theorem Inv.sz(I:Inv X pins σ H s):X.s₀.heap.objs.size<=s.heap.objs.size:=TL I.ok.above (E2 I.lt)
theorem Inv.Q2y(I:Inv X pins σ H s)(h:s.heap.objs.size<=a):a∉X.fs:=λhb=>by obtain⟨_,o,b,_⟩:=I.ok.Qbp.mem hb;exact absurd (Ta (Heap.lt_size b) (TL I.sz h)) (Dx _)
theorem Inv.cne(I:Inv X pins σ H s):∀x c,X.env.cells.lookup x=Ga c->c≠X.env.locals:=λx c e z=>by obtain⟨v,o,d,hd⟩:=I.cell x c e;obtain⟨m,⟨o',es,ep,b,a,_⟩,_⟩:=I.loc;rw[z,b]at d;cases d;rw[a]at hd;cases hd
theorem Inv.Qbp(I:Inv X pins σ H s):s.heap.FunFrames X.base X.outer:=by
 have all:∀(l:List SM),(∀b∈frs l,b∈X.fs)->X.s₀.heap.FunFrames X.base l->s.heap.FunFrames X.base l:=by
  intro l;induction l with
  |nil=>intro _ _;trivial
  |cons env r k=>intro d g;obtain⟨f,⟨L,o,c,h,i,hd⟩,j⟩:=g;have a:L∈X.fs:=d L (by unfold frs;rw[List.filterMap_cons,c];exact List.mem_cons_self);obtain⟨sl,e⟩:=I.base.slot L o i (I.ok.frf L a) a λz=>I.ok.Qvi L z a;exact⟨f,⟨L,_,c,h,e,hd⟩,k (λb hb=>d b (by unfold frs;rw[List.filterMap_cons,c];exact List.mem_cons_of_mem _ hb)) j⟩
 exact all X.outer (λ_ hb=>hb) I.ok.Qbp
theorem Inv.stack(I:Inv X pins σ H s):s.heap.FunFrames X.base X.stack:=by
 rcases I.ok.stk with e|⟨e,a⟩
 ·rw[e];exact I.Qbp
 ·rw[e];obtain⟨m,b,_⟩:=I.loc;refine .cons (by rw[I.ok.kind];decide) a b ?_ I.Qbp;exact Heap.get?_none_of_le (TL I.ok.bsz I.ok.above)
theorem Inv.Qg0(I:Inv X pins σ H s):∀b∈frs X.stack,b∈X.env.locals::X.fs:=λb hb=>by
 rcases I.ok.stk with e|⟨e,a⟩
 ·rw[e]at hb;exact List.mem_cons_of_mem _ hb
 ·rw[e]at hb;unfold frs at hb;rw[List.filterMap_cons,a]at hb;exact hb
theorem Inv.Qmp(I:Inv X pins σ H s):∀b∈frs X.stack,H b=Ge:=λb hb=>by
 rcases List.mem_cons.mp (I.Qg0 b hb)with e|hb
 ·rw[e];exact I.free
 ·obtain⟨_,o,a,_⟩:=I.ok.Qbp.mem hb;exact I.base.free b o a (I.ok.frf b hb) λz=>I.ok.Qvi b z hb
theorem Inv.step{g':Array GenState}{t':Nat}{d':Drawn}{ch:List Gc}(I:Inv X pins σ H s)
  (g:∀b∈ch,(b∈X.ex\/X.s₀.heap.objs.size<=b)/\b≠X.env.locals/\(∀x c,X.env.cells.lookup x=Ga c->c≠b)/\∀p∈X.pn++pins,p.1≠b)
  (keep:∀b o,b≠X.env.locals->b∉X.fs->b∉ch->s.heap.get? b=Ga o->H b=Ge->h'.get? b=Ga o)
  (slot:∀b o,b≠X.env.locals->b∈X.fs->b∉ch->s.heap.get? b=Ga o->H b=Ge->∃sl,h'.get? b=Ga {o with slots:=sl})(free:∀b o,b∉ch->s.heap.get? b=Ga o->H b=Ge->H' b=Ge)
  (there:∀b o,b∉ch->s.heap.get? b=Ga o->∃o',h'.get? b=Ga o')
  (Qk:∀b xs,H b=Ga (.tup xs)->H' b=Ga (.tup xs))(Ow:∀b o u,H b=Ga (.frz o u)->H' b=Ga (.frz o u))(Qbo:∀b ps,H b=Ga (.tbl ps)->∃more,H' b=Ga (.tbl (ps++more)))
  (ns:∀m,s.heap.Ns X.env.locals m->h'.Ns X.env.locals m)(Zu:Rf X.prog X.w H' h')(J:EJ g'):
  Inv X pins σ H' {s with heap:=h',gens:=g',drawn:=d',toks:=t'}:=by
 have B:∀b o,X.s₀.heap.get? b=Ga o->b≠X.env.locals:=λb o e=>GV (Ta (Heap.lt_size e) I.ok.above);have t:∀b o,X.s₀.heap.get? b=Ga o->b∉X.ex->b∉ch:=λb o e a hb=>by
  rcases(g b hb).1 with z|z
  ·exact a z
  ·exact absurd (Ta (Heap.lt_size e) z) (Dx _)
 have f:∀x c,X.env.cells.lookup x=Ga c->∀v,s.heap.IsCell c v->h'.IsCell c v:=λx c e v⟨o,y,hd⟩=>by
  have h:c∉ch:=λz=>(g c z).2.2.1 x c e rfl;by_cases D:c∈X.fs
  ·obtain⟨sl,q⟩:=slot c o (I.cne x c e) D h y (I.Jt x c e);exact⟨_,q,hd⟩
  ·exact⟨o,keep c o (I.cne x c e) D h y (I.Jt x c e),hd⟩
 refine⟨I.ok,I.os,J,⟨λb o e n hb a=>?_,λb o e n hb a=>?_,λb o e n a=>?_,λb o e a=>?_,λb xs e=>Qk b xs (I.base.Qk b xs e),λb o xs e=>Ow b o xs (I.base.Ow b o xs e),λb ps e=>?_⟩,?_,λx c e=>?_,?_,λx c e=>?_,λp E=>?_,Zu,I.len⟩
 ·exact keep b o (B b o e) hb (t b o e a) (I.base.keep b o e n hb a) (I.base.free b o e n a)
 ·obtain⟨sl,j⟩:=I.base.slot b o e n hb a;obtain⟨C,A⟩:=slot b _ (B b o e) hb (t b o e a) j (I.base.free b o e n a);exact⟨C,A⟩
 ·obtain⟨o',j⟩:=I.base.there b o e a;exact free b o' (t b o e a) j (I.base.free b o e n a)
 ·obtain⟨o',j⟩:=I.base.there b o e a;exact there b o' (t b o e a) j
 ·obtain⟨M,j⟩:=I.base.Qbo b ps e;obtain⟨N,A⟩:=Qbo b _ j;exact⟨M++N,by rw[A,SD]⟩
 ·obtain⟨m,L,K⟩:=I.loc;refine⟨m,ns m L,λi x v j A G=>?_⟩;obtain⟨u,r,l⟩:=K i x v j A G;refine⟨u,r,?_⟩;rcases l with l|⟨k,c,e,z⟩
  ·exact .inl l
  ·exact .inr ⟨k,c,e,f x c e _ z⟩
 ·obtain⟨v,z⟩:=I.cell x c e;exact⟨v,f x c e v z⟩
 ·obtain⟨m,⟨o,_,_,y,_⟩,_⟩:=I.loc;exact free _ o (λz=>(g _ z).2.1 Xb) y I.free
 ·obtain⟨v,o,y,hd⟩:=I.cell x c e;exact free c o (λz=>(g c z).2.2.1 x c e Xb) y (I.Jt x c e)
 ·obtain⟨e,n,ne,F,d⟩:=I.pin p E;have h:p.1∉ch:=λz=>(g p.1 z).2.2.2 p E rfl;exact⟨keep p.1 p.2 ne F h e n,free p.1 p.2 h e n,ne,F,d⟩
theorem Inv.un(I:Inv X pins σ H s)(u:Un X.fs [] H H' s.heap h')(Zu:Rf X.prog X.w H' h'):Inv X pins σ H' {s with heap:=h',toks:=t'}:=by obtain⟨m,⟨o,es,ep,f,r⟩,_⟩:=id I.loc;obtain⟨sl,g⟩:=u.any f I.free (by simp);exact I.step (g':=s.gens) (d':=s.drawn) (ch:=[]) (λ_ z=>nomatch z) (λb o _ hb _ e n=>u.keep b o e n hb (by simp)) (λb o _ hb _ e n=>u.slot b o e n hb (by simp)) (λb o _ e n=>u.free b o e n (by simp)) (λb o _ e=>u.there b o e (by simp)) u.Qk u.Ow u.Qbo (λj h=>by obtain⟨o',d,c,a,i⟩:=h;rw[f]at a;cases a;exact⟨_,d,c,g,i⟩) Zu I.bare
theorem Inv.call{g':Array GenState}{d':Drawn}{ch:List Gc}(I:Inv X pins σ H s)(u:Un (frs X.stack) ch H H' s.heap h')(Zu:Rf X.prog X.w H' h')(k:EJ g')
  (d:∀b∈ch,(b∈X.ex\/X.s₀.heap.objs.size<=b)/\b≠X.env.locals/\(∀x c,X.env.cells.lookup x=Ga c->c≠b)/\∀p∈X.pn++pins,p.1≠b):
  Inv X pins σ H' {s with heap:=h',gens:=g',drawn:=d',toks:=t'}:=by
 obtain⟨m,⟨o,es,ep,j,r⟩,_⟩:=id I.loc;obtain⟨sl,i⟩:=u.any j I.free λz=>(d _ z).2.1 rfl;exact I.step (ch:=ch) d (λb o i hb a e n=>u.keep b o e n (λz=>(List.mem_cons.mp (I.Qg0 b z)).elim i hb) a) (λb o _ _ a e n=>u.any e n a) (λb o a e n=>u.free b o e n a) (λb o a e=>u.there b o e a) u.Qk u.Ow u.Qbo (λt l=>by obtain⟨o',h,g,f,q⟩:=l;rw[j]at f;cases f;exact⟨_,h,g,i,q⟩) Zu k
theorem Inv.turned{it:Gc}(I:Inv X pins σ H s)(k:∀b o,b≠it->s.heap.get? b=Ga o->h'.get? b=Ga o)(i:H it=Ge)(f:it≠X.env.locals)
  (h1:it∈X.ex\/X.s₀.heap.objs.size<=it)(h2:∀x c,X.env.cells.lookup x=Ga c->c≠it)(g:∀p∈X.pn++pins,p.1≠it):Inv X pins σ H {s with heap:=h',toks:=t'}:=by
 have d:∀b u,H b=Ga u->b≠it:=λb u e z=>by rw[z,i]at e;cases e
 refine I.step (g':=s.gens) (d':=s.drawn) (ch:=[it]) (λb hb=>?_) (λb o _ _ a e _=>k b o (λz=>a (by simp[z])) e) (λb o _ _ a e _=>⟨o.slots,k b o (λz=>a (by simp[z])) e⟩) (λ_ _ _ _ n=>n)
  (λb o a e=>⟨o,k b o (λz=>a (by simp[z])) e⟩) (λ_ _ e=>e) (λ_ _ _ e=>e) (λb ps e=>⟨#[],by rw[e];simp⟩) (λm h=>?_) (λb u e=>?_) I.bare
 ·have e:b=it:=by simpa using hb
  subst e;exact⟨h1,f,h2,g⟩
 ·obtain⟨o,es,ep,j,r⟩:=h;exact⟨o,es,ep,k _ o (Gn f) j,r⟩
 ·refine(I.Zu b u e).Qi7 (λc v a q=>k c v ?_ q) (λ_ q=>q) λ_ _ q=>q;rcases a with z|z
  ·rw[z];exact d b u e
  ·exact d c _ z
theorem Inv.tok(I:Inv X pins σ H s)(t:Nat):Inv X pins σ H {s with toks:=t}:=I.un (h':=s.heap) (t':=t) Un.refl I.Zu
theorem Inv.kept{t':Nat}(I:Inv X pins σ H s)(k:∀b u,s.heap.get? b=Ga u->h'.get? b=Ga u):Inv X pins σ H {s with heap:=h',toks:=t'}:=I.un (Un.kept k) (I.Zu.kept k)
theorem Inv.laid{a:Gc}{o:HO}{t':Nat}(I:Inv X pins σ H s)(k:∀b u,s.heap.get? b=Ga u->h'.get? b=Ga u)(c:s.heap.objs.size<=a)(new:Z0 X.prog X.w (upd H a o) h' a o):
  Inv X pins σ (upd H a o) {s with heap:=h',toks:=t'}:=I.un (Un.laid k c (I.Zu.fresh c)) (I.Zu.laid k c new)
theorem Inv.write{x e:Gc}{o:HO}{t':Nat}(I:Inv X pins σ H s)(mu:Mut (H x))(c:e=x\/H e=Ga (.own x))(k:∀b u,b≠e->s.heap.get? b=Ga u->h'.get? b=Ga u)(a:∃u,h'.get? e=Ga u)
  (new:Z0 X.prog X.w (upd H x o) h' x o):Inv X pins σ (upd H x o) {s with heap:=h',toks:=t'}:=I.un (Un.write mu c k a) (I.Zu.write mu c k a new)
theorem Inv.Qmx{a:List (Gc×DL)}(I:Inv X pins σ H s)(h:∀p∈a,s.heap.get? p.1=Ga p.2/\H p.1=Ge/\p.1≠X.env.locals/\p.1∉X.fs/\∀v,p.2.data≠.cell v):Inv X a σ H s:=
 ⟨I.ok,I.os,I.bare,I.base,I.loc,I.cell,I.free,I.Jt,λp b=>(List.mem_append.mp b).elim (λz=>I.pin p (List.mem_append_left _ z)) (h p),I.Zu,I.len⟩
theorem Qhq(e:N.Nodup){j:Nat}(a:N[i]?=Ga x)(b:N[j]?=Ga x):i=j:=by obtain⟨h1,c⟩:=List.getElem?_eq_some_iff.mp a;obtain⟨h2,d⟩:=List.getElem?_eq_some_iff.mp b;exact(List.getElem_inj e).mp (c.trans d.symm)
theorem Qfa{Q:Unit->Gi->Prop}(I:Inv X pins σ H s)(hN:X.N.Nodup)(hi:X.N[i]?=Ga x)(B:Loc X.env.scope x)(r:RelV v u)
  (h:∀s',Inv X pins (σ.set i (Ga v)) H s'->(∃a,Heap.SameBut a s.heap s'.heap/\(a=X.env.locals\/X.env.cells.lookup x=Ga a))->Q () s')(hf:X.fn x=Gf\/X.env.scope.names.lookup x=Ga .local:=by first|exact .inl rfl|exact .inr rfl|assumption):wpAny M A (storeName X.env x u) Q E s:=by
 obtain⟨m,W,hl⟩:=id I.loc;have P:(X.env.scope.kind==.class||(X.env.scope.kind==.module&&X.env.locals !=X.env.globals))=Gp:=by rw[I.ok.kind];rfl
 have F:i<σ.length:=by rw[I.len];exact(List.getElem?_eq_some_iff.mp hi).1
 have cne:=I.cne;have l:∀{a:Gc}{h':Heap},(∃o,s.heap.get? a=Ga o/\H a=Ge)->Heap.SameBut a s.heap h'->Rf X.prog X.w H h':=λ{a h'}ha f b ob e=>by
  obtain⟨_,_,C⟩:=ha;refine(I.Zu b ob e).Qi7 (λc U t q=>(f.2 c ?_).trans q) (λ_ q=>q) λ_ _ q=>q;rintro rfl;rcases t with rfl|t
  ·rw[C]at e;cases e
  ·rw[C]at t;cases t
 rcases B with G|G
 ·refine wpAny_storeName_local G W (λh' Y f=>?_) P;obtain⟨oL,_,_,Z,_⟩:=id W;refine h _ ⟨I.ok,I.os,I.bare,⟨λb o e n hb B=>?_,λb o e n hb B=>?_,I.base.free,λb o e B=>?_,I.base.Qk,I.base.Ow,I.base.Qbo⟩,⟨_,Y,λj y v' g D V=>?_⟩,λy c e=>?_,I.free,I.Jt,λp hp=>?_,l ⟨oL,Z,I.free⟩ f,by simpa using I.len⟩ ⟨_,f,.inl Xb⟩
  ·exact(f.2 b (GV (Ta (Heap.lt_size e) I.ok.above))).trans (I.base.keep b o e n hb B)
  ·obtain⟨sl,g⟩:=I.base.slot b o e n hb B;exact⟨sl,(f.2 b (GV (Ta (Heap.lt_size e) I.ok.above))).trans g⟩
  ·obtain⟨o',g⟩:=I.base.there b o e B;exact⟨o',(f.2 b (GV (Ta (Heap.lt_size e) I.ok.above))).trans g⟩
  ·by_cases K:j=i
   ·subst K;rw[hi]at g;cases g;rw[List.getElem?_set_self F]at D;cases D;exact⟨u,r,.inl ⟨G,by simp⟩⟩
   ·rw[List.getElem?_set_ne (Gn K)]at D;obtain⟨u',r',q⟩:=hl j y v' g D V;refine⟨u',r',?_⟩;rcases q with⟨k,e⟩|⟨k,c,e,z⟩
    ·refine .inl ⟨k,?_⟩;have:y≠x:=λe=>K (Qhq hN g (e▸hi));simp[this,e]
    ·exact .inr ⟨k,c,e,z.sameBut f (cne y c e)⟩
  ·obtain⟨U,z⟩:=I.cell y c e;exact⟨U,z.sameBut f (cne y c e)⟩
  ·obtain⟨e,n,ne,nf,d⟩:=I.pin p hp;exact⟨(f.2 p.1 ne).trans e,n,ne,nf,d⟩
 ·have J:X.fn x=Gf:=by
   rcases hf with z|z
   ·exact z
   ·rw[z]at G;cases G
  obtain⟨c,t⟩:=I.ok.has x (.inl G);obtain⟨U,z⟩:=I.cell x c t;refine wpAny_storeName_cell I.ok.kind G t z (λh' L f=>?_);obtain⟨oc,R,S⟩:=id z;refine h {s with heap:=h'} ⟨I.ok,I.os,I.bare,⟨λb o e n hb B=>?_,λb o e n hb B=>?_,I.base.free,λb o e B=>?_,I.base.Qk,I.base.Ow,I.base.Qbo⟩,⟨m,W.sameBut f (Gn (cne x c t)),λj y v' g D V=>?_⟩,λy T e=>?_,I.free,I.Jt,λp hp=>?_,l ⟨oc,R,I.Jt x c t⟩ f,by simpa using I.len⟩ ⟨c,f,.inr t⟩
  ·exact(f.2 b (GV (Ta (Heap.lt_size e) (I.ok.cab x c J t)))).trans (I.base.keep b o e n hb B)
  ·obtain⟨sl,g⟩:=I.base.slot b o e n hb B;exact⟨sl,(f.2 b (GV (Ta (Heap.lt_size e) (I.ok.cab x c J t)))).trans g⟩
  ·obtain⟨o',g⟩:=I.base.there b o e B;exact⟨o',(f.2 b (GV (Ta (Heap.lt_size e) (I.ok.cab x c J t)))).trans g⟩
  ·by_cases K:j=i
   ·subst K;rw[hi]at g;cases g;rw[List.getElem?_set_self F]at D;cases D;exact⟨u,r,.inr ⟨.inl G,c,t,L⟩⟩
   ·rw[List.getElem?_set_ne (Gn K)]at D;obtain⟨u',r',q⟩:=hl j y v' g D V;refine⟨u',r',?_⟩;rcases q with q|⟨k,T,e,z'⟩
    ·exact .inl q
    ·refine .inr ⟨k,T,e,z'.sameBut f ?_⟩;rintro rfl;exact K (Qhq hN g (I.ok.inj _ _ _ e t▸hi))
  ·by_cases O:T=c
   ·subst O;exact⟨_,L⟩
   ·obtain⟨w2,z2⟩:=I.cell y T e;exact⟨w2,z2.sameBut f O⟩
  ·obtain⟨e,n,ne,nf,d⟩:=I.pin p hp;refine⟨(f.2 p.1 ?_).trans e,n,ne,nf,d⟩;intro q;rw[q,R]at e;have q':oc=p.2:=Tc e;exact d U (by rw[<-q'];exact S)
theorem Qil{Q:Unit->Gi->Prop}(I:Inv X pins σ H s)(b:X.N.Nodup)(hi:X.N[i]?=Ga x)(d:Loc X.env.scope x)(r:RelV v u)
  (h:∀s',Inv X pins (σ.set i (Ga v)) H s'->Q () s')(c:X.fn x=Gf\/X.env.scope.names.lookup x=Ga .local:=by first|exact .inl rfl|exact .inr rfl|assumption):wpAny M A (storeName X.env x u) Q E s:=
 Qfa I b hi d r (λs' a _=>h s' a) c
theorem Inv.Qzk{s':Gi}{ch:List Gc}(I:Inv X pins σ H s)(f:s'.os=s.os)(u:Un (frs X.stack) ch H H' s.heap s'.heap)(Zu:Rf X.prog X.w H' s'.heap)(d:EJ s'.gens)
  (a:∀b∈ch,(b∈X.ex\/X.s₀.heap.objs.size<=b)/\b≠X.env.locals/\(∀x c,X.env.cells.lookup x=Ga c->c≠b)/\∀p∈X.pn++pins,p.1≠b):Inv X pins σ H' s':=by
 obtain⟨h',g',d',t',o'⟩:=s';have e:o'=s.os:=f;subst e;exact I.call (g':=g') (t':=t') (d':=d') u Zu d a
end
abbrev XK:=Value->Option Gc->Hp->Prop
abbrev St:=List (Option V)
variable{σ:St}
abbrev VK:=V->Hp->Prop
abbrev TE:=St->Hp->VK->Prop
variable{t te:TE}
abbrev TT:=St->Hp->(Bool->Hp->Prop)->Prop
abbrev TA:=St->Hp->(List V->Hp->Prop)->Prop
structure Ends where
 nx:St->Hp->Prop
 rt:VK
 bk:St->Hp->Prop:=λ_ _=>False
 ct:St->Hp->Prop:=λ_ _=>False
variable{D:Ends}
abbrev TS:=Ends->St->Hp->Prop
variable{tb:TS}
def EP(X:Cx)(pins:List (Gc×DL))(σ:St)(Q:VK)(u:Value)(s':Gi):Prop:=∃v H',Inv X pins σ H' s'/\RelV v u/\Q v H'
def TP(X:Cx)(pins:List (Gc×DL))(σ:St)(Q:Bool->Hp->Prop)(b:Bool)(s':Gi):Prop:=∃H',Inv X pins σ H' s'/\Q b H'
def AP(X:Cx)(pins:List (Gc×DL))(σ:St)(Q:List V->Hp->Prop)(us:List Value)(s':Gi):Prop:=∃vs H',Inv X pins σ H' s'/\Zs vs us/\Q vs H'
def SP(X:Cx)(pins:List (Gc×DL))(D:Ends)(f:Flow)(s':Gi):Prop:=
 match f with
 |.next=>∃a H',Inv X pins a H' s'/\D.nx a H'
 |.brk=>∃a H',Inv X pins a H' s'/\D.bk a H'
 |.cont=>∃a H',Inv X pins a H' s'/\D.ct a H'
 |.ret u=>∃v a H',Inv X pins a H' s'/\RelV v u/\D.rt v H'
def PE(X:Cx)(e:TJ)(t:TE):Prop:=
 ∀(pins:List (Gc×DL))(s:Gi)(σ:St)(H:Hp)(Q:VK),Inv X pins σ H s->t σ H Q->wpAny (GJ X.prog X.w) X.A (eval e X.env) (EP X pins σ Q) X.xe s
def PT(X:Cx)(e:TJ)(t:TT):Prop:=
 ∀(pins:List (Gc×DL))(s:Gi)(σ:St)(H:Hp)(Q:Bool->Hp->Prop),Inv X pins σ H s->t σ H Q->wpAny (GJ X.prog X.w) X.A (isTrue e X.env (eval e X.env)) (TP X pins σ Q) X.xe s
def PW(X:Cx)(e:TJ)(t:TT):Prop:=
 ∀(a:FN Value)(pins:List (Gc×DL))(s:Gi)(σ:St)(H:Hp)(Q:Bool->Hp->Prop),Inv X pins σ H s->t σ H Q->wpAny (GJ X.prog X.w) X.A (isTrue e X.env a) (TP X pins σ Q) X.xe s
theorem PW.pt{t:TT}(h:PW X e t):PT X e t:=h _
def PA(X:Cx)(es:List TJ)(t:TA):Prop:=
 ∀(pos:E1)(pins:List (Gc×DL))(s:Gi)(σ:St)(H:Hp)(Q:List V->Hp->Prop),Inv X pins σ H s->t σ H Q->wpAny (GJ X.prog X.w) X.A (spliced (Du pos (GX es X.env))) (AP X pins σ Q) X.xe s
def PS(X:Cx)(st:T4)(t:TS):Prop:=
 ∀(pins:List (Gc×DL))(s:Gi)(σ:St)(H:Hp)(D:Ends),Inv X pins σ H s->t D σ H->wpAny (GJ X.prog X.w) X.A (exec st X.env) (SP X pins D) X.xe s
def PSs(X:Cx)(st:List T4)(t:TS):Prop:=
 ∀(pins:List (Gc×DL))(s:Gi)(σ:St)(H:Hp)(D:Ends),Inv X pins σ H s->t D σ H->wpAny (GJ X.prog X.w) X.A (execs st X.env) (SP X pins D) X.xe s
theorem Yl{α:Type}{t:FN α}{Q b:α->Gi->Prop}(h:wpAny M A t Q E s)(c:∀a s,Q a s->b a s):wpAny M A t b E s:=Dh h c λ_ _ x=>x
section
variable{X:Cx}
theorem bin{a b:TJ}{ta tb:TE}(i:PE X a ta)(hb:PE X b tb){R:V->V->Hp->Prop}(I:Inv X pins σ H s)(h:ta σ H λx H1=>tb σ H1 λy H2=>R x y H2)
  {α:Type}{Q:α->Gi->Prop}{f:Value->Value->FN α}
  (j:∀v u s2 x y H2,Inv X pins σ H2 s2->RelV x v->RelV y u->R x y H2->wpAny (GJ X.prog X.w) X.A (f v u) Q X.xe s2):
  wpAny (GJ X.prog X.w) X.A (eval a X.env) (λv c=>wpAny (GJ X.prog X.w) X.A (eval b X.env) (λu d=>wpAny (GJ X.prog X.w) X.A (f v u) Q X.xe d) X.xe c) X.xe s:=by
 refine Yl (i pins s σ H _ I h) λv s1⟨x,H1,e,m,k⟩=>?_;refine Yl (hb pins s1 σ H1 _ e k) λu s2⟨y,H2,g,n,l⟩=>?_;exact j v u s2 x y H2 g m n l
def Vp(i:Nat):TE:=λσ H Q=>∃v,σ[i]?=Ga (Ga v)/\Q v H
def tC(v:V):TE:=λ_ H Q=>Q v H
theorem Qxn(g:X.N[i]?=Ga x)(o:Vis X.env.scope x)(hd:(x==("__debug__":Gy))=Gp:=by decide)(d:(x==("__classdict__":Gy))=Gp:=by decide):PE X (.Name x pos) (Vp i):=by
 intro pins s σ H Q I h;obtain⟨v,e,h⟩:=h;obtain⟨m,n,j⟩:=I.loc;obtain⟨u,r,l⟩:=j i x v g e o;have fin:EP X pins σ Q u s:=⟨v,H,I,r,h⟩;rcases l with⟨b,k⟩|⟨b,c,f,a⟩
 ·exact Lx (wpAny_loadName_local I.ok.kind b n k fin) hd
 ·rcases b with b|b
  ·exact Lx (wpAny_loadName_cell I.ok.kind b f a fin) hd
  ·exact Lx (wpAny_loadName_free I.ok.kind b f a fin d) hd
theorem Qj{i j pos}:PE X (.Constant (.int i) j pos) (tC (.int i)):=λ_ _ _ H _ I h=>wpAny_Constant_int ⟨.int i,H,I.tok _,⟨_,Xb⟩,h⟩
theorem Wk{b j pos}:PE X (.Constant (.bool b) j pos) (tC (.bl b)):=λ_ _ _ H _ I h=>Constant_bool ⟨.bl b,H,I,Xb,h⟩
theorem Ji{j pos}:PE X (.Constant .none j pos) (tC .non):=λ_ _ _ H _ I h=>Su ⟨.non,H,I,Xb,h⟩
theorem Q5{x j pos}:PE X (.Constant (.str x) j pos) (tC (.str x)):=λ_ _ _ H _ I h=>Calls.Constant_str ⟨.str x,H,I.tok _,⟨_,Xb⟩,h⟩
def Gl(X:Cx)(x:Gy):Prop:=X.env.kindOf x=Ga .globalImplicit
theorem Qcc(I:Inv X pins σ H s)(a:Gl X x)(b:X.mg x=Ga u)(h:Q u s)
  (hd:(x==("__debug__":Gy))=Gp:=by decide):wpAny (GJ X.prog X.w) X.A (eval (.Name x pos) X.env) Q E s:=
 EC I.ok.kind a (Calls.loadGlobal_global (by rw[I.ok.glob];exact I.mod.glob.keeps I.bk) b h) hd
theorem Vq(I:Inv X pins σ H s)(a:Gl X x)(b:X.mg x=Ge)(d:bootBuiltins x=Ga u)(h:Q u s)
  (c:x≠"__name__":=by decide)(hd:(x==("__debug__":Gy))=Gp:=by decide):wpAny (GJ X.prog X.w) X.A (eval (.Name x pos) X.env) Q E s:=by
 obtain⟨e,h1,h2⟩:=I.mod.blt;exact EC I.ok.kind a (Calls.loadGlobal_builtin (by rw[I.ok.glob];exact I.mod.glob.keeps I.bk) b (by rw[I.ok.blt];exact h1.keeps I.bk) ((h2 x c).trans d) h) hd
theorem Qvl(a:Gl X x)(b:X.mg x=Ga u)(r:RelV v u)(hd:(x==("__debug__":Gy))=Gp:=by decide):PE X (.Name x pos) (tC v):=
 λ_ _ _ H _ I h=>Qcc I a b ⟨v,H,I,r,h⟩ hd
theorem Xi(a:Gl X x)(b:X.mg x=Ge)(d:bootBuiltins x=Ga u)(r:RelV v u)(c:x≠"__name__":=by decide)(hd:(x==("__debug__":Gy))=Gp:=by decide):PE X (.Name x pos) (tC v):=
 λ_ _ _ H _ I h=>Vq I a b d ⟨v,H,I,r,h⟩ c hd
variable{a b:TJ}{ta tb:TE}{pos:E1}
def PC(X:Cx)(e:CmpOp)(a b:TJ)(t:TE):Prop:=
 ∀(pins:List (Gc×DL))(s:Gi)(σ:St)(H:Hp)(Q:VK),Inv X pins σ H s->t σ H Q->
  wpAny (GJ X.prog X.w) X.A (eval a X.env) (λv c=>wpAny (GJ X.prog X.w) X.A (eval b X.env) (λu d=>wpAny (GJ X.prog X.w) X.A (T5 e v u) (EP X pins σ Q) X.xe d) X.xe c) X.xe s
theorem Qse(b:TJ)(h:op≠.In)(h2:op≠.NotIn):behindInMarks op b=Gp:=by
 have a:(op==FJ)=Gp:=by cases op<;>first|rfl|exact absurd rfl h
 have c:(op==Fe)=Gp:=by cases op<;>first|rfl|exact absurd rfl h2
 cases b<;>simp[behindInMarks,a,c]
def Q21(ta:TE):TE:=λσ H Q=>ta σ H λx H1=>Q (.bl (decide (x=.non))) H1
def Q1b(ta:TE):TE:=λσ H Q=>ta σ H λx H1=>Q (.bl (!decide (x=.non))) H1
theorem RelV.Qio{x:V}{v:Value}(r:RelV x v):(v==Value.none)=decide (x=.non):=by
 cases x with
 |non=>cases r;rfl
 |bl _=>cases r;rfl
 |int _=>obtain⟨t,rfl⟩:=r;rfl
 |str _=>obtain⟨t,rfl⟩:=r;rfl
 |byt _=>obtain⟨t,rfl⟩:=r;rfl
 |flt _=>obtain⟨t,rfl⟩:=r;rfl
 |ref _=>cases r;rfl
 |ty _=>cases r;rfl
theorem Qy1{j pos'}(c:PE X a ta):PC X .Is a (.Constant .none j pos') (Q21 ta):=by intro pins s σ H Q I h;refine Yl (c pins s σ H _ I h) λv s1⟨x,H1,b,e,d⟩=>?_;exact Su (Ff ⟨.bl _,H1,b,by rw[e.Qio];rfl,d⟩)
theorem Qt4{j pos'}(c:PE X a ta):PC X .IsNot a (.Constant .none j pos') (Q1b ta):=by intro pins s σ H Q I h;refine Yl (c pins s σ H _ I h) λv s1⟨x,H1,b,e,d⟩=>?_;exact Su (Ly ⟨.bl _,H1,b,by rw[e.Qio];rfl,d⟩)
def tB(t:TE):TT:=λσ H Q=>t σ H λx H1=>∃c,x=.bl c/\Q c H1
theorem Qae(h:PC X op a b t)(h1:behindInMarks op b=Gp:=by first|exact Qse _ (by decide) (by decide)|rfl):PT X (.Compare a [op] [b] pos) (tB t):=by intro pins s σ H Q I hw;refine Sd (Yl (h pins s σ H _ I hw) λv s1 h1=>Yl h1 λu s2 h2=>Yl h2 λc i⟨x,H1,e,g,f⟩=>?_) h1;obtain⟨d,rfl,q⟩:=f;cases g;exact Db ⟨H1,e,q⟩
theorem Xz(h:PE X e t)(c:∀a,isTrue e X.env a=(do let v<-a;standAt e.pos;holding [v] (truthy v)):=by intro _;rfl):PT X e (tB t):=by intro pins s σ H Q I hw;refine LV (Yl (h pins s σ H _ I hw) λv s1⟨x,H1,b,g,f⟩=>?_) (c _);obtain⟨d,rfl,q⟩:=f;cases g;exact Db ⟨H1,b,q⟩
variable{tA tB':TT}{Ws:List TJ}
def Q29(t u:TT):TT:=λσ H Q=>t σ H λc H1=>if c=Gf then u σ H1 Q else Q Gp H1
def tOr(t u:TT):TT:=λσ H Q=>t σ H λc H1=>if c=Gf then Q Gf H1 else u σ H1 Q
def Q2n(t:TT):TT:=λσ H Q=>t σ H λc H1=>Q (!c) H1
theorem I9(b:PT X a tA):PW X (.BoolOp .And [a] pos) tA:=by
 intro d pins s σ H Q I h;refine Fs (Yl (b pins s σ H Q I h) λc s1 e=>?_);cases c with
 |true=>exact isTrue_and_nil e
 |false=>exact e
theorem R5(b:PT X a tA):PW X (.BoolOp .Or [a] pos) tA:=by
 intro d pins s σ H Q I h;refine isTrue_or (Yl (b pins s σ H Q I h) λc s1 e=>?_);cases c with
 |false=>exact isTrue_or_nil e
 |true=>exact e
theorem Rk(f:PT X a tA)(hb:PW X (.BoolOp .And (b::Ws) pos) tB'):PW X (.BoolOp .And (a::b::Ws) pos) (Q29 tA tB'):=by
 intro g pins s σ H Q I h;refine Fs (Yl (f pins s σ H _ I h) λc s1⟨H1,d,e⟩=>?_);cases c with
 |true=>exact hb g pins s1 σ H1 Q d e
 |false=>exact⟨H1,d,e⟩
theorem Qbh(f:PT X a tA)(hb:PW X (.BoolOp .Or (b::Ws) pos) tB'):PW X (.BoolOp .Or (a::b::Ws) pos) (tOr tA tB'):=by
 intro g pins s σ H Q I h;refine isTrue_or (Yl (f pins s σ H _ I h) λc s1⟨H1,d,e⟩=>?_);cases c with
 |true=>exact⟨H1,d,e⟩
 |false=>exact hb g pins s1 σ H1 Q d e
theorem Jn(b:PT X a tA):PT X (.UnaryOp .Not a pos) (Q2n tA):=by intro pins s σ H Q I h;exact isTrue_not (b pins s σ H (λc H1=>Q (!c) H1) I h)
def Q0n(ta tb:TE):TE:=λσ H Q=>ta σ H λx H1=>∃c,x=.bl c/\if c=Gf then tb σ H1 Q else Q (.bl Gp) H1
def Q0p(ta:TE):TE:=λσ H Q=>ta σ H λx H1=>∃c,x=.bl c/\Q (.bl (!c)) H1
theorem Qyt{b}(h:PE X a t):PE X (.BoolOp b [a] pos) t:=λpins s σ H Q I hw=>BoolOp_one (h pins s σ H Q I hw)
theorem Qxa(f:PE X a ta)(hb:PE X (.BoolOp .And (b::Ws) pos) tb):PE X (.BoolOp .And (a::b::Ws) pos) (Q0n ta tb):=by
 intro pins s σ H Q I h;refine BoolOp_and (Yl (f pins s σ H _ I h) λv s1⟨x,H1,e,g,d⟩=>?_);obtain⟨c,rfl,d⟩:=d;cases g;refine Db ?_;cases c with
 |true=>exact hb pins s1 σ H1 Q e d
 |false=>exact⟨.bl Gp,H1,e,Xb,d⟩
theorem Qyx(e:PE X a ta):PE X (.UnaryOp .Not a pos) (Q0p ta):=by intro pins s σ H Q I h;refine UnaryOp_ (Yl (e pins s σ H _ I h) λv s1⟨x,H1,d,f,b⟩=>?_);obtain⟨c,rfl,b⟩:=b;cases f;exact not_of (Db ⟨.bl (!c),H1,d,Xb,b⟩)
end
def Zb(K:PySem.W.Frag)(H:Hp)(a:Gc)(xs:List V):Prop:=
 Rd H a (.lst xs)\/
  ∃(o:DL)(its:Array Value)(n:Nat),K.lookup a=Ga o/\o.cls=.type "list"/\o.dict=Ge/\o.data=.seq its n/\its.size<=Gh/\Zs xs its.toList
def Z4(K:PySem.W.Frag)(H:Hp)(a:Gc)(xs:List V):Prop:=
 Rd H a (.tup xs)\/
  ∃(o:DL)(its:Array Value)(n:Nat),K.lookup a=Ga o/\o.cls=.type "tuple"/\o.data=.seq its n/\its.size<=Gh/\Zs xs its.toList
def Q2u:Value->Option V
 |.none=>Ga .non
 |.bool b=>Ga (.bl b)
 |.int i _=>Ga (.int i)
 |.str x _=>Ga (.str x)
 |.bytes b _=>Ga (.byt b)
 |.float b _=>Ga (.flt b)
 |.ref a=>Ga (.ref a)
 |.type n=>Ga (.ty n)
 |_=>Ge
theorem RelV.abs{x:V}(r:RelV x u):Q2u u=Ga x:=by
 cases x with
 |non=>cases r;rfl
 |bl _=>cases r;rfl
 |int _=>obtain⟨t,rfl⟩:=r;rfl
 |str _=>obtain⟨t,rfl⟩:=r;rfl
 |byt _=>obtain⟨t,rfl⟩:=r;rfl
 |flt _=>obtain⟨t,rfl⟩:=r;rfl
 |ref _=>cases r;rfl
 |ty _=>cases r;rfl
theorem RelV.inj{x y:V}{u:Value}(r:RelV x u)(q:RelV y u):x=y:=Tc (r.abs.symm.trans q.abs)
theorem Zs.inj:∀{xs ys:List V}{us:List Value},Zs xs us->Zs ys us->xs=ys
 |_,_,_,.nil,.nil=>rfl
 |_,_,_,.cons r t,.cons a t'=>by rw[r.inj a,Zs.inj t t']
section
variable{X:Cx}{pins:List (Gc×DL)}{σ:St}{H:Hp}{s:Gi}{a:Gc}{xs ys:List V}
theorem Zb.of(h:H a=Ga (.lst xs)):Zb K H a xs:=.inl (.inl h)
theorem Z4.of(h:H a=Ga (.tup xs)):Z4 K H a xs:=.inl (.inl h)
theorem Inv.list(I:Inv X pins σ H s)(h:Zb X.K H a xs):∃its:List Value,Zs xs its/\PlainL s.heap a its.toArray/\xs.length<=Gh:=by
 rcases h with h|⟨o,its,n,c,b,hd,d,hz,r⟩
 ·obtain⟨z,its,n,r,e⟩:=h.ok I.Zu;exact⟨its,r,⟨_,n,e,Xb,Xb,Xb⟩,z⟩
 ·refine⟨its.toList,r,⟨o,n,I.Jw a o c,b,hd,by simpa using d⟩,?_⟩;have e:=r.length;simp only[Ts]at e;omega
theorem Inv.tuple(I:Inv X pins σ H s)(h:Z4 X.K H a xs):∃its:List Value,Zs xs its/\IsTup s.heap a its.toArray/\xs.length<=Gh:=by
 rcases h with h|⟨o,its,n,c,b,d,hz,r⟩
 ·obtain⟨z,its,r,p⟩:=h.ok I.Zu;exact⟨its,r,p,z⟩
 ·refine⟨its.toList,r,⟨o,I.Jw a o c,b,n,by simpa using d⟩,?_⟩;have e:=r.length;simp only[Ts]at e;omega
theorem Inv.Qcg(I:Inv X pins σ H s)(h:Zb X.K H a xs)(h':Zb X.K H a ys):xs=ys:=by
 obtain⟨its,r,⟨o,n,e,_,_,d⟩,_⟩:=I.list h;obtain⟨its',f,⟨o',g,b,_,_,d'⟩,_⟩:=I.list h';rw[e]at b;cases b;rw[d]at d';injection d' with c _;have:its=its':=by simpa using congrArg LW c
 subst this;exact r.inj f
theorem Inv.Qoo(I:Inv X pins σ H s)(h:Z4 X.K H a xs)(h':Z4 X.K H a ys):xs=ys:=by
 obtain⟨its,r,⟨o,e,_,n,d⟩,_⟩:=I.tuple h;obtain⟨its',f,⟨o',b,_,g,d'⟩,_⟩:=I.tuple h';rw[e]at b;cases b;rw[d]at d';injection d' with c _;have:its=its':=by simpa using congrArg LW c
 subst this;exact r.inj f
end
abbrev Cx.Qel(X:Cx)(E:Value->Gi->Prop):Cx:={X with xe:=E}
abbrev Cx.nox(X:Cx):Cx:=X.Qel λ_ _=>False
theorem Cx.Ok.Qel{X:Cx}(ok:X.Ok)(E:Value->Gi->Prop):(X.Qel E).Ok:=
 ⟨ok.mod,ok.kind,ok.glob,ok.blt,ok.above,ok.inj,ok.has,ok.cab,ok.hd,ok.frames,ok.stk,ok.exf,ok.bs,ok.bsz,ok.Qqo,ok.Qvi,ok.Qbp,ok.frf⟩
theorem Cx.Ok.Jx(ok:(X.Qel E).Ok):X.Ok:=
 ⟨ok.mod,ok.kind,ok.glob,ok.blt,ok.above,ok.inj,ok.has,ok.cab,ok.hd,ok.frames,ok.stk,ok.exf,ok.bs,ok.bsz,ok.Qqo,ok.Qvi,ok.Qbp,ok.frf⟩
section
variable{X:Cx}{pins:List (Gc×DL)}{σ:St}{H:Hp}{s:Gi}{E:Value->Gi->Prop}
theorem Inv.Qel(I:Inv X pins σ H s)(E:Value->Gi->Prop):Inv (X.Qel E) pins σ H s:=⟨I.ok.Qel E,I.os,I.bare,I.base,I.loc,I.cell,I.free,I.Jt,I.pin,I.Zu,I.len⟩
theorem Inv.Jx(I:Inv (X.Qel E) pins σ H s):Inv X pins σ H s:=⟨I.ok.Jx,I.os,I.bare,I.base,I.loc,I.cell,I.free,I.Jt,I.pin,I.Zu,I.len⟩
theorem SP.Jx{D:Ends}{f:Flow}{s':Gi}(h:SP (X.Qel E) pins D f s'):SP X pins D f s':=by
 cases f with
 |next=>obtain⟨a,H',I,q⟩:=h;exact⟨a,H',I.Jx,q⟩
 |brk=>obtain⟨a,H',I,q⟩:=h;exact⟨a,H',I.Jx,q⟩
 |cont=>obtain⟨a,H',I,q⟩:=h;exact⟨a,H',I.Jx,q⟩
 |ret u=>obtain⟨v,a,H',I,r,q⟩:=h;exact⟨v,a,H',I.Jx,r,q⟩
theorem PSs.nox{st:List T4}{t:TS}(h:PSs X.nox st t):PSs X st t:=λpins s σ H D I hw=>Dh (h pins s σ H D (I.Qel _) hw) (λ_ _ q=>q.Jx) λ_ _ z=>False.elim z
end
section
variable{X:Cx}{st:T4}{Ws:List T4}{t u:TS}{e:TJ}{te:TE}{pos:E1}
def Q0s:TS:=λD σ H=>D.nx σ H
def Q10(t u:TS):TS:=λD σ H=>t {D with nx:=u D} σ H
theorem Q9:PSs X [] Q0s:=λ_ _ σ H _ I h=>Et ⟨σ,H,I,h⟩
theorem Qd(h1:PS X st t)(h2:PSs X Ws u):PSs X (st::Ws) (Q10 t u):=by
 intro pins s σ H D I h;refine Le (Yl (h1 pins s σ H {D with nx:=u D} I h) λf s1 q=>?_);cases f with
 |next=>obtain⟨a,H',b,q⟩:=q;exact h2 pins s1 a H' D b q
 |ret v=>exact q
 |brk=>exact q
 |cont=>exact q
theorem Qh(h1:PS X st t):PSs X [st] t:=by
 intro pins s σ H D I h;refine Le (Yl (h1 pins s σ H D I h) λf s1 q=>?_);cases f with
 |next=>exact Et q
 |ret v=>exact q
 |brk=>exact q
 |cont=>exact q
theorem Inv.quiet(I:Inv X pins σ H s):interactive X.env=Gp:=by simp[interactive,I.ok.kind]
def Qzq(te:TE):TS:=λD σ H=>te σ H λ_ H1=>D.nx σ H1
theorem Zc(b:PE X e te)(c:swapsWith e Ge pos.line X.env=pure Gp:=by rfl):PS X (.Expr e pos) (Qzq te):=by intro pins s σ H D I h;exact wpAny_Expr_any (Yl (b pins s σ H _ I h) λv s1⟨x,H1,a,f,d⟩=>⟨σ,H1,a,d⟩) I.quiet c
def Q12(te:TE):TS:=λD σ H=>te σ H D.rt
theorem Qx(b:PE X e te):PS X (.Return (Ga e) pos) (Q12 te):=by intro pins s σ H D I h;exact wpAny_Return_some (Yl (b pins s σ H _ I h) λv s1⟨x,H1,a,d,c⟩=>⟨x,σ,H1,a,d,c⟩)
def Qzu:TS:=λD _ H=>D.rt .non H
theorem Que:PS X (.Return Ge pos) Qzu:=λ_ _ σ H _ I h=>wpAny_Return_none ⟨.non,σ,H,I,Xb,h⟩
def Q24(c:TT)(t u:TS):TS:=λD σ H=>c σ H λb H1=>if b=Gf then t D σ H1 else u D σ H1
theorem Zr{c:TJ}{a b:List T4}{tc:TT}(i:PT X c tc)(g:PSs X a t)(hb:PSs X b u):PS X (.If c a b pos) (Q24 tc t u):=by
 intro pins s σ H D I h;refine wpAny_If (Yl (i pins s σ H _ I h) λd s1⟨H1,e,f⟩=>?_);cases d with
 |true=>exact g pins s1 σ H1 D e f
 |false=>exact hb pins s1 σ H1 D e f
end
abbrev TG:=V->St->Hp->(St->Hp->Prop)->Prop
variable{g:TG}
abbrev TGs:=List V->St->Hp->(St->Hp->Prop)->Prop
def PG(X:Cx)(a:TJ)(t:TG):Prop:=
 ∀(pins:List (Gc×DL))(s:Gi)(σ:St)(H:Hp)(v:V)(u:Value)(Q:St->Hp->Prop),Inv X pins σ H s->RelV v u->t v σ H Q->
  wpAny (GJ X.prog X.w) X.A (assign a X.env u) (λ_ s'=>∃b H',Inv X pins b H' s'/\Q b H') X.xe s
def PGs(X:Cx)(ts:List TJ)(t:TGs):Prop:=
 ∀(pins:List (Gc×DL))(s:Gi)(σ:St)(H:Hp)(vs:List V)(us:List Value)(Q:St->Hp->Prop),Inv X pins σ H s->Zs vs us->t vs σ H Q->
  wpAny (GJ X.prog X.w) X.A (assignInOrder ((assignEach ts X.env).map (·.2)) us) (λ_ s'=>∃a H',Inv X pins a H' s'/\Q a H') X.xe s
abbrev Quh:=V->V->V->Hp->(Hp->Prop)->Prop
def Q0c(X:Cx)(t:Quh):Prop:=
 ∀(pins:List (Gc×DL))(s:Gi)(σ:St)(H:Hp)(o i v:V)(ov a u:Value)(Q:Hp->Prop),Inv X pins σ H s->RelV o ov->RelV i a->RelV v u->t o i v H Q->
  wpAny (GJ X.prog X.w) X.A (setItem ov a u) (λ_ s'=>∃H',Inv X pins σ H' s'/\Q H') X.xe s
section
variable{X:Cx}{pos:E1}
def Vj(i:Nat):TG:=λv σ H Q=>Q (σ.set i (Ga v)) H
theorem Xc(b:X.N.Nodup)(hi:X.N[i]?=Ga x)(d:Loc X.env.scope x)(c:X.fn x=Gf\/X.env.scope.names.lookup x=Ga .local:=by first|exact .inl rfl|exact .inr rfl|assumption):PG X (.Name x pos) (Vj i):=by intro pins s σ H v u Q I r h;exact SN (Qil I b hi d r (λs' a=>⟨_,H,a,h⟩) c)
theorem Z2(i:Nat)(a:X.N.Nodup)(hi:X.N[i]?=Ga x:=by rfl)(c:Loc X.env.scope x:=by exact TZ Xb)(b:X.fn x=Gf\/X.env.scope.names.lookup x=Ga .local:=by first|exact .inl rfl|exact .inr rfl|assumption):PG X (.Name x pos) (Vj i):=Xc a hi c b
def Qx1:TGs:=λvs σ H Q=>vs=[]/\Q σ H
def Qi9(t:TG)(u:TGs):TGs:=λvs σ H Q=>∃v r,vs=v::r/\t v σ H λa H'=>u r a H' Q
theorem Wb:PGs X [] Qx1:=by intro pins s σ H vs us Q I r h;obtain⟨e,h⟩:=h;subst e;cases r;exact assignInOrder_nil ⟨σ,H,I,h⟩
theorem Zm{es:List TJ}{t:TG}{u:TGs}(h1:PG X e t)(h2:PGs X es u)
  (d:(assignEach (e::es) X.env).map (·.2)=assign e X.env::(assignEach es X.env).map (·.2):=by rfl):PGs X (e::es) (Qi9 t u):=by
 intro pins s σ H vs us Q I r h;obtain⟨v,i,c,h⟩:=h;subst c;cases r with
 |cons r g=>rw[d];refine assignInOrder_cons (Yl (h1 pins s σ H _ _ _ I r h) λ_ s1⟨a,H1,b,f⟩=>?_);exact h2 pins s1 a H1 _ _ Q b g f
def Qyr(K:PySem.W.Frag)(n:Nat)(t:TGs):TG:=λv σ H Q=>∃a xs,v=.ref a/\Z4 K H a xs/\xs.length=n/\t xs σ H Q
theorem Vf{es:List TJ}{t:TGs}(g:X.calm=Gf)(h:PGs X es t)
  (j:(assignEach es X.env).length=n:=by rfl)(c:(assignEach es X.env).findIdx? (·.1)=Ge:=by rfl):PG X (.Tuple es k pos) (Qyr X.K n t):=by
 intro pins s σ H v u Q I r hw;obtain⟨a,xs,f,l,i,hw⟩:=hw;subst f;cases r;obtain⟨its,rv,m,hz⟩:=I.tuple l;refine assign_Tuple_tuple (I.ok.hd g) m (by simp[j,<-i,rv.length]) c λh' p=>?_;have d:Inv X pins σ H {s with heap:=h'}:=I.kept (t':=s.toks) λb o e=>p b o (GV (Heap.lt_size e)) e;exact h pins _ σ H xs _ Q d (by simpa using rv) hw
def Q2m(to ti:TE)(t:Quh):TG:=λv σ H Q=>to σ H λo H1=>ti σ H1 λi H2=>t o i v H2 λa=>Q σ a
theorem Qak{o i:TJ}{to ti:TE}{t:Quh}(g:PE X o to)(hi:PE X i ti)(j:Q0c X t)
  (f:∀v,assign (.Subscript o i pos) X.env v=(do
   let ov<-holding [v] (eval o X.env)
   let a<-holding [v,ov] (eval i X.env)
   standAt pos
   holding [v,ov,a] (setItem ov a v)
   release [v,ov,a] []):=by intro _;rfl):PG X (.Subscript o i pos) (Q2m to ti t):=by
 intro pins s σ H v u Q I r h;rw[f];refine Gb (TR (Yl (g pins s σ H _ I h) λov s1⟨x,H1,c,n,k⟩=>?_));refine Gb (TR (Yl (hi pins s1 σ H1 _ c k) λa s2⟨y,H2,d,p,l⟩=>?_));refine Gb (Sw (Gb (TR (Yl (j pins s2 σ H2 x y v ov a u _ d n p r l) λ_ q⟨b,e,m⟩=>?_))));exact wpAny_release ⟨σ,b,e,m⟩
def Qvn(te:TE)(g:TG):TS:=λD σ H=>te σ H λx H1=>g x σ H1 D.nx
theorem Rq(b:PE X e te)(c:PG X tg g)(d:swapsWithSole [tg] e pos.line X.env=pure Gp:=by rfl)(hw:swappedStores [tg] e X.env=pure Ge:=by rfl)
  (h1:(assignEach [tg] X.env).map (·.2)=[assign tg X.env]:=by rfl):PS X (.Assign [tg] e pos) (Qvn te g):=by
 intro pins s σ H D I h;refine wpAny_Assign_stores (Yl (b pins s σ H _ I h) λv s1⟨x,H1,a,i,f⟩=>?_) d hw;rw[h1];exact Yl (c pins s1 σ H1 x v _ a i f) λ_ s2 q=>q
theorem Vw{pos':E1}(c:X.N.Nodup)(hi:X.N[i]?=Ga x)(j:Loc X.env.scope x)(d:PE X e te)(g:swapsWith e (Ga (.Name x pos')) pos.line X.env=pure Gp:=by rfl)(f:X.fn x=Gf\/X.env.scope.names.lookup x=Ga .local:=by first|exact .inl rfl|exact .inr rfl|assumption):
  PS X (.Assign [.Name x pos'] e pos) (Qvn te (Vj i)):=by
 intro pins s σ H D I h;refine wpAny_Assign_Name (Yl (d pins s σ H _ I h) λv s1⟨y,H1,a,l,k⟩=>?_) g;exact Qil a c hi j l (λs2 b=>⟨_,H1,b,k⟩) f
theorem Qs(i:Nat){pos':E1}(a:X.N.Nodup)(b:PE X e te)(hi:X.N[i]?=Ga x:=by rfl)(f:Loc X.env.scope x:=by exact TZ Xb)(d:swapsWith e (Ga (.Name x pos')) pos.line X.env=pure Gp:=by rfl)(c:X.fn x=Gf\/X.env.scope.names.lookup x=Ga .local:=by first|exact .inl rfl|exact .inr rfl|assumption):PS X (.Assign [.Name x pos'] e pos) (Qvn te (Vj i)):=Vw a hi f b d c
end
section
variable{X:Cx}{pos:E1}
def Qqu(c:TT)(tb:TS):TS:=λD σ H=>∃W:Nat->St->Hp->Prop,(∃m,W m σ H)/\∀m σ H,W m σ H->
 c σ H λb H1=>if b=Gf then∃N:St->Hp->Prop,(∀a H',N a H'->∃d,d<m/\W d a H')/\tb {D with nx:=N,ct:=N,bk:=D.nx} σ H1 else D.nx σ H1
theorem Wi{c:TJ}{tc:TT}(r:PassesOwn (GJ X.prog X.w) X.A X.env X.xe)(u:PT X c tc)(hb:PSs X body tb):PS X (.While c body [] pos) (Qqu tc tb):=by
 intro pins s σ H D I h;obtain⟨W,⟨m0,x⟩,turn⟩:=h;refine wpAny_While (codeAny_whileLoop (λn s'=>∃g H',Inv X pins g H' s'/\W n g H') ?_ m0 ⟨σ,H,I,x⟩);rintro n s1 ⟨d,H1,t,y⟩;refine DB r (Yl (u pins s1 d H1 _ t (turn n d H1 y)) λb s2⟨H2,p,i⟩=>?_);cases b with
 |true=>
  obtain⟨N,q,i⟩:=i;rw[Gk rfl];refine DB r (Yl (hb pins s2 d H2 _ p i) λf z j=>?_);cases f with
  |next=>obtain⟨a,e,k,n3⟩:=j;obtain⟨m,l,o⟩:=q a e n3;exact⟨m,l,a,e,k,o⟩
  |cont=>obtain⟨a,e,k,n3⟩:=j;obtain⟨m,l,o⟩:=q a e n3;exact⟨m,l,a,e,k,o⟩
  |brk=>exact j
  |ret v=>exact j
 |false=>rw[Gg Gw];exact Et ⟨d,H2,p,i⟩
end
structure It where
 go:Nat->Hp->Prop
 yld:Nat->Hp->V->Hp->Prop
 stop:Nat->Hp->Prop
def Qay(X:Cx)(pins:List (Gc×DL))(H:Hp)(b:Gc):Prop:=
 H b=Ge/\b≠X.env.locals/\b∉X.fs/\(b∈X.ex\/X.s₀.heap.objs.size<=b)/\(∀x c,X.env.cells.lookup x=Ga c->c≠b)/\∀p∈X.pn++pins,p.1≠b
theorem Inv.Qi0{H':Hp}(I:Inv X pins σ H s)(hb:s.heap.objs.size<=b)(a:H' b=Ge):Qay X pins H' b:=by
 refine⟨a,Tk (Ta I.lt hb),I.Q2y hb,.inr (TL I.sz hb),λx c e z=>?_,λp d z=>?_⟩
 ·obtain⟨v,q⟩:=I.cell x c e;exact absurd (Ta q.lt (by rw[z];exact hb)) (Dx _)
 ·exact absurd (Ta (Heap.lt_size (I.pin p d).1) (by rw[z];exact hb)) (Dx _)
structure Qgt(P:Gj)(w:Gs)(K:PySem.W.Frag)(tg:TJ)(J:It)(fp:List Gc)(it:Gc)(tn:Nat->Heap->Prop):Prop where
 mem:it∈fp
 obj:∀i h,tn i h->∀b∈fp,∃o,h.get? b=Ga o/\∀v,o.data≠.cell v
 keep:∀i h h',tn i h->(∀b∈fp,∀o,h.get? b=Ga o->h'.get? b=Ga o)->tn i h'
 item:∀(X:Cx),X.prog=P->X.w=w->X.K=K->X.calm=Gf->∀(i:Nat)(pins:List (Gc×DL))(s:Gi)(σ:St)(H:Hp)(E:Value->Gi->Prop),Inv X pins σ H s->(∀b∈fp,Qay X pins H b)->tn i s.heap->J.go i H->
  wpAny (GJ P w) X.A (pyNext (.ref it)) (λr s1=>∃u,r=Ga u/\
   wpAny (GJ P w) X.A (letOwnedTupleGo tg (.ref it) u) (λ_ s2=>∃x H',Inv X pins σ H' s2/\RelV x u/\J.yld i H x H'/\tn (i+1) s2.heap/\∀b∈fp,H' b=Ge) E s1) E s
 done:∀(X:Cx),X.prog=P->X.w=w->X.K=K->X.calm=Gf->∀(i:Nat)(pins:List (Gc×DL))(s:Gi)(σ:St)(H:Hp)(E:Value->Gi->Prop),Inv X pins σ H s->(∀b∈fp,Qay X pins H b)->tn i s.heap->J.stop i H->
  wpAny (GJ P w) X.A (pyNext (.ref it)) (λr s1=>r=Ge/\Inv X pins σ H s1) E s
 self:∀(A:Tv)(i:Nat)(s:Gi)(Q:Value->Gi->Prop)(E:Value->Gi->Prop),tn i s.heap->Q (.ref it) s->wpAny (GJ P w) A (pyIter (.ref it)) Q E s
abbrev TI:=St->Hp->(It->Hp->Prop)->Prop
def PIE(X:Cx)(pins:List (Gc×DL))(σ:St)(tg:TJ)(R:It->Hp->Prop)(a:Value)(s2:Gi):Prop:=
 ∃(it:Gc)(fp:List Gc)(tn:Nat->Heap->Prop)(J:It)(H':Hp),a=.ref it/\Inv X pins σ H' s2/\Qgt X.prog X.w X.K tg J fp it tn/\tn 0 s2.heap/\(∀b∈fp,Qay X pins H' b)/\R J H'
def PI(X:Cx)(tg iter:TJ)(wi:TI):Prop:=
 ∀(pins:List (Gc×DL))(s:Gi)(σ:St)(H:Hp)(R:It->Hp->Prop),Inv X pins σ H s->wi σ H R->
  wpAny (GJ X.prog X.w) X.A (eval iter X.env) (λv s1=>wpAny (GJ X.prog X.w) X.A (pyIter v) (PIE X pins σ tg R) X.xe s1) X.xe s
theorem Qfk      {it : Gc}   {n : String} {vs : Array Value} {Q : Unit -> Gi -> Prop} (d : s.heap.get? it = Ga o) (b : o.cls = .type n) (hd : o.data = .fields vs)
    (c : ["enumerate", "zip", "dict_itemiterator", "dict_reverseitemiterator", "odict_iterator", "itertools.zip_longest", "itertools.pairwise"].contains n = Gp) (a : Q () s) : wpAny M A (letOwnedTupleGo tg (.ref it) u) Q E s := by
  unfold letOwnedTupleGo
  cases tg <;> first
    | exact Gd a
    | (cases u <;> first
        | exact Gd a
        | (refine Gb (wpAny_load d ?_)
           rw [b, hd]
           show wpAny M A (if (["enumerate", "zip", "dict_itemiterator", "dict_reverseitemiterator", "odict_iterator", "itertools.zip_longest", "itertools.pairwise"].contains n && vs[0]? == Ga (rawInt _)) = Gf then _ else _) Q E s
           rw [Gg (by intro h; rw [c, Bool.false_and] at h; cases h)]
           exact Gd a))
def Itl(K:PySem.W.Frag)(a:Gc):It:=
 ⟨λi H=>∃xs x,Zb K H a xs/\xs[i]?=Ga x,λi H x H'=>H'=H/\∀xs,Zb K H a xs->xs[i]?=Ga x,λi H=>∃xs,Zb K H a xs/\xs.length<=i⟩
def Itt(K:PySem.W.Frag)(a:Gc):It:=
 ⟨λi H=>∃xs x,Z4 K H a xs/\xs[i]?=Ga x,λi H x H'=>H'=H/\∀xs,Z4 K H a xs->xs[i]?=Ga x,λi H=>∃xs,Z4 K H a xs/\xs.length<=i⟩
def Itr(lo:Int)(n:Nat):It:=⟨λi _=>i<n,λi H x H'=>H'=H/\x=.int (lo+i),λi _=>n<=i⟩
theorem Qom(a it:Gc):Qgt P w K tg (Itl K a) [it] it (λi h=>h.IsListIter it a i) where
 mem:=by simp
 obj:=λi h st b hb=>by
  have e:b=it:=by simpa using hb
  subst e;obtain⟨o,e,c,d⟩:=st;exact⟨o,e,λv z=>by rw[d]at z;cases z⟩
 keep:=λi h h' st k=>st.at λo e=>k it (by simp) o e
 item:=by intro X y hw t C i pins s σ H E I g st A;subst y hw t;obtain⟨xs,x,j,B⟩:=A;obtain⟨its,rv,p,hz⟩:=I.list j;obtain⟨u,J,M⟩:=rv.get B;obtain⟨l,m,G,n,q,r⟩:=g it (by simp);refine wpAny_pyNext_list_item st p.isList (x:=u) (by simpa using J) λh' f N=>?_;have D:Inv X pins σ H {s with heap:=h'}:=I.turned (t':=s.toks) (λb o hb e=>(N.2 b hb).trans e) l m n q r;obtain⟨o,e,c,d⟩:=id f;exact⟨u,Xb,Qfk (s:={s with heap:=h'}) e c d (by decide) ⟨x,H,D,M,⟨Xb,λys L=>by rw[I.Qcg L j];exact B⟩,f,λb hb=>(g b hb).1⟩⟩
 done:=by intro X y hw t C i pins s σ H E I g st A;subst y hw t;obtain⟨xs,j,B⟩:=A;obtain⟨its,rv,p,hz⟩:=I.list j;obtain⟨l,m,G,n,q,r⟩:=g it (by simp);have O:=rv.length;exact wpAny_pyNext_list_end (I.ok.hd C) st p.isList (by simp;omega) λh' F=>⟨Xb,I.turned (t':=s.toks) (λb o hb e=>F b o hb e) l m n q r⟩
 self:=λ_ _ _ _ _ st h=>wpAny_pyIter_listiter st h
theorem Qkc(a it:Gc):Qgt P w K tg (Itt K a) [it] it (λi h=>h.IsTupleIter it a i) where
 mem:=by simp
 obj:=λi h st b hb=>by
  have e:b=it:=by simpa using hb
  subst e;obtain⟨o,e,c,d⟩:=st;exact⟨o,e,λv z=>by rw[d]at z;cases z⟩
 keep:=λi h h' st k=>st.at λo e=>k it (by simp) o e
 item:=by intro X y hw t C i pins s σ H E I g st A;subst y hw t;obtain⟨xs,x,j,B⟩:=A;obtain⟨its,rv,p,hz⟩:=I.tuple j;obtain⟨u,J,M⟩:=rv.get B;obtain⟨l,m,G,n,q,r⟩:=g it (by simp);refine wpAny_pyNext_tuple_item st (show s.heap.IsTuple a its.toArray from p) (x:=u) (by simpa using J) λh' f N=>?_;have D:Inv X pins σ H {s with heap:=h'}:=I.turned (t':=s.toks) (λb o hb e=>(N.2 b hb).trans e) l m n q r;obtain⟨o,e,c,d⟩:=id f;exact⟨u,Xb,Qfk (s:={s with heap:=h'}) e c d (by decide) ⟨x,H,D,M,⟨Xb,λys L=>by rw[I.Qoo L j];exact B⟩,f,λb hb=>(g b hb).1⟩⟩
 done:=by intro X y hw t C i pins s σ H E I g st A;subst y hw t;obtain⟨xs,j,B⟩:=A;obtain⟨its,rv,p,hz⟩:=I.tuple j;obtain⟨l,m,G,n,q,r⟩:=g it (by simp);have O:=rv.length;exact wpAny_pyNext_tuple_end (I.ok.hd C) st (show s.heap.IsTuple a its.toArray from p) (by simp;omega) λh' F=>⟨Xb,I.turned (t':=s.toks) (λb o hb e=>F b o hb e) l m n q r⟩
 self:=λ_ _ _ _ _ st h=>wpAny_pyIter_tupleiter st h
theorem Qld(it:Gc)(lo:Int)(n:Nat):Qgt P w K tg (Itr lo n) [it] it (λi h=>Sj h it (lo+(i:Nat)*1) ((n:Int) - (i:Nat)) 1) where
 mem:=by simp
 obj:=λi h st b hb=>by
  have e:b=it:=by simpa using hb
  subst e;exact⟨_,st,λv z=>by have C:Fg _=FE v:=z;cases C⟩
 keep:=λi h h' st k=>k it (by simp) _ st
 item:=by intro X p hw m q i pins s σ H E I c st r;subst p hw m;obtain⟨d,f,y,g,j,l⟩:=c it (by simp);have W:=Walks.range (prog:=X.prog) (w:=X.w) (I.ok.hd q) it lo 1 n;refine W.item i s _ _ r st λv h' tk A a B=>?_;obtain⟨t,rfl⟩:=A;have u:Inv X pins σ H {s with heap:=h',toks:=tk}:=I.turned (λb o hb e=>B b o (by simpa using hb) e) d f g j l;refine⟨_,Xb,Qfk (s:={s with heap:=h',toks:=tk}) (n:="range_iterator") a rfl rfl (by decide) ⟨.int (lo+i),H,u,⟨t,?_⟩,⟨Xb,Xb⟩,a,λb hb=>(c b hb).1⟩⟩;rw[Int.mul_one]
 done:=by intro X p hw m q i pins s σ H E I c st r;subst p hw m;obtain⟨d,f,y,g,j,l⟩:=c it (by simp);exact E3 (I.ok.hd q) st (by have:n<=i:=r;omega) λh' x=>⟨Xb,I.turned (t':=s.toks) (λb o hb e=>x b o hb e) d f g j l⟩
 self:=λ_ _ _ _ _ st h=>E4 st h
section
variable{X:Cx}{tg:TJ}
def Q0q(K:PySem.W.Frag)(tl:TE):TI:=λσ H R=>tl σ H λx H1=>∃a,x=.ref a/\(∃xs,Zb K H1 a xs)/\R (Itl K a) H1
def Q3a(K:PySem.W.Frag)(tl:TE):TI:=λσ H R=>tl σ H λx H1=>∃a,x=.ref a/\(∃xs,Z4 K H1 a xs)/\R (Itt K a) H1
theorem Yn{l:TJ}{tl:TE}(d:PE X l tl):PI X tg l (Q0q X.K tl):=by
 intro pins s σ H R I h;refine Yl (d pins s σ H _ I h) λv s1⟨x,H1,c,i,g⟩=>?_;obtain⟨a,e,⟨xs,f⟩,q⟩:=g;subst e;cases i;obtain⟨its,rv,p,hz⟩:=c.list f;refine wpAny_pyIter_list p.isList ?_;refine⟨s1.heap.objs.size,[s1.heap.objs.size],_,_,H1,Xb,c.kept (t':=s1.toks) λb o e=>Heap.get?_push_of_some _ e,Qom a _,⟨_,Heap.get?_push_size _ Xb,Xb,Xb⟩,λb hb=>?_,q⟩;have e:b=s1.heap.objs.size:=by simpa using hb
 subst e;exact c.Qi0 (Gm _) (c.Zu.fresh (Gm _))
theorem Ue{l:TJ}{tl:TE}(d:PE X l tl):PI X tg l (Q3a X.K tl):=by
 intro pins s σ H R I h;refine Yl (d pins s σ H _ I h) λv s1⟨x,H1,c,i,g⟩=>?_;obtain⟨a,e,⟨xs,f⟩,q⟩:=g;subst e;cases i;obtain⟨its,rv,p,hz⟩:=c.tuple f;refine ED (show s1.heap.IsTuple a its.toArray from p) ?_;refine⟨s1.heap.objs.size,[s1.heap.objs.size],_,_,H1,Xb,c.kept (t':=s1.toks) λb o e=>Heap.get?_push_of_some _ e,Qkc a _,⟨_,Heap.get?_push_size _ Xb,Xb,Xb⟩,λb hb=>?_,q⟩;have e:b=s1.heap.objs.size:=by simpa using hb
 subst e;exact c.Qi0 (Gm _) (c.Zu.fresh (Gm _))
theorem Qrf{R:It->Hp->Prop}{lo hi:Int}{t u v:FP}{tk:Nat}(I:Inv X pins σ H s)(h1: -(2^62)<=lo)(h2:lo<2^62)(f: -(2^62)<=hi)(g:hi<2^62)
  (q:R (Itr lo (hi - lo).toNat) H):wpAny (GJ X.prog X.w) X.A (pyIter (.ref s.heap.objs.size)) (PIE X pins σ tg R) E {s with heap:=s.heap.push {cls:=.type "range",data:=.fields #[.int lo t,.int hi u,.int 1 v]},toks:=tk}:=by
 refine SE (Fh ..) (small_one h1 h2 f g) ?_;have a:Inv X pins σ H {s with heap:=s.heap.push {cls:=.type "range",data:=.fields #[.int lo t,.int hi u,.int 1 v]},toks:=tk}:=I.kept λb o e=>Heap.get?_push_of_some _ e;refine⟨(s.heap.push {cls:=.type "range",data:=.fields #[.int lo t,.int hi u,.int 1 v]}).objs.size,[(s.heap.push {cls:=.type "range",data:=.fields #[.int lo t,.int hi u,.int 1 v]}).objs.size],_,_,H,Xb,
  a.kept (t':=tk) λb o e=>Heap.get?_push_of_some _ e,Qld _ lo (hi - lo).toNat,?_,λb hb=>?_,q⟩
 ·have c:lo+((0:Nat):Int)*1=lo:=by simp
  have d:(((hi - lo).toNat:Nat):Int) - ((0:Nat):Int)=Builtin.Range.rangeSize lo hi 1:=by rw[rangeSize_one];split<;>omega
  show Sj _ _ (lo+((0:Nat):Int)*1) ((((hi - lo).toNat:Nat):Int) - ((0:Nat):Int)) 1;rw[c,d];exact Heap.get?_push_size _ rfl
 ·have e:b=(s.heap.push {cls:=.type "range",data:=.fields #[.int lo t,.int hi u,.int 1 v]}).objs.size:=by simpa using hb
  subst e;exact a.Qi0 (Gm _) (a.Zu.fresh (Gm _))
def Qzm(ta:TA):TI:=λσ H R=>ta σ H λvs H1=>∃j:Int,vs=[.int j]/\ -(2^62)<=j/\j<2^62/\R (Itr 0 j.toNat) H1
theorem Wz{a:TJ}{ta:TA}{p:E1}(f:Gl X "range")(g:X.mg "range"=Ge)(d:PA X [a] ta)(i:GX [a] X.env=[(Gp,eval a X.env)]:=by rfl):PI X tg (.Call (.Name "range" p) [a] [] pos) (Qzm ta):=by
 intro pins s σ H R I h;refine FK (Vq I f g Ft (T9 (Yl (d pos pins s σ H _ I h) λus s1⟨vs,H1,c,l,b⟩=>?_) i Xb));obtain⟨j,e,b,k,q⟩:=b;subst e;cases l with
 |cons r m=>cases m;obtain⟨t,rfl⟩:=r;exact call_range_1 (Qrf c (by omega) (by omega) b k (by simpa using q))
def Q2d(wi:TI)(g:TG)(tb:TS):TS:=λD σ H=>wi σ H λJ H1=>∃W:Nat->Nat->St->Hp->Prop,(∃m,W 0 m σ H1)/\∀i m σ H,W i m σ H->
 (J.stop i H/\D.nx σ H)\/(J.go i H/\∃N:St->Hp->Prop,(∀a H',N a H'->∃c,c<m/\W (i+1) c a H')/\∀x H',J.yld i H x H'->g x σ H' λb H2=>tb {D with nx:=N,ct:=N,bk:=D.nx} b H2)
def Qd4(fp:List Gc)(h:Heap):List (Gc×DL):=fp.filterMap λb=>(h.get? b).map λo=>(b,o)
theorem Jj{h:Heap}(hb:b∈fp)(e:h.get? b=Ga o):(b,o)∈Qd4 fp h:=List.mem_filterMap.mpr ⟨b,hb,by rw[e];rfl⟩
theorem Qo6{h:Heap}{p:Gc×DL}(c:p∈Qd4 fp h):p.1∈fp/\h.get? p.1=Ga p.2:=by
 obtain⟨b,hb,e⟩:=List.mem_filterMap.mp c;cases q:h.get? b with
 |none=>rw[q]at e;cases e
 |some o=>rw[q]at e;have a:(b,o)=p:=Tc e;subst a;exact⟨hb,q⟩
theorem Inv.pinned(I:Inv X pins σ H s)(h:∀b∈fp,Qay X pins H b)(i:∀b∈fp,∃o,s.heap.get? b=Ga o/\∀v,o.data≠.cell v):Inv X (pins++Qd4 fp s.heap) σ H s:=
 I.Qmx λp j=>(List.mem_append.mp j).elim (λz=>I.pin p (List.mem_append_right _ z)) λz=>by obtain⟨hb,e⟩:=Qo6 z;obtain⟨c,f,g,_⟩:=h p.1 hb;obtain⟨o,a,d⟩:=i p.1 hb;rw[e]at a;cases a;exact⟨e,c,f,g,d⟩
theorem Inv.Oa{pl:List (Gc×DL)}(I:Inv X (pins++pl) σ H s):Inv X pins σ H s:=I.Qmx λp a=>I.pin p (List.mem_append_right _ (List.mem_append_left _ a))
theorem Z6{iter:TJ}{wi:TI}(z:PassesOwn (GJ X.prog X.w) X.A X.env X.xe)(S:X.calm=Gf)(hi:PI X tg iter wi)(hg:PG X tg g)(hb:PSs X body tb)
  (hs:∀x,foldedSetIterable iter X.env x=pure x:=by intro _;rfl):PS X (.For tg iter body [] pos) (Q2d wi g tb):=by
 intro pins s σ H D I h;refine wpAny_For (Yl (hi pins s σ H _ I h) λv s1 h1=>Yl h1 λaa s2 h2=>?_) hs;obtain⟨it,fp,tn,J,H2,e,Z,T,M,R,W,⟨m0,w0⟩,turn⟩:=h2;subst e;have k:∀{H':Hp},(∀b∈fp,H' b=Ge)->∀b∈fp,Qay X pins H' b:=λhn b hb=>⟨hn b hb,(R b hb).2⟩;refine codeAny_forLoop_any (λn s'=>∃i l H',Inv X pins l H' s'/\tn i s'.heap/\(∀b∈fp,H' b=Ge)/\W i n l H') ?_ m0 ⟨0,σ,H2,Z,M,λb hb=>(R b hb).1,w0⟩;rintro n U ⟨i,p,E,Q,C,y,w3⟩;rcases turn i n p E w3 with⟨stop,qn⟩|⟨go,N,hN,step⟩
 ·refine DB z (Yl (T.done X rfl rfl rfl S i pins U p E X.xe Q (k y) C stop) λr s4⟨K,I4⟩=>?_);subst K;exact Et ⟨p,E,I4,qn⟩
 ·refine DB z (Yl (T.item X rfl rfl rfl S i pins U p E X.xe Q (k y) C go) λr s4⟨u,K,h4⟩=>?_);subst K;refine DB z (Yl h4 λ_ V⟨x,P,I5,r5,y5,t,G⟩=>?_);have F:=I5.pinned (k G) (T.obj _ _ t);refine DB z (Yl (hg _ V p P x u _ F r5 (step x P y5)) λ_ s6⟨O,Y,I6,q6⟩=>?_);refine DB z (Yl (hb _ s6 O Y _ I6 q6) λf L q=>?_);have again:∀{a:St}{c:Hp},Inv X (pins++Qd4 fp V.heap) a c L->N a c->∃m,m<n/\∃i l H',Inv X pins l H' L/\tn i L.heap/\(∀b∈fp,H' b=Ge)/\W i m l H':=λ{a c}j B=>by obtain⟨m',hm,w7⟩:=hN a c B;refine⟨m',hm,i+1,a,c,j.Oa,T.keep _ _ _ t λb hb o e=>(j.pin (b,o) (List.mem_append_right _ (List.mem_append_right _ (Jj hb e)))).1,λb hb=>?_,w7⟩;obtain⟨o,e,d⟩:=T.obj _ _ t b hb;exact(j.pin (b,o) (List.mem_append_right _ (List.mem_append_right _ (Jj hb e)))).2.1
  cases f with
  |next=>obtain⟨a,c,j,B⟩:=q;exact again j B
  |cont=>obtain⟨a,c,j,B⟩:=q;exact again j B
  |brk=>obtain⟨a,c,j,q⟩:=q;exact⟨a,c,j.Oa,q⟩
  |ret v=>obtain⟨x7,a,c,j,r7,q⟩:=q;exact⟨x7,a,c,j.Oa,r7,q⟩
end
theorem Yz(Pv:Nat->St->Hp->Prop)(h:Pv 0 σ H)(j:∀i σ H,i<=xs.length->Pv i σ H->Zb K H a xs)
  (k:∀i x σ H,xs[i]?=Ga x->Pv i σ H->g x σ H λc H2=>tb {D with nx:=Pv (i+1),ct:=Pv (i+1),bk:=D.nx} c H2)(hd:∀σ H,Pv xs.length σ H->D.nx σ H):
  ∃W:Nat->Nat->St->Hp->Prop,(∃m,W 0 m σ H)/\∀i m σ H,W i m σ H->
   ((Itl K a).stop i H/\D.nx σ H)\/((Itl K a).go i H/\∃N:St->Hp->Prop,(∀b H',N b H'->∃f,f<m/\W (i+1) f b H')/\∀x H',(Itl K a).yld i H x H'->g x σ H' λc H2=>tb {D with nx:=N,ct:=N,bk:=D.nx} c H2):=by
 refine⟨λi m σ H=>m=xs.length - i/\i<=xs.length/\Pv i σ H,⟨xs.length,by simp,Gv _,h⟩,?_⟩;rintro i m σ H ⟨rfl,hi,p⟩;have q:=j i σ H hi p;by_cases d:i<xs.length
 ·refine .inr ⟨⟨xs,xs[i],q,by simp[d]⟩,Pv (i+1),λb H' l=>⟨xs.length - (i+1),by omega,Xb,d,l⟩,λx H' y=>?_⟩;obtain⟨e,y⟩:=y;subst e;exact k i x σ _ (y xs q) p
 ·have e:i=xs.length:=by omega
  subst e;exact .inl ⟨⟨xs,q,Gm _⟩,hd σ H p⟩
theorem Qgr(Pv:Nat->St->Hp->Prop)(h:Pv 0 σ H)(j:∀i σ H,i<=xs.length->Pv i σ H->Z4 K H a xs)
  (k:∀i x σ H,xs[i]?=Ga x->Pv i σ H->g x σ H λc H2=>tb {D with nx:=Pv (i+1),ct:=Pv (i+1),bk:=D.nx} c H2)(hd:∀σ H,Pv xs.length σ H->D.nx σ H):
  ∃W:Nat->Nat->St->Hp->Prop,(∃m,W 0 m σ H)/\∀i m σ H,W i m σ H->
   ((Itt K a).stop i H/\D.nx σ H)\/((Itt K a).go i H/\∃N:St->Hp->Prop,(∀b H',N b H'->∃f,f<m/\W (i+1) f b H')/\∀x H',(Itt K a).yld i H x H'->g x σ H' λc H2=>tb {D with nx:=N,ct:=N,bk:=D.nx} c H2):=by
 refine⟨λi m σ H=>m=xs.length - i/\i<=xs.length/\Pv i σ H,⟨xs.length,by simp,Gv _,h⟩,?_⟩;rintro i m σ H ⟨rfl,hi,p⟩;have q:=j i σ H hi p;by_cases d:i<xs.length
 ·refine .inr ⟨⟨xs,xs[i],q,by simp[d]⟩,Pv (i+1),λb H' l=>⟨xs.length - (i+1),by omega,Xb,d,l⟩,λx H' y=>?_⟩;obtain⟨e,y⟩:=y;subst e;exact k i x σ _ (y xs q) p
 ·have e:i=xs.length:=by omega
  subst e;exact .inl ⟨⟨xs,q,Gm _⟩,hd σ H p⟩
theorem W5{lo:Int}(Pv:Nat->St->Hp->Prop)(f:Pv 0 σ H)
  (h:∀i σ H,i<n->Pv i σ H->g (.int (lo+i)) σ H λc H2=>tb {D with nx:=Pv (i+1),ct:=Pv (i+1),bk:=D.nx} c H2)(hd:∀σ H,Pv n σ H->D.nx σ H):
  ∃W:Nat->Nat->St->Hp->Prop,(∃m,W 0 m σ H)/\∀i m σ H,W i m σ H->
   ((Itr lo n).stop i H/\D.nx σ H)\/((Itr lo n).go i H/\∃N:St->Hp->Prop,(∀b H',N b H'->∃d,d<m/\W (i+1) d b H')/\∀x H',(Itr lo n).yld i H x H'->g x σ H' λc H2=>tb {D with nx:=N,ct:=N,bk:=D.nx} c H2):=by
 refine⟨λi m σ H=>m=n - i/\i<=n/\Pv i σ H,⟨n,by simp,Gv _,f⟩,?_⟩;rintro i m σ H ⟨rfl,hi,p⟩;by_cases a:i<n
 ·refine .inr ⟨a,Pv (i+1),λb H' j=>⟨n - (i+1),by omega,Xb,a,j⟩,λx H' y=>?_⟩;obtain⟨e,y⟩:=y;subst e y;exact h i σ _ a p
 ·have e:i=n:=by omega
  subst e;exact .inl ⟨Gm _,hd σ H p⟩
abbrev R2:=V->V->Hp->VK->Prop
variable{r:R2}
def O8(X:Cx)(f:Value->Value->FN Value)(r:R2):Prop:=
 ∀(pins:List (Gc×DL))(s:Gi)(σ:St)(H:Hp)(x y:V)(v u:Value)(Q:VK),Inv X pins σ H s->RelV x v->RelV y u->r x y H Q->
  wpAny (GJ X.prog X.w) X.A (f v u) (EP X pins σ Q) X.xe s
def UnR(X:Cx)(f:Value->FN Value)(r:V->Hp->VK->Prop):Prop:=
 ∀(pins:List (Gc×DL))(s:Gi)(σ:St)(H:Hp)(x:V)(v:Value)(Q:VK),Inv X pins σ H s->RelV x v->r x H Q->
  wpAny (GJ X.prog X.w) X.A (f v) (EP X pins σ Q) X.xe s
def Vn(X:Cx)(f:Value)(r:List V->Hp->VK->Prop):Prop:=
 ∀(pins:List (Gc×DL))(s:Gi)(σ:St)(H:Hp)(xs:List V)(us:List Value)(Q:VK),Inv X pins σ H s->Zs xs us->r xs H Q->
  wpAny (GJ X.prog X.w) X.A (call f us) (EP X pins σ Q) X.xe s
def Q2f(X:Cx)(r:V->Hp->(Bool->Hp->Prop)->Prop):Prop:=
 ∀(pins:List (Gc×DL))(s:Gi)(σ:St)(H:Hp)(x:V)(v:Value)(Q:Bool->Hp->Prop),Inv X pins σ H s->RelV x v->r x H Q->
  wpAny (GJ X.prog X.w) X.A (truthy v) (TP X pins σ Q) X.xe s
def tOp(r:R2)(ta tb:TE):TE:=λσ H Q=>ta σ H λx H1=>tb σ H1 λy H2=>r x y H2 Q
def tUn(r:V->Hp->VK->Prop)(ta:TE):TE:=λσ H Q=>ta σ H λx H1=>r x H1 Q
def rI(C:Int->Int->Prop)(g:Int->Int->V):R2:=λx y H Q=>∃i j,x=.int i/\y=.int j/\C i j/\Q (g i j) H
def rI0(g:Int->Int->V):R2:=λx y H Q=>∃i j,x=.int i/\y=.int j/\Q (g i j) H
def rU(g:Int->V):V->Hp->VK->Prop:=λx H Q=>∃i,x=.int i/\Q (g i) H
section
variable{X:Cx}{a b c:TJ}{ta tb tc:TE}{pos:E1}
theorem Qyq(i:PE X a ta)(hb:PE X b tb){R:V->V->Hp->Prop}(I:Inv X pins σ H s)
  (h:ta σ H λx H1=>tb σ H1 λy H2=>R x y H2)
  (j:∀v u s2 x y H2,Inv X pins σ H2 s2->RelV x v->RelV y u->R x y H2->wpAny (GJ X.prog X.w) X.A (f v u) Q X.xe s2):
  wpAny (GJ X.prog X.w) X.A (eval a X.env) (λv c=>wpAny (GJ X.prog X.w) X.A (eval b X.env) (λu d=>wpAny (GJ X.prog X.w) X.A (f v u) Q X.xe d) X.xe c) X.xe s:=by
 refine Yl (i pins s σ H _ I h) λv s1⟨x,H1,e,m,k⟩=>?_;refine Yl (hb pins s1 σ H1 _ e k) λu s2⟨y,H2,g,n,l⟩=>?_;exact j v u s2 x y H2 g m n l
theorem Zf{c:Operator}(f:O8 X (binaryOp c) r)(e:PE X a ta)(hb:PE X b tb):PE X (.BinOp a c b pos) (tOp r ta tb):=by intro pins s σ H Q I h;exact wpAny_BinOp (Qyq e hb I h λv u s2 x y H2 d g i q=>f pins s2 σ H2 x y v u Q d g i q)
theorem Ou{b:UnaryOp}{r:V->Hp->VK->Prop}(e:UnR X (unaryOp b) r)(d:PE X a ta):PE X (.UnaryOp b a pos) (tUn r ta):=by intro pins s σ H Q I h;exact UnaryOp_ (Yl (d pins s σ H _ I h) λv s1⟨x,H1,c,g,f⟩=>e pins s1 σ H1 x v Q c g f)
theorem opI{C:Int->Int->Prop}{g:Int->Int->Int}
  (rule:∀(i j:Int)(t u:FP)(s:Gi)(Q:Value->Gi->Prop)(E:Value->Gi->Prop),C i j->Q (.int (g i j) s.toks) {s with toks:=s.toks+1}->wpAny (GJ X.prog X.w) X.A (f (.int i t) (.int j u)) Q E s):
  O8 X f (rI C λi j=>.int (g i j)):=by
 intro pins s σ H x y v u Q I b c h;obtain⟨i,j,rfl,rfl,a,q⟩:=h;obtain⟨t,rfl⟩:=b;obtain⟨t',rfl⟩:=c;exact rule i j t t' s _ _ a ⟨.int (g i j),H,I.tok _,⟨_,Xb⟩,q⟩
theorem Q0e{g:Int->Int->Int}
  (rule:∀(i j:Int)(t u:FP)(s:Gi)(Q:Value->Gi->Prop)(E:Value->Gi->Prop),Q (.int (g i j) s.toks) {s with toks:=s.toks+1}->wpAny (GJ X.prog X.w) X.A (f (.int i t) (.int j u)) Q E s):
  O8 X f (rI0 λi j=>.int (g i j)):=by
 intro pins s σ H x y v u Q I a b h;obtain⟨i,j,rfl,rfl,q⟩:=h;obtain⟨t,rfl⟩:=a;obtain⟨t',rfl⟩:=b;exact rule i j t t' s _ _ ⟨.int (g i j),H,I.tok _,⟨_,Xb⟩,q⟩
theorem Qvw{g:Int->Int->Bool}
  (rule:∀(i j:Int)(t u:FP)(s:Gi)(Q:Value->Gi->Prop)(E:Value->Gi->Prop),Q (.bool (g i j)) s->wpAny (GJ X.prog X.w) X.A (f (.int i t) (.int j u)) Q E s):
  O8 X f (rI0 λi j=>.bl (g i j)):=by
 intro pins s σ H x y v u Q I a b h;obtain⟨i,j,rfl,rfl,q⟩:=h;obtain⟨t,rfl⟩:=a;obtain⟨t',rfl⟩:=b;exact rule i j t t' s _ _ ⟨.bl (g i j),H,I,Xb,q⟩
def Q26(i j:Int):Prop:=0<j/\j<1073741824
def Q2t(i j:Int):Prop:=0<=j/\j<=1000000/\i.natAbs<2^64
def Qx7(i j:Int):Prop:=(-(2^64)<i/\i<2^64)\/(-(2^64)<j/\j<2^64)
theorem Qx7.ok{i j:Int}(h:Qx7 i j):IntMulOk i j:=by
 rcases h with⟨h1,h2⟩|⟨h1,h2⟩
 ·exact .of_left (LI h1 h2)
 ·exact .of_right (LI h1 h2)
theorem Ja:O8 X (binaryOp .Add) (rI0 λi j=>.int (i+j)):=Q0e λ_ _ _ _ _ _ _ q=>add_int q
theorem Qk2:O8 X (binaryOp .Sub) (rI0 λi j=>.int (i - j)):=Q0e λ_ _ _ _ _ _ _ q=>sub_int q
theorem Qjn:O8 X (binaryOp .Mult) (rI Qx7 λi j=>.int (i*j)):=opI λ_ _ _ _ _ _ _ a q=>mul_int q a.ok
theorem Wa:O8 X (binaryOp .FloorDiv) (rI Q26 λi j=>.int (i / j)):=opI λi j _ _ _ _ _ a q=>by have h1:(0:Int)<j:=a.1;have h2:j<1073741824:=a.2;exact floordiv_int (by omega) (by rw[Int.fdiv_eq_ediv_of_nonneg i (by omega)];exact q) (.inl (E5 (by omega)))
theorem Xu:O8 X (binaryOp .Mod) (rI (λ_ j=>0<j) λi j=>.int (i % j)):=opI λi j _ _ _ _ _ a q=>by have h1:(0:Int)<j:=a;exact mod_int' (by omega) (by rw[Int.fmod_eq_emod_of_nonneg i (by omega)];exact q)
theorem Qsf:O8 X (binaryOp .Pow) (rI Q2t λi j=>.int (i^j.toNat)):=opI λ_ _ _ _ _ _ _ a q=>pow_int_small a.1 a.2.1 a.2.2 q
theorem unI{f:Value->FN Value}{g:Int->Int}
  (rule:∀(i:Int)(t:FP)(s:Gi)(Q:Value->Gi->Prop)(E:Value->Gi->Prop),Q (.int (g i) s.toks) {s with toks:=s.toks+1}->wpAny (GJ X.prog X.w) X.A (f (.int i t)) Q E s):
  UnR X f (rU λi=>.int (g i)):=by
 intro pins s σ H x v Q I a h;obtain⟨i,rfl,q⟩:=h;obtain⟨t,rfl⟩:=a;exact rule i t s _ _ ⟨.int (g i),H,I.tok _,⟨_,Xb⟩,q⟩
theorem U7:UnR X (unaryOp .USub) (rU λi=>.int (-i)):=unI λ_ _ _ _ _ q=>neg_int q
end
def Q00:V->V->Bool
 |.non,.non=>Gf|.non,.int _=>Gf|.int _,.non=>Gf|.non,.bl _=>Gf|.bl _,.non=>Gf|.non,.str _=>Gf|.str _,.non=>Gf
 |.int _,.int _=>Gf|.bl _,.bl _=>Gf|.str _,.str _=>Gf|.byt _,.byt _=>Gf
 |.int _,.str _=>Gf|.str _,.int _=>Gf|.bl _,.str _=>Gf|.str _,.bl _=>Gf
 |_,_=>Gp
def rEq:R2:=λx y H Q=>Q00 x y=Gf/\Q (.bl (decide (x=y))) H
def rNe:R2:=λx y H Q=>Q00 x y=Gf/\Q (.bl (!decide (x=y))) H
theorem W6{i j:Int}:decide (V.int i=V.int j)=(i==j):=by rw[D1];simp
theorem Qs9{i j:Bool}:decide (V.bl i=V.bl j)=(i==j):=by rw[D1];simp
theorem Xj{i j:Gy}:decide (V.str i=V.str j)=(i==j):=by rw[D1];simp
theorem Qlr{i j:Array UInt8}:decide (V.byt i=V.byt j)=(i.toList==j.toList):=by rw[D1];cases i;cases j;simp
section
variable{X:Cx}{a b c:TJ}{ta tb tc:TE}{pos:E1}
theorem Z7{Q:VK}{k a:Bool}(I:Inv X pins σ H s)(q:Q (.bl k) H)(e:k=a):EP X pins σ Q (.bool a) s:=by subst e;exact⟨.bl k,H,I,Xb,q⟩
theorem Wu:O8 X (T5 .Eq) rEq:=by
 intro pins s σ H x y v u Q I c a h;obtain⟨b,q⟩:=h;cases x with
 |non=>
  cases c;cases y with
  |non=>cases a;exact PySem.EqNone.eq_none_none (Z7 I q (by simp))
  |bl j=>cases a;exact PySem.EqNone.eq_none_bool (Z7 I q (by simp))
  |int j=>obtain⟨t',rfl⟩:=a;exact PySem.EqNone.eq_none_int (Z7 I q (by simp))
  |str j=>obtain⟨t',rfl⟩:=a;exact PySem.EqNone.eq_none_str (Z7 I q (by simp))
  |_=>exact absurd (show Gp=Gf from b) Gw
 |bl i=>
  cases c;cases y with
  |non=>cases a;exact PySem.EqNone.eq_bool_none (Z7 I q (by simp))
  |bl j=>cases a;exact eq_bool (Z7 I q Qs9)
  |str j=>obtain⟨t',rfl⟩:=a;exact PySem.EqMixed.eq_bool_str (Z7 I q (by simp))
  |_=>exact absurd (show Gp=Gf from b) Gw
 |int i=>
  obtain⟨t,rfl⟩:=c;cases y with
  |non=>cases a;exact PySem.EqNone.eq_int_none (Z7 I q (by simp))
  |int j=>obtain⟨t',rfl⟩:=a;exact eq_int (Z7 I q W6)
  |str j=>obtain⟨t',rfl⟩:=a;exact PySem.EqMixed.eq_int_str (Z7 I q (by simp))
  |_=>exact absurd (show Gp=Gf from b) Gw
 |str i=>
  obtain⟨t,rfl⟩:=c;cases y with
  |non=>cases a;exact PySem.EqNone.eq_str_none (Z7 I q (by simp))
  |bl j=>cases a;exact PySem.EqMixed.eq_str_bool (Z7 I q (by simp))
  |int j=>obtain⟨t',rfl⟩:=a;exact PySem.EqMixed.eq_str_int (Z7 I q (by simp))
  |str j=>obtain⟨t',rfl⟩:=a;exact eq_str (Z7 I q Xj)
  |_=>exact absurd (show Gp=Gf from b) Gw
 |byt i=>
  obtain⟨t,rfl⟩:=c;cases y with
  |byt j=>obtain⟨t',rfl⟩:=a;exact PySem.W.eq_bytes (Z7 I q Qlr)
  |_=>exact absurd (show Gp=Gf from b) Gw
 |_=>cases y<;>exact absurd (show Gp=Gf from b) Gw
theorem Ih:O8 X (T5 .NotEq) rNe:=by
 intro pins s σ H x y v u Q I c a h;obtain⟨b,q⟩:=h;cases x with
 |non=>
  cases c;cases y with
  |non=>cases a;exact PySem.EqNone.ne_none_none (Z7 I q (by simp))
  |bl j=>cases a;exact PySem.EqNone.ne_none_bool (Z7 I q (by simp))
  |int j=>obtain⟨t',rfl⟩:=a;exact PySem.EqNone.ne_none_int (Z7 I q (by simp))
  |str j=>obtain⟨t',rfl⟩:=a;exact PySem.EqNone.ne_none_str (Z7 I q (by simp))
  |_=>exact absurd (show Gp=Gf from b) Gw
 |bl i=>
  cases c;cases y with
  |non=>cases a;exact PySem.EqNone.ne_bool_none (Z7 I q (by simp))
  |bl j=>cases a;exact ne_bool (Z7 I q (congrArg not Qs9))
  |str j=>obtain⟨t',rfl⟩:=a;exact PySem.EqMixed.ne_bool_str (Z7 I q (by simp))
  |_=>exact absurd (show Gp=Gf from b) Gw
 |int i=>
  obtain⟨t,rfl⟩:=c;cases y with
  |non=>cases a;exact PySem.EqNone.ne_int_none (Z7 I q (by simp))
  |int j=>obtain⟨t',rfl⟩:=a;exact ne_int (Z7 I q (congrArg not W6))
  |str j=>obtain⟨t',rfl⟩:=a;exact PySem.EqMixed.ne_int_str (Z7 I q (by simp))
  |_=>exact absurd (show Gp=Gf from b) Gw
 |str i=>
  obtain⟨t,rfl⟩:=c;cases y with
  |non=>cases a;exact PySem.EqNone.ne_str_none (Z7 I q (by simp))
  |bl j=>cases a;exact PySem.EqMixed.ne_str_bool (Z7 I q (by simp))
  |int j=>obtain⟨t',rfl⟩:=a;exact PySem.EqMixed.ne_str_int (Z7 I q (by simp))
  |str j=>obtain⟨t',rfl⟩:=a;exact ne_str (Z7 I q (congrArg not Xj))
  |_=>exact absurd (show Gp=Gf from b) Gw
 |byt i=>
  obtain⟨t,rfl⟩:=c;cases y with
  |byt j=>obtain⟨t',rfl⟩:=a;exact PySem.W.ne_bytes (Z7 I q (congrArg not Qlr))
  |_=>exact absurd (show Gp=Gf from b) Gw
 |_=>cases y<;>exact absurd (show Gp=Gf from b) Gw
theorem Qff:O8 X (T5 .Lt) (rI0 λi j=>.bl (decide (i<j))):=Qvw λ_ _ _ _ _ _ _ q=>lt_int q
theorem Qre:O8 X (T5 .LtE) (rI0 λi j=>.bl (decide (i<=j))):=Qvw λ_ _ _ _ _ _ _ q=>le_int q
theorem Qwx:O8 X (T5 .Gt) (rI0 λi j=>.bl (decide (j<i))):=Qvw λ_ _ _ _ _ _ _ q=>gt_int q
theorem Q01:O8 X (T5 .GtE) (rI0 λi j=>.bl (decide (j<=i))):=Qvw λ_ _ _ _ _ _ _ q=>ge_int q
theorem Qx8:O8 X (T5 .Is) (λx y H Q=>y=.non/\Q (.bl (decide (x=.non))) H):=by
 intro pins s σ H x y v u Q I a b h;obtain⟨rfl,q⟩:=h;cases b;refine Ff (Z7 I q ?_);cases x<;>first
  |(cases a;rfl)
  |(obtain⟨t,rfl⟩:=a;rfl)
theorem O3:O8 X (T5 .IsNot) (λx y H Q=>y=.non/\Q (.bl (!decide (x=.non))) H):=by
 intro pins s σ H x y v u Q I a b h;obtain⟨rfl,q⟩:=h;cases b;refine Ly (Z7 I q ?_);cases x<;>first
  |(cases a;rfl)
  |(obtain⟨t,rfl⟩:=a;rfl)
theorem Za(b:TJ)(h:op≠.In:=by decide)(h2:op≠.NotIn:=by decide):behindInMarks op b=Gp:=by
 have a:(op==FJ)=Gp:=by cases op<;>first|rfl|exact absurd rfl h
 have c:(op==Fe)=Gp:=by cases op<;>first|rfl|exact absurd rfl h2
 cases b<;>simp[behindInMarks,a,c]
theorem Qvx(f:O8 X (T5 op) r)(d:PE X a ta)(hb:PE X b tb)(e:behindInMarks op b=Gp):PE X (.Compare a [op] [b] pos) (tOp r ta tb):=by intro pins s σ H Q I h;exact wpAny_Compare1 (Qyq d hb I h λv u s2 x y H2 c g i q=>f pins s2 σ H2 x y v u Q c g i q) e
def Qwc(t:TE):TT:=λσ H Q=>t σ H λx H'=>∃k,x=.bl k/\Q k H'
theorem Qu(m:O8 X (T5 op) r)(j:PE X a ta)(hb:PE X b tb)(l:behindInMarks op b=Gp):PT X (.Compare a [op] [b] pos) (Qwc (tOp r ta tb)):=by
 intro pins s σ H Q I h;refine Sd (Yl (j pins s σ H _ I h) λv s1⟨x,H1,f,q,n⟩=>Yl (hb pins s1 σ H1 _ f n) λu s2⟨y,H2,g,t,o⟩=>Yl (m pins s2 σ H2 x y v u _ g q t o) λc A⟨z,d,i,w,k,e,p⟩=>?_) l
 subst e;cases w;exact Db ⟨d,i,p⟩
def Qxz(r c:R2)(ta tb tc:TE):TE:=λσ H Q=>ta σ H λx H1=>tb σ H1 λy H2=>r x y H2 λz a=>∃k,z=.bl k/\
 (if k=Gf then tc σ a λd b=>c y d b Q else Q (.bl Gp) a)
theorem Qpk{f:CmpOp}{m:R2}(G:O8 X (T5 op) r)(g:O8 X (T5 f) m)(D:PE X a ta)(hb:PE X b tb)(E:PE X c tc)
  (F:lastMarks [op,f] [b,c]=Gp:=by with_unfolding_all rfl):PT X (.Compare a [op,f] [b,c] pos) (Qwc (Qxz r m ta tb tc)):=by
 intro pins s σ H Q I h;refine isTrue_chain (Yl (D pins s σ H _ I h) λv s1⟨x,H1,q,O,K⟩=>test_link (Yl (hb pins s1 σ H1 _ q K) λu s2⟨y,H2,t,n,L⟩=>Yl (G pins s2 σ H2 x y v u _ t O n L) λd T⟨z,i,j,P,k,e,l⟩=>?_)) F
 subst e;cases P;refine Db ?_;cases k with
 |false=>obtain⟨W,B,J⟩:=l;cases B;exact ite_ff ⟨i,j,J⟩
 |true=>refine ite_tt (test_last (Yl (E pins T σ i _ j l) λU s4⟨V,o,w,R,M⟩=>Yl (g pins s4 σ o y V u U _ w n R M) λd' Z⟨z2,p,A,S,Y,C,N⟩=>?_));subst C;cases S;exact Db ⟨p,A,N⟩
def Q0t(K:PySem.W.Frag)(x:V)(H:Hp)(k:Bool):Prop:=
 match x with
 |.non=>k=Gp
 |.bl b=>k=b
 |.int i=>k=(i !=0)
 |.str y=>y.length<=Gh/\k=((y.length:Int) !=0)
 |.byt y=>y.size<=Gh/\k=((y.size:Int) !=0)
 |.ref p=>(∃xs,Zb K H p xs/\k= !xs.isEmpty)\/(∃xs,Z4 K H p xs/\k= !xs.isEmpty)\/∃kvs,H p=Ga (.dK kvs)/\k= !kvs.isEmpty
 |_=>False
theorem Qk5{κ:Type}{kvs:List (κ×V)}{vs:List (κ×Value)}(r:KV kvs vs):(!vs.isEmpty)= !kvs.isEmpty:=by cases r<;>rfl
theorem Qci{its:List Value}(r:Zs xs its):(!its.toArray.isEmpty)= !xs.isEmpty:=by cases r<;>simp
theorem Rl:(Gh:Nat)<2^63:=by rw[Gu];decide
theorem Qxv:Q2f X (λx H Q=>∃k,Q0t X.K x H k/\Q k H):=by
 intro pins s σ H x v Q I d h;obtain⟨k,e,q⟩:=h;have j:=Rl;have l:Gh=16777216:=Gu;cases x with
 |non=>cases d;have a:k=Gp:=e;subst a;exact truthy_none ⟨H,I,q⟩
 |bl b=>cases d;have a:k=b:=e;subst a;exact Db ⟨H,I,q⟩
 |int i=>obtain⟨t,rfl⟩:=d;have a:k=(i !=0):=e;subst a;exact PySem.P.truthy_int ⟨H,I,q⟩
 |str y=>obtain⟨t,rfl⟩:=d;obtain⟨g,a⟩:y.length<=Gh/\k=((y.length:Int) !=0):=e;subst a;exact PySem.P.truthy_str (by omega) ⟨H,I.tok _,q⟩
 |byt y=>obtain⟨t,rfl⟩:=d;obtain⟨g,a⟩:y.size<=Gh/\k=((y.size:Int) !=0):=e;subst a;exact PySem.W.truthy_bytes (by omega) ⟨H,I.tok _,q⟩
 |ref p=>
  cases d;have a:(∃xs,Zb X.K H p xs/\k= !xs.isEmpty)\/(∃xs,Z4 X.K H p xs/\k= !xs.isEmpty)\/∃kvs,H p=Ga (.dK kvs)/\k= !kvs.isEmpty:=e;rcases a with⟨xs,f,a⟩|⟨xs,f,a⟩|⟨kvs,f,a⟩
  ·subst a;obtain⟨its,r,pl,hz⟩:=I.list f;have c:=r.length;exact wpAny_truthy_list pl.isList (by simp only[List.size_toArray];omega) ⟨H,I.tok _,by rw[Qci r];exact q⟩
  ·subst a;obtain⟨its,r,pl,hz⟩:=I.tuple f;have c:=r.length;exact truthy_tuple pl (by simp only[List.size_toArray];omega) ⟨H,I.tok _,by rw[Qci r];exact q⟩
  ·subst a;obtain⟨hz,hS,vs,r,m⟩:kvs.length<=Gh/\(p==TU)=Gp/\∃vs,KV kvs vs/\s.heap.DictOf (Z9 X.prog X.w) p vs:=I.Zu p _ f;have c:kvs.length=vs.length:=Paired.length r;exact wpAny_truthy_dict hS m (by omega) ⟨H,I.tok _,by rw[Qk5 r];exact q⟩
 |_=>exact(show False from e).elim
theorem Qru(d:PE X a ta)(e:∀b,isTrue a X.env b=(do let v<-b;standAt a.pos;holding [v] (truthy v))):
  PT X a (λσ H Q=>ta σ H λx H'=>∃k,Q0t X.K x H' k/\Q k H'):=by
 intro pins s σ H Q I h;exact LV (Yl (d pins s σ H _ I h) λv s1⟨x,H1,c,g,f⟩=>Qxv pins s1 σ H1 x v Q c g f) (e _)
theorem R8:O8 X (binaryOp .Add) (λx y H Q=>∃i j,x=.str i/\y=.str j/\i.length+j.length<=Gh/\Q (.str (i++j)) H):=by intro pins s σ H x y v u Q I a b h;obtain⟨i,j,rfl,rfl,hz,q⟩:=h;obtain⟨t,rfl⟩:=a;obtain⟨t',rfl⟩:=b;exact add_str (λt' tk=>⟨.str (i++j),H,I.tok _,⟨_,Xb⟩,q⟩) hz
theorem vals1{x:V}(r:Zs [x] us):∃u,us=[u]/\RelV x u:=by
 cases r with
 |cons a b=>cases b;exact⟨_,Xb,a⟩
theorem vals2{x y:V}(r:Zs [x,y] us):∃u a,us=[u,a]/\RelV x u/\RelV y a:=by
 cases r with
 |cons b c=>
  cases c with
  |cons d e=>cases e;exact⟨_,_,Xb,b,d⟩
theorem Qsw:Vn X (.builtin "abs") (λxs H Q=>∃i,xs=[.int i]/\Q (.int (if i<0 then -i else i)) H):=by intro pins s σ H xs us Q I r h;obtain⟨i,rfl,q⟩:=h;obtain⟨u,rfl,t,rfl⟩:=vals1 r;exact call_abs_int λu tk=>⟨.int (if i<0 then -i else i),H,I.tok _,⟨_,Xb⟩,q⟩
theorem Qoh(b:X.calm=Gf):Vn X (.builtin "min") (λxs H Q=>∃i j,xs=[.int i,.int j]/\Q (.int (if j<i then j else i)) H):=by
 intro pins s σ H xs us Q I r h;obtain⟨i,j,rfl,q⟩:=h;obtain⟨u,c,rfl,⟨t,rfl⟩,⟨t',rfl⟩⟩:=vals2 r;refine min_two_ints (I.ok.hd b) λh' tk k=>⟨_,H,I.kept k,?_,q⟩;by_cases a:j<i
 ·rw[Gk a,Gk a];exact⟨_,Xb⟩
 ·rw[Gg a,Gg a];exact⟨_,Xb⟩
def Q2k(K:PySem.W.Frag)(x:V)(H:Hp)(n:Nat):Prop:=
 match x with
 |.str y=>y.length<=Gh/\n=y.length
 |.byt y=>y.size<=Gh/\n=y.size
 |.ref p=>(∃xs,Zb K H p xs/\n=xs.length)\/∃xs,Z4 K H p xs/\n=xs.length
 |_=>False
theorem Yw:Vn X (.builtin "len") (λxs H Q=>∃x n,xs=[x]/\Q2k X.K x H n/\Q (.int n) H):=by
 intro pins s σ H xs us Q I r h;obtain⟨x,n,rfl,e,q⟩:=h;obtain⟨u,rfl,f⟩:=vals1 r;have i:=Rl;have j:Gh=16777216:=Gu;cases x with
 |str y=>obtain⟨t,rfl⟩:=f;obtain⟨g,b⟩:y.length<=Gh/\n=y.length:=e;subst b;exact len_str (by omega) ⟨.int _,H,I.tok _,⟨_,Xb⟩,q⟩
 |byt y=>obtain⟨t,rfl⟩:=f;obtain⟨g,b⟩:y.size<=Gh/\n=y.size:=e;subst b;exact PySem.W.len_bytes (by omega) ⟨.int _,H,I.tok _,⟨_,Xb⟩,q⟩
 |ref p=>
  cases f;have b:(∃xs,Zb X.K H p xs/\n=xs.length)\/∃xs,Z4 X.K H p xs/\n=xs.length:=e;rcases b with⟨xs,c,b⟩|⟨xs,c,b⟩
  ·subst b;obtain⟨its,d,pl,hz⟩:=I.list c;have a:=d.length;exact Sr pl.isList (by simp only[List.size_toArray];omega) ⟨.int xs.length,H,I.tok _,⟨_,by simp only[List.size_toArray];rw[a]⟩,q⟩
  ·subst b;obtain⟨its,d,pl,hz⟩:=I.tuple c;have a:=d.length;exact len_tuple pl (by simp only[List.size_toArray];omega) ⟨.int xs.length,H,I.tok _,⟨_,by simp only[List.size_toArray];rw[a]⟩,q⟩
 |_=>exact(show False from e).elim
end
structure Qjv(h:Heap)(x dx C:Gc)(mA:Gy->Option Value):Prop where
 obj:h.get? x=Ga (PySem.W.instObj C dx)
 ns:h.Ns1 dx mA
 ne:dx≠x
theorem Qn7{h:Heap}{dx:Gc}{mA:Gy->Option Value}(n:h.Ns1 dx mA):∃od,h.get? dx=Ga od/\∀name,PySem.W.lookIn name od=Ga (mA name):=by
 obtain⟨o,es,ep,g,hd,d,_,f⟩:=n;refine⟨o,g,λname=>?_⟩;have e:=f name;unfold nsFind findBy at e;rw[<-Array.find?_toList]at e;unfold PySem.W.lookIn;rw[hd];dsimp only;split
 ·rename_i y q
  rw[q]at e;exact congrArg Ga e
 ·rename_i q
  rw[q]at e;have a:es.toList.any (·.refKey)=Gp:=by rw[List.any_eq_false];intro y i;obtain⟨z,t,b⟩:=d y (Array.mem_toList_iff.mp i);simp[FF,b]
  have c:¬es.toList.any (·.refKey)=Gf:=by rw[a];exact Gw
  rw[Gg c];exact congrArg Ga e
theorem Qjv.look{h:Heap}{x dx:Gc}{mA:Gy->Option Value}(I:Qjv h x dx C mA):∃od,PySem.W.InstAt h x (PySem.W.instObj C dx) C (Ga od)/\∀name,PySem.W.lookIn name od=Ga (mA name):=
 let⟨od,ho,hl⟩:=Qn7 I.ns
 ⟨od,⟨I.obj,Xb,Xb,ho⟩,hl⟩
section
variable{prog:Gj}{w:Gs}{A:Tv}{E:Value->Gi->Prop}{s:Gi}{K:PySem.W.Frag}{x dx C f:Gc}{mA:Gy->Option Value}{name:Gy}{v:Value}
theorem Quv{a:Bool}(X:K.In s.heap)(I:Qjv s.heap x dx C mA)(d:PySem.W.plainGet K C name=Gf)(e:PySem.W.hasDictIn K C=Gf)
  (c:PySem.W.findIn K (.ref C) name=Ga Ge)(g:mA name=Ga v)(b:PySem.W.handedIn v=Gf)(h:Q v {s with toks:=s.toks+1}):
  wpAny (GJ prog w) A (getAttr (.ref x) name a) Q E s:=by
 obtain⟨od,J,f⟩:=I.look;exact PySem.W.get_value X J (PySem.W.plainGet_of d).1 (PySem.W.findObj_own e c rfl (by rw[f,g])) b h
theorem Qri{Q:Value×List Value->Gi->Prop}(X:K.In s.heap)(I:Qjv s.heap x dx C mA)(a:PySem.W.plainGet K C name=Gf)
  (b:PySem.W.findIn K (.ref C) name=Ga (Ga (.ref f)))(d:PySem.W.isFn K (.ref f)=Gf)(e:mA name=Ge)(h:Q (.ref f,[.ref x]) s):
  wpAny (GJ prog w) A (getMethod (.ref x) name pl) Q E s:=by
 obtain⟨od,J,c⟩:=I.look;exact PySem.W.method_fn X J (PySem.W.plainGet_of a).1 (PySem.W.plainGet_of a).2 b (EE.mp d) (by show(PySem.W.lookIn name od).map (·.isSome)=Ga Gp;rw[c,e];rfl) h
theorem Qv0{ns:List Gy}{Q:Unit->Gi->Prop}(X:K.In s.heap)(I:Qjv s.heap x dx C mA)
  (o:PySem.W.findIn K (.ref C) "__setattr__"=Ga (Ga (.builtin "object.__setattr__")))(n:PySem.W.plainOver K C=Gf)(p:PySem.W.takerIn K C name=Ga Ge)(m:PySem.W.hasDictIn K C=Gf)
  (hw:PySem.Within mA ns)(hsz:ns.length<=Gh)
  (h:∀h',Qjv h' x dx C (λy=>if y=name then Ga v else mA y)->Heap.SameBut dx s.heap h'->Q () {s with heap:=h',toks:=s.toks+2}):
  wpAny (GJ prog w) A (setAttr (.ref x) name v) Q E s:=by
 obtain⟨od,J,u⟩:=I.look;refine PySem.W.set_plain X J o (PySem.W.osa_open (s:={s with toks:=s.toks+1}) (r:=Ge) X J n p λb=>?_);obtain⟨t,l,f⟩:=PySem.W.any_some m;have q:s.heap.get? x=Ga ⟨.ref C,Ga dx,.plain,#[]⟩:=I.obj;refine Gb (Gd (Gb (Gb (wpAny_loadPart q (Gb (PySem.W.Looks.here (s:={s with toks:=s.toks+1}) (PySem.W.looks_clsIn X l) ?_))))));rw[f];refine Gd (a:=Ga dx) (Gb (Gd (Gb ?_)));refine wpAny_nsSet1 (s:={s with toks:=s.toks+1}) I.ns λh' c d=>?_;obtain⟨z,k,j,i,g,e⟩:=c.count (PySem.Within.cons name v hw);refine Gb (wpAny_lookBehind i (by rw[g];exact pastItsLine_dict (TL e (by rw[List.length_cons];omega))) ?_);exact Gd (h _ ⟨(d.2 _ (Gn I.ne)).trans I.obj,c,I.ne⟩ d)
theorem Qry{R:LX->Gi->Prop}{vs:List Value}(X:K.In s.heap)(b:PySem.W.makesIn K C=Gf)
  (hi:PySem.W.findIn K (.ref C) "__init__"=Ga (Ga (.ref f)))(a:PySem.W.typeIn K (.ref f)=Ga (.type "function"))
  (h:codeAny (GJ prog w) (A.under (.builtin "type.__call__" ⟨.ref C::vs,kw⟩)) (.call (.ref f) ⟨.ref (s.heap.objs.size+1)::vs,kw⟩) (PySem.W.InitBack (s.heap.objs.size+1) R)
   {s with heap:=(s.heap.push PySem.W.emptyDict).push (PySem.W.instObj C s.heap.objs.size)}):
  codeAny (GJ prog w) A (.call (.ref C) ⟨vs,kw⟩) R s:=by
 obtain⟨c,g,d,t,os⟩:=s;exact PySem.W.make_core (PySem.W.makes_of X b) (PySem.W.looks_findIn X hi) (λself=>PySem.W.bind_fn X self a) (.inl Xb) h
end
def Yo(f:Gy)(v:V):List (Gy×V)->List (Gy×V)
 |[]=>[(f,v)]
 |(g,x)::r=>if g=f then(g,v)::r else(g,x)::Yo f v r
theorem Qbf(f g:Gy)(v:V):∀fs:List (Gy×V),(Yo f v fs).lookup g=if g=f then Ga v else fs.lookup g
 |[]=>by
  show List.lookup g [(f,v)]=_;by_cases h:g=f
  ·have hb:(g==f)=Gf:=EE.mpr h;simp only[List.lookup,hb,Gk h]
  ·have hb:(g==f)=Gp:=Dg.mpr h;simp only[List.lookup,hb,Gg h]
 |(k,x)::r=>by
  have b:=Qbf f g v r;rw[show Yo f v ((k,x)::r)=(if k=f then(k,v)::r else(k,x)::Yo f v r)from rfl];by_cases a:k=f
  ·rw[Gk a];by_cases h:g=k
   ·have hb:(g==k)=Gf:=EE.mpr h;simp only[List.lookup,hb,Gk (h.trans a)]
   ·have hb:(g==k)=Gp:=Dg.mpr h;simp only[List.lookup,hb,Gg (λe:g=f=>h (e.trans a.symm))]
  ·rw[Gg a];by_cases h:g=k
   ·have hb:(g==k)=Gf:=EE.mpr h;simp only[List.lookup,hb,Gg (λe:g=f=>a (h.symm.trans e))]
   ·have hb:(g==k)=Gp:=Dg.mpr h;simp only[List.lookup,hb];exact b
theorem Qas(f:Gy)(v:V):∀fs:List (Gy×V),f∈(Yo f v fs).map (·.1)/\∀g,g∈fs.map (·.1)->g∈(Yo f v fs).map (·.1)
 |[]=>⟨by simp[Yo],λg h=>by simp at h⟩
 |(k,x)::r=>by
  obtain⟨i1,i2⟩:=Qas f v r;rw[show Yo f v ((k,x)::r)=(if k=f then(k,v)::r else(k,x)::Yo f v r)from rfl];by_cases a:k=f
  ·rw[Gk a];subst a;exact⟨by simp,λg h=>by simpa using h⟩
  ·rw[Gg a];refine⟨?_,λg h=>?_⟩
   ·rw[List.map_cons];exact List.mem_cons_of_mem _ i1
   ·rw[List.map_cons]at h⊢;rcases List.mem_cons.mp h with e|e
    ·exact List.mem_cons.mpr (.inl e)
    ·exact List.mem_cons_of_mem _ (i2 g e)
theorem Qa9(f:Gy)(v:V):∀fs:List (Gy×V),(Yo f v fs).length<=fs.length+1
 |[]=>by simp[Yo]
 |(k,x)::r=>by
  have b:=Qa9 f v r;rw[show Yo f v ((k,x)::r)=(if k=f then(k,v)::r else(k,x)::Yo f v r)from rfl];by_cases a:k=f
  ·rw[Gk a,List.length_cons,List.length_cons];omega
  ·rw[Gg a,List.length_cons,List.length_cons];omega
theorem Jk.some_of{o:Option Value}(r:Jk (Ga v) o):∃u,o=Ga u/\RelV v u:=by
 cases o with
 |none=>exact(show False from r).elim
 |some u=>exact⟨u,Xb,r⟩
theorem Jk.none_of{o:Option Value}(r:Jk Ge o):o=Ge:=by
 cases o with
 |none=>rfl
 |some u=>exact(show False from r).elim
theorem Qnw(r:RelV v u):PySem.W.handedIn u=Gf:=by
 cases v with
 |non=>cases(show u=Value.none from r);rfl
 |bl b=>cases(show u=Value.bool b from r);rfl
 |int i=>obtain⟨t,e⟩:=(show∃t,u=Value.int i t from r);cases e;rfl
 |str x=>obtain⟨t,e⟩:=(show∃t,u=Value.str x t from r);cases e;rfl
 |byt b=>obtain⟨t,e⟩:=(show∃t,u=Value.bytes b t from r);cases e;rfl
 |flt b=>obtain⟨t,e⟩:=(show∃t,u=Value.float b t from r);cases e;rfl
 |ref a=>cases(show u=Value.ref a from r);rfl
 |ty n=>cases(show u=Value.type n from r);rfl
section
variable{P:Gj}{w:Gs}{H H':Hp}{h h':Heap}{a C dx:Gc}{fs fs':List (Gy×V)}
theorem Qb8(Zu:Rf P w H h)(e:H a=Ga (.ins C dx fs)):∃mA,Qjv h a dx C mA/\(∀f,Jk (fs.lookup f) (mA f))/\PySem.Within mA (fs.map (·.1))/\fs.length<=1000/\H dx=Ga (.own a):=by obtain⟨d,z,ne,ob,mA,n,r,q⟩:=(show Z0 P w H h a (.ins C dx fs)from Zu a _ e);exact⟨mA,⟨ob,n,ne⟩,r,q,z,d⟩
end
structure Cls(K:PySem.W.Frag)(C:Gc):Prop where
 pg:PySem.W.plainGet K C DY=Gf
 hd:PySem.W.hasDictIn K C=Gf
 po:PySem.W.plainOver K C=Gf
 sa:PySem.W.findIn K (.ref C) "__setattr__"=Ga (Ga (.builtin "object.__setattr__"))
theorem Cls.get(c:Cls K C)(f:Gy):PySem.W.plainGet K C f=Gf:=c.pg
def Yr(K:PySem.W.Frag)(C:Gc)(f:Gy):Prop:=PySem.W.findIn K (.ref C) f=Ga Ge
theorem Yr.Q0a{f:Gy}(n:Yr K C f):PySem.W.takerIn K C f=Ga Ge:=by unfold PySem.W.takerIn;rw[show PySem.W.findIn K (.ref C) f=Ga Ge from n];rfl
structure Yc(K:PySem.W.Frag)(C:Gc)(m:Gy)(f:Gc):Prop where
 at_:PySem.W.findIn K (.ref C) m=Ga (Ga (.ref f))
 fn:PySem.W.isFn K (.ref f)=Gf
 kp:PySem.W.keepIn K (.ref f)=Gf
section
variable{X:Cx}{pins:List (Gc×DL)}{σ:St}{H:Hp}{s:Gi}{a C dx:Gc}{fs:List (Gy×V)}{f:Gy}{v:V}{A:Tv}{E:Value->Gi->Prop}
theorem Qj5{b:Bool}(I:Inv X pins σ H s)(e:H a=Ga (.ins C dx fs))(c:Cls X.K C)(n:Yr X.K C f)(l:fs.lookup f=Ga v)
  (h:∀u s',Inv X pins σ H s'->RelV v u->Q u s'):wpAny (GJ X.prog X.w) A (getAttr (.ref a) f b) Q E s:=by
 obtain⟨mA,O,r,_,_,_⟩:=Qb8 I.Zu e;obtain⟨u,g,d⟩:=Jk.some_of (v:=v) (o:=mA f) (by rw[<-l];exact r f);exact Quv I.Jw O (c.get f) c.hd n g (Qnw d) (h u _ (I.tok _) d)
theorem R7{m:Gy}{g:Gc}{Q:Value×List Value->Gi->Prop}(I:Inv X pins σ H s)(e:H a=Ga (.ins C dx fs))(c:Cls X.K C)(k:Yc X.K C m g)(l:fs.lookup m=Ge)
  (h:Q (.ref g,[.ref a]) s):wpAny (GJ X.prog X.w) A (getMethod (.ref a) m pl) Q E s:=by
 obtain⟨mA,O,r,_,_,_⟩:=Qb8 I.Zu e;have b:mA m=Ge:=Jk.none_of (by rw[<-l];exact r m);exact Qri I.Jw O (c.get m) k.at_ k.fn b h
theorem Qkq{y:V}{Q:Unit->Gi->Prop}(I:Inv X pins σ H s)(e:H a=Ga (.ins C dx fs))(c:Cls X.K C)(n:Yr X.K C f)(m:fs.length<1000)(k:RelV y u)
  (h:∀s',Inv X pins σ (upd H a (.ins C dx (Yo f y fs))) s'->Q () s'):wpAny (GJ X.prog X.w) A (setAttr (.ref a) f u) Q E s:=by
 obtain⟨mA,O,r,wi,_,i⟩:=Qb8 I.Zu e;have hz:(fs.map (·.1)).length<=Gh:=by rw[List.length_map,Gu];omega
 refine Qv0 I.Jw O c.sa c.po n.Q0a c.hd wi hz λh' d l=>h _ ?_;have hd:∃o,h'.get? dx=Ga o:=let⟨o,_,_,e',_⟩:=d.ns;⟨o,e'⟩;refine I.write (x:=a) (e:=dx) (by rw[e];exact Ti) (.inr i) (λb q hb z=>(l.2 b hb).trans z) hd ?_;refine⟨by rw[Qg O.ne];exact i,?_,O.ne,d.obj,_,d.ns,λg=>?_,λg j=>?_⟩
 ·have:=Qa9 f y fs;omega
 ·show Jk ((Yo f y fs).lookup g) (if g=f then Ga u else mA g);rw[Qbf];by_cases q:g=f
  ·rw[Gk q,Gk q];exact k
  ·rw[Gg q,Gg q];exact r g
 ·by_cases q:g=f
  ·rw[q];exact(Qas f y fs).1
  ·refine(Qas f y fs).2 g (wi g λz=>j ?_);show(if g=f then Ga u else mA g)=Ge;rw[Gg q];exact z
theorem Inv.made(I:Inv X pins σ H s):Inv X pins σ (upd (upd H s.heap.objs.size (.own (s.heap.objs.size+1))) (s.heap.objs.size+1) (.ins C s.heap.objs.size []))
  {s with heap:=(s.heap.push PySem.W.emptyDict).push (PySem.W.instObj C s.heap.objs.size)}:=by
 have c:(s.heap.push PySem.W.emptyDict).get? s.heap.objs.size=Ga PySem.W.emptyDict:=Heap.get?_push_size s.heap rfl;have f:((s.heap.push PySem.W.emptyDict).push (PySem.W.instObj C s.heap.objs.size)).get? (s.heap.objs.size+1)=Ga (PySem.W.instObj C s.heap.objs.size):=by have:=Heap.get?_push_size (s.heap.push PySem.W.emptyDict) (o:=PySem.W.instObj C s.heap.objs.size) rfl;rwa[Heap.size_push]at this
 have g:(s.heap.push PySem.W.emptyDict).Ns s.heap.objs.size (λ_=>Ge):=⟨PySem.W.emptyDict,#[],_,c,Xb,(λe h=>absurd h (by simp)),λ_=>rfl⟩;have d:=I.laid (a:=s.heap.objs.size) (o:=.own (s.heap.objs.size+1)) (h':=s.heap.push PySem.W.emptyDict) (t':=s.toks) (λb u q=>Heap.get?_push_of_some _ q) (Gm _) ⟨_,c⟩;refine d.laid (a:=s.heap.objs.size+1) (o:=.ins C s.heap.objs.size []) (t':=s.toks) (λb u q=>Heap.get?_push_of_some _ q) (SO (Heap.size_push _ _)) ?_;have ne:s.heap.objs.size≠s.heap.objs.size+1:=GV (Dy _);refine⟨by rw[Qg ne,Qb],Gv _,ne,f,λ_=>Ge,(Heap.Ns1.of_empty g).at λo q=>Heap.get?_push_of_some _ q,λ_=>Ti,λy i=>absurd rfl i⟩
theorem Qu1{prog:Gj}{env:SM}{f:Gy}{s:Gi}(hb:attributeBase e f env (eval e env)=eval e env)
  (h:wpAny (GJ prog w) A (eval e env) (λo a=>wpAny (GJ prog w) A (getAttr o f Gf) Q E a) E s):wpAny (GJ prog w) A (eval (.Attribute e f pos) env) Q E s:=
 Attribute_any_ h (by rw[arm_eval_Attribute,hb])
end
def Qts(K:PySem.W.Frag)(ta:TE)(f:Gy):TE:=λσ H Q=>ta σ H λx H1=>∃a C dx fs v,x=.ref a/\H1 a=Ga (.ins C dx fs)/\Cls K C/\Yr K C f/\fs.lookup f=Ga v/\Q v H1
def Q2z(K:PySem.W.Frag)(ta tv:TE)(f:Gy):TS:=λD σ H=>tv σ H λy H1=>ta σ H1 λx H2=>∃a C dx fs,x=.ref a/\H2 a=Ga (.ins C dx fs)/\Cls K C/\Yr K C f/\fs.length<1000/\
 D.nx σ (upd H2 a (.ins C dx (Yo f y fs)))
section
variable{X:Cx}{o e value:TJ}{f:Gy}{pos pos' tpos:E1}{ta tv:TE}
theorem Qm(g:PE X e ta)(hb:attributeBase e f X.env (eval e X.env)=eval e X.env):PE X (.Attribute e f pos) (Qts X.K ta f):=by intro pins s σ H Q I h;refine Qu1 hb (Yl (g pins s σ H _ I h) λu s1⟨x,H1,b,j,a,C,dx,fs,v,ex,ea,c,n,l,q⟩=>?_);subst ex;obtain rfl:u=Value.ref a:=j;exact Qj5 b ea c n l λk s2 d i=>⟨v,H1,d,i,q⟩
theorem Xe(g:PE X o ta)(j:PE X value tv)(i:swapsWith value (Ga (.Attribute o f pos')) pos.line X.env=pure Gp):PS X (.Assign [.Attribute o f pos'] value pos) (Q2z X.K ta tv f):=by intro pins s σ H D I h;refine plainObj_wpAny_Assign_Attribute (Yl (j pins s σ H _ I h) λu s1⟨y,H1,b,p,q⟩=>Yl (g pins s1 σ H1 _ b q) λov s2⟨x,H2,d,m,a,C,dx,fs,ex,ea,c,n,l,k⟩=>?_) i;subst ex;obtain rfl:ov=Value.ref a:=m;exact Qkq d ea c n l p λr e=>⟨σ,_,e,k⟩
theorem Qv7{m:Gy}{apos:E1}{args:List TJ}(d:PE X e te)(I:Inv X pins σ H s)
  (h:te σ H λx H1=>∃a C dx fs g,x=.ref a/\H1 a=Ga (.ins C dx fs)/\Cls X.K C/\Yc X.K C m g/\fs.lookup m=Ge/\
   ∀s1,Inv X pins σ H1 s1->wpAny (GJ X.prog X.w) X.A (callWith pos (.ref g) [.ref a] (Du pos (GX args X.env)) (backToKw pos (keywordEach [] X.env))) Q X.xe s1)
  (i:eval (.Call (.Attribute e m apos) args [] pos) X.env=(do
   let ov<-eval e X.env
   standAt apos.atName
   let(f,first)<-holding [ov] (getMethod ov m pl)
   callWith pos f first (Du pos (GX args X.env)) (backToKw pos (keywordEach [] X.env)))):
  wpAny (GJ X.prog X.w) X.A (eval (.Call (.Attribute e m apos) args [] pos) X.env) Q X.xe s:=by
 refine PySem.W.methodCall_KW (pl:=pl) (Yl (d pins s σ H _ I h) λu s1⟨x,H1,b,j,a,C,dx,fs,g,ex,ea,c,k,l,q⟩=>?_) i;subst ex;obtain rfl:u=Value.ref a:=j;exact R7 b ea c k l (q s1 b)
end
section
variable{X:Cx}{pins:List (Gc×DL)}{σ:St}{H:Hp}{s:Gi}{A:Tv}{E:Value->Gi->Prop}{Q:Value->Gi->Prop}{c:Value}{b:Bool}
inductive Rb(K:PySem.W.Frag)(H:Hp):V->Value->Prop where
 |non:Rb K H .non (.type "NoneType")
 |bl (x:Bool):Rb K H (.bl x) (.type "bool")
 |int (i:Int):Rb K H (.int i) (.type "int")
 |str (x:Gy):Rb K H (.str x) (.type "str")
 |flt (x:UInt64):Rb K H (.flt x) (.type "float")
 |lst {a:Gc} {xs:List V} (e:H a=Ga (.lst xs)):Rb K H (.ref a) (.type "list")
 |frz {a:Gc} {o:DL} {xs:List V} (e:H a=Ga (.frz o (.lst xs))):Rb K H (.ref a) (.type "list")
 |tup {a:Gc} {xs:List V} (e:H a=Ga (.tup xs)):Rb K H (.ref a) (.type "tuple")
 |dK {a:Gc} {kvs:List (Xh×V)} (e:H a=Ga (.dK kvs)):Rb K H (.ref a) (.type "dict")
 |dT {a:Gc} {kvs:List (List Xh×V)} (e:H a=Ga (.dT kvs)):Rb K H (.ref a) (.type "dict")
 |ins {a C dx:Gc} {fs:List (Gy×V)} (e:H a=Ga (.ins C dx fs)) (cl:Cls K C) (ha:PySem.W.findIn K (.ref C) "__class__"=Ga (Ga (.builtin "object.__class__")))
   (hn:PySem.W.specialIn K (.builtin "object.__class__") "__get__"=Ga (Ga (.builtin "getset_descriptor.__get__"))) (htk:PySem.W.takesIn K (.builtin "object.__class__")=Ga Gf)
   (hm:PySem.W.mroIn K C (.type "object")=Ga Gf):Rb K H (.ref a) (.ref C)
theorem Qog{x:V}{t:Value}(I:Inv X pins σ H s)(d:RelV x u)(ty:Rb X.K H x t)(e:PySem.W.kitOne X.K t c=Ga b)(h:∀tk,Q (.bool b) {s with toks:=tk}):
  wpAny (GJ X.prog X.w) A (call (.builtin "isinstance") [u,c]) Q E s:=by
 cases ty with
 |non=>cases(show u=Value.none from d);exact PySem.W.kia_one PySem.W.kitx_none I.Jw Ti e nofun h
 |bl y=>cases(show u=Value.bool y from d);exact PySem.W.kia_one PySem.W.kitx_bool I.Jw Ti e nofun h
 |int i=>obtain⟨t,q⟩:=(show∃t,u=Value.int i t from d);cases q;exact PySem.W.kia_one PySem.W.kitx_int I.Jw Ti e nofun h
 |str y=>obtain⟨t,q⟩:=(show∃t,u=Value.str y t from d);cases q;exact PySem.W.kia_one PySem.W.kitx_str I.Jw Ti e nofun h
 |flt y=>obtain⟨t,q⟩:=(show∃t,u=Value.float y t from d);cases q;exact PySem.W.kia_one PySem.W.kitx_float I.Jw Ti e nofun h
 |@lst a xs ea=>cases(show u=Value.ref a from d);obtain⟨_,_,n,_,h1⟩:=(show Z0 X.prog X.w H s.heap a (.lst xs)from I.Zu a _ ea);exact PySem.W.kia_one PySem.W.kitx_list I.Jw ⟨_,h1,Xb⟩ e nofun h
 |@frz a ob xs ea=>cases(show u=Value.ref a from d);obtain⟨_,_,_,n,_,h1⟩:=(show Z0 X.prog X.w H s.heap a (.frz ob (.lst xs))from I.Zu a _ ea);exact PySem.W.kia_one PySem.W.kitx_list I.Jw ⟨_,h1,Xb⟩ e nofun h
 |@tup a xs ea=>cases(show u=Value.ref a from d);obtain⟨_,_,_,p⟩:=(show Z0 X.prog X.w H s.heap a (.tup xs)from I.Zu a _ ea);obtain⟨o,h1,h2,_⟩:=p;exact PySem.W.kia_one PySem.W.kitx_tuple I.Jw ⟨o,h1,h2⟩ e nofun h
 |@dK a kvs ea=>cases(show u=Value.ref a from d);obtain⟨_,_,vs,_,p⟩:=(show Z0 X.prog X.w H s.heap a (.dK kvs)from I.Zu a _ ea);obtain⟨o,es,ep,h1,h2,_⟩:=p;exact PySem.W.kia_one PySem.W.kitx_dict I.Jw ⟨o,h1,h2.1⟩ e nofun h
 |@dT a kvs ea=>cases(show u=Value.ref a from d);obtain⟨_,_,xs,_,o,es,ep,h1,h2,_⟩:=(show Z0 X.prog X.w H s.heap a (.dT kvs)from I.Zu a _ ea);exact PySem.W.kia_one PySem.W.kitx_dict I.Jw ⟨o,h1,h2.1⟩ e nofun h
 |@ins a C dx fs ea cl g k f j=>cases(show u=Value.ref a from d);obtain⟨mA,O,_⟩:=Qb8 I.Zu ea;obtain⟨od,J,_⟩:=O.look;exact PySem.W.kia_one (PySem.W.kitx_own (cl.get _) cl.hd g k f j) I.Jw J e nofun h
end
structure Yd(k:Nat)(A:Tv):Prop where
 hd:A.handled=Ge
 dp:A.depth+3*k+5<recursionLimit
 un:A.units+16*k+200<Dk
variable{Q:VK}
theorem Yd.mono{j:Nat}(r:Yd k A)(h:j<=k):Yd j A:=⟨r.hd,by have:=r.dp;omega,by have:=r.un;omega⟩
theorem Yd.deeper{k:Nat}{A:Tv}(r:Yd (k+1) A)(env:SM):Yd k (A.deeper env):=
 ⟨r.hd,by have:=r.dp;show A.depth+1+3*k+5<_;omega,by have:=r.un;show A.units+3+16*k+200<_;omega⟩
theorem Qkz:(A.under (.builtin "type.__call__" ⟨.ref C::us,kw⟩)).depth=A.depth+1:=by first|rfl|simp[SQ,Code.weight,Code.isCreation,Code.isGuard,Code.isCaller,Fi,SR,guardIds]
theorem Qkw:(A.under (.builtin "type.__call__" ⟨.ref C::us,kw⟩)).units=A.units+1:=by first|rfl|simp[SQ,Code.cUnits,Fi,SR]
theorem Yd.make(r:Yd (k+1) A)(C:Gc)(us:List Value)(a:List (Gy×Value)):Yd k (A.under (.builtin "type.__call__" ⟨.ref C::us,a⟩)):=
 ⟨r.hd,by have:=r.dp;rw[Qkz];omega,by have:=r.un;rw[Qkw];omega⟩
theorem Yd.depth{k:Nat}{A:Tv}(r:Yd k A):A.depth<recursionLimit:=by have:=r.dp;omega
theorem Yd.units{k:Nat}{A:Tv}(r:Yd k A):A.units+64<Dk:=by have:=r.un;omega
def Qoa:TA:=λ_ H Q=>Q [] H
def Qeo(ta:TE)(a:TA):TA:=λσ H Q=>ta σ H λx H1=>a σ H1 λxs H2=>Q (x::xs) H2
section
variable{X:Cx}{e:TJ}{es:List TJ}{te:TE}{t:TA}{pos:E1}
theorem Qe:PA X [] Qoa:=λ_ _ _ _ H Q I h=>DT ⟨[],H,I,.nil,h⟩
theorem Qa(c:PE X e te)(d:PA X es t)(f:GX (e::es) X.env=(Gp,eval e X.env)::GX es X.env:=by rfl):PA X (e::es) (Qeo te t):=by intro pos pins s σ H Q I h;rw[f];show wpAny _ _ (spliced ((Gp,eval e X.env)::Du pos (GX es X.env))) _ _ s;refine DN (Yl (c pins s σ H _ I h) λu s1⟨x,H1,a,j,g⟩=>?_);exact Yl (d pos pins s1 σ H1 _ a g) λus s2⟨xs,H2,b,k,i⟩=>⟨x::xs,H2,b,.cons j k,i⟩
def Q3b(t:TA):TE:=λσ H Q=>t σ H λxs H1=>xs.length<=Gh/\∀p,H1 p=Ge->Q (.ref p) (upd H1 p (.tup xs))
def Q14(t:TA):TE:=λσ H Q=>t σ H λxs H1=>xs.length<=Gh/\∀p,H1 p=Ge->Q (.ref p) (upd H1 p (.lst xs))
theorem Q8{f}(h:PA X es t):PE X (.Tuple es f pos) (Q3b t):=by intro pins s σ H Q I d;refine wpAny_Tuple_spliced (Yl (h pos pins s σ H _ I d) λus s1⟨xs,H1,a,r,z,q⟩=>⟨by rw[<-r.length];exact z,?_⟩);have c:H1 s1.heap.objs.size=Ge:=a.Zu.fresh (Gm _);refine⟨.ref s1.heap.objs.size,upd H1 s1.heap.objs.size (.tup xs),a.laid (t':=s1.toks) (λb u e=>Heap.get?_push_of_some _ e) (Gm _) ?_,Xb,q _ c⟩;exact⟨z,us,r,⟨_,Heap.get?_push_size _ Xb,Xb,_,Xb⟩⟩
theorem Zj(h:PA X es t):PE X (.List es pos) (Q14 t):=by intro pins s σ H Q I d;refine wpAny_List_spliced (Yl (h pos pins s σ H _ I d) λus s1⟨xs,H1,a,r,z,q⟩=>⟨by rw[<-r.length];exact z,?_⟩);have c:H1 s1.heap.objs.size=Ge:=a.Zu.fresh (Gm _);refine⟨.ref s1.heap.objs.size,upd H1 s1.heap.objs.size (.lst xs),a.laid (t':=s1.toks) (λb u e=>Heap.get?_push_of_some _ e) (Gm _) ?_,Xb,q _ c⟩;exact⟨z,us,0,r,Heap.get?_push_size _ Xb⟩
end
abbrev Sp:=List V->Hp->VK->XK->Prop
abbrev CXT:=List SM->Hp->Gi->XK->Value->Gi->Prop
structure Qlg(P:Gj)(w:Gs)(K:PySem.W.Frag)(mg:Gy->Option Value)(base:Heap)(A:Tv)(outer:List SM)(s:Gi)(H:Hp):Prop where
 frames:A.frames=Ga outer
 mod:Mod K mg base
 bs:∀b o,base.get? b=Ga o->s.heap.get? b=Ga o/\H b=Ge
 bsz:base.objs.size<=s.heap.objs.size
 Qbp:s.heap.FunFrames base outer
 frf:∀b∈frs outer,H b=Ge
 Zu:Rf P w H s.heap
 bare:EJ s.gens
def CE(outer:List SM)(P:Gj)(w:Gs)(H:Hp)(s:Gi)(Q:VK)(u:Value)(s':Gi):Prop:=
 ∃v H',s'.os=s.os/\EJ s'.gens/\Un (frs outer) [] H H' s.heap s'.heap/\Rf P w H' s'.heap/\RelV v u/\Q v H'
def CR(CX:CXT)(outer:List SM)(P:Gj)(w:Gs)(H:Hp)(s:Gi)(Q:VK)(E:XK)(r:LX)(s':Gi):Prop:=
 match r with
 |.ok (.ret u)=>CE outer P w H s Q u s'
 |.ok _=>False
 |.error e=>CX outer H s E e s'
structure Qt(P:Gj)(w:Gs)(K:PySem.W.Frag)(mg:Gy->Option Value)(base:Heap)(CX:CXT)(k:Nat)(f:Gc)(fd:Td)(ps:List Gy)(sp:Sp):Prop where
 len:∀vs H Q E,sp vs H Q E->vs.length=ps.length
 run:∀(A:Tv)(outer:List SM)(s:Gi)(H:Hp)(args:Args)(us:List Value)(vs:List V)(Q:VK)(E:XK),Yd k A->Qlg P w K mg base A outer s H->SS s fd args (ps.zip us)->Zs vs us->sp vs H Q E->
  codeAny (GJ P w) A (.call (.ref f) args) (CR CX outer P w H s Q E) s
theorem Qlg.make{base:Heap}{outer:List SM}(e:Qlg P w K mg base A outer s H)(C:Gc)(us:List Value)(a:List (Gy×Value)):
  Qlg P w K mg base (A.under (.builtin "type.__call__" ⟨.ref C::us,a⟩)) outer s H:=⟨by first|exact e.frames|(simpa[SQ,Code.envs,SR,pushEnvs]using e.frames),e.mod,e.bs,e.bsz,e.Qbp,e.frf,e.Zu,e.bare⟩
section
variable{X:Cx}{pins:List (Gc×DL)}{σ:St}{H:Hp}{s s':Gi}
theorem Inv.Qzc(I:Inv X pins σ H s):Qlg X.prog X.w X.K X.mg X.base X.A X.stack s H:=
 ⟨I.ok.frames,I.ok.mod,I.bs,TL I.ok.bsz I.sz,I.stack,I.Qmp,I.Zu,I.bare⟩
theorem Inv.after(I:Inv X pins σ H s)(h:CE X.stack X.prog X.w H s Q u s'):EP X pins σ Q u s':=by obtain⟨v,H',os,bare,un,Zu,r,q⟩:=h;obtain⟨c,g,d,t,a⟩:=s';obtain rfl:a=s.os:=os;exact⟨v,H',I.call (h':=c) (g':=g) (d':=d) (t':=t) (ch:=[]) un Zu bare (λb z=>absurd z (by simp)),r,q⟩
end
def Q0l(sp:Sp)(dvs:List V)(E:XK)(t:TA):TE:=λσ H Q=>t σ H λvs H1=>sp (vs++dvs) H1 Q E
def Qh4(C:Gc)(m:Gy)(sp:Sp)(dvs:List V)(E:XK)(ta:TE)(t:TA):TE:=λσ H Q=>ta σ H λx H1=>∃a dx fs,x=.ref a/\H1 a=Ga (.ins C dx fs)/\fs.lookup m=Ge/\
 t σ H1 λvs H2=>sp (x::(vs++dvs)) H2 Q E
def Qwd(C:Gc)(sp:Sp)(dvs:List V)(E:XK)(t:TA):TE:=λσ H Q=>t σ H λvs H1=>∀x dx,H1 x=Ge->H1 dx=Ge->dx≠x->
 sp (.ref x::(vs++dvs)) (upd (upd H1 dx (.own x)) x (.ins C dx [])) (λv H2=>v=.non/\Q (.ref x) H2) E
def Binds(K:PySem.W.Frag)(fd:Td)(ps:List Gy)(ds:List Value):Prop:=
 ∀(s:Gi)(us:List Value),K.In s.heap->(us++ds).length=ps.length->SS s fd ⟨us,[]⟩ (ps.zip (us++ds))
theorem Binds.all{fd:Td}(h:∀us:List Value,us.length=ps.length->bindArgs fd ⟨us,[]⟩=pure (ps.zip us)):Binds K fd ps []:=λs us _ a=>by rw[List.append_nil]at a⊢;exact .of_eq (h us a)
def Il(CX:CXT)(X:Cx)(E:XK):Prop:=∀(pins:List (Gc×DL))(σ:St)(H:Hp)(s:Gi)(e:Value)(s':Gi),Inv X pins σ H s->CX X.stack H s E e s'->X.xe e s'
section
variable{X:Cx}{CX:CXT}{k:Nat}{f C:Gc}{fd:Td}{ps:List Gy}{sp:Sp}{dvs:List V}{ds:List Value}{E:XK}{x m:Gy}{p pos apos:E1}{e o:TJ}{es:List TJ}{ta:TE}{t:TA}
theorem Qj2(F:Qt X.prog X.w X.K X.mg X.base CX k f fd ps sp)(g:Yd k X.A)(hb:Binds X.K fd ps ds)(hd:Zs dvs ds)(i:Il CX X E)
  (I:Inv X pins σ H s)(r:Zs vs us)(h:sp (vs++dvs) H Q E):wpAny (GJ X.prog X.w) X.A (call (.ref f) us) (EP X pins σ Q) X.xe s:=by
 have b:Zs (vs++dvs) (us++ds):=r.append hd;have d:(us++ds).length=ps.length:=by rw[<-b.length];exact F.len _ _ _ _ h
 refine Fu (E6 (F.run X.A X.stack s H ⟨us,[]⟩ (us++ds) (vs++dvs) Q E g I.Qzc (hb s us I.Jw d) b h) λr s' a=>?_);cases r with
 |error e=>exact i pins σ H s e s' I a
 |ok c=>
  cases c with
  |ret u=>exact I.after a
  |next=>exact False.elim a
  |brk=>exact False.elim a
  |cont=>exact False.elim a
theorem Zv(F:Qt X.prog X.w X.K X.mg X.base CX k f fd ps sp)(m:Yd k X.A)(i:Gl X x)(l:X.mg x=Ga (.ref f))(j:PySem.W.keepIn X.K (.ref f)=Gf)(hb:Binds X.K fd ps ds)(hd:Zs dvs ds)(n:Il CX X E)
  (d:PA X (e::es) t)(a:(x==("__debug__":Gy))=Gp:=by decide)(g:GX (e::es) X.env=(Gp,eval e X.env)::GX es X.env:=by rfl)(b:(Du pos (GX es X.env)).any (·.1)=Gp:=by rfl):
  PE X (.Call (.Name x p) (e::es) [] pos) (Q0l sp dvs E t):=by
 intro pins s σ H Q I h;refine TX (Qcc I i l ?_ a);refine PySem.W.callWith_K (h₀:=X.base) I.ok.mod.kin j (Yl (d pos pins s σ H _ I h) λus s1⟨vs,H1,c,r,q⟩=>⟨c.Jw,?_⟩) g b;exact Qj2 F m hb hd n c r q
theorem Zd(p:PE X o ta)(c:Cls X.K C)(j:Yc X.K C m f)(F:Qt X.prog X.w X.K X.mg X.base CX k f fd ps sp)(v:Yd k X.A)(hb:Binds X.K fd ps ds)(hd:Zs dvs ds)(z:Il CX X E)(n:PA X (e::es) t)
  (d:GX (e::es) X.env=(Gp,eval e X.env)::GX es X.env:=by rfl)(b:(Du pos (GX es X.env)).any (·.1)=Gp:=by rfl)
  (y:eval (.Call (.Attribute o m apos) (e::es) [] pos) X.env=(do
   let ov<-eval o X.env
   standAt apos.atName
   let(f,first)<-holding [ov] (getMethod ov m pl)
   callWith pos f first (Du pos (GX (e::es) X.env)) (backToKw pos (keywordEach [] X.env))):=by rfl):
  PE X (.Call (.Attribute o m apos) (e::es) [] pos) (Qh4 C m sp dvs E ta t):=by
 intro pins s σ H Q I h;refine PySem.W.methodCall_KW (pl:=pl) (Yl (p pins s σ H _ I h) λu s1⟨x,H1,g,D,a,dx,fs,ex,ea,l,q⟩=>?_) y;subst ex;obtain rfl:u=Value.ref a:=D;refine R7 g ea c j l ?_;refine PySem.W.callWith_K (first:=[.ref a]) (h₀:=X.base) I.ok.mod.kin j.kp (Yl (n pos pins s1 σ H1 _ g q) λus s2⟨vs,H2,i,r,B⟩=>⟨i.Jw,?_⟩) d b;exact Qj2 (us:=.ref a::us) (vs:=.ref a::vs) F v hb hd z i (.cons rfl r) B
theorem Qhz(e:PE X o ta)(c:Cls X.K C)(d:Yc X.K C m f)(F:Qt X.prog X.w X.K X.mg X.base CX k f fd ps sp)(g:Yd k X.A)(hb:Binds X.K fd ps ds)(hd:Zs dvs ds)(j:Il CX X E)
  (i:eval (.Call (.Attribute o m apos) [] [] pos) X.env=(do
   let ov<-eval o X.env
   standAt apos.atName
   let(f,first)<-holding [ov] (getMethod ov m pl)
   callWith pos f first (Du pos (GX [] X.env)) (backToKw pos (keywordEach [] X.env))):=by rfl):
  PE X (.Call (.Attribute o m apos) [] [] pos) (Qh4 C m sp dvs E ta Qoa):=by
 intro pins s σ H Q I h;refine PySem.W.methodCall_KW (pl:=pl) (Yl (e pins s σ H _ I h) λu s1⟨x,H1,b,n,a,dx,fs,ex,ea,l,q⟩=>?_) i;subst ex;obtain rfl:u=Value.ref a:=n;refine R7 b ea c d l ?_;exact PySem.W.callWith_K0 (first:=[.ref a]) b.Jw d.kp (Qj2 (us:=[.ref a]) (vs:=[.ref a]) F g hb hd j b (.cons rfl .nil) q)
structure Mk(K:PySem.W.Frag)(C f:Gc):Prop where
 makes:PySem.W.makesIn K C=Gf
 init:PySem.W.findIn K (.ref C) "__init__"=Ga (Ga (.ref f))
 fn:PySem.W.isFn K (.ref f)=Gf
 kp:PySem.W.keepIn K (.ref C)=Gf
theorem Qi1(M:Mk X.K C f)(F:Qt X.prog X.w X.K X.mg X.base CX k f fd ps sp)(l:Yd (k+1) X.A)(hb:Binds X.K fd ps ds)(hd:Zs dvs ds)
  (m:Il CX X E)(I:Inv X pins σ H s)(r:Zs vs us)
  (h:∀x dx,H x=Ge->H dx=Ge->dx≠x->sp (.ref x::(vs++dvs)) (upd (upd H dx (.own x)) x (.ins C dx [])) (λv H2=>v=.non/\Q (.ref x) H2) E):
  wpAny (GJ X.prog X.w) X.A (call (.ref C) us) (EP X pins σ Q) X.xe s:=by
 have c:=h (s.heap.objs.size+1) s.heap.objs.size (I.Zu.fresh (D9 _)) (I.Zu.fresh (Gm _)) (GV (Dy _));have b:=Inv.made (C:=C) I;have d:Zs (V.ref (s.heap.objs.size+1)::(vs++dvs)) (Value.ref (s.heap.objs.size+1)::(us++ds)):=.cons rfl (r.append hd);have j:(Value.ref (s.heap.objs.size+1)::us++ds).length=ps.length:=by have e:=d.length;rw[F.len _ _ _ _ c]at e;exact e.symm
 refine Fu (Qry (f:=f) I.Jw M.makes M.init (EE.mp M.fn) (E6 (F.run _ X.stack _ _ ⟨Value.ref (s.heap.objs.size+1)::us,[]⟩ (Value.ref (s.heap.objs.size+1)::(us++ds)) _ _ E (l.make C us [])
  (b.Qzc.make C us []) (hb _ (Value.ref (s.heap.objs.size+1)::us) b.Jw j) d c) λr s' a=>?_))
 cases r with
 |error e=>exact m pins σ _ _ e s' b a
 |ok i=>
  cases i with
  |ret u=>obtain⟨v,H',g,rv,ev,n⟩:=b.after a;subst ev;exact⟨rv,⟨V.ref (s.heap.objs.size+1),H',g,Xb,n⟩⟩
  |next=>exact False.elim a
  |brk=>exact False.elim a
  |cont=>exact False.elim a
theorem Qms(M:Mk X.K C f)(F:Qt X.prog X.w X.K X.mg X.base CX k f fd ps sp)(l:Yd (k+1) X.A)(i:Gl X x)(j:X.mg x=Ga (.ref C))(hb:Binds X.K fd ps ds)(hd:Zs dvs ds)(m:Il CX X E)
  (d:PA X (e::es) t)(a:(x==("__debug__":Gy))=Gp:=by decide)(g:GX (e::es) X.env=(Gp,eval e X.env)::GX es X.env:=by rfl)(b:(Du pos (GX es X.env)).any (·.1)=Gp:=by rfl):
  PE X (.Call (.Name x p) (e::es) [] pos) (Qwd C sp dvs E t):=by
 intro pins s σ H Q I h;refine TX (Qcc I i j ?_ a);refine PySem.W.callWith_K (h₀:=X.base) I.ok.mod.kin M.kp (Yl (d pos pins s σ H _ I h) λus s1⟨vs,H1,c,r,q⟩=>⟨c.Jw,?_⟩) g b;exact Qi1 M F l hb hd m c r q
theorem Qhx(M:Mk X.K C f)(F:Qt X.prog X.w X.K X.mg X.base CX k f fd ps sp)(d:Yd (k+1) X.A)(b:Gl X x)(c:X.mg x=Ga (.ref C))(hb:Binds X.K fd ps ds)(hd:Zs dvs ds)(e:Il CX X E)
  (a:(x==("__debug__":Gy))=Gp:=by decide):PE X (.Call (.Name x p) [] [] pos) (Qwd C sp dvs E Qoa):=by
 intro pins s σ H Q I h;refine TX (Qcc I b c ?_ a);exact PySem.W.callWith_K0 I.Jw M.kp (Qi1 (us:=[]) M F d hb hd e I .nil h)
end
structure Qy(N P:List Gy)(sc:EV):Prop where
 kind:sc.kind=.function
 co:sc.isCoroutine=Gp
 gen:sc.isGenerator=Gp
 nd:N.Nodup
 pre:N.take P.length=P
 par:∀x∈P,sc.names.lookup x=Ga .local\/sc.names.lookup x=Ga .cell
 Qyo:∀y∈sc.names,y.2≠.free
theorem Qfr{kindOf:Gy->Option El}{x:Gy}:∀{binds:List (Gy×Value)}{m:Gy->Option Value},(∀v,(x,v)∉binds)->bindL kindOf binds m x=m x
 |[],_,_=>rfl
 |(n,v)::r,m,h=>by
  unfold bindL;rw[Qfr λw hw=>h w (List.mem_cons_of_mem _ hw)];split
  ·have:x≠n:=by rintro rfl;exact h v List.mem_cons_self
   simp[this]
  ·rfl
theorem Qe5{kindOf:Gy->Option El}{x:Gy}:∀{binds:List (Gy×Value)}{m:Gy->Option Value},(∀v,(x,v)∉binds)->bindC kindOf binds m x=m x
 |[],_,_=>rfl
 |(n,v)::r,m,h=>by
  unfold bindC;rw[Qe5 λw hw=>h w (List.mem_cons_of_mem _ hw)];split
  ·rfl
  ·have:x≠n:=by rintro rfl;exact h v List.mem_cons_self
   simp[this]
theorem Qe9{kindOf:Gy->Option El}{x:Gy}{v:Value}:∀{P:List Gy}{vs:List Value}{i:Nat}{m:Gy->Option Value},P.Nodup->P[i]?=Ga x->vs[i]?=Ga v->kindOf x=Ga .local->
  bindL kindOf (P.zip vs) m x=Ga v
 |[],_,_,_,_,h,_,_=>by simp at h
 |_::_,[],_,_,_,_,h,_=>by simp at h
 |p::P,w::vs,0,m,nd,h1,h2,a=>by simp at h1 h2;subst h1;subst h2;show bindL kindOf ((p,w)::P.zip vs) m p=_;unfold bindL;rw[Qfr λv b=>(List.nodup_cons.mp nd).1 (List.of_mem_zip b).1,Gk a];simp
 |p::P,w::vs,i+1,m,nd,h1,h2,a=>by show bindL kindOf ((p,w)::P.zip vs) m x=_;unfold bindL;exact Qe9 (i:=i) (List.nodup_cons.mp nd).2 (by simpa using h1) (by simpa using h2) a
theorem Qes{kindOf:Gy->Option El}{x:Gy}{v:Value}:∀{P:List Gy}{vs:List Value}{i:Nat}{m:Gy->Option Value},P.Nodup->P[i]?=Ga x->vs[i]?=Ga v->kindOf x≠Ga .local->
  bindC kindOf (P.zip vs) m x=Ga v
 |[],_,_,_,_,h,_,_=>by simp at h
 |_::_,[],_,_,_,_,h,_=>by simp at h
 |p::P,w::vs,0,m,nd,h1,h2,a=>by simp at h1 h2;subst h1;subst h2;show bindC kindOf ((p,w)::P.zip vs) m p=_;unfold bindC;rw[Qe5 λv b=>(List.nodup_cons.mp nd).1 (List.of_mem_zip b).1,Gg a];simp
 |p::P,w::vs,i+1,m,nd,h1,h2,a=>by show bindC kindOf ((p,w)::P.zip vs) m x=_;unfold bindC;exact Qes (i:=i) (List.nodup_cons.mp nd).2 (by simpa using h1) (by simpa using h2) a
def start(N:List Gy)(vs:List V):St:=vs.map Ga++List.replicate (N.length - vs.length) Ge
def Qhj(CX:CXT)(P:Gj)(w:Gs)(K:PySem.W.Frag)(mg:Gy->Option Value)(base:Heap)(N:List Gy)(qual:Gy)(scope:EV)(f:Gc)(b:Value)(A:Tv)(outer:List SM)(s:Gi)(H:Hp)(E:XK):Cx where
 prog:=P
 w:=w
 K:=K
 mg:=mg
 base:=base
 A:=A.deeper (envOfC qual scope s.heap.objs.size f b)
 N:=N
 s₀:=s
 H₀:=H
 env:=envOfC qual scope s.heap.objs.size f b
 outer:=outer
 stack:=envOfC qual scope s.heap.objs.size f b::outer
 ex:=[]
 calm:=Gf
 fn:=λ_=>Gf
 pn:=[]
 xe:=λe s'=>wpAny (GJ P w) (A.deeper (envOfC qual scope s.heap.objs.size f b)) (leaving (envOfC qual scope s.heap.objs.size f b) e) (λ_ a=>CX outer H s E e a) (λc a=>CX outer H s E c a) s'
theorem Qid{a:EV}(h:a.names.lookup x=Ga .cell):∃c,(cellsFrom n a.names []).lookup x=Ga c:=by have q:=PySem.W.cellsFrom_some a.names n [] (.inl h);exact ER.mp q
theorem Qo3{CX:CXT}{base:Heap}{qual:Gy}{scope:EV}{f:Gc}{o:Value}{outer:List SM}{s1:Gi}{E:XK}
  (S:Qy N ps scope)(hd:A.handled=Ge)(d:Qlg P w K mg base A outer s H)(G:vs.length=ps.length)(r:Zs vs us)
  (x:InCallC s s.heap.objs.size (bindL (envOfC qual scope s.heap.objs.size f o).kindOf (ps.zip us) λ_=>Ge) (cellsFrom (s.heap.objs.size+1) scope.names []) (bindC (envOfC qual scope s.heap.objs.size f o).kindOf (ps.zip us) λ_=>Ge) s1):
  Inv (Qhj CX P w K mg base N qual scope f o A outer s H E) [] (start N vs) H s1:=by
 have D:ps.length<=N.length:=by have:=congrArg List.length S.pre;rw[List.length_take]at this;omega
 obtain⟨h1,tk,rfl,t⟩:=x.done;have j:∀b:Gc,b∉(Qhj CX P w K mg base N qual scope f o A outer s H E).ex:=λb z=>absurd (show b∈([]:List Gc)from z) (by simp);refine⟨⟨d.mod,S.kind,Xb,Xb,Gm _,λy z c h1 h2=>?_,λy g=>?_,λy c _ h=>?_,λ_=>hd,Around.frames_deeper d.frames,.inr ⟨Xb,Xb⟩,λb z=>absurd z (j b),d.bs,d.bsz,λb _ _=>j b,λb z=>absurd z (j b),d.Qbp,d.frf⟩,
  Xb,d.bare,Un.kept t,⟨_,x.toInCall.ns,λi y v h1 h2 F=>?_⟩,λy c h=>⟨_,x.cell y c h⟩,d.Zu.fresh (Gm _),λy c h=>?_,λp l=>absurd (show p∈([]:List (Gc×DL))from l) (by simp),d.Zu.kept t,?_⟩
 ·exact name_of_addr x.apart (PySem.mem_of_lookup h1) (PySem.mem_of_lookup h2)
 ·have g:scope.names.lookup y=Ga .cell\/scope.names.lookup y=Ga .free:=g;rcases g with g|g
  ·exact Qid g
  ·exact absurd rfl (S.Qyo _ (PySem.mem_of_lookup g))
 ·exact E2 (x.above y c (PySem.mem_of_lookup h))
 ·have hi:i<vs.length:=by
   unfold start at h2;by_cases hi:i<vs.length
   ·exact hi
   ·rw[List.getElem?_append_right (by simpa using hi)]at h2;rw[List.getElem?_replicate]at h2;split at h2<;>cases h2
  have C:vs[i]?=Ga v:=by
   unfold start at h2;rw[List.getElem?_append_left (by simpa using hi),List.getElem?_map]at h2;cases e:vs[i]? with
   |none=>rw[e]at h2;cases h2
   |some a=>rw[e]at h2;cases h2;rfl
  obtain⟨u,B,rv⟩:=r.get C;have l:ps[i]?=Ga y:=by rw[<-S.pre,List.getElem?_take_of_lt (by omega)];exact h1
  have m:ps.Nodup:=by rw[<-S.pre];exact S.nd.sublist (List.take_sublist _ _)
  refine⟨u,rv,?_⟩;rcases S.par y (List.mem_of_getElem? l)with k|k
  ·exact .inl ⟨k,Qe9 m l B k⟩
  ·obtain⟨c,e⟩:=Qid (n:=s.heap.objs.size+1) k;refine .inr ⟨.inl k,c,e,?_⟩;have q:=x.cell y c e;rw[Qes m l B (by show scope.names.lookup y≠_;rw[k];decide)]at q;exact q
 ·exact d.Zu.fresh (E2 (x.above y c (PySem.mem_of_lookup h)))
 ·unfold start;show _=N.length;rw[List.length_append,List.length_map,List.length_replicate];omega
theorem Qzf{CX:CXT}{base:Heap}{f:Gc}{name qual:Gy}{a:Arguments}{scope:EV}{z kV doc pm cdv ct oc:Value}{an od:Option Gc}
  {osl:Array (Option Value)}{sp:Sp}(lk:K.lookup f=Ga ⟨oc,od,.func (PySem.W.fnOf name qual a body scope z kV doc pm an cdv ct),osl⟩)(l:PySem.W.codeIn K cdv qual=Gf)(S:Qy N ps scope)
  (len:∀vs H Q E,sp vs H Q E->vs.length=ps.length)
  (d:∀(A:Tv)(outer:List SM)(s:Gi)(H:Hp)(vs:List V)(Q:VK)(E:XK),Yd k (A.deeper (envOfC qual scope s.heap.objs.size f cdv))->sp vs H Q E->
   ∃t,PSs (Qhj CX P w K mg base N qual scope f cdv A outer s H E) body t/\t {nx:=λ_ H'=>Q .non H',rt:=Q} (start N vs) H):
  Qt P w K mg base CX (k+1) f (PySem.W.fnOf name qual a body scope z kV doc pm an cdv ct) ps sp:=by
 refine⟨len,λA outer s H args us vs Q E m i hb r j=>?_⟩;have D:=len _ _ _ _ j;have KX:K.In s.heap:=i.mod.kin.keeps λb o e=>(i.bs b o e).1;have p:s.heap.NoLimit:=i.mod.nolimit.keeps λb o e=>(i.bs b o e).1;have g:∀y∈ps.zip us,scope.names.lookup y.1=Ga .local\/(scope.names.lookup y.1=Ga .cell/\((cellsFrom (s.heap.objs.size+1) scope.names []).lookup y.1).isSome=Gf):=λ⟨n,v⟩L=>by
  rcases S.par n (List.of_mem_zip L).1 with q|q
  ·exact .inl q
  ·exact .inr ⟨q,PySem.W.cellsFrom_some _ _ _ (.inl q)⟩
 refine codeAny_call_function m.depth (KX _ _ lk) rfl S.co S.gen rfl (PySem.W.codeRec_of KX l) (hb _ _ _ _ ?_);refine wpAny_newFunctionEnv_cells S.kind g λenv C s1 x=>?_;subst C;refine⟨p.keeps x.toInCall.keep,codeAny_func ?_⟩;obtain⟨t,G,F⟩:=d A outer s H vs Q E (m.deeper _) j;have I:Inv (Qhj CX P w K mg base N qual scope f cdv A outer s H E) [] (start N vs) H s1:=Qo3 S m.hd i D r x;refine Dh (G [] s1 (start N vs) H _ I F) (λB s' h=>?_) λe s' h=>h;have fin:∀{c:St}{H':Hp}{v:V}{u:Value},Inv (Qhj CX P w K mg base N qual scope f cdv A outer s H E) [] c H' s'->RelV v u->Q v H'->CE outer P w H s Q u s':=
  λ{c H' v u}J rv q=>⟨v,H',J.os,J.bare,J.base,J.Zu,rv,q⟩
 cases B with
 |ret u=>obtain⟨v,c,H',J,rv,q⟩:=h;exact fin J rv q
 |next=>obtain⟨c,H',J,q⟩:=h;exact fin (v:=V.non) (u:=Value.none) J rfl q
 |brk=>obtain⟨_,_,_,q⟩:=h;exact False.elim q
 |cont=>obtain⟨_,_,_,q⟩:=h;exact False.elim q
section
variable{X:Cx}{x:Gy}{p pos:E1}{e:TJ}{es:List TJ}{t:TA}{id T:String}{r:List V->Hp->VK->Prop}
def tCB(r:List V->Hp->VK->Prop)(t:TA):TE:=λσ H Q=>t σ H λvs H1=>r vs H1 Q
theorem Qo(f:Vn X (.builtin id) r)(i:Gl X x)(j:X.mg x=Ge)(l:bootBuiltins x=Ga (.builtin id))(d:PA X (e::es) t)(k:x≠"__name__":=by decide)(a:(x==("__debug__":Gy))=Gp:=by decide)
  (g:GX (e::es) X.env=(Gp,eval e X.env)::GX es X.env:=by rfl)(b:(Du pos (GX es X.env)).any (·.1)=Gp:=by rfl):PE X (.Call (.Name x p) (e::es) [] pos) (tCB r t):=by
 intro pins s σ H Q I h;refine TX (Vq I i j l ?_ k a);exact Lf (Yl (d pos pins s σ H _ I h) λus s1⟨vs,H1,c,n,m⟩=>f pins s1 σ H1 vs us Q c n m) g b
theorem Xt(f:Vn X (.type T) r)(i:Gl X x)(j:X.mg x=Ge)(l:bootBuiltins x=Ga (.type T))(d:PA X (e::es) t)(k:x≠"__name__":=by decide)(a:(x==("__debug__":Gy))=Gp:=by decide)
  (g:GX (e::es) X.env=(Gp,eval e X.env)::GX es X.env:=by rfl)(b:(Du pos (GX es X.env)).any (·.1)=Gp:=by rfl):PE X (.Call (.Name x p) (e::es) [] pos) (tCB r t):=by
 intro pins s σ H Q I h;refine TX (Vq I i j l ?_ k a);exact T9 (Yl (d pos pins s σ H _ I h) λus s1⟨vs,H1,c,n,m⟩=>f pins s1 σ H1 vs us Q c n m) g b
end
end L2
namespace HT
open PySem PyProof.Rows
section
variable{prog:Gj}{w:Gs}{A:Tv}{E:Value->Gi->Prop}{s:Gi}
def Wh(n d:Nat):Option Int->Nat
 |none=>d
 |some v=>if v<0 then(v+(n:Int)).toNat else min v.toNat n
theorem Jz(n d:Nat):Wh n d Ge=d:=rfl
theorem Jl(n d k:Nat):Wh n d (Ga (k:Int))=min k n:=by show(if(k:Int)<0 then((k:Int)+(n:Int)).toNat else min (k:Int).toNat n)=min k n;rw[Gg (by omega),Dc]
theorem Qyd(n d:Nat)(hd:d<=n)(o:Option Int):Wh n d o<=n:=by
 cases o with
 |none=>exact hd
 |some v=>
  show(if v<0 then(v+(n:Int)).toNat else min v.toNat n)<=n;by_cases a:v<0
  ·rw[Gk a];omega
  ·rw[Gg a];exact Lg _ _
theorem Qmt(v:Int)(n d:Nat):(if v<0 then max (v+(n:Int)) 0 else min v (n:Int))=((Wh n d (Ga v):Nat):Int):=by
 show(if v<0 then max (v+(n:Int)) 0 else min v (n:Int))=(((if v<0 then(v+(n:Int)).toNat else min v.toNat n):Nat):Int);by_cases a:v<0
 ·simp only[Gk a];omega
 ·simp only[Gg a];omega
theorem Qjw(lo hi:Option Int)(n:Nat):Builtin.Slice.sliceAdjust lo hi 1 (n:Int)=(((Wh n 0 lo:Nat):Int),((Wh n n hi:Nat):Int)):=by
 have h1:¬((1:Int)<0):=by omega
 unfold Builtin.Slice.sliceAdjust;simp only[h1,T6];refine SU ?_ ?_
 ·cases lo with
  |none=>rfl
  |some v=>exact Qmt v n 0
 ·cases hi with
  |none=>rfl
  |some v=>exact Qmt v n n
theorem Qlh(i j:Nat):Builtin.Slice.slicePlaces (i:Int) (j:Int) 1=j - i:=by
 unfold Builtin.Slice.slicePlaces;have h1:(1:Int)>0:=by omega
 simp only[h1,E7,LY];split<;>omega
theorem Qds{v:Value}{o:Option Int}{Q:Option Int->Gi->Prop}(p:SF v o)(h:Q o s):wpAny (GJ prog w) A (Builtin.Slice.slicePartIndex v) Q E s:=by
 cases p with
 |none=>exact Lz h
 |int i t=>exact slicePart_int h
theorem Qam{sl:Gc}{c d:Value}{lo hi:Option Int}{n:Nat}{Q:Int×Int×Nat->Gi->Prop}(f:s.heap.IsSliceOf sl c d .none)(pl:SF c lo)(g:SF d hi)
  (h:Q (((Wh n 0 lo:Nat):Int),1,Wh n n hi - Wh n 0 lo) s):wpAny (GJ prog w) A (Builtin.Slice.sliceApplied (.ref sl) (pure (n:Int))) Q E s:=by
 obtain⟨os,b,e,a⟩:=id f;unfold Builtin.Slice.sliceApplied Builtin.Slice.sliceFields;refine Gb (Gb (Tt b a (x:=c) rfl (Gb (Tt b a (x:=d) rfl (Gb (Tt b a (x:=.none) rfl (Gd ?_)))))));refine Gb (Lz ?_);show wpAny _ _ (if((1:Int)==0)=Gf then _ else _) _ _ s;rw[Gg (by decide)];refine Gb (Qds pl (Gb (Qds g (Gb (Gd ?_)))));show wpAny _ _ (match Builtin.Slice.sliceAdjust lo hi 1 (n:Int)with|(lo,hi)=>pure (lo,(1:Int),Builtin.Slice.slicePlaces lo hi 1)) _ _ s;rw[Qjw lo hi n];show wpAny _ _ (pure (((Wh n 0 lo:Nat):Int),(1:Int),Builtin.Slice.slicePlaces ((Wh n 0 lo:Nat):Int) ((Wh n n hi:Nat):Int) 1)) _ _ s;rw[Qlh];exact Gd h
theorem Qsn(xs:Array Value)(i k:Nat):((List.range k).filterMap λ(m:Nat)=>xs[((i:Int)+(m:Int)*1).toNat]?).toArray=((xs.toList.drop i).take k).toArray:=by
 have e:(λ(m:Nat)=>xs[((i:Int)+(m:Int)*1).toNat]?)=λm=>xs[i+m]?:=by
  funext m
  have:((i:Int)+(m:Int)*1).toNat=i+m:=by omega
  rw[this]
 rw[e];have:=pick_run xs i k;rw[List.filterMap_map]at this;have a:((λx=>xs[x]?)∘λx=>i+x)=λm=>xs[i+m]?:=rfl;rw[a]at this;rw[this]
theorem O0{t sl:Gc}{a:Array Value}{j k:Value}{lo hi:Option Int}{Q:Value->Gi->Prop}(c:IsTup s.heap t a)(i:s.heap.IsSliceOf sl j k .none)(pl:SF j lo)(n:SF k hi)
  (hw:¬(Wh a.size 0 lo=0/\Wh a.size a.size hi=a.size))
  (h:Q (.ref s.heap.objs.size) {s with heap:=s.heap.push {cls:=.type "tuple",data:=.seq ((a.toList.drop (Wh a.size 0 lo)).take (Wh a.size a.size hi - Wh a.size 0 lo)).toArray}})
  (hsz:a.size<=Gh):wpAny (GJ prog w) A (getItem (.ref t) (.ref sl)) Q E s:=by
 have b:sizeOk (.seq ((a.toList.drop (Wh a.size 0 lo)).take (Wh a.size a.size hi - Wh a.size 0 lo)).toArray):=by show((a.toList.drop (Wh a.size 0 lo)).take (Wh a.size a.size hi - Wh a.size 0 lo)).toArray.size<=Gh;rw[List.size_toArray,List.length_take,List.length_drop,Ts];omega
 have o:Wh a.size a.size hi<=a.size:=Qyd _ _ (Gm _) hi;obtain⟨os,g,e,l⟩:=id i;have d:s.TypeIs (.ref sl) "slice":=⟨os,g,e⟩;unfold getItem;try with_reducible refine TR ?_
 first|refine Gb (Gd ?_)|skip
 refine Gb (wpAny_sequenceKey c.typeIs (by decide) ?_);refine Gb (Tx (name:=De "__getitem__") c.typeIs DJ
  (Tn DJ c.typeIs entry_tuple_getitem ?_ (args_tuple_getitem _ _)))
 show wpAny _ _ (Builtin.Tuple.tupleItemsOf (.ref t)>>=_) _ _ s;refine Gb (tupleItemsOf_ c ?_);refine Gb (LZ d ?_);rw[Gk (by decide)];refine Gb (Qam i pl n ?_);have f:¬((((Wh a.size 0 lo:Nat):Int)==0&&(1:Int)==1&&(Wh a.size a.size hi - Wh a.size 0 lo)==a.size)=Gf):=by intro q;rw[GO,GO]at q;have p:((Wh a.size 0 lo:Nat):Int)=0:=eq_of_beq q.1.1;have r:Wh a.size a.size hi - Wh a.size 0 lo=a.size:=eq_of_beq q.2;exact hw ⟨by omega,by omega⟩
 show wpAny _ _ (if(((Wh a.size 0 lo:Nat):Int)==0&&(1:Int)==1&&(Wh a.size a.size hi - Wh a.size 0 lo)==a.size)=Gf then _ else _) _ _ s;rw[Gg f,Qsn];first
  |exact Gb (m:=Builtin.Tuple.tupleExact _) (To (Gd ⟨_,Xb,Gd h⟩) b)
  |exact Gb (m:=Builtin.Tuple.tupleExact _) (To (Gb (Gd (Gd ⟨_,Xb,Gd h⟩))) b)
  |exact Gb (Gb (m:=Builtin.Tuple.tupleExact _) (To (Gd (Gd ⟨_,Xb,Gd h⟩)) b))
  |exact Gb (Gb (m:=Builtin.Tuple.tupleExact _) (To (Gd ⟨_,Xb,Gd h⟩) b))
end
end HT
namespace L2
open PySem PySem.Spec PyProof.Rows
variable{n t':Nat}{α:Type}{pins:List (Gc×DL)}{σ:St}{H H':Hp}{s:Gi}{u:Value}{y:V}{P:Gj}{w:Gs}{kvs:List (List Xh×V)}{xs:List (List Xh×Gc×Value)}{b a:Gc}{Q:Value->Gi->Prop}{pos:E1}{X:Cx}
abbrev TO:=St->Hp->(Option Int->Hp->Prop)->Prop
def PO(X:Cx)(e:Option TJ)(t:TO):Prop:=
 ∀(pins:List (Gc×DL))(s:Gi)(σ:St)(H:Hp)(Q:Option Int->Hp->Prop),Inv X pins σ H s->t σ H Q->
  wpAny (GJ X.prog X.w) X.A (evalPart e X.env) (λu s'=>∃o H',Inv X pins σ H' s'/\SF u o/\Q o H') X.xe s
def Qub:TO:=λ_ H Q=>Q Ge H
def Q0k(t:TE):TO:=λσ H Q=>t σ H λx H1=>∃i,x=.int i/\Q (Ga i) H1
section
variable{X:Cx}{e:TJ}{te:TE}{lo hi:Option TJ}{tl th:TO}{pos p2:E1}
theorem Xw:PO X Ge Qub:=by intro pins s σ H Q I h;rw[LJ];exact Gd ⟨Ge,H,I,.none,h⟩
theorem Y2(h:PE X e te):PO X (Ga e) (Q0k te):=by intro pins s σ H Q I hw;rw[evalPart_some];refine Yl (h pins s σ H _ I hw) λu s1⟨x,H1,a,c,b⟩=>?_;obtain⟨i,rfl,q⟩:=b;obtain⟨t,rfl⟩:=c;exact⟨Ga i,H1,a,.int i t,q⟩
def SlR(X:Cx)(r:V->Option Int->Option Int->Hp->VK->Prop):Prop:=
 ∀(pins:List (Gc×DL))(s:Gi)(σ:St)(H:Hp)(x:V)(v a b:Value)(lo hi:Option Int)(sl:Gc)(Q:VK),Inv X pins σ H s->RelV x v->s.heap.IsSliceOf sl a b .none->SF a lo->SF b hi->r x lo hi H Q->
  ∃T id,typeLookup (.type T) "__getitem__"=pure (Ga (.builtin id))/\s.TypeIs v T/\wpAny (GJ X.prog X.w) X.A (getItem v (.ref sl)) (EP X pins σ Q) X.xe s
def tSl(r:V->Option Int->Option Int->Hp->VK->Prop)(te:TE)(tl th:TO):TE:=λσ H Q=>te σ H λx H1=>tl σ H1 λl H2=>th σ H2 λu a=>r x l u a Q
theorem Yp{r:V->Option Int->Option Int->Hp->VK->Prop}(t:SlR X r)(n:PE X e te)(p:PO X lo tl)(z:PO X hi th):PE X (.Subscript e (.Slice lo hi Ge p2) pos) (tSl r te tl th):=by intro pins s σ H Q I h;refine LA (Yl (n pins s σ H _ I h) λv s1⟨x,H1,g,F,C⟩=>?_);refine wpAny_Slice (Yl (p pins s1 σ H1 _ g C) λc s2⟨l,H2,i,pl,D⟩=>Yl (z pins s2 σ H2 _ i D) λd a⟨u,f,j,B,E⟩=>?_);rw[LJ];refine Gd ?_;have k:Inv X pins σ f {a with heap:=a.heap.push {cls:=.type "slice",data:=.fields #[c,d,.none]}}:=j.kept (t':=a.toks) λb ob q=>Heap.get?_push_of_some _ q;obtain⟨T,id,m,y,o⟩:=t pins {a with heap:=a.heap.push {cls:=.type "slice",data:=.fields #[c,d,.none]}} σ f x v c d l u a.heap.objs.size Q k F (Heap.IsSliceOf.new ..) pl B E;show wpAny (GJ X.prog X.w) X.A (subscriptTail e (.Slice lo hi Ge p2) v (.ref a.heap.objs.size)) (EP X pins σ Q) X.xe {a with heap:=a.heap.push {cls:=.type "slice",data:=.fields #[c,d,.none]}};exact tail_any (ops:=[.ref a.heap.objs.size,v]) y m o (by with_unfolding_all rfl)
def V4(xs:List V)(lo hi:Option Int):List V:=(xs.drop (HT.Wh xs.length 0 lo)).take (HT.Wh xs.length xs.length hi - HT.Wh xs.length 0 lo)
theorem Qbj(xs:List V)(lo hi:Option Int):(V4 xs lo hi).length<=xs.length:=by unfold V4;rw[List.length_take,List.length_drop];omega
def Q0y(K:PySem.W.Frag):V->Option Int->Option Int->Hp->VK->Prop:=λx lo hi H Q=>∃a xs,x=.ref a/\Z4 K H a xs/\
 ¬(HT.Wh xs.length 0 lo=0/\HT.Wh xs.length xs.length hi=xs.length)/\∀p,H p=Ge->Q (.ref p) (upd H p (.tup (V4 xs lo hi)))
theorem Jd:SlR X (Q0y X.K):=by
 intro pins s σ H x v j k lo hi sl Q I i e pl g h;obtain⟨a,xs,rfl,f,hw,q⟩:=h;cases i;obtain⟨its,r,d,hz⟩:=I.tuple f;have c:its.toArray.size=xs.length:=by rw[List.size_toArray];exact r.length.symm
 refine⟨"tuple",_,DJ.lookup,d.typeIs,?_⟩;refine HT.O0 d e pl g (by rw[c];exact hw) ?_ (by rw[c];exact hz);rw[c];refine⟨.ref s.heap.objs.size,_,I.laid (t':=s.toks) (o:=.tup (V4 xs lo hi)) (λb ob q=>Heap.get?_push_of_some _ q) (Gm _) ?_,Xb,q _ (I.Zu.fresh (Gm _))⟩;exact⟨TL (Qbj xs lo hi) hz,_,(r.drop (HT.Wh xs.length 0 lo)).take (HT.Wh xs.length xs.length hi - HT.Wh xs.length 0 lo),FG _ _⟩
end
def ixN(n:Nat)(i:Int):Option Nat:=if 0<=i then(if i<n then Ga i.toNat else Ge)else if -(n:Int)<=i then Ga (i+n).toNat else Ge
def atI{α:Type}(xs:List α)(i:Int):Option α:=(ixN xs.length i).bind λj=>xs[j]?
theorem Qu2{i:Int}{j:Nat}(h:ixN n i=Ga j):seqIndex? i n=Ga j/\j<n/\ -(n:Int)<=i/\i<n:=by
 unfold ixN at h;by_cases a:0<=i
 ·rw[Gk a]at h;by_cases h1:i<n
  ·rw[Gk h1]at h;have e:i.toNat=j:=Tc h;exact⟨by rw[Fj a h1,e],by omega,by omega,h1⟩
  ·rw[Gg h1]at h;cases h
 ·rw[Gg a]at h;by_cases h1: -(n:Int)<=i
  ·rw[Gk h1]at h;have e:(i+n).toNat=j:=Tc h;exact⟨by rw[L1 (by omega) h1,e],by omega,h1,by omega⟩
  ·rw[Gg h1]at h;cases h
theorem Qgv{xs:List α}{i:Int}{v:α}(h:atI xs i=Ga v):∃j,seqIndex? i xs.length=Ga j/\xs[j]?=Ga v/\j<xs.length/\ -(xs.length:Int)<=i/\i<xs.length:=by
 unfold atI at h;cases e:ixN xs.length i with
 |none=>rw[e]at h;cases h
 |some j=>rw[e]at h;obtain⟨h1,h2,a,b⟩:=Qu2 e;exact⟨j,h1,h,h2,a,b⟩
theorem Qz{xs:List α}{j:Nat}{v:α}(h:xs[j]?=Ga v):atI xs (j:Int)=Ga v:=by
 have a:j<xs.length:=(List.getElem?_eq_some_iff.mp h).1;have e:ixN xs.length (j:Int)=Ga j:=by unfold ixN;rw[Gk (by omega),Gk (by omega)];simp
 unfold atI;rw[e];exact h
theorem Qrm(xs:List α)(v:α):atI (xs++[v]) (-1)=Ga v:=by
 have a:(xs++[v]).length=xs.length+1:=by simp
 have e:ixN (xs++[v]).length (-1)=Ga xs.length:=by unfold ixN;rw[a,Gg (by decide),Gk (by omega)];congr 1;omega
 unfold atI;rw[e];show(xs++[v])[xs.length]?=Ga v;simp
def Qup(b:TJ):Prop:=∀o i,subscripted b Gp o i=operate [o,i] (getItem o i)
def IxR(X:Cx)(r:R2):Prop:=
 ∀(value a:TJ)(pins:List (Gc×DL))(s:Gi)(σ:St)(H:Hp)(x y:V)(v u:Value)(Q:VK),Inv X pins σ H s->RelV x v->RelV y u->r x y H Q->
  subscripted a Gp v u=operate [v,u] (getItem v u)->wpAny (GJ X.prog X.w) X.A (subscriptTail value a v u) (EP X pins σ Q) X.xe s
def MtR(X:Cx)(id:String)(r:V->List V->Hp->VK->Prop):Prop:=
 ∀(pins:List (Gc×DL))(s:Gi)(σ:St)(H:Hp)(x:V)(xs:List V)(v:Value)(us:List Value)(Q:VK),Inv X pins σ H s->RelV x v->Zs xs us->r x xs H Q->
  wpAny (GJ X.prog X.w) X.A (call (.builtin id) (v::us)) (EP X pins σ Q) X.xe s
section
variable{X:Cx}{a b:TJ}{ta tb:TE}{pos:E1}
theorem IxR.or{r c:R2}(h:IxR X r)(h':IxR X c):IxR X (λx y H Q=>r x y H Q\/c x y H Q):=by
 intro value a pins s σ H x y v u Q I d e q b;rcases q with q|q
 ·exact h value a pins s σ H x y v u Q I d e q b
 ·exact h' value a pins s σ H x y v u Q I d e q b
theorem Qn{r:R2}(e:IxR X r)(d:PE X a ta)(hb:PE X b tb)(f:Qup b:=by exactλ_ _=>rfl):PE X (.Subscript a b pos) (tOp r ta tb):=by intro pins s σ H Q I h;exact LA (Qyq d hb I h λv u s2 x y H2 c g i q=>e a b pins s2 σ H2 x y v u Q c g i q (f _ _))
def Qzy(K:PySem.W.Frag):R2:=λx y H Q=>∃p xs i v,x=.ref p/\y=.int i/\Zb K H p xs/\atI xs i=Ga v/\Q v H
def Qv2(K:PySem.W.Frag):R2:=λx y H Q=>∃p xs i v,x=.ref p/\y=.int i/\Z4 K H p xs/\atI xs i=Ga v/\Q v H
def Qzp:R2:=λx y H Q=>∃z i c,x=.str z/\y=.int i/\z.length<=Gh/\atI z.cps.toList i=Ga c/\Q (.str ⟨#[c]⟩) H
theorem Ze:IxR X (Qzy X.K):=by
 intro value c pins s σ H x y v u Q I o A h f;obtain⟨p,xs,i,z,rfl,rfl,n,l,q⟩:=h;cases o;obtain⟨t,rfl⟩:=A;obtain⟨its,r,pl,hz⟩:=I.list n;obtain⟨j,h1,h2,B,g,k⟩:=Qgv l;obtain⟨w,d,b⟩:=r.get h2;have m:=r.length;have C:=Rl;have fin:EP X pins σ Q w s:=⟨z,H,I,b,q⟩;by_cases e:0<=i
 ·have a:i.toNat=j:=by rw[Fj e k]at h1;exact Tc h1
  exact item_listR pl.isList e (by omega) (by rw[a];simpa using d) fin f
 ·have a:(i+(its.toArray.size:Int)).toNat=j:=by rw[L1 (by omega) g]at h1;rw[List.size_toArray,<-m];exact Tc h1
  exact Ea (x:=w) pl.isList.typeIs slot_list_getitem.lookup
   (wpAny_getItem_list_neg (Q:=λr s'=>r=w/\EP X pins σ Q r s') pl.isList (by omega) (by rw[List.size_toArray]<;>omega) (by omega) (by rw[a];simpa using d) ⟨Xb,fin⟩) f
theorem Q3:IxR X (Qv2 X.K):=by
 intro value b pins s σ H x y v u Q I k l h g;obtain⟨p,xs,i,z,rfl,rfl,f,d,q⟩:=h;cases k;obtain⟨t,rfl⟩:=l;obtain⟨its,r,pl,hz⟩:=I.tuple f;obtain⟨j,h1,h2,m,n,o⟩:=Qgv d;obtain⟨w,c,a⟩:=r.get h2;have e:=r.length;have A:=Rl;have fin:EP X pins σ Q w s:=⟨z,H,I,a,q⟩;exact Ea (x:=w) pl.typeIs slot_tuple_getitem.lookup
  (getItem_tuple (j:=j) (Q:=λr s'=>r=w/\EP X pins σ Q r s') pl (by omega) (by omega) (by rw[List.size_toArray,<-e];exact h1) (by simpa using c) ⟨Xb,fin⟩) g
theorem Qsb:IxR X Qzp:=by
 intro value a pins s σ H x y v u Q I m n h l;obtain⟨z,i,c,rfl,rfl,hz,g,q⟩:=h;obtain⟨t,rfl⟩:=m;obtain⟨t',rfl⟩:=n;obtain⟨j,h1,h2,o,e,f⟩:=Qgv g;have k:z.cps.toList.length=z.length:=by simp[Str.length]
 rw[k]at h1 e f;have p:=Rl;exact tail_any (Fv s z t) slot_str_getitem.lookup (getItem_str (c:=c) (by have b:decide (i< -(2^63:Int))=Gp:=Gx (by omega);have d:decide (i>=2^63)=Gp:=Gx (by omega);rw[b,d,LK]) (by rw[h1];simpa using h2) ⟨.str ⟨#[c]⟩,H,I.tok _,⟨_,Xb⟩,q⟩) l
def rIx(K:PySem.W.Frag):R2:=λx y H Q=>Qzy K x y H Q\/Qv2 K x y H Q\/Qzp x y H Q
theorem Qr8:IxR X (rIx X.K):=Ze.or (Q3.or Qsb)
theorem Qgg(lo hi:Option Int)(n:Nat):(sliceBounds lo hi Ge n).1=((HT.Wh n 0 lo:Nat):Int)/\(sliceBounds lo hi Ge n).2.1=((HT.Wh n n hi:Nat):Int)/\(sliceBounds lo hi Ge n).2.2=1:=by
 refine⟨?_,?_,Xb⟩
 ·cases lo with
  |none=>simp[sliceBounds,HT.Wh]
  |some i=>
   simp only[sliceBounds,HT.Wh,Lh,show(1:Int)>0 by decide,E7];by_cases h:i<0
   ·simp only[h,E7]<;>omega
   ·simp only[h,T6]<;>omega
 ·cases hi with
  |none=>simp[sliceBounds,HT.Wh]
  |some i=>
   simp only[sliceBounds,HT.Wh,Lh,show(1:Int)>0 by decide,E7];by_cases h:i<0
   ·simp only[h,E7]<;>omega
   ·simp only[h,T6]<;>omega
theorem Qec(its:List Value)(lo hi:Option Int):slicePick its.toArray lo hi Ge=((its.drop (HT.Wh its.length 0 lo)).take (HT.Wh its.length its.length hi - HT.Wh its.length 0 lo)).toArray:=by obtain⟨h1,h2,a⟩:=Qgg lo hi its.toArray.size;unfold slicePick;rw[h1,h2,a];simp only[sliceRange_one,pick_run,List.size_toArray]<;>rfl
def Q17(K:PySem.W.Frag):V->Option Int->Option Int->Hp->VK->Prop:=λx lo hi H Q=>∃a xs,x=.ref a/\Zb K H a xs/\∀p,H p=Ge->Q (.ref p) (upd H p (.lst (V4 xs lo hi)))
theorem Jf:SlR X (Q17 X.K):=by intro pins s σ H x v j k lo hi sl Q I i e pl g h;obtain⟨a,xs,rfl,f,q⟩:=h;cases i;obtain⟨its,r,d,hz⟩:=I.list f;have c:=r.length;refine⟨"list",_,slot_list_getitem.lookup,d.isList.typeIs,?_⟩;refine wpAny_getItem_list_slice d.isList e pl g .none (by simp) ?_ (by rw[List.size_toArray]<;>omega);rw[Qec,<-c];refine⟨.ref s.heap.objs.size,_,I.laid (t':=s.toks) (o:=.lst (V4 xs lo hi)) (λb ob q=>Heap.get?_push_of_some _ q) (Gm _) ?_,Xb,q _ (I.Zu.fresh (Gm _))⟩;exact⟨TL (Qbj xs lo hi) hz,_,0,(r.drop (HT.Wh xs.length 0 lo)).take (HT.Wh xs.length xs.length hi - HT.Wh xs.length 0 lo),Heap.get?_push_size _ Xb⟩
theorem Zo:Vn X (.builtin "len") (λxs H Q=>∃p ys,xs=[.ref p]/\(Zb X.K H p ys\/Z4 X.K H p ys)/\Q (.int ys.length) H):=by
 intro pins s σ H xs us Q I r h;obtain⟨p,ys,rfl,b,q⟩:=h;obtain⟨u,rfl,d⟩:=vals1 r;cases d;have e:=Rl;rcases b with b|b
 ·obtain⟨its,c,pl,hz⟩:=I.list b;have a:=c.length;exact Sr pl.isList (by simp only[List.size_toArray]<;>omega) ⟨.int ys.length,H,I.tok _,⟨s.toks+1,by rw[List.size_toArray,a]⟩,q⟩
 ·obtain⟨its,c,pl,hz⟩:=I.tuple b;have a:=c.length;exact len_tuple pl (by simp only[List.size_toArray]<;>omega) ⟨.int ys.length,H,I.tok _,⟨s.toks+1,by rw[List.size_toArray,a]⟩,q⟩
theorem U5:Vn X (.type "list") (λxs H Q=>∃p ys,xs=[.ref p]/\(Zb X.K H p ys\/Z4 X.K H p ys)/\∀l,H l=Ge->Q (.ref l) (upd H l (.lst ys))):=by
 intro pins s σ H xs us Q I r h;obtain⟨p,ys,rfl,f,q⟩:=h;obtain⟨u,rfl,j⟩:=vals1 r;cases j;have fin:∀(its:List Value),Zs ys its->ys.length<=Gh->∀(h':Heap)(a:Nat),(∀b o',s.heap.get? b=Ga o'->h'.get? b=Ga o')->
   h'.get? s.heap.objs.size=Ga {cls:=.type "list",dict:=Ge,data:=.seq its.toArray a,slots:=#[]}->EP X pins σ Q (.ref s.heap.objs.size) {s with heap:=h'}:=λits c hz h' a kp e=>
  ⟨.ref s.heap.objs.size,_,I.laid (t':=s.toks) kp (Gm _) (show Z0 X.prog X.w _ h' _ (.lst ys)from⟨hz,its,a,c,e⟩),Xb,q _ (I.Zu.fresh (Gm _))⟩
 rcases f with f|f
 ·obtain⟨its,c,pl,hz⟩:=I.list f;have d:=c.length;obtain⟨o,i,g,n,hd⟩:=pl.isList;exact LL p (.inl Xb) i g hd (λh' a kp e=>fin its c hz h' a kp e) (by simp only[List.size_toArray]<;>omega)
 ·obtain⟨its,c,pl,hz⟩:=I.tuple f;have d:=c.length;obtain⟨o,i,g,n,hd⟩:=pl;exact LL p (.inr Xb) i g hd (λh' a kp e=>fin its c hz h' a kp e) (by simp only[List.size_toArray]<;>omega)
theorem X5:Vn X (.type "tuple") (λxs H Q=>∃p ys,xs=[.ref p]/\((Zb X.K H p ys/\∀l,H l=Ge->Q (.ref l) (upd H l (.tup ys)))\/(Z4 X.K H p ys/\Q (.ref p) H))):=by
 intro pins s σ H xs us Q I r h;obtain⟨p,ys,rfl,h⟩:=h;obtain⟨u,rfl,i⟩:=vals1 r;cases i;rcases h with⟨a,q⟩|⟨a,q⟩
 ·obtain⟨its,c,pl,hz⟩:=I.list a;have f:=c.length;refine call_tuple_list pl.isList (λh' kp=>?_) (by simp only[List.size_toArray]<;>omega);have d:Inv X pins σ H {s with heap:=h'}:=I.kept (t':=s.toks) kp;have g:Inv X pins σ (upd H h'.objs.size (.tup ys)) {s with heap:=h'.push {cls:=.type "tuple",data:=.seq its.toArray}}:=
   d.laid (t':=s.toks) (λb o e=>Heap.get?_push_of_some _ e) (Gm _) (show Z0 X.prog X.w _ _ _ (.tup ys)from⟨hz,its,c,FG _ _⟩)
  exact⟨.ref h'.objs.size,_,g,Xb,q _ (d.Zu.fresh (Gm _))⟩
 ·obtain⟨its,c,pl,hz⟩:=I.tuple a;exact call_tuple_same pl ⟨.ref p,H,I,Xb,q⟩
def tyV(K:PySem.W.Frag)(T:String)(x:V)(H:Hp):Prop:=match x with
 |.str _=>T="str"
 |.int _=>T="int"
 |.ref p=>(T="list"/\∃xs,Zb K H p xs)\/(T="tuple"/\∃o,K.lookup p=Ga o/\o.cls=.type "tuple"/\o.dict=Ge)\/
   (T="dict"/\((∃kvs,H p=Ga (.dK kvs))\/∃kvs,H p=Ga (.dT kvs)))\/(T="set"/\∃S n,H p=Ga (.set S n))
 |_=>False
theorem Qq0{T:String}{x:V}{v:Value}(I:Inv X pins σ H s)(r:RelV x v)(ty:tyV X.K T x H):
  s.TypeIs v T/\∀a,v=.ref a->∃ob,s.heap.get? a=Ga ob/\ob.dict=Ge:=by
 cases x with
 |str z=>obtain⟨t,rfl⟩:=r;cases(show T="str"from ty);exact⟨Fv s z t,λ_ e=>nomatch e⟩
 |int i=>obtain⟨t,rfl⟩:=r;cases(show T="int"from ty);exact⟨typeIs_int s i t,λ_ e=>nomatch e⟩
 |ref p=>
  cases r;rcases ty with⟨rfl,xs,g⟩|⟨rfl,o,b,f,hd⟩|⟨rfl,b⟩|⟨rfl,S,n,b⟩
  ·obtain⟨its,_,pl,_⟩:=I.list g;refine⟨pl.isList.typeIs,λa e=>?_⟩;cases e;obtain⟨o,n,e,c,hd,_⟩:=pl;exact⟨o,e,hd⟩
  ·refine⟨⟨o,I.Jw p o b,f⟩,λa e=>?_⟩;cases e;exact⟨o,I.Jw _ o b,hd⟩
  ·have z:∃o,s.heap.get? p=Ga o/\o.ExactDict:=by
    rcases b with⟨kvs,b⟩|⟨kvs,b⟩
    ·obtain⟨_,_,_,_,o,_,_,e,ex,_⟩:=I.Zu p _ b;exact⟨o,e,ex⟩
    ·obtain⟨_,_,_,_,o,_,_,e,ex,_⟩:=I.Zu p _ b;exact⟨o,e,ex⟩
   obtain⟨o,e,ex⟩:=z;refine⟨⟨o,e,ex.1⟩,λa d=>?_⟩;cases d;exact⟨o,e,ex.2.1⟩
  ·obtain⟨o,_,_,_,e,ex,_⟩:=I.Zu p _ b;refine⟨⟨o,e,ex.1⟩,λa d=>?_⟩;cases d;exact⟨o,e,ex.2.1⟩
 |_=>exact False.elim ty
def Q22(K:PySem.W.Frag)(T:String)(r:V->List V->Hp->VK->Prop)(to:TE):TE:=λσ H Q=>to σ H λx H1=>tyV K T x H1/\r x [] H1 Q
def tBM(K:PySem.W.Frag)(T:String)(r:V->List V->Hp->VK->Prop)(to:TE)(t:TA):TE:=λσ H Q=>to σ H λx H1=>tyV K T x H1/\t σ H1 λxs H2=>r x xs H2 Q
variable{o e:TJ}{es:List TJ}{to:TE}{t:TA}{name:Gy}{apos cpos:E1}{T id:String}{r:V->List V->Hp->VK->Prop}
theorem Qa1(i:Fw T)(slot:Slot T name id)(c:typeOf (.builtin id)=pure (.type "method_descriptor"))(f:MtR X id r)(g:PE X o to)
  (a:attributeBase o name X.env (eval o X.env)=eval o X.env:=by rfl)(b:(apos.endLine==cpos.line)=Gf:=by rfl):PE X (.Call (.Attribute o name apos) [] [] cpos) (Q22 X.K T r to):=by
 intro pins s σ H Q I h;refine EW a b (Yl (g pins s σ H _ I h) λv s1⟨x,H1,d,e,ty,j⟩=>?_);obtain⟨h1,h2⟩:=Qq0 d e ty;exact⟨T,id,i,slot,c,h1,h2,Dw rfl (PySem.evalArgs_none (f pins s1 σ H1 x [] v [] Q d e .nil j))⟩
theorem Xn(q:Fw T)(slot:Slot T name id)(f:typeOf (.builtin id)=pure (.type "method_descriptor"))(m:MtR X id r)(n:PE X o to)(l:PA X (e::es) t)
  (b:attributeBase o name X.env (eval o X.env)=eval o X.env:=by rfl)
  (d:((Du cpos (GX (e::es) X.env)).all (λx=>!x.1)&&(backToKw cpos (keywordEach [] X.env)).all (λx=>x.1.isSome)
   &&decide ((e::es).length+([]:List SV).length+(if([]:List SV).isEmpty then 0 else 1)<30))=Gf:=by rfl)
  (c:(apos.endLine==cpos.line)=Gf:=by rfl)(p:GX (e::es) X.env=(Gp,eval e X.env)::GX es X.env:=by rfl)(a:(Du cpos (GX es X.env)).any (·.1)=Gp:=by rfl):
  PE X (.Call (.Attribute o name apos) (e::es) [] cpos) (tBM X.K T r to t):=by
 intro pins s σ H Q I h;refine E8 b d c rfl (Yl (n pins s σ H _ I h) λv s1⟨x,H1,g,j,ty,u⟩=>?_);obtain⟨h1,h2⟩:=Qq0 g j ty;refine⟨T,id,q,slot,f,h1,h2,?_⟩;have i:=l cpos pins s1 σ H1 _ g u;rw[p]at i⊢;refine Dw (by show(Gp||(Du cpos (GX es X.env)).any (·.1))=Gp;rw[a]<;>rfl) (Em ?_);exact Yl i λus s2⟨vs,H2,k,y,w⟩=>m pins s2 σ H2 x vs v us Q k j y w
end
def MtM(X:Cx)(id:String)(r:V->List V->Hp->VK->Prop):Prop:=
 ∀(pins:List (Gc×DL))(s:Gi)(σ:St)(H:Hp)(x:V)(xs:List V)(v:Value)(us:List Value)(Q:VK),Inv X pins σ H s->RelV x v->Zs xs us->r x xs H Q->
  wpAny (GJ X.prog X.w) X.A (call (.builtin id) (v::us)) (EP X pins σ Q) X.xe s
theorem Zs.one:∀{x:V}{us:List Value},Zs [x] us->∃u,us=[u]/\RelV x u
 |_,_,.cons r .nil=>⟨_,Xb,r⟩
theorem Zs.zero:∀{us:List Value},Zs [] us->us=[]
 |_,.nil=>rfl
theorem Zs.dropLast{xs:List V}{us:List Value}(h:Zs xs us):Zs xs.dropLast us.dropLast:=by
 induction h with
 |nil=>exact .nil
 |cons r t a=>
  cases t with
  |nil=>exact .nil
  |cons q t'=>exact .cons r a
theorem Qkn(l:List α):l.eraseIdx (l.length - 1)=l.dropLast:=by
 induction l with
 |nil=>rfl
 |cons a r c=>
  cases r with
  |nil=>rfl
  |cons b r=>
   have e:(a::b::r).length - 1=((b::r).length - 1)+1:=by have h1:(a::b::r).length=r.length+2:=rfl;have h2:(b::r).length=r.length+1:=rfl;omega
   rw[e,List.eraseIdx_cons_succ,c];all_goals rfl
section
variable{X:Cx}{pins:List (Gc×DL)}{σ:St}{H:Hp}{s:Gi}{l b:Gc}{xs ys zs:List V}
theorem Inv.Qta{its its':List Value}{f:Array Value->Array Value}(I:Inv X pins σ H s)(a:H l=Ga (.lst xs))
  (e:s.heap.get? l=Ga {cls:=.type "list",data:=.seq its.toArray n})(b:f its.toArray=its'.toArray)(d:Zs ys its')(hz:ys.length<=Gh):
  Inv X pins σ (upd H l (.lst ys)) {s with heap:=s.heap.update l (DU f),toks:=t'}:=by
 have q:=PySem.IsL.update e f;rw[b]at q;refine I.write (x:=l) (e:=l) (by rw[a];exact trivial) (.inl Xb) (λg u hb c=>(Heap.get?_update_other s.heap (DU f) (Gn hb)).trans c) ⟨_,q⟩ ?_;exact⟨hz,its',_,d,q⟩
theorem Inv.Qz5{its:List Value}(I:Inv X pins σ H s)(a:Zs ys its)(hz:ys.length<=Gh):
  Inv X pins σ (upd H s.heap.objs.size (.lst ys)) {s with heap:=s.heap.push {cls:=.type "list",data:=.seq its.toArray},toks:=t'}:=
 I.laid (λ_ _ q=>Heap.get?_push_of_some _ q) (Gm _) ⟨hz,its,0,a,Heap.get?_push_size _ Xb⟩
theorem Inv.fresh(I:Inv X pins σ H s):H s.heap.objs.size=Ge:=I.Zu.fresh (Gm _)
theorem Inv.Qhl(I:Inv X pins σ H s)(a:H l=Ga (.lst xs)):xs.length<=Gh/\∃(its:List Value)(n:Nat),Zs xs its/\xs.length=its.length/\s.heap.get? l=Ga {cls:=.type "list",data:=.seq its.toArray n}:=by obtain⟨z,its,n,r,e⟩:=I.Zu l _ a;exact⟨z,its,n,r,r.length,e⟩
theorem Qqi(h:n<=Gh):Builtin.List.listTooLong n=Gp:=by unfold Builtin.List.listTooLong;exact Gx (by omega)
end
section
variable{X:Cx}
def Qu3:V->List V->Hp->VK->Prop:=λx vs H Q=>∃l xs y,x=.ref l/\vs=[y]/\H l=Ga (.lst xs)/\xs.length<Gh/\Q .non (upd H l (.lst (xs++[y])))
theorem Zq:MtM X "list.append" Qu3:=by intro pins s σ H x vs v us Q I c rv h;obtain⟨l,xs,y,rfl,rfl,a,hz,q⟩:=h;cases c;obtain⟨u,rfl,b⟩:=rv.one;obtain⟨z,its,n,r,d,e⟩:=I.Qhl a;refine E9 F.slot_list_append ⟨_,e,Xb⟩ F.entry_list_append (F.args_list_append_2 _ _) (PySem.list_append l its.toArray n u (by rw[List.size_toArray];omega)) ⟨e,?_⟩;refine⟨.non,_,I.Qta (its':=its++[u]) a e (by simp) (r.append (.cons b .nil)) ?_,Xb,q⟩;rw[List.length_append,List.length_singleton];omega
def Qvf:V->List V->Hp->VK->Prop:=λx vs H Q=>∃l b xs zs,x=.ref l/\vs=[.ref b]/\H l=Ga (.lst xs)/\H b=Ga (.lst zs)/\xs.length+zs.length<=Gh/\Q .non (upd H l (.lst (xs++zs)))
theorem Qa2:MtM X "list.extend" Qvf:=by
 intro pins s σ H x vs v us Q I m rv h;obtain⟨l,b,xs,zs,rfl,rfl,d,g,hz,q⟩:=h;cases m;obtain⟨u,rfl,k⟩:=rv.one;cases k;obtain⟨z,its,n,r,o,e⟩:=I.Qhl d;obtain⟨p,a,n2,j,i,f⟩:=I.Qhl g;have hsz:its.toArray.size+a.toArray.size<=Gh:=by rw[List.size_toArray,List.size_toArray];omega
 have c:¬(!its.toArray.isEmpty&&Builtin.List.listTooLong (its.toArray.size+a.toArray.size))=Gf:=by rw[Qqi hsz,Bool.and_false];exact Gw
 refine E9 F.slot_list_extend ⟨_,e,Xb⟩ F.entry_list_extend (F.args_list_extend_2 _ _)
  (SW l its.toArray n b a.toArray n2 c (by rw[List.size_toArray];omega) (by omega)) ⟨e,f,?_⟩
 refine⟨.non,_,I.Qta (its':=its++a) d e (by simp) (r.append j) ?_,Xb,q⟩;rw[List.length_append];omega
def Q2b:V->List V->Hp->VK->Prop:=λx vs H Q=>∃l xs y,x=.ref l/\vs=[]/\H l=Ga (.lst xs)/\xs[xs.length - 1]?=Ga y/\Q y (upd H l (.lst xs.dropLast))
theorem Qaj:MtM X "list.pop" Q2b:=by
 intro pins s σ H x vs v us Q I j rv h;obtain⟨l,xs,y,rfl,rfl,c,g,q⟩:=h;cases j;have a:=rv.zero;subst a;obtain⟨z,its,n,r,d,e⟩:=I.Qhl c;obtain⟨u,f,i⟩:=r.get g;have b:its.toArray[its.toArray.size - 1]?=Ga u:=by show its.toArray[its.length - 1]?=Ga u;rw[<-TV,<-d];exact f
 refine E9 F.slot_list_pop ⟨_,e,Xb⟩ F.entry_list_pop (F.args_list_pop_1 _) (L4 l its.toArray n u b (by rw[List.size_toArray];omega)) ⟨e,?_⟩;refine⟨y,_,I.Qta (its':=its.dropLast) c e ?_ r.dropLast ?_,i,q⟩
 ·show its.toArray.eraseIdxIfInBounds (its.toArray.size - 1)=its.dropLast.toArray;rw[List.size_toArray,List.eraseIdxIfInBounds_toArray,Qkn]
 ·rw[List.length_dropLast];omega
def Q20:R2:=λx y H Q=>∃l b xs zs,x=.ref l/\y=.ref b/\H l=Ga (.lst xs)/\H b=Ga (.lst zs)/\xs.length+zs.length<=Gh/\∀p,H p=Ge->Q (.ref p) (upd H p (.lst (xs++zs)))
theorem Vy:O8 X (binaryOp .Add) Q20:=by
 intro pins s σ H x y v u Q I j k h;obtain⟨l,b,xs,zs,rfl,rfl,f,d,hz,q⟩:=h;cases j;cases k;obtain⟨z,its,n,r,m,e⟩:=I.Qhl f;obtain⟨o,a,n2,i,g,c⟩:=I.Qhl d;refine PySem.P.add_list e c ?_ (by rw[List.size_toArray,List.size_toArray];omega);have ea:its.toArray++a.toArray=(its++a).toArray:=by simp
 rw[ea];exact⟨.ref _,_,I.Qz5 (t':=s.toks) (r.append i) (by rw[List.length_append];omega),Xb,q _ I.fresh⟩
end
section
variable{κ:Type}[DecidableEq κ]
def Yq(kvs:List (κ×V))(k:κ):Option V:=(kvs.find? λa=>decide (a.1=k)).map (·.2)
def We(kvs:List (κ×V))(k:κ)(v:V):List (κ×V):=
 if(kvs.any λa=>decide (a.1=k))=Gf then kvs.map (λa=>if a.1=k then(a.1,v)else a)else kvs++[(k,v)]
theorem Qhf{k:κ}:Yq ([]:List (κ×V)) k=Ge:=rfl
theorem Xs{p:κ×V}{r:List (κ×V)}{k:κ}(e:p.1=k):Yq (p::r) k=Ga p.2:=by simp[Yq,List.find?_cons,e]
theorem Xk{p:κ×V}{r:List (κ×V)}{k:κ}(e:¬p.1=k):Yq (p::r) k=Yq r k:=by simp[Yq,List.find?_cons,e]
theorem Uz(k:κ):∀kvs:List (κ×V),(kvs.any λa=>decide (a.1=k))=(Yq kvs k).isSome
 |[]=>rfl
 |p::r=>by
  rw[List.any_cons];by_cases e:p.1=k
  ·simp only[Xs e,GQ e,Bool.true_or,SG]
  ·rw[Xk e,Gx e,Bool.false_or];exact Uz k r
theorem Qih(k j:κ)(y:V):∀kvs:List (κ×V),Yq (kvs.map λa=>if a.1=k then(a.1,y)else a) j=(Yq kvs j).map λx=>if j=k then y else x
 |[]=>rfl
 |p::r=>by
  have b:=Qih k j y r;rw[List.map_cons];by_cases h:p.1=k
  ·rw[Gk h];by_cases e:p.1=j
   ·rw[Xs (p:=(p.1,y)) e,Xs e,TQ,Gk (e.symm.trans h)]
   ·rw[Xk (p:=(p.1,y)) e,Xk e,b]
  ·rw[Gg h];by_cases e:p.1=j
   ·rw[Xs (p:=p) e,Xs e,TQ,Gg (λz=>h (e.trans z))]
   ·rw[Xk (p:=p) e,Xk e,b]
theorem Qan(k j:κ)(y:V):∀kvs:List (κ×V),Yq kvs k=Ge->Yq (kvs++[(k,y)]) j=if j=k then Ga y else Yq kvs j
 |[],_=>by
  by_cases e:k=j
  ·rw[Gk e.symm];exact Xs (p:=(k,y)) e
  ·rw[Gg (λz=>e z.symm)];exact Xk (p:=(k,y)) e
 |p::r,a=>by
  rw[List.cons_append];have b:¬p.1=k:=λz=>by rw[Xs z]at a;cases a
  rw[Xk b]at a;have c:=Qan k j y r a;by_cases e:p.1=j
  ·rw[Xs e,Xs e,Gg (λz=>b (e.trans z))]
  ·rw[Xk e,Xk e,c]
theorem Qch(kvs:List (κ×V))(k j:κ)(y:V):Yq (We kvs k y) j=if j=k then Ga y else Yq kvs j:=by
 unfold We;by_cases a:(kvs.any λc=>decide (c.1=k))=Gf
 ·rw[Gk a,Qih];rw[Uz]at a;by_cases e:j=k
  ·obtain⟨x,b⟩:=ER.mp a;rw[Gk e,e,b,TQ,Gk rfl]
  ·rw[Gg e];cases Yq kvs j with
   |none=>rfl
   |some x=>rw[TQ,Gg e]
 ·rw[Gg a];refine Qan k j y kvs ?_;rw[Uz]at a;cases q:Yq kvs k with
  |none=>rfl
  |some x=>rw[q]at a;exact(a Xb).elim
theorem Xy(kvs:List (κ×V))(k:κ)(v:V):(We kvs k v).length<=kvs.length+1:=by
 unfold We;split
 ·rw[List.length_map];omega
 ·rw[List.length_append,List.length_cons,List.length_nil];omega
theorem Qpm{kvs:List (κ×V)}{k:κ}(v:V)(h:Yq kvs k=Ge):We kvs k v=kvs++[(k,v)]:=by unfold We;rw[Uz,h];exact Gg (by decide)
theorem Jk.Wf{o:Option V}{u:Option Value}(r:Jk o u):o.isSome=u.isSome:=by
 cases o with
 |none=>cases u with
  |none=>rfl
  |some _=>exact(show False from r).elim
 |some _=>cases u with
  |none=>exact(show False from r).elim
  |some _=>rfl
theorem Jk.getD{o:Option V}{u:Option Value}{d:V}{d':Value}(r:Jk o u)(a:RelV d d'):RelV (o.getD d) (u.getD d'):=by
 cases o with
 |none=>cases u with
  |none=>exact a
  |some _=>exact(show False from r).elim
 |some _=>cases u with
  |none=>exact(show False from r).elim
  |some _=>exact r
theorem KV.val{kvs:List (κ×V)}{vs:List (κ×Value)}(r:KV kvs vs)(k:κ):Jk (Yq kvs k) (valueAt vs k):=by
 unfold KV at r;induction r with
 |nil=>exact Ti
 |@cons p q ps c h t d=>
  obtain⟨h1,h2⟩:=h;by_cases e:p.1=k
  ·have a:q.1=k:=h1.symm.trans e;have b:valueAt (q::c) k=Ga q.2:=by simp[valueAt,List.find?_cons,a]
   rw[Xs e,b];exact h2
  ·have a:¬q.1=k:=λz=>e (h1.trans z);have b:valueAt (q::c) k=valueAt c k:=by simp[valueAt,List.find?_cons,a]
   rw[Xk e,b];exact d
theorem KV.any{kvs:List (κ×V)}{vs:List (κ×Value)}(r:KV kvs vs)(k:κ):(kvs.any λa=>decide (a.1=k))=vs.any λa=>decide (a.1=k):=by
 unfold KV at r;induction r with
 |nil=>rfl
 |cons h t b=>rw[List.any_cons,List.any_cons,b,h.1]
theorem KV.Qxw{kvs:List (κ×V)}{vs:List (κ×Value)}(r:KV kvs vs)(k:κ)(c:RelV y u):
  KV (kvs.map λa=>if a.1=k then(a.1,y)else a) (vs.map λa=>if a.1=k then(a.1,u)else a):=by
 unfold KV at r⊢;induction r with
 |nil=>exact .nil
 |@cons p q ps d h t b=>
  rw[List.map_cons,List.map_cons];refine .cons ?_ b;obtain⟨h1,h2⟩:=h;by_cases e:p.1=k
  ·rw[Gk e,Gk (h1.symm.trans e)];exact⟨h1,c⟩
  ·rw[Gg e,Gg (λz=>e (h1.trans z))];exact⟨h1,h2⟩
theorem KV.put{kvs:List (κ×V)}{vs:List (κ×Value)}(r:KV kvs vs)(k:κ)(a:RelV y u):KV (We kvs k y) (stored vs k u):=by
 unfold We stored;rw[r.any k];by_cases e:(vs.any λb=>decide (b.1=k))=Gf
 ·rw[Gk e,Gk e];exact r.Qxw k a
 ·rw[Gg e,Gg e];exact Paired.snoc r ⟨Xb,a⟩
theorem KV.length{kvs:List (κ×V)}{vs:List (κ×Value)}(r:KV kvs vs):kvs.length=vs.length:=Paired.length r
end
theorem Qa4{k:Xh}(r:RelV (kV k) u):(Z9 P w).is k u=Gf:=by
 cases k with
 |inl i=>obtain⟨t,e⟩:=(show∃t,u=Value.int i t from r);subst e;exact Qig P w i t
 |inr x=>obtain⟨t,e⟩:=(show∃t,u=Value.str x t from r);subst e;exact Qg7 P w x t
theorem Qep{P:Gj}{w:Gs}:∀{a:List Xh}{us:List Value},Zs (a.map kV) us->ItemsAre (Z9 P w) a us
 |[],_,r=>by rw[List.map_nil]at r;cases r;exact .nil
 |k::a,_,r=>by
  rw[List.map_cons]at r;cases r with
  |cons h t=>exact .cons (Qa4 h) (Qep t)
abbrev KT(H:Hp):List (List Xh×V)->List (List Xh×Gc×Value)->Prop:=Paired λp q=>p.1=q.1/\H q.2.1=Ga (.tup (p.1.map kV))/\RelV p.2 q.2.2
theorem KT.val(r:KT H kvs xs)(k:List Xh):Jk (Yq kvs k) ((atKey xs k).map (·.2)):=by
 induction r with
 |nil=>exact Ti
 |@cons p q ps c h t d=>
  obtain⟨h1,_,h2⟩:=h;by_cases e:p.1=k
  ·have a:q.1=k:=h1.symm.trans e;have b:atKey (q::c) k=Ga q.2:=by simp[atKey,List.find?_cons,a]
   rw[Xs e,b];exact h2
  ·have a:¬q.1=k:=λz=>e (h1.trans z);have b:atKey (q::c) k=atKey c k:=by simp[atKey,List.find?_cons,a]
   rw[Xk e,b];exact d
theorem KT.Qxw(r:KT H kvs xs)(k:List Xh)(d:RelV y u):
  KT H (kvs.map λa=>if a.1=k then(a.1,y)else a) (xs.map (putAt k u)):=by
 induction r with
 |nil=>exact .nil
 |@cons p q ps f h t c=>
  rw[List.map_cons,List.map_cons];refine .cons ?_ c;obtain⟨h1,h2,b⟩:=h;unfold putAt;by_cases e:p.1=k
  ·rw[Gk e,Gk (h1.symm.trans e)];exact⟨h1,h2,d⟩
  ·rw[Gg e,Gg (λz=>e (h1.trans z))];exact⟨h1,h2,b⟩
theorem KT.put(r:KT H kvs xs)(k:List Xh)(hb:H b=Ga (.tup (k.map kV)))(a:RelV y u):
  KT H (We kvs k y) (storedH xs k b u):=by
 have e:(kvs.any λc=>decide (c.1=k))=(atKey xs k).isSome:=by rw[Uz,(r.val k).Wf,DC]
 unfold We storedH;rw[e];by_cases q:(atKey xs k).isSome=Gf
 ·rw[Gk q,Gk q];exact r.Qxw k a
 ·rw[Gg q,Gg q];exact Paired.snoc r ⟨Xb,hb,a⟩
theorem KT.keeps(r:KT H kvs xs)(a:∀b ys,H b=Ga (.tup ys)->H' b=Ga (.tup ys)):KT H' kvs xs:=
 Paired.Yb r λ_ _ z=>⟨z.1,a _ _ z.2.1,z.2.2⟩
section
variable{P:Gj}{w:Gs}{H:Hp}{h:Heap}{a:Gc}
theorem Qwv{u:HO}(ok:Rf P w H h)(e:Rd H a u):Z0 P w H h a u:=e.ok ok
theorem Qbe{kvs:List (Xh×V)}(ok:Rf P w H h)(e:Rd H a (.dK kvs)):kvs.length<=Gh/\(a==TU)=Gp/\∃vs,KV kvs vs/\h.DictOf (Z9 P w) a vs:=
 show Z0 P w H h a (.dK kvs)from Qwv ok e
theorem Qhu{kvs:List (Xh×V)}(ok:Rf P w H h)(e:H a=Ga (.dK kvs)):kvs.length<=Gh/\(a==TU)=Gp/\∃vs,KV kvs vs/\h.DictOf (Z9 P w) a vs:=Qbe ok (.inl e)
theorem Ru{b:List Xh}(ok:Rf P w H h)(e:H a=Ga (.tup (b.map kV))):(tupleKind (Z9 P w)).is h b a:=by obtain⟨_,its,r,o,h1,h2,n,c⟩:=(show Z0 P w H h a (.tup (b.map kV))from ok a _ e);exact⟨o,its.toArray,n,h1,h2,c,by simpa using Qep r⟩
theorem Qcx(ok:Rf P w H h)(e:Rd H a (.dT kvs)):kvs.length<=Gh/\(a==TU)=Gp/\
  ∃xs,KT H kvs xs/\h.DictOfH (tupleKind (Z9 P w)) a xs:=by
 obtain⟨z,y,xs,r,o,es,ep,h1,h2,d,f,g⟩:=(show Z0 P w H h a (.dT kvs)from Qwv ok e);refine⟨z,y,xs,r,o,es,ep,h1,h2,d,f,λx b=>?_,g⟩;have all:∀{l:List (List Xh×V)}{m:List (List Xh×Gc×Value)},KT H l m->∀x∈m,(tupleKind (Z9 P w)).is h x.1 x.2.1:=by
  intro l m q;induction q with
  |nil=>intro x b;exact nomatch b
  |@cons p q ps j c t i=>
   intro x b;rcases List.mem_cons.mp b with e|b
   ·subst e;exact Ru ok (by rw[<-c.1];exact c.2.1)
   ·exact i x b
 exact all r x b
theorem Qwl(ok:Rf P w H h)(e:H a=Ga (.dT kvs)):kvs.length<=Gh/\(a==TU)=Gp/\
  ∃xs,KT H kvs xs/\h.DictOfH (tupleKind (Z9 P w)) a xs:=Qcx ok (.inl e)
end
def Wd(H:Hp)(a:Gc)(y:V)(r:Option V):Prop:=
 (∃kvs k,Rd H a (.dK kvs)/\y=kV k/\r=Yq kvs k)\/∃kvs k b,Rd H a (.dT kvs)/\y=.ref b/\H b=Ga (.tup (k.map kV))/\r=Yq kvs k
def Ra(H:Hp)(a:Gc)(y v:V)(H':Hp):Prop:=
 (∃kvs k,H a=Ga (.dK kvs)/\y=kV k/\kvs.length<Gh/\H'=upd H a (.dK (We kvs k v)))\/
 ∃kvs k b,H a=Ga (.dT kvs)/\y=.ref b/\H b=Ga (.tup (k.map kV))/\kvs.length<Gh/\H'=upd H a (.dT (We kvs k v))
theorem Wd.k{H:Hp}{a:Gc}{kvs:List (Xh×V)}{k:Xh}(e:H a=Ga (.dK kvs)):Wd H a (kV k) (Yq kvs k):=.inl ⟨kvs,k,.inl e,Xb,Xb⟩
theorem Wd.t{k:List Xh}(e:H a=Ga (.dT kvs))(c:H b=Ga (.tup (k.map kV))):Wd H a (.ref b) (Yq kvs k):=.inr ⟨kvs,k,b,.inl e,Xb,c,Xb⟩
theorem Ra.k{H:Hp}{a:Gc}{kvs:List (Xh×V)}{k:Xh}{v:V}(e:H a=Ga (.dK kvs))(b:kvs.length<Gh):Ra H a (kV k) v (upd H a (.dK (We kvs k v))):=.inl ⟨kvs,k,e,Xb,b,Xb⟩
theorem Ra.t{k:List Xh}{v:V}(e:H a=Ga (.dT kvs))(c:H b=Ga (.tup (k.map kV)))(d:kvs.length<Gh):
  Ra H a (.ref b) v (upd H a (.dT (We kvs k v))):=.inr ⟨kvs,k,b,e,Xb,c,d,Xb⟩
section
variable{X:Cx}{pins:List (Gc×DL)}{σ:St}{H:Hp}{s:Gi}{a:Gc}{y v:V}{u r:Value}{o:Option V}{A:Tv}{E:Value->Gi->Prop}
theorem Inv.big(I:Inv X pins σ H s):TU<s.heap.objs.size:=by have h:T8<s.heap.objs.size:=(I.mod.glob.keeps I.bk).lt;exact L6 (by decide) h
theorem Qof(r:A.units+1<Dk)(I:Inv X pins σ H s)(g:Wd H a y (Ga v))(m:RelV y u)(h:∀d s',Inv X pins σ H s'->RelV v d->Q d s'):
  wpAny (GJ X.prog X.w) A (getItem (.ref a) u) Q E s:=by
 rcases g with⟨kvs,k,e,i,l⟩|⟨kvs,k,b,e,i,n,l⟩
 ·subst i;obtain⟨z,hd,vs,rel,f⟩:=Qbe I.Zu e;obtain⟨d,hw,c⟩:=Jk.some_of (v:=v) (o:=valueAt vs k) (by rw[l];exact rel.val k);exact wpAny_getItem_of (Qa4 m) f.mapOf hw (h d _ (I.tok _) c)
 ·subst i;cases(show u=Value.ref b from m);obtain⟨z,hd,xs,rel,f⟩:=Qcx I.Zu e;obtain⟨d,hw,c⟩:=Jk.some_of (v:=v) (o:=(atKey xs k).map (·.2)) (by rw[l];exact rel.val k);obtain⟨p,q,j⟩:=Eb.mp hw;refine SH (Dz r) (Ru I.Zu n) f q ?_;rw[j];exact h d _ (I.tok _) c
theorem Q2q(j:A.units+1<Dk)(I:Inv X pins σ H s)(g:Wd H a y o)(f:RelV y u)(h:∀s',Inv X pins σ H s'->Q (.bool o.isSome) s'):
  wpAny (GJ X.prog X.w) A (T5 .In u (.ref a)) Q E s:=by
 rcases g with⟨kvs,k,e,d,l⟩|⟨kvs,k,b,e,d,i,l⟩
 ·subst d;obtain⟨z,hd,vs,rel,c⟩:=Qbe I.Zu e;refine wpAny_in_of (Qa4 f) hd c.mapOf ?_;rw[<-(rel.val k).Wf,<-l];exact h _ (I.tok _)
 ·subst d;cases(show u=Value.ref b from f);obtain⟨z,hd,xs,rel,c⟩:=Qcx I.Zu e;refine LM (Dz j) (Ru I.Zu i) hd c ?_;have q:=(rel.val k).Wf;rw[DC]at q;rw[<-q,<-l];exact h _ (I.tok _)
theorem Qtu(j:A.units+1<Dk)(I:Inv X pins σ H s)(g:Wd H a y o)(f:RelV y u)(h:∀s',Inv X pins σ H s'->Q (.bool (!o.isSome)) s'):
  wpAny (GJ X.prog X.w) A (T5 .NotIn u (.ref a)) Q E s:=by
 rcases g with⟨kvs,k,e,d,l⟩|⟨kvs,k,b,e,d,i,l⟩
 ·subst d;obtain⟨z,hd,vs,rel,c⟩:=Qbe I.Zu e;refine wpAny_notIn_of (Qa4 f) hd c.mapOf ?_;rw[<-(rel.val k).Wf,<-l];exact h _ (I.tok _)
 ·subst d;cases(show u=Value.ref b from f);obtain⟨z,hd,xs,rel,c⟩:=Qcx I.Zu e;refine Lj (Dz j) (Ru I.Zu i) hd c ?_;have q:=(rel.val k).Wf;rw[DC]at q;rw[<-q,<-l];exact h _ (I.tok _)
theorem Jb{h':Heap}{ob:HO}(I:Inv X pins σ H s)(mu:Mut (H a))(d:Heap.SameBut a s.heap h')(c:∃q,h'.get? a=Ga q)(new:Z0 X.prog X.w (upd H a ob) h' a ob):
  Inv X pins σ (upd H a ob) {s with heap:=h',toks:=t'}:=
 I.write (x:=a) (e:=a) mu (.inl Xb) (λb q hb z=>(d.2 b hb).trans z) c new
theorem Qk0{h':Heap}{kvs:List (Xh×V)}{vs:List (Xh×Value)}(z:kvs.length<=Gh)(hd:(a==TU)=Gp)(rel:KV kvs vs)(b:h'.DictOf (Z9 P w) a vs):
  Z0 P w H' h' a (.dK kvs):=⟨z,hd,vs,rel,b⟩
theorem Qo8{Q:Unit->Gi->Prop}(G:A.units+1<Dk)(I:Inv X pins σ H s)(g:Ra H a y v H')(x:RelV y u)(rv:RelV v r)(h:∀s',Inv X pins σ H' s'->Q () s'):
  wpAny (GJ X.prog X.w) A (setItem (.ref a) u r) Q E s:=by
 rcases g with⟨kvs,k,e,m,l,j⟩|⟨kvs,k,b,e,m,p,l,j⟩
 ·subst m j;obtain⟨z,hd,vs,rel,i⟩:=Qhu I.Zu e;have hz:vs.length<=Gh:=by rw[<-rel.length];exact z
  have n:(We kvs k v).length<=Gh:=by have:=Xy kvs k v;omega
  refine wpAny_setItem_pairs (hsz:=hz) (Qa4 x) i λh' d o=>h _ ?_;have F:∃q,h'.get? a=Ga q:=let⟨q,_,_,f,_⟩:=d;⟨q,f⟩;exact Jb I (by rw[e];exact Ti) o F (Qk0 n hd (rel.put k rv) d)
 ·subst m j;cases(show u=Value.ref b from x);obtain⟨z,hd,xs,rel,i⟩:=Qwl I.Zu e;have hz:xs.length<=Gh:=by rw[<-Paired.length rel];exact z
  have n:(We kvs k v).length<=Gh:=by have:=Xy kvs k v;omega
  refine SI (hsz:=hz) (Dz G) (Ru I.Zu p) i λh' d o=>h _ ?_;obtain⟨q,es,ep,f,h2,B,C,_,D⟩:=d;refine Jb I (by rw[e];exact Ti) o ⟨q,f⟩ ⟨n,hd,_,(rel.put k p rv).keeps λc ys t=>?_,q,es,ep,f,h2,B,C,D⟩;rw[Qg (Zw t e nofun)];exact t
end
section
variable{X:Cx}{pins:List (Gc×DL)}{σ:St}{H:Hp}{s:Gi}{a:Gc}{kvs:List (Xh×V)}{k:Xh}{u:Value}{A:Tv}{E:Value->Gi->Prop}
theorem Q05(I:Inv X pins σ H s)(e:Rd H a (.dK kvs))(h:∀t s',Inv X pins σ H s'->Q (.int kvs.length t) s'):wpAny (GJ X.prog X.w) A (call (.builtin "len") [.ref a]) Q E s:=by obtain⟨z,hd,vs,rel,b⟩:=Qbe I.Zu e;refine call_len_dict hd b (by rw[<-rel.length];rw[Gu]at z;omega) ?_;rw[<-rel.length];exact h _ _ (I.tok _)
end
def Qzw(i:TJ):Prop:=∀ov a,subscripted i Gp ov a=operate [ov,a] (getItem ov a)
theorem Quj{prog:Gj}{A:Tv}{E:Value->Gi->Prop}{env:SM}{value a:TJ}{T id:String}
  (j:typeLookup (.type T) "__getitem__"=pure (Ga (.builtin id)))(k:Qzw a)
  (h:wpAny (GJ prog w) A (eval value env) (λo d=>wpAny (GJ prog w) A (eval a env) (λi b=>b.TypeIs o T/\wpAny (GJ prog w) A (getItem o i) Q E b) E d) E s):
  wpAny (GJ prog w) A (eval (.Subscript value a pos) env) Q E s:=by
 refine LA (Dh h (λo d h₁=>Dh h₁ (λi b c=>?_) λ_ _ x=>x) λ_ _ x=>x);obtain⟨g,c⟩:=c;unfold subscriptTail;refine Gb ?_;rw[getitemInPython_of_ne g.not_modules];refine Gb (Dq g j ?_);have fin:wpAny (GJ prog w) A (subscripted a Gp o i) (λr e=>wpAny (GJ prog w) A (letTemporaryGo value o r>>=λ_=>pure r) Q E e) E b:=by rw[k o i];exact wpAny_operating (Dh c (λr e f=>Gb (wpAny_letTemporaryGo (Gd f))) λ_ _ x=>x)
 first
  |exact Gd (Gb fin)
  |exact Gb (Gd (Gb fin))
  |exact Gb fin
theorem Qjd{o:Option V}(I:Inv X pins σ H s)(g:Wd H a y o):s.TypeIs (.ref a) "dict":=by
 rcases g with⟨kvs,k,e,_,_⟩|⟨kvs,k,b,e,_,_,_⟩
 ·obtain⟨_,_,vs,_,c⟩:=Qbe I.Zu e;exact c.typeIs
 ·obtain⟨_,_,xs,_,c⟩:=Qcx I.Zu e;exact c.typeIs
def Qh8(td ty:TE):TE:=λσ H Q=>td σ H λx H1=>ty σ H1 λy H2=>∃a v,x=.ref a/\Wd H2 a y (Ga v)/\Q v H2
def Q13(ty td:TE):TE:=λσ H Q=>ty σ H λy H1=>td σ H1 λx H2=>∃a o,x=.ref a/\Wd H2 a y o/\Q (.bl o.isSome) H2
def Qvr(ty td:TE):TE:=λσ H Q=>ty σ H λy H1=>td σ H1 λx H2=>∃a o,x=.ref a/\Wd H2 a y o/\Q (.bl (!o.isSome)) H2
def Qwa(td ty tv:TE):TS:=λD σ H=>tv σ H λv H1=>td σ H1 λx H2=>ty σ H2 λy c=>∃a b,x=.ref a/\Ra c a y v b/\D.nx σ b
section
variable{X:Cx}{o i e value:TJ}{pos pos' tpos:E1}{td ty tv:TE}
theorem Zt(k:X.A.units+1<Dk)(f:PE X o td)(hi:PE X i ty)(j:Qzw i):PE X (.Subscript o i pos) (Qh8 td ty):=by intro pins s σ H Q I h;refine Quj PySem.F.slot_dict_getitem.lookup j (Yl (f pins s σ H _ I h) λu s1⟨x,H1,d,n,l⟩=>Yl (hi pins s1 σ H1 _ d l) λq s2⟨y,H2,c,p,a,v,ex,g,m⟩=>?_);subst ex;obtain rfl:u=Value.ref a:=n;exact⟨Qjd c g,Qof k c g p λt r e b=>⟨v,H2,e,b,m⟩⟩
theorem Qjs(f:X.A.units+1<Dk)(hi:PE X i ty)(e:PE X o td):PC X .In i o (Q13 ty td):=by intro pins s σ H Q I h;refine Yl (hi pins s σ H _ I h) λn s1⟨y,H1,b,m,j⟩=>Yl (e pins s1 σ H1 _ b j) λu s2⟨x,H2,c,l,a,ov,ex,g,k⟩=>?_;subst ex;obtain rfl:u=Value.ref a:=l;exact Q2q f c g m λp d=>⟨.bl ov.isSome,H2,d,Xb,k⟩
theorem Qne(f:X.A.units+1<Dk)(hi:PE X i ty)(e:PE X o td):PC X .NotIn i o (Qvr ty td):=by intro pins s σ H Q I h;refine Yl (hi pins s σ H _ I h) λn s1⟨y,H1,b,m,j⟩=>Yl (e pins s1 σ H1 _ b j) λu s2⟨x,H2,c,l,a,ov,ex,g,k⟩=>?_;subst ex;obtain rfl:u=Value.ref a:=l;exact Qtu f c g m λp d=>⟨.bl (!ov.isSome),H2,d,Xb,k⟩
theorem Wl(l:X.A.units+1<Dk)(j:PE X o td)(hi:PE X i ty)(m:PE X value tv)(k:swapsWith value (Ga (.Subscript o i pos')) pos.line X.env=pure Gp):
  PS X (.Assign [.Subscript o i pos'] value pos) (Qwa td ty tv):=by
 intro pins s σ H D I h;refine wpAny_Assign_Subscript (Yl (m pins s σ H _ I h) λr s1⟨v,H1,c,rv,n⟩=>Yl (j pins s1 σ H1 _ c n) λu s2⟨x,H2,d,t,p⟩=>Yl (hi pins s2 σ H2 _ d p) λB C⟨y,z,e,w,a,b,ex,g,q⟩=>?_) k;subst ex;obtain rfl:u=Value.ref a:=t;exact Qo8 l e g w rv λs4 f=>⟨σ,b,f,q⟩
end
theorem Qjh(h:Heap)(hb:TU<h.objs.size):Z0 P w H (h.push {cls:=.type "dict",data:=.dict #[]}) h.objs.size (.dK []):=
 ⟨Gv _,Dg.mpr (Gn (GV hb)),[],.nil,Heap.DictOf.new h⟩
theorem Qq7(h:Heap)(hb:TU<h.objs.size):Z0 P w H (h.push {cls:=.type "dict",data:=.dict #[]}) h.objs.size (.dT []):=
 ⟨Gv _,Dg.mpr (Gn (GV hb)),[],.nil,_,#[],0,Heap.get?_push_size _ Xb,⟨Xb,Xb,Xb⟩,Xb,Xb,List.nodup_nil⟩
def Qyn:TE:=λ_ H Q=>∀p,H p=Ge->Q (.ref p) (upd H p (.dK []))
def Qw9:TE:=λ_ H Q=>∀p,H p=Ge->Q (.ref p) (upd H p (.dT []))
section
variable{X:Cx}{pos:E1}
theorem U1:PE X (.Dict [] [] pos) Qyn:=λpins s σ H Q I h=>EX ⟨.ref s.heap.objs.size,_,I.laid (a:=s.heap.objs.size) (o:=.dK []) (t':=s.toks) (λ_ _ q=>Heap.get?_push_of_some _ q) (Gm _) (Qjh s.heap I.big),Xb,h _ (I.Zu.fresh (Gm _))⟩
theorem Qdf:PE X (.Dict [] [] pos) Qw9:=λpins s σ H Q I h=>EX ⟨.ref s.heap.objs.size,_,I.laid (a:=s.heap.objs.size) (o:=.dT []) (t':=s.toks) (λ_ _ q=>Heap.get?_push_of_some _ q) (Gm _) (Qq7 s.heap I.big),Xb,h _ (I.Zu.fresh (Gm _))⟩
end
def Qkt:List (TE×TE)->St->Hp->(List (V×V)->Hp->Prop)->Prop
 |[],_,H,Q=>Q [] H
 |(tk,tv)::r,σ,H,Q=>tk σ H λx H1=>tv σ H1 λy H2=>Qkt r σ H2 λps a=>Q ((x,y)::ps) a
abbrev VV:List (V×V)->List (Value×Value)->Prop:=Paired λp q=>RelV p.1 q.1/\RelV p.2 q.2
def PPs(X:Cx)(pos:E1)(keys:List (Option TJ))(a:List TJ)(trs:List (TE×TE)):Prop:=
 ∀(pins:List (Gc×DL))(s:Gi)(σ:St)(H:Hp)(Q:List (V×V)->Hp->Prop),Inv X pins σ H s->Qkt trs σ H Q->
  wpAny (GJ X.prog X.w) X.A (evalPairs (pairTrees keys a X.env pos)) (λvs s'=>∃ps H',Inv X pins σ H' s'/\VV ps vs/\Q ps H') X.xe s
theorem Qto:PPs X pos [] [] []:=λpins s σ H Q I h=>pairTrees_nil_walk ⟨[],H,I,.nil,h⟩
theorem Uj{k v:TJ}{a:List (Option TJ)}{vs:List TJ}{tk tv:TE}{trs:List (TE×TE)}(f:PE X k tk)(i:PE X v tv)(g:PPs X pos a vs trs):
  PPs X pos (Ga k::a) (v::vs) ((tk,tv)::trs):=λpins s σ H Q I h=>
 pairTrees_cons_walk (Yl (f pins s σ H _ I h) λu s1⟨x,H1,c,n,j⟩=>Yl (i pins s1 σ H1 _ c j) λq s2⟨y,H2,d,o,l⟩=>Yl (g pins s2 σ H2 _ d l) λr p⟨ps,b,e,rel,m⟩=>⟨(x,y)::ps,b,e,.cons ⟨n,o⟩ rel,m⟩)
def Qac(kvs more:List (Xh×V)):List (Xh×V):=more.foldl (λacc a=>We acc a.1 a.2) kvs
theorem KV.merge:∀{more:List (Xh×V)}{a:List (Xh×Value)}{kvs:List (Xh×V)}{vs:List (Xh×Value)},KV more a->KV kvs vs->KV (Qac kvs more) (merged vs a):=by
 intro more a kvs vs r;unfold KV at r;induction r generalizing kvs vs with
 |nil=>intro q;exact q
 |@cons p q ps d h t b=>
  intro c;have e:KV (We kvs p.1 p.2) (stored vs q.1 q.2):=by have:=c.put p.1 h.2;rw[<-h.1];exact this
  exact b e
theorem Rg:∀(more kvs:List (Xh×V)),(Qac kvs more).length<=kvs.length+more.length
 |[],kvs=>by show kvs.length<=kvs.length+0;omega
 |p::r,kvs=>by have h1:=Rg r (We kvs p.1 p.2);have h2:=Xy kvs p.1 p.2;show(Qac (We kvs p.1 p.2) r).length<=_;rw[List.length_cons];omega
theorem Qcm{P:Gj}{w:Gs}:∀{kvs:List (Xh×V)}{f:List (Value×Value)},VV (kvs.map λe=>(kV e.1,e.2)) f->∃d,Carries (Z9 P w) f d/\KV kvs d
 |[],_,r=>by rw[List.map_nil]at r;cases r;exact⟨[],Ti,.nil⟩
 |p::kvs,_,r=>by
  rw[List.map_cons]at r;cases r with
  |@cons a b i bs h t=>obtain⟨d,c,q⟩:=Qcm (P:=P) (w:=w) t;obtain⟨j,g⟩:=b;exact⟨(p.1,g)::d,⟨Qa4 h.1,Xb,c⟩,.cons ⟨Xb,h.2⟩ q⟩
def Q06(trs:List (TE×TE)):TE:=λσ H Q=>∀p,H p=Ge->Qkt trs σ (upd H p (.dK [])) λps H2=>H2 p=Ga (.dK [])/\∃kvs:List (Xh×V),ps=kvs.map (λa=>(kV a.1,a.2))/\kvs.length<=15/\Q (.ref p) (upd H2 p (.dK (Qac [] kvs)))
theorem Qut{keys:List (Option TJ)}{b:List TJ}{trs:List (TE×TE)}(h:PPs X pos keys b trs)(f:keys.all (·.isSome)=Gf)(n:keys.length=b.length)(l:keys≠[])
  (g:keys.length<=15):PE X (.Dict keys b pos) (Q06 trs):=by
 intro pins s σ H Q I q;have p:=I.Zu.fresh (Gm s.heap.objs.size);have j:=I.laid (a:=s.heap.objs.size) (o:=.dK []) (h':=s.heap.push {cls:=.type "dict",data:=.dict #[]}) (t':=s.toks) (λ_ _ q=>Heap.get?_push_of_some _ q) (Gm _) (Qjh s.heap I.big);refine wpAny_Dict_walk (knd:=Z9 X.prog X.w) f n l g (Yl (h pins _ σ _ _ j (q _ p)) λA s2⟨ps,H2,i,rel,e,kvs,ep,lk,t⟩=>?_);subst ep;obtain⟨x,c,v⟩:=Qcm (P:=X.prog) (w:=X.w) rel;obtain⟨z,hd,y,u,k⟩:=Qhu i.Zu e;cases u;refine⟨x,c,k,λh' d r=>⟨.ref s.heap.objs.size,_,?_,Xb,t⟩⟩;have hz:(Qac [] kvs).length<=Gh:=by have h1:=Rg kvs [];rw[List.length_nil]at h1;rw[Gu];omega
 have m:∃q,h'.get? s.heap.objs.size=Ga q:=let⟨q,_,_,hq,_⟩:=d;⟨q,hq⟩;exact Jb i (by rw[e];exact Ti) r m (Qk0 hz hd (v.merge .nil) d)
structure M2(X:Cx)(o:TJ)(m:Gy)(apos:E1)(e f:TJ)(cpos:E1):Prop where
 base:attributeBase o m X.env (eval o X.env)=eval o X.env
 few:((Du cpos (GX [e,f] X.env)).all (λx=>!x.1)&&(backToKw cpos (keywordEach [] X.env)).all (λx=>x.1.isSome)
  &&decide (([e,f]:List TJ).length+([]:List SV).length+(if([]:List SV).isEmpty then 0 else 1)<30))=Gf
 line:(apos.endLine==cpos.line)=Gf
 trees:Du cpos (GX [e,f] X.env)=[(Gp,eval e X.env),(Gp,eval f X.env)]
def IsD(H:Hp)(a:Gc):Prop:=(∃kvs,Rd H a (.dK kvs))\/∃kvs,Rd H a (.dT kvs)
theorem Qw0(I:Inv X pins σ H s)(d:IsD H a):
  s.TypeIs (.ref a) "dict"/\(∀b,Value.ref a=.ref b->∃ob,s.heap.get? b=Ga ob/\ob.dict=Ge)/\(a==TU)=Gp:=by
 rcases d with⟨kvs,e⟩|⟨kvs,e⟩
 ·obtain⟨_,hd,vs,_,c⟩:=Qbe I.Zu e;refine⟨c.typeIs,λb q=>?_,hd⟩;cases q;obtain⟨ob,_,_,h1,h2,_⟩:=c;exact⟨ob,h1,h2.2.1⟩
 ·obtain⟨_,hd,xs,_,c⟩:=Qcx I.Zu e;refine⟨c.typeIs,λb q=>?_,hd⟩;cases q;obtain⟨ob,_,_,h1,h2,_⟩:=c;exact⟨ob,h1,h2.2.1⟩
section
variable{X:Cx}{pins:List (Gc×DL)}{σ:St}{H:Hp}{s:Gi}{a:Gc}{y d:V}{u r:Value}{o:Option V}{A:Tv}{E:Value->Gi->Prop}
theorem Qw4(p:A.units+1<Dk)(I:Inv X pins σ H s)(g:Wd H a y o)(j:RelV y u)(i:RelV d r)(h:∀m s',Inv X pins σ H s'->RelV (o.getD d) m->Q m s'):
  wpAny (GJ X.prog X.w) A (call (.builtin "dict.get") [.ref a,u,r]) Q E s:=by
 rcases g with⟨kvs,k,e,f,l⟩|⟨kvs,k,b,e,f,n,l⟩
 ·subst f;obtain⟨z,hd,vs,rel,c⟩:=Qbe I.Zu e;refine EB PySem.F.slot_dict_get c.typeIs PySem.F.entry_dict_get (PySem.F.args_dict_get_3 _ _ _) (meets_dict_get_default (Z9 X.prog X.w) a (Qa4 j) hd r) ⟨_,c.mapOf,h _ _ (I.tok _) ?_⟩;rw[l];exact(rel.val k).getD i
 ·subst f;cases(show u=Value.ref b from j);obtain⟨z,hd,xs,rel,c⟩:=Qcx I.Zu e;refine EB PySem.F.slot_dict_get c.typeIs PySem.F.entry_dict_get (PySem.F.args_dict_get_3 _ _ _) (meetsH_dict_get_default (tupleKind (Z9 X.prog X.w)) a b hd r) ⟨Dz p,k,xs,Ru I.Zu n,c,h _ _ (I.tok _) ?_⟩;rw[l];exact(rel.val k).getD i
end
def Qxq(td ty tx:TE):TE:=λσ H Q=>td σ H λx H1=>∃a,x=.ref a/\IsD H1 a/\ty σ H1 λy H2=>tx σ H2 λz b=>∃o,Wd b a y o/\Q (o.getD z) b
section
variable{X:Cx}{o e f:TJ}{apos cpos:E1}{td ty tx:TE}
theorem Qqv(r:X.A.units+1<Dk)(q:PE X o td)(n:PE X e ty)(p:PE X f tx)(m:M2 X o "get" apos e f cpos):PE X (.Call (.Attribute o "get" apos) [e,f] [] cpos) (Qxq td ty tx):=by
 intro pins s σ H Q I h;refine wpAny_Call_method m.base m.few m.line PySem.F.plainAttrs_dict PySem.F.slot_dict_get PySem.F.type_dict_get (Yl (q pins s σ H _ I h) λu s1⟨x,H1,c,B,a,ex,d,t⟩=>?_);subst ex;obtain rfl:u=Value.ref a:=B;obtain⟨E,G,_⟩:=Qw0 c d;refine⟨E,G,?_⟩;rw[m.trees];refine Dw rfl (Em (DN (Yl (n pins s1 σ H1 _ c t) λJ s2⟨y,H2,j,C,v⟩=>DN (Yl (p pins s2 σ H2 _ j v) λfv K⟨z,i,k,D,ov,g,w⟩=>DT ?_))))
 exact Qw4 r k g C D λL s4 l b=>⟨_,i,l,b,w⟩
end
end L2
namespace Att
open PySem PySem.W PySem.Calls PyProof.Rows
theorem Qbu{P:Fx}{h:Heap}:∀(ns:List Int)(vs:List Value),WellAll P h vs (ns.map FH)->Sa vs ns:=by
 intro ns;induction ns with
 |nil=>intro vs w;rw[List.map_nil]at w;cases w;exact .nil
 |cons n ns c=>
  intro vs w;rw[List.map_cons]at w;cases w with
  |cons a b=>cases a;exact .cons _ _ (c _ b)
theorem Qn1{l:FA}{n:Nat}(p:l.most=Ga n){P:Fx}{h:Heap}{args:List WData}{c:List Value}
  (b:l.row.toRowW.claim.pre args=Gf)(k:WellAll P h c args):
  ∃a vs ns,c=[Value.ref a]/\args=[WData.list (ns.map FH)]/\h.get? a=Ga {cls:=.type "list",data:=.seq vs.toArray}/\Sa vs ns/\ns.length<=n:=by
 have j:WShape.hasAll [] args [.list .int]=Gf:=(Fy b).1;have m:l.pre.holds [] {args:=args}=Gf:=(Fy b).2;obtain⟨d,r,rfl,h1,h2⟩:=hasAllW_cons j;obtain rfl:=hasAllW_nil h2;obtain⟨xs,rfl,o⟩:=hasW_list h1;obtain⟨ns,rfl⟩:=items_int o;have f:ns.length<=n:=by
  unfold FR at m;have g:(WTm.not (.lt (.lit (.int (n:Int))) (.len (.arg 0)))).holds [] {args:=[.list (ns.map .int)]}=Gf:=by have g:=(holds_andW m).1;rw[p]at g;exact g
  have i:=condW_of g (w_not (w_lt w_lit (w_len_list (w_arg Xb))));rw[List.length_map]at i;refine Ll λq=>?_;have t:(n:Int)<((ns.length:Nat):Int):=by omega
  first
   |(rw[GQ t]at i;exact absurd i (by decide))
   |(simp at i;omega)
 cases k with
 |cons u v=>
  cases v;cases u with
  |list s e=>exact⟨_,_,ns,Xb,Xb,s,Qbu ns _ e,f⟩
theorem Qnl(l:FA)(args:List WData):l.row.toRowW.claim.post args (.bool Gf) args=Gf:=
 postW_of (r:=l.row.toRowW) (X:=(Gf==Gf))
  (show Fz [] (.bool Gf) .bool=Gf by first|rfl|decide|simp[Fz,WShape.arms,WShape.armsAll])
  (show(WTm.eq .res (.lit (.bool Gf))).value [] {args:=args,res:=Ga (.bool Gf),after:=args}=Ga (.bool (Gf==Gf))from w_eq_bool (w_res Xb) w_lit) rfl
theorem Qg5{l:FA}{n:Nat}{q:Gj}{c:List Gy}{v:(Gy->Option Value)->Heap->Prop}{x:Gs->Heap->Prop}{d:FL}
  (I:l.most=Ga n)(p:d.params.defaults=[])
  (call:∀(w:Gs)(s₀ b:Gi)(mg u:Gy->Option Value)(g:Gc)(o:DL)(pm k doc:Value)(a:Gc)(vs:List Value)(ns:List Int),
   Ground q c [] v w s₀ mg u b.heap->x w b.heap->
   b.heap.get? g=Ga o->o.data=.func (docDef d.name d.params d.body d.scope pm k doc)->b.heap.CodeRec k d.name->mg d.name=Ga (.ref g)->
   b.heap.get? a=Ga {cls:=.type "list",data:=.seq vs.toArray}->Sa vs ns->ns.length<=n->b.gens=#[]->
   codeAny (GJ l.prog w) callerA (.call (.ref g) ⟨[.ref a],[]⟩) (λr s'=>r=.ok (.ret (.bool Gf))/\OldK b.heap s'.heap/\s'.os=b.os/\EJ s'.gens) b):
  WalkO q c v x l.row.toRowW d [] (λf vs=>PySem.call f vs):=by
 intro w s₀ b mg u G Y g o pm k doc B kV J hd m y s E args A M j z L t F;obtain rfl:B=.none:=Dflts.none y p;obtain rfl:kV=.none:=Dflts.noKw y;obtain⟨a,vs,ns,rfl,rfl,i,e,h⟩:=Qn1 I j t;refine enter_call (E6 (call w s₀ b mg u g o pm k doc a vs ns G Y J (fd_plain hd) m s i e h E) λr s' K=>?_);obtain⟨rfl,h2,C,D⟩:=K;exact⟨.inl ⟨.bool Gf,.bool Gf,[],Xb,λ_=>rfl,.bool Gf,Qnl l _,λ_=>⟨List.Pairwise.nil,λ_ H=>(nomatch H)⟩⟩,h2,C,D⟩
end Att
namespace L2
open PySem PySem.Spec PyProof.Rows
variable{K:PySem.W.Frag}{k:Nat}{a f:Gc}{fd:Td}{x qual:Gy}{X:Cx}{st:T4}{A B:Prop}{H:Hp}{xs:List V}{scope:EV}{pins:List (Gc×DL)}{σ:St}{own:List Gy}{fv:List (Nat×Gy)}
theorem Qen:∀{vs:List Value}{ns:List Int},Sa vs ns->Zs (ns.map V.int) vs
 |_,_,.nil=>.nil
 |_,_,.cons n t h=>.cons ⟨t,Xb⟩ (Qen h)
def Qxx(H:Hp):Prop:=∀b,H b=Ge\/∃o xs,H b=Ga (.frz o (.lst xs))
theorem Qqc{P:Gj}{w:Gs}{mg M:Gy->Option Value}{CX:CXT}{E:Gc}{sp:Sp}{c:Gi}{vs:List Value}{ns:List Int}
  (KX:K.In c.heap)(t:c.heap.Ns T8 mg)(hb:c.heap.Ns builtinsNs M)(I:∀x:Gy,x≠"__name__"->M x=bootBuiltins x)(p:c.heap.NoLimit)(Z:c.gens=#[])
  (C:c.heap.get? a=Ga {cls:=.type "list",data:=.seq vs.toArray})(hi:Sa vs ns)(S:ns.length<=Gh)(hr:Yd k callerA)
  (F:∀base:Heap,K.In base->base.Ns T8 mg->Qt P w K mg base CX k E fd [x] sp)(j:∀(s:Gi)(u:Value),SS s fd ⟨[u],[]⟩ [(x,u)])
  (L:∀H:Hp,Qxx H->Zb K H a (ns.map V.int)->sp [.ref a] H (λv _=>v=.bl Gf) λ_ _ _=>False)
  (G:∀H e s',CX [] H c (λ_ _ _=>False) e s'->False):
  codeAny (GJ P w) callerA (.call (.ref E) ⟨[.ref a],[]⟩) (λr s'=>r=.ok (.ret (.bool Gf))/\OldK c.heap s'.heap/\s'.os=c.os/\EJ s'.gens) c:=by
 have rv:=Qen hi;have A:=hi.length;have i:∀H:Hp,Qxx H->Zb K H a (ns.map V.int)->Rf P w H c.heap->(∀b,H b≠Ge->b=a)->(H a≠Ge->K.lookup a=Ge)->
   codeAny (GJ P w) callerA (.call (.ref E) ⟨[.ref a],[]⟩) (λr s'=>r=.ok (.ret (.bool Gf))/\OldK c.heap s'.heap/\s'.os=c.os/\EJ s'.gens) c:=by
  intro H R hS Zu Q X;have f:∀{b:Gc}{o:DL},c.heap.get? b=Ga o->H b=Ge->(Qgz c.heap H).get? b=Ga o:=λe n=>Qpj e n;have N:∀{b:Gc}{o:DL}{es:Array DR}{ep:Nat},c.heap.get? b=Ga o->o.data=.dict es ep->H b=Ge:=λ{b o es ep}e d=>by
   cases q:H b with
   |none=>rfl
   |some u=>have D:b=a:=Q b (by rw[q];simp);subst D;rw[C]at e;cases e;have d':FM vs.toArray _=Data.dict es ep:=d;cases d'
  have g:∀{b:Gc}{m:Gy->Option Value},c.heap.Ns b m->(Qgz c.heap H).Ns b m:=λ{b m}⟨o,es,ep,e,d,r⟩=>⟨o,es,ep,f e (N e d),d,r⟩;have l:K.In (Qgz c.heap H):=λb o e=>f (KX b o e) (by
   cases q:H b with
   |none=>rfl
   |some u=>have D:b=a:=Q b (by rw[q];simp);subst D;rw[X (by rw[q];simp)]at e;cases e)
  have Y:Mod K mg (Qgz c.heap H):=⟨l,g t,⟨M,g hb,I⟩,let⟨mc,h1,h2⟩:=p;⟨mc,g h1,h2⟩⟩;have T:Qlg P w K mg (Qgz c.heap H) callerA [] c H:=⟨Xb,Y,λb o e=>Qvm e,SO (Qo1 _ _),trivial,λb hb=>absurd (show b∈([]:List Gc)from hb) (by simp),Zu,.of_eq Z⟩;refine E6 ((F _ l (g t)).run callerA [] c H ⟨[.ref a],[]⟩ [.ref a] [.ref a] _ _ hr T (j c (.ref a)) (.cons rfl .nil) (L H R hS)) λr s' h=>?_;cases r with
  |error e=>exact(G H e s' h).elim
  |ok W=>
   cases W with
   |next=>exact False.elim h
   |brk=>exact False.elim h
   |cont=>exact False.elim h
   |ret u=>
    obtain⟨v,H',os,bare,un,y,r',q⟩:=h;have q':v=.bl Gf:=q;subst q';obtain rfl:u=Value.bool Gf:=r';refine⟨Xb,OldK.of_keep λb o e=>?_,os,bare⟩;cases q:H b with
    |none=>exact un.keep b o e q (by intro z;exact absurd (show b∈([]:List Gc)from z) (by simp)) (by simp)
    |some u=>
     rcases R b with z|⟨ob,xs,z⟩
     ·rw[q]at z;cases z
     ·have z2:=un.Ow b ob _ z;obtain⟨O,_⟩:=Zu b _ z;obtain⟨U,_⟩:=y b _ z2;rw[e]at O;cases O;exact U
 cases J:K.lookup a with
 |some o=>have e:=KX a o J;rw[C]at e;cases e;refine i (λ_=>Ge) (λ_=>.inl Xb) (.inr ⟨_,vs.toArray,_,J,Xb,Xb,Xb,by rw[List.size_toArray,A];exact S,by simpa using rv⟩) (λb u z=>by have B:(Ge:Option HO)=Ga u:=z;cases B) (λb z=>absurd rfl z) λz=>absurd rfl z
 |none=>
  refine i (λb=>if b=a then Ga (.frz {cls:=.type "list",data:=.seq vs.toArray} (.lst (ns.map V.int)))else Ge) (λb=>?_) (.inl (.inr ⟨{cls:=.type "list",data:=.seq vs.toArray},Gk Xb⟩)) (λb u z=>?_) (λb z=>?_) λ_=>J
  ·by_cases hb:b=a
   ·exact .inr ⟨_,_,Gk hb⟩
   ·exact .inl (Gg hb)
  ·by_cases hb:b=a
   ·have B:=(Gk hb).symm.trans z;cases B;subst hb;exact⟨C,by rw[List.length_map];exact S,vs,_,rv,C⟩
   ·have B:=(Gg hb).symm.trans z;cases B
  ·by_cases hb:b=a
   ·exact hb
   ·exact absurd (Gg hb) z
theorem Qvy{l:PySem.W.OpenLaw}{n:Nat}{q:Gj}{j:List Gy}{D:(Gy->Option Value)->Heap->Prop}{C:Gs->Heap->Prop}{d:FL}{K:Fx->PySem.W.Frag}{CX:Gs->CXT}{sp:Gs->Sp}
  (N:l.most=Ga n)(A:n<=Gh)(y:d.params.defaults=[])(O:Yd k callerA)
  (J:∀(w:Gs)(h:Heap),C w h->(K w.params).In h)
  (F:∀(w:Gs)(mg:Gy->Option Value)(r:Gc)(h:Heap),(K w.params).In h->h.Ns T8 mg->mg d.name=Ga (.ref r)->
   ∃fd:Td,(∀(s:Gi)(u:Value),SS s fd ⟨[u],[]⟩ [(x,u)])/\
    ∀base:Heap,(K w.params).In base->base.Ns T8 mg->Qt l.prog w (K w.params) mg base (CX w) k r fd [x] (sp w))
  (B:∀(w:Gs)(H:Hp)(a:Gc)(ns:List Int),ns.length<=n->Qxx H->Zb (K w.params) H a (ns.map V.int)->sp w [.ref a] H (λv _=>v=.bl Gf) λ_ _ _=>False)
  (t:∀(w:Gs)(H:Hp)(s:Gi)(e:Value)(s':Gi),CX w [] H s (λ_ _ _=>False) e s'->False):
  PySem.W.WalkO q j D C l.row.toRowW d [] (λf vs=>PySem.call f vs):=by
 refine Att.Qg5 N y λw s₀ p mg R r o pm P doc a vs ns G Y Q hd L z m i c M=>?_;have KX:=J w _ Y;obtain⟨fd,hb,E⟩:=F w mg r _ KX G.T.g z;exact Qqc KX G.T.g G.T.b G.T.builtins G.T.nolimit M m i (TL c A) O E hb (λH I hS=>B w H a ns c I hS) λH e s'=>t w H p e s'
def Z8(s:T4)(j:Nat):T4:=match s with
 |.ClassDef _ _ _ a _ _ _ _ _ _ _=>a.getD j (.Pass ⟨0,0,0,0⟩)
 |_=>.Pass ⟨0,0,0,0⟩
def Iv(s:T4):Arguments:=match s with
 |.FunctionDef _ a _ _ _ _ _ _ _ _=>a
 |_=>{posonlyargs:=[],args:=[],vararg:=Ge,kwonlyargs:=[],kw_defaults:=[],kwarg:=Ge,defaults:=[]}
def Vl(s:T4):List T4:=match s with
 |.FunctionDef _ _ b _ _ _ _ _ _ _=>b
 |_=>[]
def Ql(s:T4):EV:=match s with
 |.FunctionDef _ _ _ _ _ _ a _ _ _=>a
 |_=>{kind:=.function,names:=[],isGenerator:=Gp,isCoroutine:=Gp}
abbrev Ya:CXT:=λ_ _ _ _ _ _=>False
abbrev E0:XK:=λ_ _ _=>False
theorem Q4:Il Ya X E0:=λ_ _ _ _ _ _ _ h=>h.elim
structure Va(K:PySem.W.Frag)(x qual:Gy)(st:T4)(f:Gc)(fd:Td):Prop where
 ex:∃(oc:Value)(od:Option Gc)(kV doc pm:Value)(an:Option Gc)(cdv ct:Value)(osl:Array (Option Value)),
  fd=PySem.W.fnOf x qual (Iv st) (Vl st) (Ql st) .none kV doc pm an cdv ct/\K.lookup f=Ga ⟨oc,od,.func fd,osl⟩/\PySem.W.codeIn K cdv qual=Gf
 kp:PySem.W.keepIn K (.ref f)=Gf
section
variable{P:Gj}{w:Gs}{K:PySem.W.Frag}{mg:Gy->Option Value}{base:Heap}
theorem Va.ok{N ps:List Gy}{sp:Sp}(F:Va K x qual st f fd)(S:Qy N ps (Ql st))(len:∀vs H Q E,sp vs H Q E->vs.length=ps.length)
  (a:∀(cdv:Value)(A:Tv)(outer:List SM)(s:Gi)(H:Hp)(vs:List V)(Q:VK)(E:XK),Yd k (A.deeper (envOfC qual (Ql st) s.heap.objs.size f cdv))->sp vs H Q E->
   ∃t,PSs (Qhj Ya P w K mg base N qual (Ql st) f cdv A outer s H E).nox (Vl st) t/\t {nx:=λ_ H'=>Q .non H',rt:=Q} (start N vs) H):Qt P w K mg base Ya (k+1) f fd ps sp:=by
 obtain⟨oc,od,kV,doc,pm,an,cdv,ct,osl,rfl,lk,b⟩:=F.ex;refine Qzf lk b S len λA outer s H vs Q E d c=>?_;obtain⟨t,h,q⟩:=a cdv A outer s H vs Q E d c;exact⟨t,h.nox,q⟩
theorem Va.binds{ps:List Gy}(F:Va K x qual st f fd)
  (h:∀(kV doc pm:Value)(an:Option Gc)(cdv ct:Value)(us:List Value),us.length=ps.length->bindArgs (PySem.W.fnOf x qual (Iv st) (Vl st) (Ql st) .none kV doc pm an cdv ct) ⟨us,[]⟩=pure (ps.zip us)):Binds K fd ps []:=by
 obtain⟨oc,od,kV,doc,pm,an,cdv,ct,osl,rfl,lk,a⟩:=F.ex;exact .all (h kV doc pm an cdv ct)
theorem Zg{oc:Value}{od an:Option Gc}{osl:Array (Option Value)}{kV doc pm cdv ct:Value}(l:K.lookup f=Ga ⟨oc,od,.func (PySem.W.fnOf x qual (Iv st) (Vl st) (Ql st) .none kV doc pm an cdv ct),osl⟩)
  (c:PySem.W.codeIn K cdv qual=Gf)(k:PySem.W.keepIn K (.ref f)=Gf):Va K x qual st f (PySem.W.fnOf x qual (Iv st) (Vl st) (Ql st) .none kV doc pm an cdv ct):=⟨⟨oc,od,kV,doc,pm,an,cdv,ct,osl,Xb,l,c⟩,k⟩
end
theorem Ut{A:Tv}(a:Yd k A):A.units+1<Dk:=D2 (Ss (by decide:1<=64) _) a.units
section
variable{X:Cx}
theorem pv(i:Nat){pos:E1}(b:X.N[i]?=Ga x:=by rfl)(c:Vis X.env.scope x:=by first|exact TZ rfl|exact DO (TZ Xb)|exact DO (DO Xb))(hd:(x==("__debug__":Gy))=Gp:=by decide)
  (a:(x==("__classdict__":Gy))=Gp:=by decide):PE X (.Name x pos) (Vp i):=Qxn b c hd a
end
theorem Zz(h:B):if Gp=Gf then A else B:=by rw[Gg Gw];exact h
theorem Xf(h:A):if Gf=Gf then A else B:=by rw[Gk rfl];exact h
theorem Jh{c:Prop}[Decidable c](h1:c->A)(h2:¬c->B):if c then A else B:=by
 by_cases h:c
 ·rw[Gk h];exact h1 h
 ·rw[Gg h];exact h2 h
theorem Qfg{c:Prop}[Decidable c](a:c)(h:B):if(!decide c)=Gf then A else B:=by rw[GQ a];exact Zz h
def Qv(H H':Hp):Prop:=∀b o,H b=Ga o->H' b=Ga o
theorem Qv.trans{H1 H2:Hp}(a:Qv H H1)(b:Qv H1 H2):Qv H H2:=λc o h=>b c o (a c o h)
theorem Qv.free{H':Hp}(e:Qv H H'){l:Gc}(h:H' l=Fk):H l=Fk:=by
 cases q:H l with
 |none=>rfl
 |some o=>rw[e l o q]at h;cases h
theorem Qv.seq{H':Hp}(e:Qv H H')(h:Zb K H a xs):Zb K H' a xs:=by
 rcases h with(h|⟨o,h⟩)|h
 ·exact .inl (.inl (e _ _ h))
 ·exact .inl (.inr ⟨o,e _ _ h⟩)
 ·exact .inr h
section
variable{X:Cx}
theorem Qpb:Vn X (.builtin "len") (λxs H Q=>∃a kvs,xs=[V.ref a]/\H a=Ga (.dK kvs)/\Q (.int kvs.length) H):=by intro pins s σ H xs us Q I r h;obtain⟨a,kvs,rfl,c,q⟩:=h;obtain⟨u,rfl,d⟩:=vals1 r;cases d;exact Q05 I (.inl c) λt s' b=>⟨.int kvs.length,H,b,⟨t,Xb⟩,q⟩
end
def ccx(X:Cx)(N:List Gy)(scope:EV)(cl:List (Gy×Gc))(C:Gc)(fp:List Gc)(s:Gi)(H:Hp):Cx where
 prog:=X.prog
 w:=X.w
 K:=X.K
 mg:=X.mg
 base:=X.base
 A:=X.A
 N:=N
 s₀:=s
 H₀:=H
 env:=compEnvC scope cl C X.env
 outer:=X.stack
 stack:=X.stack
 ex:=fp
 calm:=X.calm
 fn:=λ_=>Gp
 pn:=[]
 xe:=λ_ _=>False
inductive FV(X:Cx)(scope:EV):List (Nat×Gy)->Prop
 |nil:FV X scope []
 |cons {j:Nat} {x:Gy} {r:List (Nat×Gy)}:X.N[j]?=Ga x->(X.env.scope.names.lookup x=Ga .cell\/X.env.scope.names.lookup x=Ga .free)->scope.names.lookup x=Ga .free->FV X scope r->FV X scope ((j,x)::r)
theorem FV.get{X:Cx}{scope:EV}:∀{fv:List (Nat×Gy)}{k j:Nat}{x:Gy},FV X scope fv->fv[k]?=Ga (j,x)->
  X.N[j]?=Ga x/\(X.env.scope.names.lookup x=Ga .cell\/X.env.scope.names.lookup x=Ga .free)/\scope.names.lookup x=Ga .free
 |_,_,_,_,.nil,e=>by simp at e
 |_,0,_,_,.cons a b c _,e=>by simp at e;obtain⟨rfl,rfl⟩:=e;exact⟨a,b,c⟩
 |_,k+1,_,_,.cons _ _ _ r,e=>FV.get (k:=k) r (by simpa using e)
theorem Vi{env:SM}:∀{names:List (Gy×El)}{x:Gy},names.lookup x=Ga .free->
  (names.map λ(n,k)=>if(k==Tf&&env.scope.kind==.function&&env.kindOf n==Ga .cell)then(n,ES)else(n,k)).lookup x=Ga .cell\/
  (names.map λ(n,k)=>if(k==Tf&&env.scope.kind==.function&&env.kindOf n==Ga .cell)then(n,ES)else(n,k)).lookup x=Ga .free
 |[],_,h=>by simp at h
 |(n,k)::r,x,h=>by
  have b:=@Vi env r x;rw[List.map_cons];dsimp only;cases hx:x==n with
  |true=>
   simp only[List.lookup_cons,hx]at h;cases h;by_cases a:(Tf==Tf&&env.scope.kind==.function&&env.kindOf n==Ga .cell)=Gf
   ·left;rw[Gk a];simp only[List.lookup_cons,hx]
   ·right;rw[Gg a];simp only[List.lookup_cons,hx]
  |false=>
   simp only[List.lookup_cons,hx]at h;by_cases a:(k==Tf&&env.scope.kind==.function&&env.kindOf n==Ga .cell)=Gf
   ·rw[Gk a];simp only[List.lookup_cons,hx];exact b h
   ·rw[Gg a];simp only[List.lookup_cons,hx];exact b h
theorem V7{env:SM}:∀{names:List (Gy×El)}{x:Gy},
  ((names.map λ(n,k)=>if(k==Tf&&env.scope.kind==.function&&env.kindOf n==Ga .cell)then(n,ES)else(n,k)).lookup x=Ga .cell\/
  (names.map λ(n,k)=>if(k==Tf&&env.scope.kind==.function&&env.kindOf n==Ga .cell)then(n,ES)else(n,k)).lookup x=Ga .free)->
  names.lookup x=Ga .cell\/names.lookup x=Ga .free
 |[],_,h=>by simp at h
 |(n,k)::r,x,h=>by
  have c:=@V7 env r x;rw[List.map_cons]at h;dsimp only at h;cases hx:x==n with
  |true=>
   by_cases a:(k==Tf&&env.scope.kind==.function&&env.kindOf n==Ga .cell)=Gf
   ·right;have d:(k==Tf)=Gf:=(DV.mp (DV.mp a).1).1;have b:k=.free:=by simpa using d
    simp only[List.lookup_cons,hx,b]
   ·rw[Gg a]at h;simp only[List.lookup_cons,hx]at h⊢;exact h
  |false=>
   by_cases a:(k==Tf&&env.scope.kind==.function&&env.kindOf n==Ga .cell)=Gf
   ·rw[Gk a]at h;simp only[List.lookup_cons,hx]at h⊢;exact c h
   ·rw[Gg a]at h;simp only[List.lookup_cons,hx]at h⊢;exact c h
theorem R4{env:SM}:∀(names:List (Gy×El))(b:List (Gy×Gc)),(∀x,(x,Tf)∈names->∃c,env.cells.lookup x=Ga c)->(∀x c,b.lookup x=Ga c->env.cells.lookup x=Ga c)->
  ∃cl:List (Gy×Gc),(forIn names b (λ(x:Gy×El)(b:List (Gy×Gc))=>if x.2==Tf then(cellOf env x.1>>=λc=>pure (Ds ((x.1,c)::b)))else pure (Ds b)):FN (List (Gy×Gc)))=pure cl/\
   (∀x c,cl.lookup x=Ga c->env.cells.lookup x=Ga c)/\(∀x,(∃c,b.lookup x=Ga c)\/(x,Tf)∈names->∃c,cl.lookup x=Ga c)
 |[],b,_,h2=>⟨b,Xb,h2,λx h=>h.elim id λz=>nomatch z⟩
 |(n,k)::r,b,h1,h2=>by
  rw[List.forIn_cons];by_cases j:k=.free
  ·subst j;obtain⟨c,l⟩:=h1 n List.mem_cons_self;have e:cellOf env n=pure c:=by unfold cellOf;rw[l]
   obtain⟨cl,f,g,i⟩:=R4 r ((n,c)::b) (λx a=>h1 x (List.mem_cons_of_mem _ a)) (λx d a=>by
    rw[List.lookup_cons]at a;cases q:x==n with
    |true=>
     rw[q]at a;have m:x=n:=by simpa using q
     rw[m,l];exact a
    |false=>rw[q]at a;exact h2 x d a)
   refine⟨cl,?_,g,λx a=>i x ?_⟩
   ·simp only[DZ,E7,e,pure_bind];exact f
   ·rcases a with⟨d,hd⟩|a
    ·left;rw[List.lookup_cons];cases q:x==n with
     |true=>exact⟨_,Xb⟩
     |false=>exact⟨d,hd⟩
    ·rcases List.mem_cons.mp a with z|z
     ·left;have:x=n:=congrArg Prod.fst z;subst this;exact⟨c,by simp[List.lookup_cons]⟩
     ·exact .inr z
  ·have hb:(k==Tf)=Gp:=by simpa using j
   obtain⟨cl,f,g,i⟩:=R4 r b (λx a=>h1 x (List.mem_cons_of_mem _ a)) h2;refine⟨cl,?_,g,λx a=>i x ?_⟩
   ·simp only[hb,Tw,T6,pure_bind];exact f
   ·rcases a with z|z
    ·exact .inl z
    ·rcases List.mem_cons.mp z with z|z
     ·exact absurd (congrArg Prod.snd z).symm j
     ·exact .inr z
theorem Qem{env:SM}(h1:∀x,(x,Tf)∈scope.names->∃c,env.cells.lookup x=Ga c):
  ∃cl:List (Gy×Gc),closureFor scope env=pure cl/\(∀x c,cl.lookup x=Ga c->env.cells.lookup x=Ga c)/\(∀x,(x,Tf)∈scope.names->∃c,cl.lookup x=Ga c):=by
 obtain⟨cl,b,d,f⟩:=R4 (env:=env) scope.names [] h1 (λx c h=>by simp at h);refine⟨cl,?_,d,λx g=>f x (.inr g)⟩;have e:closureFor scope env=((forIn scope.names ([]:List (Gy×Gc)) (λ(x:Gy×El)(a:List (Gy×Gc))=>if x.2==Tf then(cellOf env x.1>>=λc=>pure (Ds ((x.1,c)::a)))else pure (Ds a)):FN (List (Gy×Gc)))>>=λa=>pure a):=rfl;rw[e,b];rfl
def U9(n:Nat)(fv:List (Nat×Gy))(σ:St):St:=List.replicate n Ge++fv.map λq=>(σ[q.1]?).join
theorem Qqb{s:Gi}{cl:List (Gy×Gc)}{fp:List Gc}{h1:Heap}{ob:DL}{m:Gy->Option Value}{t':Nat}
  (I:Inv X pins σ H s)(N:scope.kind=.function)(F:FV X scope fv)(k:∀x c,cl.lookup x=Ga c->X.env.cells.lookup x=Ga c)(E:∀x,(x,Tf)∈scope.names->∃c,cl.lookup x=Ga c)
  (B:∀y∈scope.names,y.2≠.cell)(g:∀b∈fp,Qay X pins H b)(A:∀b∈fp,b<s.heap.objs.size)
  (O:h1.Ns s.heap.objs.size m)(D:Heap.SameBut s.heap.objs.size (s.heap.push ob) h1):
  Inv (ccx X (own++fv.map (·.2)) scope cl s.heap.objs.size fp s H) [] (U9 own.length fv σ) H {s with heap:=h1,toks:=t'}:=by
 have keep:∀b u,s.heap.get? b=Ga u->h1.get? b=Ga u:=λb u e=>(D.2 b (GV (Heap.lt_size e))).trans (Heap.get?_push_of_some _ e);have f:∀x,(scope.names.lookup x=Ga .cell\/scope.names.lookup x=Ga .free)->(x,Tf)∈scope.names:=λx h=>by
  rcases h with h|h
  ·exact absurd rfl (B _ (PySem.mem_of_lookup h))
  ·exact PySem.mem_of_lookup h
 refine⟨⟨I.ok.mod,N,I.ok.glob,I.ok.blt,Gm _,λx y c d a=>I.ok.inj x y c (k x c d) (k y c a),λx h=>E x (f x (V7 (env:=X.env) h)),λ_ _ h _=>(Gw h).elim,
   I.ok.hd,I.ok.frames,.inl Xb,λb hb=>⟨GV (A b hb),λx c e=>(g b hb).2.2.2.2.1 x c (k x c e)⟩,I.bs,TL I.ok.bsz I.sz,λb o e hb=>?_,λb hb M=>?_,I.stack,I.Qmp⟩,
  Xb,I.bare,Un.kept keep,⟨m,O,λi x v d a U=>?_⟩,λx c e=>?_,I.Zu.fresh (Gm _),λx c e=>I.Jt x c (k x c e),λp Q=>absurd (show p∈([]:List (Gc×DL))from Q) (by simp),I.Zu.kept keep,?_⟩
 ·rcases(g b hb).2.2.2.1 with z|z
  ·exact I.ok.Qqo b o e z
  ·exact absurd (Ta (Heap.lt_size e) (TL I.ok.bsz z)) (Dx _)
 ·rcases List.mem_cons.mp (I.Qg0 b M)with z|z
  ·exact(g b hb).2.1 z
  ·exact(g b hb).2.2.1 z
 ·have d:(own++fv.map (·.2))[i]?=Ga x:=d;by_cases hi:i<own.length
  ·have a:(U9 own.length fv σ)[i]?=Ga (Ga v):=a;unfold U9 at a;rw[List.getElem?_append_left (by simpa using hi),List.getElem?_replicate]at a;split at a<;>cases a
  ·have a:(U9 own.length fv σ)[i]?=Ga (Ga v):=a;unfold U9 at a;rw[List.getElem?_append_right (by simpa using hi),List.length_replicate,List.getElem?_map]at a;rw[List.getElem?_append_right (by omega),List.getElem?_map]at d;cases q:fv[i - own.length]? with
   |none=>rw[q]at d;cases d
   |some p=>
    obtain⟨j,y⟩:=p;rw[q]at d a;have d:Ga y=Ga x:=d;cases d;have a:Ga (σ[j]?).join=Ga (Ga v):=a;have a:=Tc a;obtain⟨L,l,G⟩:=F.get q;have K:σ[j]?=Ga (Ga v):=by
     cases r:σ[j]? with
     |none=>rw[r]at a;cases a
     |some z=>rw[r]at a;exact congrArg Ga a
    obtain⟨m0,P,w⟩:=I.loc;obtain⟨u,T,lk⟩:=w j x v L K (.inr l);refine⟨u,T,?_⟩;rcases lk with⟨t,_⟩|⟨t,c,R,S⟩
    ·exfalso;have t:X.env.scope.names.lookup x=Ga .local:=t;rcases l with l|l<;>(rw[t]at l;cases l)
    ·obtain⟨J,n⟩:=E x (PySem.mem_of_lookup G);have:=k x J n;rw[R]at this;cases this;refine .inr ⟨Vi (env:=X.env) G,c,n,?_⟩;obtain⟨o,C,hd⟩:=S;exact⟨o,keep _ _ C,hd⟩
 ·obtain⟨v,o,C,hd⟩:=I.cell x c (k x c e);exact⟨v,o,keep _ _ C,hd⟩
 ·show(U9 own.length fv σ).length=(own++fv.map (·.2)).length;unfold U9;simp
def Qkf(X:Cx)(ifs:List TJ)(t:TT):Prop:=
 ∀(pins:List (Gc×DL))(s:Gi)(σ:St)(H:Hp)(Q:Bool->Hp->Prop),Inv X pins σ H s->t σ H Q->
  wpAny (GJ X.prog X.w) X.A (forIn ifs Gf λc r=>if r=Gf then do let ok<-isTrue c X.env (eval c X.env);pure (Ds ok)else pure (Ds r)) (TP X pins σ Q) X.xe s
def Qpn:TT:=λ_ H Q=>Q Gf H
theorem X7:Qkf X [] Qpn:=λpins s σ H Q I h=>wpAny_tests_nil ⟨H,I,h⟩
theorem Qql{c:TJ}{t:TT}(h:PT X c t):Qkf X [c] t:=λpins s σ H Q I hw=>wpAny_tests_one (h pins s σ H Q I hw)
section
variable{prog:Gj}{w:Gs}{A:Tv}{R:LX->Gi->Prop}{s:Gi}
theorem Qfu{elt a iter:TJ}{ifs:List TJ}{pos:E1}{it acc:Value}{env:SM}(I:Nat->Gi->Prop)
  (turn:∀n s,I n s->wpAny (GJ prog w) A (pyNext it) (λr b=>match r with
   |none=>R (.ok .next) b
   |some v=>wpAny (GJ prog w) A (letOwnedTupleGo a it v) (λ_ b=>wpAny (GJ prog w) A (assign a env v) (λ_ f=>
     wpAny (GJ prog w) A (forIn ifs Gf λc r=>if r=Gf then do let ok<-isTrue c env (eval c env);pure (Ds ok)else pure (Ds r)) (λok d=>
      if ok=Gf then wpAny (GJ prog w) A (eval elt env) (λx g=>wpAny (GJ prog w) A (call (.builtin "list.append") [acc,x]) (λ_ i=>∃m,m<n/\I m i) (λ_ _=>False) g) (λ_ _=>False) d
      else∃m,m<n/\I m d) (λ_ _=>False) f) (λ_ _=>False) b) (λ_ _=>False) b) (λ_ _=>False) s)
  (n:Nat)(h:I n s):
  codeAny (GJ prog w) A (.compLoop (.ListComp elt [⟨a,iter,ifs,0⟩] scope pos) 0 it acc env) R s:=by
 refine codeAny_loop rfl I (λn s o=>?_) n h;show wpAny _ A ((compTurn (.ListComp elt [⟨a,iter,ifs,0⟩] scope pos) 0 it acc env).onRaise (λx=>do noteFrame x env;theTreesLotGoes x)) _ _ s;refine wpAny_noted ?_;rw[compTurn_list];refine Gb (Sw (Gb (Dh (turn n s o) (λr b h₁=>?_) λ_ _ h'=>h'.elim)));cases r with
 |none=>exact Gd h₁
 |some v=>
  refine Gb (Dh h₁ (λ_ b h₁=>?_) λ_ _ h'=>h'.elim);refine Gb (Dh h₁ (λ_ f j=>Gb (Dh j (λok d e=>?_) λ_ _ h'=>h'.elim)) λ_ _ h'=>h'.elim);cases ok with
  |false=>exact Gd ⟨Xb,e⟩
  |true=>exact Gb (Gb (Dh e (λx g k=>Gb (Dh k (λ_ i l=>Gd (Gd ⟨Xb,l⟩)) λ_ _ h'=>h'.elim)) λ_ _ h'=>h'.elim))
end
def Qc0(p:Gc)(J:It)(g:TG)(tt:TT)(te:TE)(Q:Hp->Prop)(e:St)(H0:Hp):Prop:=
 ∃W:Nat->Nat->St->Hp->Prop,(∃m,W 0 m e H0)/\∀i m σ H,W i m σ H->
  (J.stop i H/\Q H)\/(J.go i H/\∃(N:V->St->Hp->Prop)(h:St->Hp->Prop),(∀v a H',N v a H'->∃ys,H' p=Ga (.lst ys)/\ys.length<Gh/\∃d,d<m/\W (i+1) d a (upd H' p (.lst (ys++[v]))))/\
   (∀a H',h a H'->∃d,d<m/\W (i+1) d a H')/\
   ∀x H',J.yld i H x H'->g x σ H' λc H2=>tt c H2 λb f=>if b=Gf then te c f λv j=>N v c j else h c f)
def Qwr(n:Nat)(fv:List (Nat×Gy))(wi:TI)(g:TG)(tt:TT)(te:TE):TE:=λσ H Q=>wi σ H λJ H1=>∀p,H1 p=Ge->Qc0 p J g tt te (λH'=>Q (.ref p) H') (U9 n fv σ) (upd H1 p (.lst []))
section
variable{X:Cx}{elt tg iter:TJ}{ifs:List TJ}{scope:EV}{pos:E1}{wi:TI}{g:TG}{tt:TT}{te:TE}
structure Wc(esc scope:EV):Prop where
 kind:scope.kind=.function
 Qp4:∀y∈scope.names,y.2≠.cell
 loc:∀x∈scope.names,x.2=.local->scope.names.lookup x.1=Ga .local
 fre:∀y∈scope.names,y.2=.free->esc.names.lookup y.1=Ga .cell\/esc.names.lookup y.1=Ga .free
theorem Qcw{H2:Hp}{s2:Gi}{it:Gc}{fp:List Gc}{tn:Nat->Heap->Prop}{J:It}{cl:List (Gy×Gc)}{Q:VK}{RR:Value->Gc->LX->Gi->Prop}{E:Value->Gi->Prop}
  (hc:X.calm=Gf)(S:Wc X.env.scope scope)(F:FV X scope fv)(c1:∀x c,cl.lookup x=Ga c->X.env.cells.lookup x=Ga c)(c2:∀x,(x,Tf)∈scope.names->∃c,cl.lookup x=Ga c)
  (hg:∀cl C fp s H,PG (ccx X (own++fv.map (·.2)) scope cl C fp s H) tg g)(ht:∀cl C fp s H,Qkf (ccx X (own++fv.map (·.2)) scope cl C fp s H) ifs tt)(he:∀cl C fp s H,PE (ccx X (own++fv.map (·.2)) scope cl C fp s H) elt te)
  (I2:Inv X pins σ H2 s2)(T:Qgt X.prog X.w X.K tg J fp it tn)(P:tn 0 s2.heap)(f2:∀b∈fp,Qay X pins H2 b)
  (q:∀p,H2 p=Ge->Qc0 p J g tt te (λH'=>Q (.ref p) H') (U9 own.length fv σ) (upd H2 p (.lst [])))
  (ai:∀(p C:Gc)(H':Hp)(s':Gi),Inv X pins σ H' s'->(∃m,s'.heap.Ns C m)->Qay X pins H' C->Q (.ref p) H'->RR (.ref p) C (.ok .next) s'):
  wpAny (GJ X.prog X.w) X.A (newList []) (λacc ad=>wpAny (GJ X.prog X.w) X.A (newFunctionEnv scope X.env.globals cl [] X.env.qual Ge .none (Ga X.env)) (λD ae=>codeAny (GJ X.prog X.w) X.A (.compStart (.ListComp elt [⟨tg,iter,ifs,0⟩] scope pos) 0 (.ref it) acc {D with scope:=relabel scope X.env}) (RR acc D.locals) ae) E ad) E s2:=by
 have q:=q s2.heap.objs.size (I2.Zu.fresh (Gm _));have I3:=I2.Qz5 (ys:=[]) (its:=[]) (t':=s2.toks) .nil (Gv _);have aj:H2 s2.heap.objs.size=Ge:=I2.Zu.fresh (Gm _);refine To (wpAny_newFunctionEnv S.Qp4 (by intro y hy;simp at hy) (λh₁ t a=>?_) S.kind);have l:∀b∈fp,Qay X pins (upd H2 s2.heap.objs.size (.lst [])) b:=λb hb=>by obtain⟨o,e,_⟩:=T.obj 0 _ P b hb;exact⟨by rw[Qg (GV (Heap.lt_size e))];exact(f2 b hb).1,(f2 b hb).2⟩
 have O:∀b∈fp,b<(s2.heap.push {cls:=.type "list",data:=.seq ([]:List Value).toArray}).objs.size:=λb hb=>by obtain⟨o,e,_⟩:=T.obj 0 _ P b hb;exact Heap.lt_size (Heap.get?_push_of_some _ e)
 have ac:tn 0 h₁:=T.keep 0 _ _ P λb hb o e=>(a.2 b (GV (O b hb))).trans (Heap.get?_push_of_some _ (Heap.get?_push_of_some _ e));have I4:=Qqb (own:=own) (fv:=fv) (t':=s2.toks+([]:List (Gy×Value)).length) I3 S.kind F c1 c2 S.Qp4 l O t a;obtain⟨W,⟨m0,w0⟩,turn⟩:=q;generalize hC:(s2.heap.push {cls:=.type "list",data:=.seq ([]:List Value).toArray}).objs.size=C at*;have G:codeAny (GJ X.prog X.w) X.A (.compLoop (.ListComp elt [⟨tg,iter,ifs,0⟩] scope pos) 0 (.ref it) (.ref s2.heap.objs.size) (compEnvC scope cl C X.env)) (RR (.ref s2.heap.objs.size) C)
   {s2 with heap:=h₁,toks:=s2.toks+([]:List (Gy×Value)).length}:=by
  generalize f:ccx X (own++fv.map (·.2)) scope cl C fp {s2 with heap:=s2.heap.push {cls:=.type "list",data:=.seq ([]:List Value).toArray}} (upd H2 s2.heap.objs.size (.lst []))=Y at I4;have h:∀{H':Hp},(∀b∈fp,H' b=Ge)->∀b∈fp,Qay Y [] H' b:=λ{H'}hn b hb=>by
   subst f;refine⟨hn b hb,GV (O b hb),λz=>?_,.inl hb,λx c e=>(l b hb).2.2.2.2.1 x c (c1 x c e),λp hp=>absurd (show p∈([]:List (Gc×DL))from hp) (by simp)⟩;rcases List.mem_cons.mp (I3.Qg0 b z)with z|z
   ·exact(l b hb).2.1 z
   ·exact(l b hb).2.2.1 z
  have eP:Y.prog=X.prog:=by subst f;rfl
  have ew:Y.w=X.w:=by subst f;rfl
  have eK:Y.K=X.K:=by subst f;rfl
  have eA:Y.A=X.A:=by subst f;rfl
  have eC:Y.calm=Gf:=by subst f;exact hc
  have eE:Y.env=compEnvC scope cl C X.env:=by subst f;rfl
  have ex:Y.xe=λ_ _=>False:=by subst f;rfl
  have L:PG Y tg g:=by subst f;exact hg _ _ _ _ _
  have M:Qkf Y ifs tt:=by subst f;exact ht _ _ _ _ _
  have I:PE Y elt te:=by subst f;exact he _ _ _ _ _
  unfold PG at L;unfold Qkf at M;unfold PE at I;rw[eP,ew,eA,eE,ex]at L M I;refine Qfu (λn s'=>∃i j H',Inv Y [] j H' s'/\tn i s'.heap/\(∀b∈fp,H' b=Ge)/\W i n j H') ?_ m0 ⟨0,_,_,I4,ac,λb hb=>(l b hb).1,w0⟩;rintro n s3 ⟨i,B,U,J3,ab,aa,w3⟩;rcases turn i n B U w3 with⟨stop,qn⟩|⟨go,N,N',hN,ah,step⟩
  ·have d:=T.done Y eP ew eK eC i [] s3 B U (λ_ _=>False) J3 (h aa) ab stop;rw[eA]at d;refine Yl d λr s4⟨hr,V⟩=>?_;subst hr;show RR _ C (.ok .next) s4;have u:=V.base;have Zu:=V.Zu;have os:=V.os;have bare:=V.bare;obtain⟨m4,n4,_⟩:=V.loc;have fC:=V.free;subst f;have I5:Inv X pins σ U s4:=I3.Qzk (ch:=fp) os u Zu bare λb hb=>⟨(l b hb).2.2.2.1,(l b hb).2.1,(l b hb).2.2.2.2.1,(l b hb).2.2.2.2.2⟩;refine ai _ C U s4 I5 ⟨m4,n4⟩ ?_ qn;rw[<-hC];exact I3.Qi0 (Gm _) (by show U _=Ge;rw[hC];exact fC)
  ·have d:=T.item Y eP ew eK eC i [] s3 B U (λ_ _=>False) J3 (h aa) ab go;rw[eA]at d;refine Yl d λr s4⟨u,hr,h4⟩=>?_;subst hr;refine Yl h4 λ_ s5⟨x,H5,J5,r5,y5,R,ag⟩=>?_;have af:=J5.pinned (h ag) (T.obj _ _ R);refine Yl (L _ s5 B H5 x u _ af r5 (step x H5 y5)) λ_ s6⟨k,H6,J6,q6⟩=>?_;refine Yl (M _ s6 k H6 _ J6 q6) λok s7⟨H7,J7,q7⟩=>?_;have again:∀{s8:Gi}{H8:Hp},Inv Y ([]++Qd4 fp s5.heap) k H8 s8->(∃m',m'<n/\W (i+1) m' k H8)->∃m,m<n/\∃i j H',Inv Y [] j H' s8/\tn i s8.heap/\(∀b∈fp,H' b=Ge)/\W i m j H':=λ{s8 H8}Z⟨m',hm,w8⟩=>by refine⟨m',hm,i+1,k,H8,Z.Oa,T.keep _ _ _ R λb hb o e=>(Z.pin (b,o) (List.mem_append_right _ (List.mem_append_right _ (Jj hb e)))).1,λb hb=>?_,w8⟩;obtain⟨o,e,d⟩:=T.obj _ _ R b hb;exact(Z.pin (b,o) (List.mem_append_right _ (List.mem_append_right _ (Jj hb e)))).2.1
   cases ok with
   |false=>rw[Gg Gw]at q7⊢;exact again J7 (ah _ _ q7)
   |true=>rw[Gk rfl]at q7⊢;refine Yl (I _ s7 k H7 _ J7 q7) λxv s8⟨v,H8,Z,r8,q8⟩=>?_;obtain⟨ys,hy,hz,q8⟩:=hN _ _ _ q8;obtain⟨z,its,n',r,hl,e⟩:=Z.Qhl hy;refine E9 PySem.F.slot_list_append ⟨_,e,Xb⟩ PySem.F.entry_list_append (PySem.F.args_list_append_2 _ _) (PySem.list_append s2.heap.objs.size its.toArray n' xv (by rw[List.size_toArray];omega)) ⟨e,?_⟩;refine again (Z.Qta (its':=its++[xv]) (t':=s8.toks) hy e (by simp) (r.append (.cons r8 .nil)) ?_) q8;rw[List.length_append,List.length_singleton];omega
 exact codeAny_compStart_list G (T.self X.A 0 _ _ _ ac G)
theorem Od{s:Gi}(S:Wc X.env.scope scope)(I:Inv X pins σ H s):
  ∃cl:List (Gy×Gc),closureFor scope X.env=pure cl/\(∀x c,cl.lookup x=Ga c->X.env.cells.lookup x=Ga c)/\(∀x,(x,Tf)∈scope.names->∃c,cl.lookup x=Ga c):=
 Qem λx a=>I.ok.has x (S.fre (x,.free) a Xb)
theorem Ub(t:X.calm=Gf)(S:Wc X.env.scope scope)(F:FV X scope fv)(hi:PI X tg iter wi)
  (y:∀cl C fp s H,PG (ccx X (own++fv.map (·.2)) scope cl C fp s H) tg g)(D:∀cl C fp s H,Qkf (ccx X (own++fv.map (·.2)) scope cl C fp s H) ifs tt)(u:∀cl C fp s H,PE (ccx X (own++fv.map (·.2)) scope cl C fp s H) elt te)
  (B:∀x,foldedSetIterable iter X.env x=pure x:=by intro _;rfl):PE X (.ListComp elt [⟨tg,iter,ifs,0⟩] scope pos) (Qwr own.length fv wi g tt te):=by
 intro pins s σ H Q I h;rw[eval_ListComp];obtain⟨cl,c,l,n⟩:=Od S I;refine ET (use:=Ge) rfl B c S.kind S.loc (Yl (hi pins s σ H _ I h) λv s1 h1=>Yl h1 λE s2 h2=>?_);obtain⟨it,fp,tn,J,H2,e,k,T,i,r,q⟩:=h2;subst e;refine Qcw (Q:=Q) (RR:=λacc C=>compPost (GJ X.prog X.w) X.A X.xe Ge (EP X pins σ Q) acc C) t S F l n y D u k T i r q λp C H' s' j d a z=>?_;obtain⟨m,d⟩:=d;refine⟨m,d,λh' f=>⟨.ref p,H',?_,Xb,z⟩⟩;exact j.turned (t':=s'.toks) (λb o hb e=>(f.2 b hb).trans e) a.1 a.2.1 a.2.2.2.1 a.2.2.2.2.1 a.2.2.2.2.2
theorem Rm{i:Nat}{y:Gy}{f c:E1}(W:X.N.Nodup)(r:X.N[i]?=Ga y)(M:X.env.scope.names.lookup y=Ga .local)(Y:X.calm=Gf)(S:Wc X.env.scope scope)(F:FV X scope fv)(hi:PI X tg iter wi)
  (hg:∀cl C fp s H,PG (ccx X (own++fv.map (·.2)) scope cl C fp s H) tg g)(ht:∀cl C fp s H,Qkf (ccx X (own++fv.map (·.2)) scope cl C fp s H) ifs tt)(Z:∀cl C fp s H,PE (ccx X (own++fv.map (·.2)) scope cl C fp s H) elt te)
  (E:swapsWith (.ListComp elt [⟨tg,iter,ifs,0⟩] scope pos) (Ga (.Name y f)) c.line X.env=pure Gf:=by rfl)
  (hs:∀x,foldedSetIterable iter X.env x=pure x:=by intro _;rfl):PS X (.Assign [.Name y f] (.ListComp elt [⟨tg,iter,ifs,0⟩] scope pos) c) (Qvn (Qwr own.length fv wi g tt te) (Vj i)):=by
 intro pins s σ H D I h;rw[exec_Assign_Name_used _ _ _ _ E];obtain⟨cl,n,R,U⟩:=Od S I;refine Gb (Sw (Gb ?_));show wpAny _ X.A (do let _<-comprehension (.ListComp elt [⟨tg,iter,ifs,0⟩] scope pos) scope X.env _ (newList []) Gp (eval iter X.env) (Ga (assign (.Name y f) X.env))) _ _ s;refine Gb (Dh (ET (use:=Ga (assign (.Name y f) X.env)) (Q:=λ_ s'=>SP X pins D .next s') rfl hs n S.kind S.loc (Yl (hi pins s σ H _ I h) λv s1 h1=>Yl h1 λaa s2 h2=>?_)) (λ_ s' u=>Gd (Gd u)) λ_ _ e=>e);obtain⟨it,fp,tn,J,H2,e,P,T,L,V,q⟩:=h2;subst e;refine Qcw (Q:=λx H1=>Vj i x σ H1 D.nx) (RR:=λacc C=>compPost (GJ X.prog X.w) X.A X.xe (Ga (assign (.Name y f) X.env)) (λ_ s'=>SP X pins D .next s') acc C) Y S F R U hg ht Z P T L V q λp C H' s' O t d u=>?_;obtain⟨m,t⟩:=t;show wpAny _ X.A (assign (.Name y f) X.env (.ref p)) _ _ _;refine SN (Qfa O W r (.inl M) (v:=.ref p) rfl (λG k K=>?_) (.inr M));obtain⟨a,K,j⟩:=K;have l:C≠a:=by
  rcases j with j|j
  ·rw[j];exact d.2.1
  ·exactλz=>d.2.2.2.2.1 y a j z.symm
 refine⟨m,t.sameBut K l,λh' B=>⟨_,H',?_,u⟩⟩;exact k.turned (t':=G.toks) (λb o hb e=>(B.2 b hb).trans e) d.1 d.2.1 d.2.2.2.1 d.2.2.2.2.1 d.2.2.2.2.2
end
theorem Uq{p:Gc}{g:TG}{te:TE}{Q:Hp->Prop}{d:St}{H0:Hp}(t:xs.length<=Gh)(Pv:Nat->List V->St->Hp->Prop)(o:Pv 0 [] d (upd H0 p (.lst [])))
  (r:∀i ys σ H,i<=xs.length->Pv i ys σ H->Z4 K H a xs)
  (s:∀i x ys σ H,xs[i]?=Ga x->ys.length=i->Pv i ys σ H->H p=Ga (.lst ys)->g x σ H λf H2=>te f H2 λv j=>j p=Ga (.lst ys)/\Pv (i+1) (ys++[v]) f (upd j p (.lst (ys++[v]))))
  (hd:∀ys σ H,ys.length=xs.length->Pv xs.length ys σ H->H p=Ga (.lst ys)->Q H):Qc0 p (Itt K a) g Qpn te Q d (upd H0 p (.lst [])):=by
 refine⟨λi m σ H=>m=xs.length - i/\i<=xs.length/\∃ys,ys.length=i/\Pv i ys σ H/\H p=Ga (.lst ys),⟨xs.length,by simp,Gv _,[],Xb,o,Qb⟩,?_⟩;rintro i m σ H ⟨rfl,hi,ys,h,pv,k⟩;have q:=r i ys σ H hi pv;by_cases b:i<xs.length
 ·refine .inr ⟨⟨xs,xs[i],q,by simp[b]⟩,λv c H'=>H' p=Ga (.lst ys)/\Pv (i+1) (ys++[v]) c (upd H' p (.lst (ys++[v]))),λ_ _=>False,λv c H'⟨l,n⟩=>⟨ys,l,by omega,xs.length - (i+1),by omega,Xb,b,ys++[v],by simp[h],n,Qb⟩,λ_ _ z=>z.elim,λx H' y=>?_⟩;obtain⟨e,y⟩:=y;subst e;exact s i x ys σ _ (y xs q) h pv k
 ·have e:i=xs.length:=by omega
  subst e;exact .inl ⟨⟨xs,q,Gm _⟩,hd ys σ H h pv k⟩
theorem Qal{p:Gc}{g:TG}{te:TE}{Q:Hp->Prop}{d:St}{H0:Hp}(t:xs.length<=Gh)(Pv:Nat->List V->St->Hp->Prop)(o:Pv 0 [] d (upd H0 p (.lst [])))
  (r:∀i ys σ H,i<=xs.length->Pv i ys σ H->Zb K H a xs)
  (s:∀i x ys σ H,xs[i]?=Ga x->ys.length=i->Pv i ys σ H->H p=Ga (.lst ys)->g x σ H λf H2=>te f H2 λv j=>j p=Ga (.lst ys)/\Pv (i+1) (ys++[v]) f (upd j p (.lst (ys++[v]))))
  (hd:∀ys σ H,ys.length=xs.length->Pv xs.length ys σ H->H p=Ga (.lst ys)->Q H):Qc0 p (Itl K a) g Qpn te Q d (upd H0 p (.lst [])):=by
 refine⟨λi m σ H=>m=xs.length - i/\i<=xs.length/\∃ys,ys.length=i/\Pv i ys σ H/\H p=Ga (.lst ys),⟨xs.length,by simp,Gv _,[],Xb,o,Qb⟩,?_⟩;rintro i m σ H ⟨rfl,hi,ys,h,pv,k⟩;have q:=r i ys σ H hi pv;by_cases b:i<xs.length
 ·refine .inr ⟨⟨xs,xs[i],q,by simp[b]⟩,λv c H'=>H' p=Ga (.lst ys)/\Pv (i+1) (ys++[v]) c (upd H' p (.lst (ys++[v]))),λ_ _=>False,λv c H'⟨l,n⟩=>⟨ys,l,by omega,xs.length - (i+1),by omega,Xb,b,ys++[v],by simp[h],n,Qb⟩,λ_ _ z=>z.elim,λx H' y=>?_⟩;obtain⟨e,y⟩:=y;subst e;exact s i x ys σ _ (y xs q) h pv k
 ·have e:i=xs.length:=by omega
  subst e;exact .inl ⟨⟨xs,q,Gm _⟩,hd ys σ H h pv k⟩
mutual
inductive Dt(H:Hp):V->TF->Prop
 |non:Dt H .non .none
 |bl (b:Bool):Dt H (.bl b) (.bool b)
 |int (i:Int):Dt H (.int i) (.int i)
 |str (x:Gy):Dt H (.str x) (.str x)
 |lst {a:Gc} {xs:List V} {ds:List TF}:H a=Ga (.lst xs)->Ob H xs ds->Dt H (.ref a) (.list ds)
 |tup {a:Gc} {xs:List V} {ds:List TF}:H a=Ga (.tup xs)->Ob H xs ds->Dt H (.ref a) (.tuple ds)
inductive Ob(H:Hp):List V->List TF->Prop
 |nil:Ob H [] []
 |cons {x:V} {xs:List V} {d:TF} {ds:List TF}:Dt H x d->Ob H xs ds->Ob H (x::xs) (d::ds)
end
mutual
theorem Dt.same{H H':Hp}(e:Qv H H'):∀{v:V}{d:TF},Dt H v d->Dt H' v d
 |_,_,.non=>.non
 |_,_,.bl b=>.bl b
 |_,_,.int i=>.int i
 |_,_,.str x=>.str x
 |_,_,.lst h t=>.lst (e _ _ h) (Ob.same e t)
 |_,_,.tup h t=>.tup (e _ _ h) (Ob.same e t)
theorem Ob.same{H H':Hp}(e:Qv H H'):∀{xs:List V}{ds:List TF},Ob H xs ds->Ob H' xs ds
 |_,_,.nil=>.nil
 |_,_,.cons h t=>.cons (Dt.same e h) (Ob.same e t)
end
theorem Ob.length{H:Hp}:∀{xs:List V}{ds:List TF},Ob H xs ds->xs.length=ds.length
 |_,_,.nil=>rfl
 |_,_,.cons _ t=>by rw[List.length_cons,List.length_cons,t.length]
theorem Ob.get{H:Hp}:∀{xs:List V}{ds:List TF}{i:Nat}{x:V},Ob H xs ds->xs[i]?=Ga x->∃d,ds[i]?=Ga d/\Dt H x d
 |_,_,_,_,.nil,e=>by simp at e
 |_,_,0,_,.cons h _,e=>by simp at e;subst e;exact⟨_,Xb,h⟩
 |_,_,i+1,_,.cons _ t,e=>by obtain⟨d,h1,h2⟩:=Ob.get (i:=i) t (by simpa using e);exact⟨d,by simpa using h1,h2⟩
mutual
theorem Dt.reads{P:Gj}{w:Gs}{H:Hp}{h:Heap}(ok:Rf P w H h):∀{v:V}{d:TF}{u:Value},Dt H v d->RelV v u->∃c,Sx h u d c
 |_,_,u,.non,r=>⟨[],by cases(show u=Value.none from r);exact .none⟩
 |_,_,u,.bl b,r=>⟨[],by cases(show u=Value.bool b from r);exact .bool b⟩
 |_,_,u,.int i,r=>⟨[],by obtain⟨t,e⟩:=(show∃t,u=Value.int i t from r);cases e;exact .int i t⟩
 |_,_,u,.str x,r=>⟨[],by obtain⟨t,e⟩:=(show∃t,u=Value.str x t from r);cases e;exact .str x t⟩
 |_,_,u,.lst (a:=a) (xs:=xs) e t,r=>by obtain⟨_,its,n,rv,f⟩:=(show Z0 P w H h a (.lst xs)from ok a _ e);obtain⟨c,g⟩:=Ob.reads ok t rv;cases(show u=Value.ref a from r);exact⟨a::c,.list f rfl rfl (by simpa using g)⟩
 |_,_,u,.tup (a:=a) (xs:=xs) e t,r=>by obtain⟨_,its,rv,o,f,j,n,hd⟩:=(show Z0 P w H h a (.tup xs)from ok a _ e);obtain⟨c,g⟩:=Ob.reads ok t rv;cases(show u=Value.ref a from r);exact⟨c,.tuple f j hd (by simpa using g)⟩
theorem Ob.reads{P:Gj}{w:Gs}{H:Hp}{h:Heap}(ok:Rf P w H h):∀{xs:List V}{ds:List TF}{us:List Value},Ob H xs ds->Zs xs us->∃a,Eo h us ds a
 |_,_,_,.nil,.nil=>⟨[],.nil⟩
 |_,_,_,.cons d t,.cons r e=>by obtain⟨a,b⟩:=Dt.reads ok d r;obtain⟨bs,c⟩:=Ob.reads ok t e;exact⟨a++bs,.cons b c⟩
end
def Qze(f:Bool->Bool):R2:=λx y H Q=>∃dx a,Dt H x dx/\Dt H y a/\dx.canLay0=Gf/\a.canLay0=Gf/\min dx.depth a.depth<=64/\Q (.bl (f (Tq dx a))) H
section
variable{X:Cx}
theorem Qpl(l:X.A.units+64<Dk):O8 X (T5 .Eq) (Qze λb=>b):=by intro pins s σ H x y v u Q I f g h;obtain⟨dx,j,h1,h2,a,c,k,q⟩:=h;obtain⟨i,d⟩:=h1.reads I.Zu f;obtain⟨bs,e⟩:=h2.reads I.Zu g;exact PySem.SeqAt.compareEq_reads d e a c (by omega) ⟨.bl _,H,I,Xb,q⟩
theorem Qj4(l:X.A.units+64<Dk):O8 X (T5 .NotEq) (Qze λb=>!b):=by intro pins s σ H x y v u Q I f g h;obtain⟨dx,j,h1,h2,a,c,k,q⟩:=h;obtain⟨i,d⟩:=h1.reads I.Zu f;obtain⟨bs,e⟩:=h2.reads I.Zu g;exact PySem.SeqAt.compareNe_reads d e a c (by omega) ⟨.bl _,H,I,Xb,q⟩
def Q2g(K:PySem.W.Frag):List V->Hp->VK->Prop:=λxs H Q=>∃x n t b,xs=[x,.ty n]/\Rb K H x t/\PySem.W.kitOne K t (.type n)=Ga b/\Q (.bl b) H
theorem Xd:Vn X (.builtin "isinstance") (Q2g X.K):=by intro pins s σ H xs us Q I r h;obtain⟨x,n,t,b,rfl,ty,e,q⟩:=h;obtain⟨u,d,rfl,a,c⟩:=vals2 r;cases(show d=Value.type n from c);exact Qog I a ty e λtk=>⟨.bl b,H,I.tok tk,Xb,q⟩
def Q07(K:PySem.W.Frag):List V->Hp->VK->Prop:=λxs H Q=>∃x p n m t b,xs=[x,.ref p]/\H p=Ga (.tup [.ty n,.ty m])/\Rb K H x (.type t)/\PySem.W.kitAny K (.type t) [.type n,.type m]=Ga b/\Q (.bl b) H
theorem Qoj:Vn X (.builtin "isinstance") (Q07 X.K):=by
 intro pins s σ H xs us Q I r h;obtain⟨x,p,n,m,t,b,rfl,l,ty,e,q⟩:=h;obtain⟨u,D,rfl,d,A⟩:=vals2 r;cases(show D=Value.ref p from A);obtain⟨_,its,rv,o,c,j,k,hd⟩:=(show Z0 X.prog X.w H s.heap p (.tup [.ty n,.ty m])from I.Zu p _ l);obtain⟨B,C,g,v,z⟩:=vals2 rv;subst g;cases(show B=Value.type n from v);cases(show C=Value.type m from z);obtain⟨oc,od,f,os⟩:=o;cases(show oc=Value.type "tuple"from j);cases(show f=FM _ k from hd);have fin:∀tk,EP X pins σ Q (.bool b) {s with toks:=tk}:=λtk=>⟨.bl b,H,I.tok tk,Xb,q⟩;cases ty with
 |non=>cases(show u=Value.none from d);exact PySem.W.kia_tup PySem.W.kitx_none I.Jw Ti c e nofun fin
 |bl y=>cases(show u=Value.bool y from d);exact PySem.W.kia_tup PySem.W.kitx_bool I.Jw Ti c e nofun fin
 |int i=>obtain⟨t,q⟩:=(show∃t,u=Value.int i t from d);cases q;exact PySem.W.kia_tup PySem.W.kitx_int I.Jw Ti c e nofun fin
 |str y=>obtain⟨t,q⟩:=(show∃t,u=Value.str y t from d);cases q;exact PySem.W.kia_tup PySem.W.kitx_str I.Jw Ti c e nofun fin
 |flt y=>obtain⟨t,q⟩:=(show∃t,u=Value.float y t from d);cases q;exact PySem.W.kia_tup PySem.W.kitx_float I.Jw Ti c e nofun fin
 |@lst a xs ea=>cases(show u=Value.ref a from d);obtain⟨_,_,n,_,h1⟩:=(show Z0 X.prog X.w H s.heap a (.lst xs)from I.Zu a _ ea);exact PySem.W.kia_tup PySem.W.kitx_list I.Jw ⟨_,h1,Xb⟩ c e nofun fin
 |@frz a ob xs ea=>cases(show u=Value.ref a from d);obtain⟨_,_,_,n,_,h1⟩:=(show Z0 X.prog X.w H s.heap a (.frz ob (.lst xs))from I.Zu a _ ea);exact PySem.W.kia_tup PySem.W.kitx_list I.Jw ⟨_,h1,Xb⟩ c e nofun fin
 |@tup a xs ea=>cases(show u=Value.ref a from d);obtain⟨_,_,_,p⟩:=(show Z0 X.prog X.w H s.heap a (.tup xs)from I.Zu a _ ea);obtain⟨o,h1,h2,_⟩:=p;exact PySem.W.kia_tup PySem.W.kitx_tuple I.Jw ⟨o,h1,h2⟩ c e nofun fin
 |@dK a kvs ea=>cases(show u=Value.ref a from d);obtain⟨_,_,vs,_,p⟩:=(show Z0 X.prog X.w H s.heap a (.dK kvs)from I.Zu a _ ea);obtain⟨o,es,ep,h1,h2,_⟩:=p;exact PySem.W.kia_tup PySem.W.kitx_dict I.Jw ⟨o,h1,h2.1⟩ c e nofun fin
 |@dT a kvs ea=>cases(show u=Value.ref a from d);obtain⟨_,_,xs,_,o,es,ep,h1,h2,_⟩:=(show Z0 X.prog X.w H s.heap a (.dT kvs)from I.Zu a _ ea);exact PySem.W.kia_tup PySem.W.kitx_dict I.Jw ⟨o,h1,h2.1⟩ c e nofun fin
end
theorem Qs0:PySem.W.kitOne K (.type "list") (.type "list")=Ga Gf:=by rfl
theorem Qqy:PySem.W.kitOne K (.type "tuple") (.type "tuple")=Ga Gf:=by rfl
theorem Qyi:PySem.W.kitOne K (.type "list") (.type "tuple")=Ga Gp:=by kernel_rfl
theorem Qrn:PySem.W.kitOne K (.type "tuple") (.type "list")=Ga Gp:=by kernel_rfl
theorem Qrd:PySem.W.kitOne K (.type "str") (.type "str")=Ga Gf:=by rfl
theorem Qw6:PySem.W.kitOne K (.type "bool") (.type "str")=Ga Gp:=by kernel_rfl
theorem Qxi:PySem.W.kitOne K (.type "int") (.type "str")=Ga Gp:=by kernel_rfl
theorem Qy2:PySem.W.kitOne K (.type "NoneType") (.type "str")=Ga Gp:=by kernel_rfl
theorem Qs1:PySem.W.kitOne K (.type "bool") (.type "bool")=Ga Gf:=by rfl
theorem Qjx:PySem.W.kitOne K (.type "int") (.type "bool")=Ga Gp:=by kernel_rfl
theorem Qym:PySem.W.kitOne K (.type "NoneType") (.type "bool")=Ga Gp:=by kernel_rfl
theorem Qsq:PySem.W.kitOne K (.type "int") (.type "int")=Ga Gf:=by rfl
theorem Qx3:PySem.W.kitAny K (.type "list") [.type "list",.type "tuple"]=Ga Gf:=by rfl
theorem Qxc:PySem.W.kitAny K (.type "tuple") [.type "list",.type "tuple"]=Ga Gf:=by unfold PySem.W.kitAny;rw[Qrn];rfl
theorem Qbw{t:String}(h1:PySem.W.kitOne K (.type t) (.type "list")=Ga Gp)(h2:PySem.W.kitOne K (.type t) (.type "tuple")=Ga Gp):PySem.W.kitAny K (.type t) [.type "list",.type "tuple"]=Ga Gp:=by unfold PySem.W.kitAny;rw[h1];unfold PySem.W.kitAny;rw[h2];rfl
theorem Qyp:PySem.W.kitOne K (.type "str") (.type "list")=Ga Gp:=by kernel_rfl
theorem Qw8:PySem.W.kitOne K (.type "str") (.type "tuple")=Ga Gp:=by kernel_rfl
theorem Qxe:PySem.W.kitOne K (.type "int") (.type "list")=Ga Gp:=by kernel_rfl
theorem Qw3:PySem.W.kitOne K (.type "int") (.type "tuple")=Ga Gp:=by kernel_rfl
theorem Qxk:PySem.W.kitOne K (.type "bool") (.type "list")=Ga Gp:=by kernel_rfl
theorem Qyv:PySem.W.kitOne K (.type "bool") (.type "tuple")=Ga Gp:=by kernel_rfl
theorem Qxy:PySem.W.kitOne K (.type "NoneType") (.type "list")=Ga Gp:=by kernel_rfl
theorem Qw5:PySem.W.kitOne K (.type "NoneType") (.type "tuple")=Ga Gp:=by kernel_rfl
end L2
namespace PySem
section
variable{prog:Gj}{w:Gs}{A:Tv}{E:Value->Gi->Prop}{s:Gi}
open PyProof.Rows
def Heap.Qju(h:Heap)(a l:Gc)(i:Int):Prop:=∃o,h.get? a=Ga o/\o.cls=.type "reversed"/\o.data=.fields #[.ref l,rawInt i]
theorem Heap.Qju.at{h h':Heap}{a l:Gc}{i:Int}(x:h.Qju a l i)(e:∀o,h.get? a=Ga o->h'.get? a=Ga o):h'.Qju a l i:=let⟨o,ho,r⟩:=x;⟨o,e _ ho,r⟩
end
section
variable{prog:Gj}{w:Gs}{K:Type}[DecidableEq K]{knd:Fl prog w K}{A:Tv}{E:Value->Gi->Prop}{s:Gi}
theorem V6{d a:Gc}{xs:List (K×Gc×Value)}{k:K}{dflt:Value}{Q:Value->Gi->Prop}(u:knd.room A)(b:knd.is s.heap k a)(B:s.heap.DictOfH knd d xs)
  (c:∀p,atKey xs k=Ga p->Q p.2 {s with toks:=s.toks+knd.draws k})
  (l:atKey xs k=Ge->∀h',h'.DictOfH knd d (xs++[(k,a,dflt)])->Heap.SameBut d s.heap h'->Q dflt {s with heap:=h',toks:=s.toks+knd.draws k})
  (hsz:xs.length<=Gh):
  wpAny (GJ prog w) A (dictSetDefault d (.ref a) dflt) Q E s:=by
 obtain⟨o,es,ep,h,z,hd,q,i,r⟩:=B;unfold dictSetDefault;try with_reducible refine TR ?_
 refine Gb (knd.pyHash u b ?_);refine Gb (wpAny_dictFind_heap (s:={s with toks:=s.toks+knd.draws k}) u b h hd q i r ?_ ?_)
 ·intro m;have n:k∉xs.map (·.1):=not_mem_keys_of_get m;have g:=atKey_none_of_get m;refine Gb (Eg (Gb (wpAny_updateDictKeys (hz:=by have e:=size_of_entries q;omega) (s:={s with toks:=s.toks+knd.draws k}) h hd (Gd (l g _ ⟨_,_,ep+1,Heap.get?_update_self _ h (Obj.isFreed_of_dict (Sk hd _)),
   z.mapDictKeys _,Sk hd _,?_,?_,?_⟩ (Heap.SameBut.update ..))))))
  ·simp[q,entryOfKey]
  ·intro x f;rcases List.mem_append.mp f with f|f
   ·exact knd.keeps (i x f) h hd (Heap.SameBut.update ..)
   ·simp only[List.mem_singleton]at f;subst f;exact knd.keeps b h hd (Heap.SameBut.update ..)
  ·rw[List.map_append,List.nodup_append];refine⟨r,by simp,?_⟩;intro x f y v;simp only[List.map_cons,List.map_nil,List.mem_singleton]at v;subst v;exactλe=>n (e▸f)
 ·intro j p t;have g:=atKey_of_get r t;refine Gb (Df (s:={s with toks:=s.toks+knd.draws k}) h hd ?_);rw[entry_at q j,t];exact Gb (Eg (Gd (c p g)))
theorem Wp(knd:Fl prog w K)(d a:Gc)(hd:(d==TU)=Gp)(dflt:Value):
  MeetsIn prog w (Builtin.«dict.setdefault» ⟨[.ref d,.ref a,dflt],[]⟩) (λA R s=>knd.room A.in1/\∃k xs,knd.is s.heap k a/\s.heap.DictOfH knd d xs/\xs.length<=Gh/\
   (∀p,atKey xs k=Ga p->R (.ok (.ret p.2)) {s with toks:=s.toks+knd.draws k})/\
   (atKey xs k=Ge->∀h',h'.DictOfH knd d (xs++[(k,a,dflt)])->Heap.SameBut d s.heap h'->R (.ok (.ret dflt)) {s with heap:=h',toks:=s.toks+knd.draws k})):=
 .of_wp λA R s⟨h,k,xs,b,f,hz,h1,h2⟩=>by unfold Builtin.«dict.setdefault»;refine Gb ?_;unfold Builtin.Dict.keyAndDefault;refine Gb (Ed f.typeIs ?_);show wpAny _ _ (pure (d,Value.ref a,Ga dflt)) _ _ s;refine Gd ?_;show wpAny _ _ (if(d==TU)=Gf then _ else(dictSetDefault d (.ref a) dflt>>=_)) _ _ s;rw[Gg (by rw[hd];exact Gw)];exact Gb (V6 h b f (λp i=>Gd ⟨p.2,Xb,h1 p i⟩) (λg h' c e=>Gd ⟨dflt,Xb,h2 g h' c e⟩) hz)
end
end PySem
namespace L2
open PySem PySem.Spec PyProof.Rows
section
variable{X:Cx}{tg:TJ}
def Qv3:V->List V->Hp->VK->Prop:=λx vs H Q=>∃d b a kvs k,x=.ref d/\vs=[.ref b,a]/\H d=Ga (.dT kvs)/\H b=Ga (.tup (k.map kV))/\kvs.length<Gh/\
 (∀v,Yq kvs k=Ga v->Q v H)/\(Yq kvs k=Ge->Q a (upd H d (.dT (kvs++[(k,a)]))))
theorem Qny(G:X.A.units+1<Dk):MtR X "dict.setdefault" Qv3:=by
 intro pins s σ H x vs v us Q I N rv h;obtain⟨d,b,i,kvs,k,rfl,rfl,e,l,hz,K,L⟩:=h;cases(show v=Value.ref d from N);obtain⟨O,r,rfl,M,o⟩:=vals2 rv;cases(show O=Value.ref b from M);obtain⟨z,hd,xs,rel,j⟩:=Qwl I.Zu e;have J:kvs.length=xs.length:=Paired.length rel;refine EB F.slot_dict_setdefault j.typeIs F.entry_dict_setdefault (F.args_dict_setdefault_3 _ _ _) (Wp (tupleKind (Z9 X.prog X.w)) d b hd r) ⟨Dz G,k,xs,Ru I.Zu l,j,by omega,λp D=>?_,λC h' g E=>?_⟩
 ·have a:=rel.val k;rw[D]at a;cases q:Yq kvs k with
  |none=>rw[q]at a;exact(show False from a).elim
  |some y=>rw[q]at a;exact⟨y,H,I.tok _,a,K y q⟩
 ·have a:=rel.val k;rw[C]at a;cases q:Yq kvs k with
  |some y=>rw[q]at a;exact(show False from a).elim
  |none=>obtain⟨ob,es,ep,n,h2,t,u,_,B⟩:=g;have f:KT H (kvs++[(k,i)]) (xs++[(k,b,r)]):=Paired.snoc rel ⟨Xb,l,o⟩;refine⟨i,_,Jb (ob:=.dT (kvs++[(k,i)])) I (by rw[e];exact Ti) E ⟨ob,n⟩ ⟨by rw[List.length_append,List.length_singleton];omega,hd,_,f.keeps λc ys m=>?_,ob,es,ep,n,h2,t,u,B⟩,o,L q⟩;rw[Qg (Zw m e nofun)];exact m
end
theorem Qf{H:Hp}{p:Gc}(h:H p=Ge)(o:HO):Qv H (upd H p o):=λb u q=>by rw[Qg (Qc q h)];exact q
theorem nd1(x:Gy):[x].Nodup:=by simp
theorem small{n:Nat}(h:n<=16000000):n<=Gh:=by rw[Gu];omega
end L2
namespace Sb
open PySem
inductive Th where
 |mk (w:Gy) (ps:List Th)
mutual
def Th.size:Th->Nat
 |.mk _ ps=>Qr ps+1
def Qr:List Th->Nat
 |[]=>0
 |p::r=>p.size+Qr r
end
mutual
def Th.depth:Th->Nat
 |.mk _ ps=>Xx ps+1
def Xx:List Th->Nat
 |[]=>0
 |p::r=>max p.depth (Xx r)
end
mutual
def Th.inside:Th->List Th
 |.mk w ps=>Zp ps++[.mk w ps]
def Zp:List Th->List Th
 |[]=>[]
 |p::r=>p.inside++Zp r
end
mutual
def Th.toD:Th->TF
 |.mk w ps=>.tuple (.str w::X0 ps)
def X0:List Th->List TF
 |[]=>[]
 |p::r=>p.toD::X0 r
end
mutual
def Th.ok:Th->Bool
 |.mk w ps=>TW w&&okL ps
def okL:List Th->Bool
 |[]=>Gf
 |p::r=>p.ok&&okL r
end
def Rh(w:Gy):Bool:=TW w&&decide (w.length<=200)
theorem Rh.str{w:Gy}(h:Rh w=Gf):TW w=Gf:=(DV.mp h).1
theorem Rh.len{w:Gy}(h:Rh w=Gf):w.length<=200:=TC (DV.mp h).2
mutual
def Th.short:Th->Bool
 |.mk w ps=>decide (w.length<=200)&&U4 ps
def U4:List Th->Bool
 |[]=>Gf
 |p::r=>p.short&&U4 r
end
theorem Qdi:∀ts:List Th,U4 ts=ts.all Th.short
 |[]=>by simp[U4]
 |t::r=>by simp[U4,Qdi r]
def Th.word:Th->Gy
 |.mk w _=>w
def Th.parts:Th->List Th
 |.mk _ ps=>ps
theorem I8:∀ts:List Th,okL ts=ts.all Th.ok
 |[]=>by simp[okL]
 |t::r=>by simp[okL,I8 r]
mutual
theorem Qkh:∀t:Th,t.inside.length=t.size
 |.mk w ps=>by simp[Th.inside,Th.size,Ua ps]
theorem Ua:∀ts:List Th,(Zp ts).length=Qr ts
 |[]=>by simp[Zp,Qr]
 |p::r=>by simp[Zp,Qr,Qkh p,Ua r]
end
theorem Om(t:Th):1<=t.size:=by cases t;simp[Th.size]
theorem Qag(t:Th):1<=t.depth:=by cases t;simp[Th.depth]
theorem Qfl:∀{ts:List Th}{t:Th},t∈ts->t.size<=Qr ts
 |p::r,t,h=>by
  rcases List.mem_cons.mp h with rfl|h
  ·simp[Qr]
  ·have:=Qfl h;simp only[Qr];omega
theorem Wy:∀{ts:List Th}{t:Th},t∈ts->t.depth<=Xx ts
 |p::r,t,h=>by
  rcases List.mem_cons.mp h with rfl|h
  ·simp only[Xx];omega
  ·have:=Wy h;simp only[Xx];omega
theorem Zi:∀ts:List Th,ts.length<=Qr ts
 |[]=>by simp[Qr]
 |p::r=>by have:=Om p;have:=Zi r;simp only[Qr,List.length_cons];omega
mutual
theorem Qis:∀(t:Th){s:Th},s∈t.inside->s.size<=t.size
 |.mk w ps,s,h=>by
  simp only[Th.inside,List.mem_append,List.mem_singleton]at h;rcases h with h|rfl
  ·have:=O2 ps h;simp only[Th.size];omega
  ·exact Gm _
theorem O2:∀(ts:List Th){s:Th},s∈Zp ts->s.size<=Qr ts
 |p::r,s,h=>by
  simp only[Zp,List.mem_append]at h;rcases h with h|h
  ·have:=Qis p h;simp only[Qr];omega
  ·have:=O2 r h;simp only[Qr];omega
 |[],s,h=>by simp[Zp]at h
end
theorem Qlo(t:Th):t∈t.inside:=by cases t;simp[Th.inside]
theorem Xq:∀ts:List Th,Zp ts=ts.flatMap Th.inside
 |[]=>by simp[Zp]
 |p::r=>by simp[Zp,Xq r]
theorem Qvh{x y:Gy}:(x==y)=decide (x=y):=by
 by_cases h:x=y
 ·subst h;simp
 ·simp[h]
mutual
theorem U6:∀s t:Th,Tq s.toD t.toD=Gf↔s=t
 |.mk w ps,.mk v a=>by simp only[Th.toD,Tq,Tp,GO,Th.mk.injEq];rw[Qip ps a,Qvh,decide_eq_true_iff]
theorem Qip:∀a ts:List Th,Tp (X0 a) (X0 ts)=Gf↔a=ts
 |[],[]=>by simp[X0,Tp]
 |[],t::r=>by simp[X0,Tp]
 |s::r,[]=>by simp[X0,Tp]
 |s::r,t::q=>by simp only[X0,Tp,GO,List.cons.injEq];rw[U6 s t,Qip r q]
end
instance:DecidableEq Th:=λs t=>if h:Tq s.toD t.toD=Gf then .isTrue ((U6 s t).mp h)else .isFalse λe=>h ((U6 s t).mpr e)
theorem Quw(s t:Th):Tq s.toD t.toD=decide (s=t):=by
 by_cases h:s=t
 ·rw[GQ h];exact(U6 s t).mpr h
 ·rw[Gx h];exact EK.mpr λe=>h ((U6 s t).mp e)
mutual
theorem Qgo:∀t:Th,t.ok=Gf->t.toD.canLay0=Gf
 |.mk w ps,h=>by simp only[Th.ok,GO]at h;simp only[Th.toD,Tg,Gr,GO];exact⟨h.1,Qb7 ps h.2⟩
theorem Qb7:∀ts:List Th,okL ts=Gf->Gr (X0 ts)=Gf
 |[],_=>by simp[X0,Gr]
 |t::r,h=>by simp only[okL,GO]at h;simp only[X0,Gr,GO];exact⟨Qgo t h.1,Qb7 r h.2⟩
end
mutual
theorem Iw:∀t:Th,t.toD.depth=t.depth
 |.mk w ps=>by simp only[Th.toD,Dj,Tj,Th.depth,Qcl ps];omega
theorem Qcl:∀ts:List Th,Tj (X0 ts)=Xx ts
 |[]=>by simp[X0,Tj,Xx]
 |t::r=>by simp[X0,Tj,Xx,Iw t,Qcl r]
end
def Xo(acc:List Th)(xs:List Th):List Th:=xs.foldl (λacc x=>if x∈acc then acc else acc++[x]) acc
theorem Ic(acc:List Th):Xo acc []=acc:=rfl
theorem Iu(acc:List Th)(x:Th)(r:List Th):Xo acc (x::r)=Xo (if x∈acc then acc else acc++[x]) r:=rfl
theorem Uc(acc xs ys:List Th):Xo acc (xs++ys)=Xo (Xo acc xs) ys:=by unfold Xo;rw[List.foldl_append]
theorem Qo0(acc xs:List Th)(y:Th):Xo acc (xs++[y])=if y∈Xo acc xs then Xo acc xs else Xo acc xs++[y]:=by rw[Uc];rfl
theorem Qcd:∀(xs acc:List Th)(y:Th),y∈Xo acc xs↔y∈acc\/y∈xs
 |[],acc,y=>by simp[Ic]
 |x::r,acc,y=>by
  rw[Iu,Qcd r];by_cases h:x∈acc
  ·rw[Gk h];constructor
   ·rintro(h1|h1)
    ·exact .inl h1
    ·exact .inr (List.mem_cons_of_mem _ h1)
   ·rintro(h1|h1)
    ·exact .inl h1
    ·rcases List.mem_cons.mp h1 with rfl|h1
     ·exact .inl h
     ·exact .inr h1
  ·rw[Gg h];simp only[List.mem_append,List.mem_cons,List.not_mem_nil,Ep];constructor
   ·rintro((h1|h1)|h1)
    ·exact .inl h1
    ·exact .inr (.inl h1)
    ·exact .inr (.inr h1)
   ·rintro(h1|h1|h1)
    ·exact .inl (.inl h1)
    ·exact .inl (.inr h1)
    ·exact .inr h1
theorem Qfc:∀(xs acc:List Th),(∀x∈xs,x∈acc)->Xo acc xs=acc
 |[],_,_=>rfl
 |x::r,acc,h=>by rw[Iu,Gk (h x List.mem_cons_self)];exact Qfc r acc λy a=>h y (List.mem_cons_of_mem _ a)
theorem Qc1:∀(xs acc:List Th),(Xo acc xs).length<=acc.length+xs.length
 |[],acc=>by simp[Ic]
 |x::r,acc=>by
  rw[Iu];have:=Qc1 r (if x∈acc then acc else acc++[x]);split at this
  ·rename_i h
   rw[Gk h];simp only[List.length_cons];omega
  ·rename_i h
   rw[Gg h];simp only[List.length_append,List.length_cons,List.length_nil]at this⊢;omega
def Vo(ts:List Th):Prop:=∀t∈ts,∀s∈t.inside,s∈ts
theorem Qkb:Vo []:=λ_ h=>by simp at h
theorem Qtt{ts:List Th}{t:Th}(h:Vo ts)(a:t∈ts):Xo ts t.inside=ts:=Qfc _ _ λx b=>h t a x b
theorem W9:∀(xs acc:List Th),∃m,Xo acc xs=acc++m
 |[],acc=>⟨[],by simp[Ic]⟩
 |x::r,acc=>by
  rw[Iu];split
  ·exact W9 r acc
  ·obtain⟨m,e⟩:=W9 r (acc++[x]);exact⟨x::m,by rw[e];simp⟩
def Qcs(t:Th):List Gy:=t.word::t.parts.map Th.word
end Sb
namespace L2
open PySem PySem.Spec PyProof.Rows
theorem Qf9(x:V)(vs:List V):V4 (x::vs) (Ga 1) Ge=vs:=by
 have e:HT.Wh (x::vs).length 0 (Ga 1)=1:=by have q:=HT.Jl (x::vs).length 0 1;rw[List.length_cons]at q⊢;refine q.trans ?_;omega
 unfold V4;rw[e,HT.Jz];simp
theorem Vc(x:V)(vs:List V):¬(HT.Wh (x::vs).length 0 (Ga 1)=0/\HT.Wh (x::vs).length (x::vs).length Ge=(x::vs).length):=by
 have e:HT.Wh (x::vs).length 0 (Ga 1)=1:=by have q:=HT.Jl (x::vs).length 0 1;rw[List.length_cons]at q⊢;refine q.trans ?_;omega
 rw[e];rintro⟨h,_⟩;exact absurd h (by decide)
end L2
namespace Sb
open PySem PySem.Spec PyProof.Rows L2
variable{H H':Hp}{v:V}{t:Th}
mutual
inductive Z5(H:Hp):V->Th->Prop
 |mk {a:Gc} {w:Gy} {vs:List V} {ps:List Th}:H a=Ga (.tup (.str w::vs))->Zn H vs ps->Z5 H (.ref a) (.mk w ps)
inductive Zn(H:Hp):List V->List Th->Prop
 |nil:Zn H [] []
 |cons {v:V} {vs:List V} {t:Th} {ts:List Th}:Z5 H v t->Zn H vs ts->Zn H (v::vs) (t::ts)
end
def Qp(H H':Hp):Prop:=∀b xs,H b=Ga (.tup xs)->H' b=Ga (.tup xs)
theorem Qp.of(e:Qv H H'):Qp H H':=λb xs h=>e b _ h
theorem Qp.trans{H1 H2:Hp}(a:Qp H H1)(b:Qp H1 H2):Qp H H2:=λc xs h=>b c xs (a c xs h)
theorem Zh{a:Gc}{o:HO}(h:∀xs,H a≠Ga (.tup xs)):Qp H (upd H a o):=λb xs e=>by
 by_cases hb:b=a
 ·subst hb;exact absurd e (h xs)
 ·rw[Qg hb];exact e
mutual
theorem Z5.Qk{H H':Hp}(e:Qp H H'):∀{v:V}{t:Th},Z5 H v t->Z5 H' v t
 |_,_,.mk h r=>.mk (e _ _ h) (Zn.Qk e r)
theorem Zn.Qk{H H':Hp}(e:Qp H H'):∀{vs:List V}{ts:List Th},Zn H vs ts->Zn H' vs ts
 |_,_,.nil=>.nil
 |_,_,.cons h r=>.cons (Z5.Qk e h) (Zn.Qk e r)
end
theorem Z5.same(e:Qv H H')(h:Z5 H v t):Z5 H' v t:=h.Qk (Qp.of e)
theorem Zn.same(e:Qv H H'){vs:List V}{ts:List Th}(h:Zn H vs ts):Zn H' vs ts:=h.Qk (Qp.of e)
mutual
theorem Z5.dt{H:Hp}:∀{v:V}{t:Th},Z5 H v t->Dt H v t.toD
 |_,_,.mk (w:=w) (ps:=ps) h r=>by
  have e:(Th.mk w ps).toD=.tuple (.str w::X0 ps):=by simp[Th.toD]
  rw[e];exact .tup h (.cons (.str w) (Zn.dts r))
theorem Zn.dts{H:Hp}:∀{vs:List V}{ts:List Th},Zn H vs ts->Ob H vs (X0 ts)
 |_,_,.nil=>by simp only[X0];exact .nil
 |_,_,.cons h r=>by simp only[X0];exact .cons (Z5.dt h) (Zn.dts r)
end
theorem Z5.inv(h:Z5 H v t):∃a w vs ps,v=.ref a/\t=.mk w ps/\H a=Ga (.tup (.str w::vs))/\Zn H vs ps:=by
 cases h with
 |mk h r=>exact⟨_,_,_,_,Xb,Xb,h,r⟩
theorem Zn.length{H:Hp}:∀{vs:List V}{ts:List Th},Zn H vs ts->vs.length=ts.length
 |_,_,.nil=>rfl
 |_,_,.cons _ t=>by rw[List.length_cons,List.length_cons,t.length]
theorem Zn.append{H:Hp}:∀{vs us:List V}{ts a:List Th},Zn H vs ts->Zn H us a->Zn H (vs++us) (ts++a)
 |_,_,_,_,.nil,t=>t
 |_,_,_,_,.cons h r,t=>.cons h (r.append t)
theorem Zn.one(h:Z5 H v t):Zn H [v] [t]:=.cons h .nil
theorem Zn.get{H:Hp}:∀{vs:List V}{ts:List Th}{i:Nat}{v:V},Zn H vs ts->vs[i]?=Ga v->∃t,ts[i]?=Ga t/\Z5 H v t
 |_,_,_,_,.nil,e=>by simp at e
 |_,_,0,_,.cons h _,e=>by simp at e;subst e;exact⟨_,Xb,h⟩
 |_,_,i+1,_,.cons _ t,e=>by obtain⟨d,h1,h2⟩:=Zn.get (i:=i) t (by simpa using e);exact⟨d,by simpa using h1,h2⟩
theorem Zn.at{H:Hp}{vs:List V}{ts:List Th}{i:Nat}{t:Th}(h:Zn H vs ts)(e:ts[i]?=Ga t):∃v,vs[i]?=Ga v/\Z5 H v t:=by
 have hi:i<ts.length:=(List.getElem?_eq_some_iff.mp e).1;have a:i<vs.length:=by rw[h.length];exact hi
 obtain⟨t',h1,h2⟩:=h.get (List.getElem?_eq_getElem a);rw[e]at h1;cases h1;exact⟨_,List.getElem?_eq_getElem a,h2⟩
mutual
def Oe:TF->Nat
 |.none=>1|.bool _=>1|.int _=>1|.str _=>1
 |.list xs=>Z1 xs+1
 |.tuple xs=>Z1 xs+1
 |.dict _=>1
def Z1:List TF->Nat
 |[]=>0
 |x::r=>Oe x+Z1 r
end
theorem Qey(d:TF):1<=Oe d:=by cases d<;>simp[Oe]
theorem X9:∀xs ys:List TF,Z1 (xs++ys)=Z1 xs+Z1 ys
 |[],ys=>by simp[Z1]
 |x::r,ys=>by simp only[List.cons_append,Z1,X9 r ys];omega
theorem Uh:∀xs:List TF,xs.length<=Z1 xs
 |[]=>by simp[Z1]
 |x::r=>by have:=Qey x;have:=Uh r;simp only[Z1,List.length_cons];omega
theorem Io:∀(ts:List Th)(n:Nat),(∀t∈ts,t.size<=n)->Qr ts<=ts.length*n
 |[],n,_=>by simp[Qr]
 |t::r,n,h=>by have h1:=h t List.mem_cons_self;have h2:=Io r n λs a=>h s (List.mem_cons_of_mem _ a);simp only[Qr,List.length_cons];rw[DM];omega
structure Drawn(ts:List Th)(m:Nat):Prop where
 len:ts.length=3+m
 ok:∀t∈ts,t.ok=Gf
 dep:∀(j:Nat)t,ts[j]?=Ga t->t.depth<=j+1
 one:∀(j:Nat)t,ts[j]?=Ga t->j<=2->t.size<=1
 two:∀(j:Nat)t,ts[j]?=Ga t->j<=3->t.size<=4
 tri:∀(j:Nat)t,ts[j]?=Ga t->j<=4->t.size<=10
 any:∀(j:Nat)t,ts[j]?=Ga t->t.size<=12*j+1
 sh:∀t∈ts,t.short=Gf
 tab:ts[1]?=Ga (.mk "tab" [])
 cl:∀t∈ts,∀p∈t.parts,p∈ts
def Qmy(K:PySem.W.Frag):Sp:=λvs H Q _=>∃(a:Gc)(ns:List Int),vs=[.ref a]/\Zb K H a (ns.map V.int)/\ns.length<=63/\
 ∀(r:Gc)(us:List V)(ts:List Th)(H':Hp),Qv H H'->H r=Ge->H' r=Ga (.lst us)->Zn H' us ts->Drawn ts ns.length->Q (.ref r) H'
def Qpx:Sp:=λvs H Q _=>∃(n:Int),vs=[.int n]/\∀(x:Gy),Rh x=Gf->Q (.str x) H
def Qxf:Sp:=λvs H Q _=>∃(x y:V)(d:TF),vs=[x,y]/\Dt H x d/\Dt H y d/\d.canLay0=Gf/\Oe d<=1000000/\d.depth<=60/\
 ∀(H':Hp),Qv H H'->Q (.bl Gf) H'
def Qnc(K:PySem.W.Frag):Sp:=λvs H Q _=>∃(a:Gc)(ns:List Int),vs=[.ref a]/\Zb K H a (ns.map V.int)/\ns.length<=63/\∀H',Q (.bl Gf) H'
end Sb
namespace L2
open PySem PySem.Spec PyProof.Rows
inductive KD where
 |int (i:Int)
 |str (x:Gy)
 |tup (xs:List KD)
mutual
def KD.toD:KD->TF
 |.int i=>.int i
 |.str x=>.str x
 |.tup xs=>.tuple (Ug xs)
def Ug:List KD->List TF
 |[]=>[]
 |x::r=>x.toD::Ug r
end
mutual
def KD.depth:KD->Nat
 |.int _=>0
 |.str _=>0
 |.tup xs=>Ib xs+1
def Ib:List KD->Nat
 |[]=>0
 |x::r=>max x.depth (Ib r)
end
mutual
def KD.hash(w:Gs):KD->Int
 |.int i=>hashInt i
 |.str x=>hashStr w x
 |.tup xs=>reduceHash (Builtin.Tuple.tupleHashOf (V1 w xs))
def V1(w:Gs):List KD->List Int
 |[]=>[]
 |x::r=>x.hash w::V1 w r
end
mutual
def KD.draws:KD->Nat
 |.int _=>1
 |.str _=>1
 |.tup xs=>Xv xs+1
def Xv:List KD->Nat
 |[]=>0
 |x::r=>x.draws+Xv r
end
theorem Quu:∀xs:List KD,Ug xs=xs.map KD.toD
 |[]=>by simp[Ug]
 |x::r=>by simp[Ug,Quu r]
theorem Qd5(w:Gs):∀xs:List KD,V1 w xs=xs.map (KD.hash w)
 |[]=>by simp[V1]
 |x::r=>by simp[V1,Qd5 w r]
theorem J0:∀xs ys:List KD,Xv (xs++ys)=Xv xs+Xv ys
 |[],ys=>by simp[Xv]
 |x::r,ys=>by simp only[List.cons_append,Xv,J0 r ys];omega
theorem Qai:∀{xs:List KD}{x:KD},x∈xs->x.depth<=Ib xs
 |y::r,x,h=>by
  simp only[Ib];rcases List.mem_cons.mp h with rfl|h
  ·omega
  ·have:=Qai h;omega
mutual
theorem Qce:∀a b:KD,Tq a.toD b.toD=Gf↔a=b
 |.int i,.int j=>by simp[KD.toD,Tq]
 |.int i,.str y=>by simp[KD.toD,Tq]
 |.int i,.tup ys=>by simp[KD.toD,Tq]
 |.str x,.int j=>by simp[KD.toD,Tq]
 |.str x,.str y=>by simp[KD.toD,Tq]
 |.str x,.tup ys=>by simp[KD.toD,Tq]
 |.tup xs,.int j=>by simp[KD.toD,Tq]
 |.tup xs,.str y=>by simp[KD.toD,Tq]
 |.tup xs,.tup ys=>by simp only[KD.toD,Tq,KD.tup.injEq];exact Ql3 xs ys
theorem Ql3:∀xs ys:List KD,Tp (Ug xs) (Ug ys)=Gf↔xs=ys
 |[],[]=>by simp[Ug,Tp]
 |[],_::_=>by simp[Ug,Tp]
 |_::_,[]=>by simp[Ug,Tp]
 |x::r,y::q=>by simp only[Ug,Tp,GO,List.cons.injEq];rw[Qce x y,Ql3 r q]
end
instance:DecidableEq KD:=λa b=>if h:Tq a.toD b.toD=Gf then .isTrue ((Qce a b).mp h)else .isFalse λe=>h ((Qce a b).mpr e)
theorem Qjz(a b:KD):Tq a.toD b.toD=decide (a=b):=by
 by_cases h:a=b
 ·rw[GQ h];exact(Qce a b).mpr h
 ·rw[Gx h];exact EK.mpr λe=>h ((Qce a b).mp e)
mutual
theorem Ov:∀a:KD,a.toD.depth=a.depth
 |.int _=>by simp[KD.toD,Dj,KD.depth]
 |.str _=>by simp[KD.toD,Dj,KD.depth]
 |.tup xs=>by simp only[KD.toD,Dj,KD.depth,Qe4 xs]
theorem Qe4:∀xs:List KD,Tj (Ug xs)=Ib xs
 |[]=>by simp[Ug,Tj,Ib]
 |x::r=>by simp only[Ug,Tj,Ib,Ov x,Qe4 r]
end
theorem I0{h:Heap}{v:Value}{xs:List TF}{b:List Gc}(r:Sx h v (.tuple xs) b):∃a o vs n,v=.ref a/\h.get? a=Ga o/\o.cls=.type "tuple"/\o.data=.seq vs n/\Eo h vs.toList xs b:=by
 cases r with
 |tuple h1 h2 c d=>exact⟨_,_,_,_,Xb,h1,h2,c,d⟩
mutual
theorem Qfq{h h':Heap}{d:Gc}{o:DL}{es:Array DR}{ep:Nat}(f:h.get? d=Ga o)(hd:o.data=.dict es ep)(g:Heap.SameBut d h h'):∀{v:Value}{x:TF}{k:List Gc},Sx h v x k->x.canLay0=Gf->Sx h' v x k
 |_,_,_,.none,_=>.none
 |_,_,_,.bool b,_=>.bool b
 |_,_,_,.int i t,_=>.int i t
 |_,_,_,.str x t,_=>.str x t
 |_,_,_,.list (a:=a) h1 h2 c j,e=>by simp only[Tg]at e;refine .list ((g.2 a ?_).trans h1) h2 c (Jo f hd g j e);rintro rfl;rw[f]at h1;cases h1;rw[hd]at c;cases c
 |_,_,_,.tuple (a:=a) h1 h2 c j,e=>by simp only[Tg]at e;refine .tuple ((g.2 a ?_).trans h1) h2 c (Jo f hd g j e);rintro rfl;rw[f]at h1;cases h1;rw[hd]at c;cases c
 |_,_,_,.dict _ _ _ _ _,e=>by simp[Tg]at e
theorem Jo{h h':Heap}{d:Gc}{o:DL}{es:Array DR}{ep:Nat}(c:h.get? d=Ga o)(hd:o.data=.dict es ep)(e:Heap.SameBut d h h'):∀{vs:List Value}{xs:List TF}{b:List Gc},Eo h vs xs b->Gr xs=Gf->Eo h' vs xs b
 |_,_,_,.nil,_=>.nil
 |_,_,_,.cons h1 h2,a=>by simp only[Gr,GO]at a;exact .cons (Qfq c hd e h1 a.1) (Jo c hd e h2 a.2)
end
mutual
theorem Qet{h:Heap}:∀(a b:KD){v:Value}{f bs:List Gc},Sx h v a.toD f->Sx h v b.toD bs->a=b
 |.int i,.int j,_,_,_,r,q=>by simp only[KD.toD]at r q;cases r;cases q;rfl
 |.int i,.str y,_,_,_,r,q=>by simp only[KD.toD]at r q;cases r;cases q
 |.int i,.tup ys,_,_,_,r,q=>by simp only[KD.toD]at r q;cases r;cases q
 |.str x,.int j,_,_,_,r,q=>by simp only[KD.toD]at r q;cases r;cases q
 |.str x,.str y,_,_,_,r,q=>by simp only[KD.toD]at r q;cases r;cases q;rfl
 |.str x,.tup ys,_,_,_,r,q=>by simp only[KD.toD]at r q;cases r;cases q
 |.tup xs,.int j,_,_,_,r,q=>by simp only[KD.toD]at r q;cases q;cases r
 |.tup xs,.str y,_,_,_,r,q=>by simp only[KD.toD]at r q;cases q;cases r
 |.tup xs,.tup ys,_,_,_,r,q=>by simp only[KD.toD]at r q;obtain⟨a,o,vs,n,rfl,h1,h2,g,k⟩:=I0 r;obtain⟨p,o',m,t,e,c,s,d,l⟩:=I0 q;cases e;rw[h1]at c;cases c;rw[g]at d;cases d;rw[R9 xs ys k l]
theorem R9{h:Heap}:∀(xs ys:List KD){vs:List Value}{b bs:List Gc},Eo h vs (Ug xs) b->Eo h vs (Ug ys) bs->xs=ys
 |[],[],_,_,_,_,_=>rfl
 |[],y::q,_,_,_,r,t=>by simp only[Ug]at r t;cases r;cases t
 |x::a,[],_,_,_,r,t=>by simp only[Ug]at r t;cases t;cases r
 |x::a,y::q,_,_,_,r,t=>by
  simp only[Ug]at r t;cases r with
  |cons h1 h2=>
   cases t with
   |cons c d=>rw[Qet x y h1 c,R9 a q h2 d]
end
section
variable{prog:Gj}{w:Gs}
mutual
theorem Qew:∀(k:KD){A:Tv}{E:Value->Gi->Prop}{s:Gi}{v:Value}{j:List Gc}{Q:Int->Gi->Prop},A.units+k.depth<Dk->Sx s.heap v k.toD j->Q (k.hash w) {s with toks:=s.toks+k.draws}->
  wpAny (GJ prog w) A (pyHash v) Q E s
 |.int i,A,E,s,v,j,Q,_,r,h=>by simp only[KD.toD]at r;cases r;simp only[KD.hash,KD.draws]at h;exact Lb h
 |.str x,A,E,s,v,j,Q,_,r,h=>by simp only[KD.toD]at r;cases r;simp only[KD.hash,KD.draws]at h;exact Lc h
 |.tup xs,A,E,s,v,j,Q,D,r,h=>by
  simp only[KD.toD]at r;simp only[KD.depth]at D;simp only[KD.hash,KD.draws]at h;obtain⟨a,o,u,n,rfl,z,C,hd,hi⟩:=I0 r;have p:s.TypeIs (.ref a) "tuple":=⟨o,z,C⟩;have m:=λ(k:KD)(y:k∈xs)=>@Qdx xs k y;unfold pyHash;first|unfold pyHashByItsType|skip
  first|refine Gb (wpAny_cRoomFor_or (.inr (by omega)) ?_)|skip
  refine Gb (Dq p F.slot_tuple_hash.lookup ?_);show wpAny _ _ (if(Ga (Value.builtin "tuple.__hash__")==Ga Value.none)=Gf then _ else _) Q E s;rw[Gg (by rw[beq_builtin_none];exact Gw)];refine Gb (Dq p F.slot_tuple_hash.lookup ?_);show wpAny _ _ (callSpecialIfBoundUnlessNone? (.ref a) "__hash__" _>>=_) Q E s;refine Gb (wpAny_callSpecialIfBoundUnlessNone?_slot p F.slot_tuple_hash (Tn F.slot_tuple_hash p F.entry_tuple_hash ?_ (F.args_tuple_hash_1 _)));show wpAny _ _ (Builtin.Tuple.tupleItemsOf (.ref a)>>=_) _ _ s;refine Gb (wpAny_tupleItemsOf z hd ?_);refine Gb ?_;rw[<-D4];refine Lm _
   (λWs(b:Array Int)s'=>∃done left f,xs=done++left/\Eo s.heap Ws (Ug left) f/\b.toList=V1 w done/\s'={s with toks:=s.toks+Xv done})
   _ ?_ ?_ _ _ ⟨[],xs,j,Xb,hi,Xb,Xb⟩
  ·rintro x Ws b s' ⟨done,left,f,rfl,g,hb,rfl⟩;cases left with
   |nil=>simp only[Ug]at g;cases g
   |cons k e=>
    simp only[Ug]at g;cases g with
    |cons h1 t=>
     have y:=Qai (xs:=done++k::e) (x:=k) (by simp);refine Gb (m k (by simp) (A:=A.in1) (s:={s with toks:=s.toks+Xv done}) (by show A.units+1+k.depth<Dk;omega) h1 ?_);have B:s.toks+Xv done+k.draws=s.toks+Xv (done++[k]):=by rw[J0];simp only[Xv];omega
     have fin:∃c d l,done++k::e=c++d/\Eo s.heap Ws (Ug d) l/\(b.push (k.hash w)).toList=V1 w c/\({s with toks:=s.toks+Xv done+k.draws}:Gi)={s with toks:=s.toks+Xv c}:=
      ⟨done++[k],e,_,by simp,t,by simp[hb,Qd5],by rw[B]⟩
     first
      |exact Gd fin
      |exact Gb (Gd (Gd fin))
  ·rintro b s' ⟨done,left,f,rfl,g,hb,rfl⟩;cases left with
   |cons k e=>simp only[Ug]at g;cases g
   |nil=>
    rw[List.append_nil]at h;show wpAny _ _ (retInt (Builtin.Tuple.tupleHashOf b.toList)) _ _ _;rw[hb];refine Lu ?_;show wpAny _ _ (if(decide (-(2:Int)^63<=Builtin.Tuple.tupleHashOf (V1 w done))&&decide (Builtin.Tuple.tupleHashOf (V1 w done)<2^63))=Gf then _ else _) Q E _;unfold reduceHash at h;by_cases q:(decide (-(2:Int)^63<=Builtin.Tuple.tupleHashOf (V1 w done))&&decide (Builtin.Tuple.tupleHashOf (V1 w done)<2^63))=Gf
    ·rw[Gk q];rw[Gk q]at h;exact Gd (by simpa[LN]using h)
    ·rw[Gg q];rw[Gg q]at h;exact Gb (Eg (Gd (by simpa[LN]using h)))
theorem Qdx:∀(xs:List KD)(k:KD),k∈xs->∀{A:Tv}{E:Value->Gi->Prop}{s:Gi}{v:Value}{b:List Gc}{Q:Int->Gi->Prop},A.units+k.depth<Dk->Sx s.heap v k.toD b->Q (k.hash w) {s with toks:=s.toks+k.draws}->
  wpAny (GJ prog w) A (pyHash v) Q E s
 |[],_,h=>by simp at h
 |x::r,k,h=>by
  intro h1 h2 a;by_cases e:k=x
  ·rw[e]at h1 h2 a;exact Qew x h1 h2 a
  ·exact Qdx r k ((List.mem_cons.mp h).resolve_left e) h1 h2 a
end
mutual
theorem Qh6:∀(k:KD)(n:Nat){A:Tv}{E:Value->Gi->Prop}{s:Gi}{v:Value}{d:List Gc}{Q:Bool->Gi->Prop},k.depth<=n->Sx s.heap v k.toD d->Q Gf s->wpAny (GJ prog w) A (eqIsQuiet n v) Q E s
 |.int i,n,A,E,s,v,d,Q,_,r,h=>by simp only[KD.toD]at r;cases r;rw[SX n rfl];exact Gd h
 |.str x,n,A,E,s,v,d,Q,_,r,h=>by simp only[KD.toD]at r;cases r;rw[SX n rfl];exact Gd h
 |.tup xs,0,A,E,s,v,d,Q,l,r,h=>by simp[KD.depth]at l
 |.tup xs,n+1,A,E,s,v,d,Q,l,r,h=>by
  simp only[KD.toD]at r;simp only[KD.depth]at l;obtain⟨a,o,c,m,rfl,y,B,hd,hi⟩:=I0 r;have t:s.TypeIs (.ref a) "tuple":=⟨o,y,B⟩;have f:=λ(k:KD)(u:k∈xs)(n:Nat)=>@Qfe xs k u n;unfold eqIsQuiet;refine Gb (Dq t F.slot_tuple_eq.lookup ?_);show wpAny _ _ (isInstance (.ref a) (.type "tuple")>>=_) _ _ s;refine Gb (D0 t isSubtype_tuple_tuple ?_);simp only[LO,Tw,T6];refine Gb (TY y hd ?_);refine Gb ?_;show wpAny _ _ (forIn c _ _) _ _ s;rw[<-D4];refine Lm _ (λWs r s'=>r.1=Ge/\s'=s/\∃left e,(∀k∈left,k∈xs)/\Eo s.heap Ws (Ug left) e) _ ?_ ?_ _ _ ⟨Xb,Xb,xs,d,λ_ z=>z,hi⟩
  ·rintro v Ws r s' ⟨p,rfl,left,e,b,g⟩;cases left with
   |nil=>simp only[Ug]at g;cases g
   |cons k q=>
    simp only[Ug]at g;cases g with
    |cons h1 j=>have u:=Qai (b k (by simp));refine Gb (f k (b k (by simp)) n (by omega) h1 ?_);simp only[LO,Tw,T6];exact Gd ⟨Xb,Xb,q,_,λz hz=>b z (List.mem_cons_of_mem _ hz),j⟩
  ·rintro⟨C,D⟩ s' ⟨p,rfl,_⟩;simp only at p;subst p;exact Gd h
theorem Qfe:∀(xs:List KD)(k:KD),k∈xs->∀(n:Nat){A:Tv}{E:Value->Gi->Prop}{s:Gi}{v:Value}{b:List Gc}{Q:Bool->Gi->Prop},k.depth<=n->Sx s.heap v k.toD b->Q Gf s->wpAny (GJ prog w) A (eqIsQuiet n v) Q E s
 |[],_,h=>by simp at h
 |x::r,k,h=>by
  intro n _ _ _ _ _ _ h1 h2 a;by_cases e:k=x
  ·rw[e]at h1 h2;exact Qh6 x n h1 h2 a
  ·exact Qfe r k ((List.mem_cons.mp h).resolve_left e) n h1 h2 a
end
def Vd(prog:Gj)(w:Gs):Fl prog w KD where
 is:=λh k a=>(∃c,Sx h (.ref a) k.toD c)/\k.toD.canLay0=Gf/\k.depth<=8
 hash:=KD.hash w
 draws:=KD.draws
 room:=λA=>A.units+10<Dk
 inj:=λ⟨⟨_,h1⟩,_⟩⟨⟨_,h2⟩,_⟩=>Qet _ _ h1 h2
 keeps:=λ⟨⟨c,h1⟩,h2,d⟩e hd f=>⟨⟨c,Qfq e hd f h1 h2⟩,h2,d⟩
 pyHash:=λ{A E s k a Q}g⟨⟨c,h1⟩,_,d⟩h=>Qew k (by omega) h1 h
 eqBool:=λ{A E s x y a b Q}g⟨⟨c,h1⟩,h2,d⟩⟨⟨bs,i⟩,j,l⟩h=>PySem.SeqAt.eqAt_reads x.toD y.toD A s _ _ _ _ h1 i h2 j (by rw[Ov,Ov];omega) prog w E Q (by rw[Qjz];exact h)
 quiet:=λ{A E s k a Q}⟨⟨c,h1⟩,_,d⟩h=>Qh6 k 8 d h1 h
end
end L2
namespace PySem
def Heap.Jv(h:Heap)(d:Gc)(es:Array DR)(ep:Nat):Prop:=∃o,h.get? d=Ga o/\o.ExactDict/\o.data=.dict es ep
section
variable{prog:Gj}{w:Gs}{A:Tv}{E:Value->Gi->Prop}{s:Gi}{d:Gc}{es:Array DR}{ep:Nat}
theorem Heap.Jv.typeIs(x:s.heap.Jv d es ep):s.TypeIs (.ref d) "dict":=let⟨o,ho,hc,_⟩:=x;⟨o,ho,hc.1⟩
theorem Heap.Jv.at{h h':Heap}(x:h.Jv d es ep)(e:∀o,h.get? d=Ga o->h'.get? d=Ga o):h'.Jv d es ep:=let⟨o,ho,r⟩:=x;⟨o,e _ ho,r⟩
theorem Heap.Jv.lt{h:Heap}(x:h.Jv d es ep):d<h.objs.size:=let⟨_,ho,_⟩:=x;Heap.lt_size ho
theorem Qrt{Q:Value->Gi->Prop}(hd:(d==TU)=Gp)(b:s.heap.Jv d es ep)(c:(es.size:Int)<2^63)
  (h:Q (.int es.size (s.toks+1)) {s with toks:=s.toks+1+1}):wpAny (GJ prog w) A (call (.builtin "len") [.ref d]) Q E s:=by
 obtain⟨o,e,f,a⟩:=id b;refine EI kind_len plain_len entry_len (args_len1 _) ?_;unfold Builtin.«len»;refine Gb (m:=oneArg "len" _) (Gd ?_);refine Gb (m:=callSpecial? (.ref d) (De "__len__")) (Tx (name:=De "__len__") b.typeIs F.slot_dict_len
  (Tn F.slot_dict_len b.typeIs F.entry_dict_len ?_ (F.args_dict_len_1 _)))
 show wpAny _ _ (dictSize d>>=_) _ _ s;unfold dictSize;refine Gb (Gb (Df e a (Gd ?_)));show wpAny _ _ (Builtin.Dict.pendingCount d>>=_) _ _ s;refine Gb (wpAny_pendingCount_other hd ?_);refine Lu ?_;rw[SY];show wpAny _ _ _ _ _ {s with toks:=s.toks+1};refine Gb (TR (Gd ?_));refine Gb (EL ?_);show wpAny _ _ (if((es.size:Nat):Int)<0 then _ else _) _ _ _;rw[Gg (by omega)];show wpAny _ _ (if((es.size:Nat):Int)>=2^63 then _ else _) _ _ _;rw[Gg (by omega)];exact Gb (wpAny_mkInt (Gd ⟨_,Xb,h⟩))
theorem Qox{Q:Value->Gi->Prop}(hd:(d==TU)=Gp)(c:s.heap.Jv d es ep)
  (f:Q (.ref s.heap.objs.size) {s with heap:=s.heap.push {cls:=.type "dict_keyiterator",data:=.fields #[.ref d,.int 0 0,.int es.size 0,.int ep 0]}}):
  wpAny (GJ prog w) A (pyIter (.ref d)) Q E s:=by
 obtain⟨o,e,g,a⟩:=id c;have b:=c.typeIs;refine EM b F.slot_dict_iter (Tn F.slot_dict_iter b F.entry_dict_iter ?_ (F.args_dict_iter_1 _));unfold Builtin.«dict.__iter__»;refine Gb ?_;unfold Builtin.Dict.dictSlotNone;refine Gb (Ed b ?_);show wpAny _ _ (pure (Value.ref d)) _ _ s;refine Gd ?_;show wpAny _ _ (Builtin.Dict.showsAll d>>=_) _ _ s;unfold Builtin.Dict.showsAll;rw[Gg (by rw[hd];exact Gw)];refine Gb (Gd ?_);refine Gb (Df e a ?_);refine Gb (DQ e a ?_);refine Gb (To (Gd ⟨_,Xb,"dict_keyiterator",_,⟨_,Heap.get?_push_size _ Xb,Xb⟩,F.slot_dict_keyiterator_next.lookup,?_⟩));simpa[rawInt]using f
theorem Qnh{it:Gc}{i:Nat}{e:DR}{Q:Option Value->Gi->Prop}(a:s.heap.IsKeyIter it d i es.size ep)(r:s.heap.Jv d es ep)(k:es[i]?=Ga e)
  (m:∀h',h'.IsKeyIter it d (i+1) es.size ep->Heap.SameBut it s.heap h'->Q (Ga e.key) {s with heap:=h'}):
  wpAny (GJ prog w) A (pyNext (.ref it)) Q E s:=by
 obtain⟨o,l,n,hd⟩:=id a;obtain⟨od,g,p,f⟩:=id r;unfold pyNext;refine Gb (Ej (Tx (name:=De "__next__") a.typeIs F.slot_dict_keyiterator_next
  (Tn F.slot_dict_keyiterator_next a.typeIs F.entry_dict_keyiterator_next ?_ (F.args_dict_keyiterator_next_1 _))))
 refine Gb (Gd ?_);refine Gb ?_;refine Gb ?_;first|refine Gb (Dl a.typeIs (Gd ?_))|refine Gb (DG a.typeIs (Gd ?_))
 refine Gb (EF l hd ?_);have j:Builtin.Dict_items.ownsTuple "dict_keyiterator"=Gp:=by decide
 simp only[j,Tw,T6];show wpAny _ _ (if(Value.ref d==Value.none)=Gf then _ else _) _ _ s;rw[Gg (show¬((Value.ref d==Value.none)=Gf)from Gw)];refine Gb (Gd ?_);refine Gb (Df g f ?_);rw[Gg (by simp)];refine Gb (Gd ?_);refine Gb (DQ g f ?_);rw[Gg (by simp)];refine Gd ?_;have c:i<es.size:=by
  rcases Tb i es.size with h|h
  ·exact h
  ·rw[T1 h]at k;cases k
 have q:es[i]=e:=by rw[GY c]at k;exact Tc k
 simp only[show¬((i:Int)<0)from by omega,T6,Dc,GY c];refine Gb ?_;first|refine Gb (Dl a.typeIs (Gd ?_))|refine Gb (DG a.typeIs (Gd ?_))
 refine Gb (Se a.typeIs ?_);show wpAny _ _ (setField (.ref it) 1 (rawInt ((i:Int)+1))>>=_) _ _ s;refine Gb (DW l hd (by simp) ?_);have b:(s.heap.update it (Ek (·.setIfInBounds 1 (rawInt ((i:Int)+1))))).IsKeyIter it d (i+1) es.size ep:=
  ⟨_,Heap.get?_update_self _ l (Ee (DA hd _)),(EN ..).trans n,by rw[DA hd];simp[rawInt]⟩
 refine Gb (TR ?_);refine Gb (Se (s:={s with heap:=s.heap.update it (Ek (·.setIfInBounds 1 (rawInt ((i:Int)+1))))}) b.typeIs ?_);show wpAny _ _ (pure es[i].key) _ _ _;rw[q];exact Gd (Gd ⟨_,Xb,Gd (m _ b (Heap.SameBut.update ..))⟩)
theorem Qqx{it:Gc}{i:Nat}{Q:Option Value->Gi->Prop}(n:A.handled=Ge)(c:s.heap.IsKeyIter it d i es.size ep)(p:s.heap.Jv d es ep)(h:es.size<=i)
  (k:∀h',Heap.ExtBut it s.heap h'->Q Ge {s with heap:=h'}):wpAny (GJ prog w) A (pyNext (.ref it)) Q E s:=by
 obtain⟨o,j,q,hd⟩:=id c;obtain⟨od,f,l,e⟩:=id p;unfold pyNext;refine Gb (Ej (Tx (name:=De "__next__") c.typeIs F.slot_dict_keyiterator_next
  (Tn F.slot_dict_keyiterator_next c.typeIs F.entry_dict_keyiterator_next ?_ (F.args_dict_keyiterator_next_1 _))))
 refine Gb (Gd ?_);refine Gb ?_;refine Gb ?_;first|refine Gb (Dl c.typeIs (Gd ?_))|refine Gb (DG c.typeIs (Gd ?_))
 refine Gb (EF j hd ?_);have g:Builtin.Dict_items.ownsTuple "dict_keyiterator"=Gp:=by decide
 simp only[g,Tw,T6];show wpAny _ _ (if(Value.ref d==Value.none)=Gf then _ else _) _ _ s;rw[Gg (show¬((Value.ref d==Value.none)=Gf)from Gw)];refine Gb (Gd ?_);refine Gb (Df f e ?_);rw[Gg (by simp)];refine Gb (Gd ?_);refine Gb (DQ f e ?_);rw[Gg (by simp)];refine Gd ?_;simp only[show¬((i:Int)<0)from by omega,T6,Dc,T1 h];refine Gb ?_;first|refine Gb (Dl c.typeIs (Gd ?_))|refine Gb (DG c.typeIs (Gd ?_))
 show wpAny _ _ (setField (.ref it) 0 .none>>=_) _ _ s;refine Gb (DW j hd (by simp) ?_);show wpAny _ _ (newExc (.type "StopIteration") []>>=_) _ _ _;refine Gb ?_;simp only[newExc,newTuple];refine Gb (To ?_ (by size_fits));refine Gb (m:=firstArgMember _ _) (Lp (a:=Value.none) (by first|rfl|(simp only[firstArgMember];rfl)) ?_);refine To ?_ (by size_fits);simp only[raiseNew];refine Gb (Sy ?_);rw[show A.in1.handled=Ge from n];refine Gb (Gd (Lq ?_));refine Gb (D0 (T:="StopIteration") (b:=Gf) ⟨_,Heap.get?_push_size _ Xb,Xb⟩ Sm ?_);exact Gd (k _ (((Heap.SameBut.update ..).extBut.push _).push _))
theorem Walks.Quo(m:A.handled=Ge)(I d:Gc)(j:d≠I)(es:Array DR)(ep:Nat):
  Walks prog w A I [I,d] [I] es.size (λi v=>∃e,es[i]?=Ga e/\v=e.key) (λi h=>h.IsKeyIter I d i es.size ep/\h.Jv d es ep) where
 sub:=λb hb=>by simp at hb;simp[hb]
 frame:=λ_ _ _ st k=>⟨st.1.at λo e=>k I (by simp) o e,st.2.at λo e=>k d (by simp) o e⟩
 item:=λi s Q E hi st a=>by have l:es[i]?=Ga es[i]:=GY hi;refine Qnh st.1 st.2 l λh' c f=>?_;exact a _ h' s.toks ⟨_,l,Xb⟩ ⟨c,st.2.at λo e=>(f.2 d j).trans e⟩ λb o hb e=>f.extBut b o (λh=>hb (by simp[h])) e
 done:=λs Q E st a=>Qqx m st.1 st.2 (Gm _) λh' g=>a h' s.toks λb o hb e=>g b o (λh=>hb (by simp[h])) e
 self:=λ_ _ _ _ st a=>Sn st.1 a
theorem Qtw(lo:(d==TU)=Gp):PySem.W.KdlSrc prog w "dict" d d es.size (λi v=>∃e,es[i]?=Ga e/\v=e.key) (λh=>h.Jv d es ep) where
 type:=λ_ a=>a.typeIs
 there:=λ_ a=>⟨a.lt,a.lt⟩
 keep:=λ_ _ a f=>a.at λo e=>f d (.inl Xb) o e
 notList:=by decide
 notTuple:=by decide
 hint:=λ_ _ _ _ a b=>PySem.W.kdl_hint_dict a.typeIs b
 iter:=λ_ _ c a=>⟨_,_,(λ_ _ b=>Qox lo a b),Walks.Quo c _ d (GV a.lt) es ep,⟨⟨_,Heap.get?_push_size _ Xb,Xb,Xb⟩,a.at λo e=>Heap.get?_push_of_some _ e⟩⟩
end
end PySem
namespace L2
open PySem PySem.Spec PyProof.Rows
variable{k:KD}
abbrev KE:=KD×Gc×V
variable{kvs:List KE}
def Yf(kvs:List KE)(k:KD):Option V:=(kvs.find? λp=>decide (p.1=k)).map (·.2.2)
def Wr(kvs:List KE)(k:KD)(b:Gc)(v:V):List KE:=if(Yf kvs k).isSome=Gf then kvs.map (λp=>if p.1=k then(p.1,p.2.1,v)else p)else kvs++[(k,b,v)]
abbrev KX:List KE->List (KD×Gc×Value)->Prop:=Paired λp q=>p.1=q.1/\p.2.1=q.2.1/\RelV p.2.2 q.2.2
def DKD(P:Gj)(w:Gs)(a:Gc)(kvs:List KE)(h:Heap):Prop:=
 kvs.length<=Gh/\(a==TU)=Gp/\∃xs,KX kvs xs/\∃o es ep,h.get? a=Ga o/\o.ExactDict/\o.data=.dict es ep/\es.toList=xs.map (entryOfKey (Vd P w))/\(xs.map (·.1)).Nodup
def Vh(P:Gj)(w:Gs)(a:Gc)(kvs:List KE):HO:=.ext (DKD P w a kvs)
def W4(H:Hp)(kvs:List KE):Prop:=∀p∈kvs,Dt H (.ref p.2.1) p.1.toD/\p.1.toD.canLay0=Gf/\p.1.depth<=8
def Qad(H:Hp)(b:Gc)(k:KD):Prop:=Dt H (.ref b) k.toD/\k.toD.canLay0=Gf/\k.depth<=8
theorem Qk1{P:Gj}{w:Gs}{H:Hp}{h:Heap}{a:Gc}(x:DKD P w a kvs h):Z0 P w H h a (Vh P w a kvs):=by
 refine⟨x,?_,?_⟩
 ·obtain⟨_,_,_,_,o,_,_,e,_⟩:=x;exact⟨o,e⟩
 ·rintro h1 h2 ⟨b,c,xs,r,o,es,ep,e,q⟩ k;exact⟨b,c,xs,r,o,es,ep,k o e,q⟩
theorem KX.val{xs:List (KD×Gc×Value)}(r:KX kvs xs)(k:KD):Jk (Yf kvs k) ((atKey xs k).map (·.2)):=by
 induction r with
 |nil=>exact Ti
 |@cons p q ps d h t f=>
  obtain⟨h1,_,h2⟩:=h;by_cases e:p.1=k
  ·have a:q.1=k:=h1.symm.trans e;have b:atKey (q::d) k=Ga q.2:=by simp[atKey,List.find?_cons,a]
   have c:Yf (p::ps) k=Ga p.2.2:=by simp[Yf,List.find?_cons,e]
   rw[c,b];exact h2
  ·have a:¬q.1=k:=λz=>e (h1.trans z);have b:atKey (q::d) k=atKey d k:=by simp[atKey,List.find?_cons,a]
   have c:Yf (p::ps) k=Yf ps k:=by simp[Yf,List.find?_cons,e]
   rw[c,b];exact f
theorem KX.put{xs:List (KD×Gc×Value)}(r:KX kvs xs)(k:KD)(b:Gc){v:V}{u:Value}(a:RelV v u):KX (Wr kvs k b v) (storedH xs k b u):=by
 have e:(Yf kvs k).isSome=(atKey xs k).isSome:=by rw[(r.val k).Wf,DC]
 unfold Wr storedH;rw[e];by_cases q:(atKey xs k).isSome=Gf
 ·rw[Gk q,Gk q];clear q e;induction r with
  |nil=>exact .nil
  |@cons p q ps f h t d=>
   rw[List.map_cons,List.map_cons];refine .cons ?_ d;obtain⟨h1,h2,c⟩:=h;unfold putAt;by_cases e:p.1=k
   ·rw[Gk e,Gk (h1.symm.trans e)];exact⟨h1,h2,a⟩
   ·rw[Gg e,Gg (λz=>e (h1.trans z))];exact⟨h1,h2,c⟩
 ·rw[Gg q,Gg q];exact Paired.snoc r ⟨Xb,Xb,a⟩
theorem Oc(kvs:List KE)(k:KD)(b:Gc)(v:V):(Wr kvs k b v).length<=kvs.length+1:=by
 unfold Wr;split
 ·rw[List.length_map];omega
 ·rw[List.length_append,List.length_singleton];omega
theorem Qix(b:Gc)(v:V)(h:Yf kvs k=Ge):Wr kvs k b v=kvs++[(k,b,v)]:=by unfold Wr;rw[h];exact Gg (by decide)
theorem Qhd{u:V}(b:Gc)(v:V)(h:Yf kvs k=Ga u):Wr kvs k b v=kvs.map (λp=>if p.1=k then(p.1,p.2.1,v)else p):=by unfold Wr;rw[h];exact Gk rfl
theorem Yk{p:KE}{r:List KE}(e:p.1=k):Yf (p::r) k=Ga p.2.2:=by simp[Yf,List.find?_cons,e]
theorem Yj{p:KE}{r:List KE}(e:¬p.1=k):Yf (p::r) k=Yf r k:=by simp[Yf,List.find?_cons,e]
theorem Qa0(k j:KD)(b:Gc)(y:V):∀kvs:List KE,Yf kvs k=Ge->Yf (kvs++[(k,b,y)]) j=if j=k then Ga y else Yf kvs j
 |[],_=>by
  by_cases e:k=j
  ·rw[Gk e.symm];exact Yk (p:=(k,b,y)) e
  ·rw[Gg (λz=>e z.symm)];exact Yj (p:=(k,b,y)) e
 |p::r,a=>by
  rw[List.cons_append];have c:¬p.1=k:=λz=>by rw[Yk z]at a;cases a
  rw[Yj c]at a;have d:=Qa0 k j b y r a;by_cases e:p.1=j
  ·rw[Yk e,Yk e,Gg (λz=>c (e.trans z))]
  ·rw[Yj e,Yj e,d]
theorem Qh2(k j:KD)(y:V):∀kvs:List KE,Yf (kvs.map λp=>if p.1=k then(p.1,p.2.1,y)else p) j=(Yf kvs j).map λx=>if j=k then y else x
 |[]=>rfl
 |p::r=>by
  have a:=Qh2 k j y r;rw[List.map_cons];by_cases h:p.1=k
  ·rw[Gk h];by_cases e:p.1=j
   ·rw[Yk (p:=(p.1,p.2.1,y)) e,Yk e,TQ,Gk (e.symm.trans h)]
   ·rw[Yj (p:=(p.1,p.2.1,y)) e,Yj e,a]
  ·rw[Gg h];by_cases e:p.1=j
   ·rw[Yk (p:=p) e,Yk e,TQ,Gg (λz=>h (e.trans z))]
   ·rw[Yj (p:=p) e,Yj e,a]
theorem Us(kvs:List KE)(k j:KD)(b:Gc)(y:V):Yf (Wr kvs k b y) j=if j=k then Ga y else Yf kvs j:=by
 cases q:Yf kvs k with
 |none=>rw[Qix b y q,Qa0 k j b y kvs q]
 |some u=>
  rw[Qhd b y q,Qh2];by_cases e:j=k
  ·rw[Gk e,e,q,TQ,Gk rfl]
  ·rw[Gg e];cases Yf kvs j with
   |none=>rfl
   |some x=>rw[TQ,Gg e]
theorem Qn8(kvs:List KE)(k:KD)(b:Gc)(v:V):∀p∈Wr kvs k b v,(p.1=k/\p.2.1=b)\/∃u,(p.1,p.2.1,u)∈kvs:=λp a=>by
 unfold Wr at a;split at a
 ·obtain⟨q,c,e⟩:=List.mem_map.mp a;right;split at e
  ·subst e;exact⟨q.2.2,c⟩
  ·subst e;exact⟨q.2.2,c⟩
 ·rcases List.mem_append.mp a with h|h
  ·exact .inr ⟨p.2.2,h⟩
  ·rw[List.mem_singleton]at h;subst h;exact .inl ⟨Xb,Xb⟩
theorem W4.put{H:Hp}{b:Gc}{v:V}(h:W4 H kvs)(d:Qad H b k):W4 H (Wr kvs k b v):=λp e=>by
 rcases Qn8 kvs k b v p e with⟨a,c⟩|⟨u,f⟩
 ·rw[a,c];exact d
 ·exact h (p.1,p.2.1,u) f
section
variable{X:Cx}{pins:List (Gc×DL)}{σ:St}{H:Hp}{s:Gi}{a b:Gc}{kvs:List KE}{k:KD}
theorem Qad.is(I:Inv X pins σ H s)(h:Qad H b k):(Vd X.prog X.w).is s.heap k b:=by obtain⟨h1,h2,c⟩:=h;obtain⟨a,r⟩:=h1.reads I.Zu (u:=.ref b) rfl;exact⟨⟨a,r⟩,h2,c⟩
theorem Qap(I:Inv X pins σ H s)(e:H a=Ga (Vh X.prog X.w a kvs)):DKD X.prog X.w a kvs s.heap:=(I.Zu a _ e).1
theorem Qg9(I:Inv X pins σ H s)(e:H a=Ga (Vh X.prog X.w a kvs))(i:W4 H kvs):kvs.length<=Gh/\(a==TU)=Gp/\∃xs,KX kvs xs/\s.heap.DictOfH (Vd X.prog X.w) a xs:=by
 obtain⟨z,y,xs,r,o,es,ep,h1,h2,d,f,g⟩:=Qap I e;refine⟨z,y,xs,r,o,es,ep,h1,h2,d,f,λx b=>?_,g⟩;have all:∀{l:List KE}{m:List (KD×Gc×Value)},KX l m->(∀p∈l,p∈kvs)->∀x∈m,(Vd X.prog X.w).is s.heap x.1 x.2.1:=by
  intro l m q;induction q with
  |nil=>intro _ x b;exact nomatch b
  |@cons p q ps n c t k=>
   intro sub x b;rcases List.mem_cons.mp b with e|b
   ·subst e;rw[<-c.1,<-c.2.1];exact Qad.is I (i p (sub p (by simp)))
   ·exact k (λp j=>sub p (List.mem_cons_of_mem _ j)) x b
 exact all r (λ_ h=>h) x b
end
def Qlb(P:Gj)(w:Gs):TE:=λ_ H Q=>∀p,H p=Ge->Q (.ref p) (upd H p (Vh P w p []))
structure DH(P:Gj)(w:Gs)(H:Hp)(d:Gc)(kvs:List KE):Prop where
 at_:H d=Ga (Vh P w d kvs)
 keys:W4 H kvs
section
variable{X:Cx}
theorem Im{pos:E1}:PE X (.Dict [] [] pos) (Qlb X.prog X.w):=λpins s σ H Q I h=>
 EX ⟨.ref s.heap.objs.size,_,I.laid (a:=s.heap.objs.size) (o:=Vh X.prog X.w s.heap.objs.size []) (t':=s.toks) (λ_ _ q=>Heap.get?_push_of_some _ q) (Gm _)
  (Qk1 ⟨Gv _,Dg.mpr (Gn (GV I.big)),[],.nil,_,#[],0,Heap.get?_push_size _ Xb,⟨Xb,Xb,Xb⟩,Xb,Xb,List.nodup_nil⟩),Xb,h _ (I.Zu.fresh (Gm _))⟩
def Qpo(P:Gj)(w:Gs)(f:Bool->Bool):R2:=λx y H Q=>∃b d k kvs,x=.ref b/\y=.ref d/\DH P w H d kvs/\Qad H b k/\Q (.bl (f (Yf kvs k).isSome)) H
theorem Q1m(i:X.A.units+64<Dk):O8 X (T5 .In) (Qpo X.prog X.w λb=>b):=by intro pins s σ H x y v u Q I f g h;obtain⟨b,d,k,kvs,rfl,rfl,D,c,q⟩:=h;cases(show v=Value.ref b from f);cases(show u=Value.ref d from g);obtain⟨z,hd,xs,rel,a⟩:=Qg9 I D.at_ D.keys;refine LM (knd:=Vd X.prog X.w) (show X.A.units+1+10<Dk by omega) (c.is I) hd a ?_;have e:=(rel.val k).Wf;rw[DC]at e;rw[<-e];exact⟨.bl _,H,I.tok _,Xb,q⟩
theorem Qdz(i:X.A.units+64<Dk):O8 X (T5 .NotIn) (Qpo X.prog X.w λb=>!b):=by intro pins s σ H x y v u Q I f g h;obtain⟨b,d,k,kvs,rfl,rfl,D,c,q⟩:=h;cases(show v=Value.ref b from f);cases(show u=Value.ref d from g);obtain⟨z,hd,xs,rel,a⟩:=Qg9 I D.at_ D.keys;refine Lj (knd:=Vd X.prog X.w) (show X.A.units+1+10<Dk by omega) (c.is I) hd a ?_;have e:=(rel.val k).Wf;rw[DC]at e;rw[<-e];exact⟨.bl _,H,I.tok _,Xb,q⟩
def Qba(P:Gj)(w:Gs):R2:=λx y H Q=>∃d b k kvs v,x=.ref d/\y=.ref b/\DH P w H d kvs/\Qad H b k/\Yf kvs k=Ga v/\Q v H
theorem Vr(m:X.A.units+64<Dk):IxR X (Qba X.prog X.w):=by
 intro value a pins s σ H x y v u Q I j l h g;obtain⟨d,b,k,kvs,r,rfl,rfl,D,f,i,q⟩:=h;cases(show v=Value.ref d from j);cases(show u=Value.ref b from l);obtain⟨z,hd,xs,rel,c⟩:=Qg9 I D.at_ D.keys;have rv:=rel.val k;rw[i]at rv;cases e:atKey xs k with
 |none=>rw[e]at rv;exact(show False from rv).elim
 |some p=>rw[e]at rv;refine Ea (x:=p.2) c.typeIs PySem.F.slot_dict_getitem.lookup ?_ g;exact SH (knd:=Vd X.prog X.w) (show X.A.units+1+10<Dk by omega) (f.is I) c e ⟨Xb,r,H,I.tok _,rv,q⟩
def Qf7(P:Gj)(w:Gs):Quh:=λo i v H Q=>∃d b k kvs,o=.ref d/\i=.ref b/\DH P w H d kvs/\Qad H b k/\kvs.length<Gh/\Q (upd H d (Vh P w d (Wr kvs k b v)))
theorem Qao(x:X.A.units+64<Dk):Q0c X (Qf7 X.prog X.w):=by
 intro pins s σ H o i v ov p u Q I t r rv h;obtain⟨d,b,k,kvs,rfl,rfl,D,l,hz,q⟩:=h;cases(show ov=Value.ref d from t);cases(show p=Value.ref b from r);obtain⟨z,hd,xs,rel,e⟩:=Qg9 I D.at_ D.keys;have m:(Wr kvs k b v).length<=Gh:=by have:=Oc kvs k b v;omega
 refine SI (knd:=Vd X.prog X.w) (hsz:=by rw[<-Paired.length rel];exact z) (show X.A.units+1+10<Dk by omega) (l.is I) e λh' a n=>?_;obtain⟨ob,es,ep,c,h2,f,g,_,j⟩:=a;refine⟨_,Jb (ob:=Vh X.prog X.w d (Wr kvs k b v)) I (by rw[D.at_];exact Ti) n ⟨ob,c⟩ (Qk1 ⟨m,hd,_,rel.put k b rv,ob,es,ep,c,h2,f,g,j⟩),q⟩
theorem Qli:Vn X (.builtin "len") (λxs H Q=>∃d kvs,xs=[.ref d]/\DH X.prog X.w H d kvs/\Q (.int kvs.length) H):=by
 intro pins s σ H xs us Q I r h;obtain⟨d,kvs,rfl,D,q⟩:=h;obtain⟨u,rfl,c⟩:=vals1 r;cases(show u=Value.ref d from c);obtain⟨z,hd,ys,rel,o,es,ep,h1,h2,a,b,_⟩:=Qap I D.at_;have g:=Rl;have e:es.size=kvs.length:=by rw[Paired.length rel,<-List.length_map (f:=entryOfKey (Vd X.prog X.w)),<-b,Ts]
 refine Qrt hd ⟨o,h1,h2,a⟩ (by omega) ?_;rw[e];exact⟨.int kvs.length,H,I.tok _,⟨_,Xb⟩,q⟩
theorem Qi6(y:X.calm=Gf):Vn X (.type "list") (λxs H Q=>∃d kvs,xs=[.ref d]/\DH X.prog X.w H d kvs/\∀l,H l=Ge->Q (.ref l) (upd H l (.lst (kvs.map λp=>.ref p.2.1)))):=by
 intro pins s σ H xs us Q I r h;obtain⟨d,kvs,rfl,D,q⟩:=h;obtain⟨u,rfl,E⟩:=vals1 r;cases(show u=Value.ref d from E);obtain⟨z,hd,ys,rel,o,es,ep,h1,h2,x,k,nodup⟩:=Qap I D.at_;have e:es.size=kvs.length:=by rw[Paired.length rel,<-List.length_map (f:=entryOfKey (Vd X.prog X.w)),<-k,Ts]
 refine PySem.W.kdl_call (Qtw (es:=es) (ep:=ep) hd) (I.ok.hd y) ⟨o,h1,h2,x⟩ (by rw[e];exact z) λh' tk a v kp hS b=>?_;have g:(kvs.map λp=>V.ref p.2.1).length<=Gh:=by rw[List.length_map];exact z
 have m:Zs (kvs.map λp=>V.ref p.2.1) a.toList:=by
  have j:es.toList.map (·.key)=ys.map λq=>Value.ref q.2.1:=by rw[k,List.map_map];rfl
  have c:a.toList=es.toList.map (·.key):=by
   refine List.ext_getElem? λi=>?_;by_cases hi:i<a.size
   ·obtain⟨en,A,m⟩:=b.2 i a[i] (GY hi);rw[TV,GY hi,List.getElem?_map,TV,A,m];rfl
   ·have hsz:=b.1;rw[List.getElem?_eq_none (by simp;omega),List.getElem?_eq_none (by simp;omega)]
  rw[c,j];clear q z k j c g e b D nodup;induction rel with
  |nil=>exact .nil
  |@cons p q ps F B t C=>rw[List.map_cons,List.map_cons];refine .cons ?_ C;show Value.ref q.2.1=Value.ref p.2.1;rw[B.2.1]
 have n:Inv X pins σ (upd H s.heap.objs.size (.lst (kvs.map λp=>.ref p.2.1))) {s with heap:=h',toks:=tk}:=
  I.laid (t':=tk) kp (Gm _) (show Z0 X.prog X.w _ h' _ (.lst _)from⟨g,a.toList,v,m,by rw[DD];exact hS⟩)
 exact⟨.ref s.heap.objs.size,_,n,Xb,q _ (I.Zu.fresh (Gm _))⟩
end
end L2
namespace Sb
open PySem
variable{S:List Th}{L:Th->Int}{x y t:Th}{b d:Gc}{H H':Hp}{P:Gj}{w:Gs}
abbrev Tl:=List (Bool×Th×Th)
variable{tl:Tl}
mutual
inductive Cg(tl:Tl):Th->Th->Prop
 |refl (t:Th):Cg tl t t
 |symm {s t:Th}:Cg tl s t->Cg tl t s
 |trans {r s t:Th}:Cg tl r s->Cg tl s t->Cg tl r t
 |told {s t:Th}:(Gf,s,t)∈tl->Cg tl s t
 |cong {w:Gy} {ps qs:List Th}:CgL tl ps qs->Cg tl (.mk w ps) (.mk w qs)
inductive CgL(tl:Tl):List Th->List Th->Prop
 |nil:CgL tl [] []
 |cons {p q:Th} {ps qs:List Th}:Cg tl p q->CgL tl ps qs->CgL tl (p::ps) (q::qs)
end
theorem CgL.of{tl:Tl}:∀{ps c:List Th},ps.length=c.length->(∀(i:Nat)p q,ps[i]?=Ga p->c[i]?=Ga q->Cg tl p q)->CgL tl ps c
 |[],[],_,_=>.nil
 |[],_::_,h,_=>by simp at h
 |_::_,[],h,_=>by simp at h
 |p::ps,q::c,h,f=>.cons (f 0 p q rfl rfl) (CgL.of (by simpa using h) λi a b d hb=>f (i+1) a b (by simpa using d) (by simpa using hb))
mutual
theorem Cg.mono{tl e:Tl}(h:∀a b,(Gf,a,b)∈tl->(Gf,a,b)∈e):∀{s t:Th},Cg tl s t->Cg e s t
 |_,_,.refl t=>.refl t
 |_,_,.symm c=>.symm (Cg.mono h c)
 |_,_,.trans c d=>.trans (Cg.mono h c) (Cg.mono h d)
 |_,_,.told m=>.told (h _ _ m)
 |_,_,.cong c=>.cong (CgL.mono h c)
theorem CgL.mono{tl e:Tl}(h:∀a b,(Gf,a,b)∈tl->(Gf,a,b)∈e):∀{s t:List Th},CgL tl s t->CgL e s t
 |_,_,.nil=>.nil
 |_,_,.cons c d=>.cons (Cg.mono h c) (CgL.mono h d)
end
inductive Dv where
 |cls (i:Int)
 |node (w:Gy) (ds:List Dv)
open Classical in
noncomputable def act(S:List Th)(L:Th->Int)(w:Gy)(ds:List Dv):Dv:=
 if h:∃a,Th.mk w a∈S/\a.map (λq=>Dv.cls (L q))=ds then .cls (L (.mk w (Eh h)))else .node w ds
mutual
noncomputable def ev(S:List Th)(L:Th->Int):Th->Dv
 |.mk w ps=>act S L w (evL S L ps)
noncomputable def evL(S:List Th)(L:Th->Int):List Th->List Dv
 |[]=>[]
 |p::r=>ev S L p::evL S L r
end
structure Ri(tl:Tl)(S:List Th)(L:Th->Int):Prop where
 closed:∀w ps,Th.mk w ps∈S->∀p∈ps,p∈S
 told:∀a b,(Gf,a,b)∈tl->a∈S/\b∈S/\L a=L b
 cong:∀w ps qs,Th.mk w ps∈S->Th.mk w qs∈S->ps.map L=qs.map L->L (.mk w ps)=L (.mk w qs)
theorem Qmw{L:Th->Int}:∀{ps a:List Th},ps.map (λq=>Dv.cls (L q))=a.map (λq=>Dv.cls (L q))->ps.map L=a.map L
 |[],[],_=>rfl
 |[],_::_,h=>by simp at h
 |_::_,[],h=>by simp at h
 |p::ps,q::a,h=>by simp only[List.map_cons,List.cons.injEq,Dv.cls.injEq]at h⊢;exact⟨h.1,Qmw h.2⟩
mutual
theorem Qq9{tl:Tl}{S:List Th}{L:Th->Int}(T:Ri tl S L):∀t:Th,t∈S->ev S L t=.cls (L t)
 |.mk w ps,h=>by
  have e:evL S L ps=ps.map (λq=>Dv.cls (L q)):=Qwe T ps (T.closed w ps h);have ex:∃a,Th.mk w a∈S/\a.map (λq=>Dv.cls (L q))=ps.map (λq=>Dv.cls (L q)):=⟨ps,h,Xb⟩;have b:ev S L (.mk w ps)=act S L w (evL S L ps):=by simp only[ev]
  rw[b,e];unfold act;rw[dif_pos ex];have c:=Sf ex;rw[T.cong w _ ps c.1 h (Qmw c.2)]
theorem Qwe{tl:Tl}{S:List Th}{L:Th->Int}(T:Ri tl S L):∀ps:List Th,(∀p∈ps,p∈S)->evL S L ps=ps.map (λq=>Dv.cls (L q))
 |[],_=>by simp[evL]
 |p::r,h=>by simp only[evL,List.map_cons];rw[Qq9 T p (h p List.mem_cons_self),Qwe T r λq a=>h q (List.mem_cons_of_mem _ a)]
end
mutual
theorem Qic{tl:Tl}{S:List Th}{L:Th->Int}(T:Ri tl S L):∀{s t:Th},Cg tl s t->ev S L s=ev S L t
 |_,_,.refl _=>rfl
 |_,_,.symm c=>(Qic T c).symm
 |_,_,.trans c d=>(Qic T c).trans (Qic T d)
 |_,_,.told m=>by obtain⟨h1,h2,a⟩:=T.told _ _ m;rw[Qq9 T _ h1,Qq9 T _ h2,a]
 |_,_,.cong c=>by simp only[ev,Qp5 T c]
theorem Qp5{tl:Tl}{S:List Th}{L:Th->Int}(T:Ri tl S L):∀{s t:List Th},CgL tl s t->evL S L s=evL S L t
 |_,_,.nil=>rfl
 |_,_,.cons c d=>by simp only[evL,Qic T c,Qp5 T d]
end
theorem Ri.complete(T:Ri tl S L)(a:x∈S)(b:y∈S)(c:Cg tl x y):L x=L y:=by have e:=Qic T c;rw[Qq9 T x a,Qq9 T y b]at e;injection e
structure Tells(tl:Tl)(S:List Th)(L:Th->Int):Prop where
 tab:Ri tl S L
 sound:∀x∈S,∀y∈S,L x=L y->Cg tl x y
theorem Tells.iff(T:Tells tl S L)(a:x∈S)(b:y∈S):L x=L y↔Cg tl x y:=⟨T.sound x a y b,T.tab.complete a b⟩
def mrg(L:Th->Int)(o n:Int):Th->Int:=λt=>if L t=o then n else L t
theorem Qq6{o n:Int}(h:L x=L y):mrg L o n x=mrg L o n y:=by unfold mrg;rw[h]
theorem Qo7{a b:Th}(g:a∈S)(hb:b∈S)(s:∀x∈S,∀y∈S,L x=L y->Cg tl x y)(c:Cg tl a b):∀x∈S,∀y∈S,mrg L (L a) (L b) x=mrg L (L a) (L b) y->Cg tl x y:=by
 intro x d y f e;unfold mrg at e;by_cases h1:L x=L a
 ·by_cases h2:L y=L a
  ·exact s x d y f (h1.trans h2.symm)
  ·rw[Gk h1,Gg h2]at e;exact .trans (s x d a g h1) (.trans c (s b hb y f e))
 ·by_cases h2:L y=L a
  ·rw[Gg h1,Gk h2]at e;exact .trans (s x d b hb e) (.trans (.symm c) (.symm (s y f a g h2)))
  ·rw[Gg h1,Gg h2]at e;exact s x d y f e
open PySem PySem.Spec PyProof.Rows L2
mutual
def kd:Th->KD
 |.mk w ps=>.tup (.str w::kds ps)
def kds:List Th->List KD
 |[]=>[]
 |p::r=>kd p::kds r
end
mutual
theorem Rz:∀t:Th,(kd t).toD=t.toD
 |.mk w ps=>by simp only[kd,KD.toD,Ug,Th.toD,Qmv ps]
theorem Qmv:∀ts:List Th,Ug (kds ts)=X0 ts
 |[]=>by simp[kds,Ug,X0]
 |t::r=>by simp only[kds,Ug,X0,Rz t,Qmv r]
end
theorem Qif(t:Th):(kd t).depth=t.depth:=by rw[<-Ov,Rz,Iw]
theorem Oy{s:Th}(h:kd s=kd t):s=t:=by
 have e:s.toD=t.toD:=by rw[<-Rz,<-Rz,h]
 exact(U6 s t).mp (by rw[e];exact(U6 t t).mpr Xb)
mutual
theorem Qh9{H:Hp}:∀(t:Th){v:V},Dt H v t.toD->Z5 H v t
 |.mk w ps,v,h=>by
  simp only[Th.toD]at h;cases h with
  |tup e r=>
   cases r with
   |cons h1 h2=>cases h1;exact .mk e (Qc6 ps h2)
theorem Qc6{H:Hp}:∀(ts:List Th){vs:List V},Ob H vs (X0 ts)->Zn H vs ts
 |[],vs,h=>by simp only[X0]at h;cases h;exact .nil
 |t::r,vs,h=>by
  simp only[X0]at h;cases h with
  |cons h1 h2=>exact .cons (Qh9 t h1) (Qc6 r h2)
end
theorem Ro(h:Z5 H (.ref b) t)(ok:t.ok=Gf)(dp:t.depth<=8):Qad H b (kd t):=⟨by rw[Rz];exact h.dt,by rw[Rz];exact Qgo t ok,by rw[Qif];exact dp⟩
mutual
theorem Qmc{H H':Hp}(e:Qp H H'):∀(k:KD){v:V},Dt H v k.toD->Dt H' v k.toD
 |.int i,v,h=>by simp only[KD.toD]at h⊢;cases h;exact .int i
 |.str x,v,h=>by simp only[KD.toD]at h⊢;cases h;exact .str x
 |.tup xs,v,h=>by
  simp only[KD.toD]at h⊢;cases h with
  |tup h1 h2=>exact .tup (e _ _ h1) (Qhp e xs h2)
theorem Qhp{H H':Hp}(e:Qp H H'):∀(a:List KD){vs:List V},Ob H vs (Ug a)->Ob H' vs (Ug a)
 |[],vs,h=>by simp only[Ug]at h⊢;cases h;exact .nil
 |k::r,vs,h=>by
  simp only[Ug]at h⊢;cases h with
  |cons h1 h2=>exact .cons (Qmc e k h1) (Qhp e r h2)
end
theorem Q6(e:Qp H H'){kvs:List KE}(h:W4 H kvs):W4 H' kvs:=λp a=>⟨Qmc e p.1 (h p a).1,(h p a).2⟩
structure Num(P:Gj)(w:Gs)(H:Hp)(d:Gc)(S:List Th)(L:Th->Int):Prop where
 ex:∃kvs:List KE,H d=Ga (Vh P w d kvs)/\W4 H kvs/\kvs.map (·.1)=S.map kd/\∀t∈S,Yf kvs (kd t)=Ga (.int (L t))
 ok:∀t∈S,t.ok=Gf/\t.depth<=8
theorem Num.at(N:Num P w H d S L):∃o,H d=Ga (.ext o):=by obtain⟨kvs,h,_⟩:=N.ex;exact⟨_,h⟩
theorem Num.keep(N:Num P w H d S L)(hd:∀o,H d=Ga o->H' d=Ga o)(e:Qp H H'):Num P w H' d S L:=by obtain⟨kvs,h1,h2,a,b⟩:=N.ex;exact⟨⟨kvs,hd _ h1,Q6 e h2,a,b⟩,N.ok⟩
theorem Num.same(N:Num P w H d S L)(e:Qv H H'):Num P w H' d S L:=N.keep (λo h=>e d o h) (Qp.of e)
theorem Num.get{Q:VK}(N:Num P w H d S L)(a:t∈S)(h:Z5 H (.ref b) t)(q:Q (.int (L t)) H):Qba P w (.ref d) (.ref b) H Q:=by obtain⟨kvs,h1,h2,e,c⟩:=N.ex;exact⟨d,b,kd t,kvs,_,Xb,Xb,⟨h1,h2⟩,Ro h (N.ok t a).1 (N.ok t a).2,c t a,q⟩
theorem Num.put{P:Gj}{w:Gs}{H:Hp}{d b:Gc}{S:List Th}{L:Th->Int}{t:Th}{i:Int}{Q:Hp->Prop}(N:Num P w H d S L)(n:S.length<=1000000)(a:t∈S)(h:Z5 H (.ref b) t)
  (q:∀H',(∀c o,H c=Ga o->c≠d->H' c=Ga o)->Num P w H' d S (λu=>if u=t then i else L u)->Q H'):Qf7 P w (.ref d) (.ref b) (.int i) H Q:=by
 obtain⟨kvs,h1,h2,f,g⟩:=N.ex;have lk:kvs.length=S.length:=by have:=congrArg List.length f;simpa using this
 have j:=Ro h (N.ok t a).1 (N.ok t a).2;refine⟨d,b,kd t,kvs,Xb,Xb,⟨h1,h2⟩,j,by rw[Gu];omega,q _ (λc o e k=>by rw[Qg k];exact e) ?_⟩;have m:Qp H (upd H d (Vh P w d (Wr kvs (kd t) b (.int i)))):=Zh λxs e=>by rw[h1]at e;cases e
 refine⟨⟨_,Qb,Q6 m (h2.put j),?_,λu l=>?_⟩,N.ok⟩
 ·rw[Qhd b _ (g t a),List.map_map];rw[<-f];refine List.map_congr_left λp _=>?_;show(if p.1=kd t then(p.1,p.2.1,V.int i)else p).1=p.1;split<;>rfl
 ·rw[Us];by_cases e:u=t
  ·subst e;rw[Gk Xb,Gk rfl]
  ·rw[Gg (λz=>e (Oy z)),Gg e];exact g u l
theorem Num.add{i:Int}{Q:Hp->Prop}(N:Num P w H d S L)(B:S.length<=1000000)(y:¬t∈S)(ok:t.ok=Gf)(dp:t.depth<=8)(h:Z5 H (.ref b) t)
  (q:∀H',(∀c o,H c=Ga o->c≠d->H' c=Ga o)->Num P w H' d (S++[t]) (λu=>if u=t then i else L u)->Q H'):Qf7 P w (.ref d) (.ref b) (.int i) H Q:=by
 obtain⟨kvs,h1,h2,g,n⟩:=N.ex;have lk:kvs.length=S.length:=by have:=congrArg List.length g;simpa using this
 have l:=Ro h ok dp;have f:Yf kvs (kd t)=Ge:=by
  cases e:Yf kvs (kd t)with
  |none=>rfl
  |some v=>exfalso;unfold Yf at e;obtain⟨p,k,_⟩:=Eb.mp e;have r:=List.find?_some k;have s:p.1=kd t:=TC r;have j:kd t∈kvs.map (·.1):=List.mem_map.mpr ⟨p,List.mem_of_find?_eq_some k,s⟩;rw[g]at j;obtain⟨u,a,m⟩:=List.mem_map.mp j;exact y (Oy m▸a)
 refine⟨d,b,kd t,kvs,Xb,Xb,⟨h1,h2⟩,l,by rw[Gu];omega,q _ (λc o e x=>by rw[Qg x];exact e) ?_⟩;have A:Qp H (upd H d (Vh P w d (Wr kvs (kd t) b (.int i)))):=Zh λxs e=>by rw[h1]at e;cases e
 refine⟨⟨_,Qb,Q6 A (h2.put l),?_,λu a=>?_⟩,λu a=>?_⟩
 ·rw[Qix b _ f,List.map_append,g,List.map_append];rfl
 ·rw[Us];by_cases e:u=t
  ·subst e;rw[Gk Xb,Gk rfl]
  ·rw[Gg (λz=>e (Oy z)),Gg e];rcases List.mem_append.mp a with a|a
   ·exact n u a
   ·rw[List.mem_singleton]at a;exact absurd a e
 ·rcases List.mem_append.mp a with a|a
  ·exact N.ok u a
  ·rw[List.mem_singleton]at a;subst a;exact⟨ok,dp⟩
theorem Num.Qzz{Q:VK}(N:Num P w H d S L)(ok:t.ok=Gf)(dp:t.depth<=8)(h:Z5 H (.ref b) t)(q:Q (.bl (!decide (t∈S))) H):Qpo P w (λb=>!b) (.ref b) (.ref d) H Q:=by
 obtain⟨kvs,h1,h2,i,j⟩:=N.ex;refine⟨b,d,kd t,kvs,Xb,Xb,⟨h1,h2⟩,Ro h ok dp,?_⟩;have e:(Yf kvs (kd t)).isSome=decide (t∈S):=by
  by_cases a:t∈S
  ·rw[GQ a,j t a];rfl
  ·rw[Gx a];cases e:Yf kvs (kd t)with
   |none=>rfl
   |some v=>exfalso;unfold Yf at e;obtain⟨p,f,_⟩:=Eb.mp e;have k:=List.find?_some f;have l:p.1=kd t:=TC k;have c:kd t∈kvs.map (·.1):=List.mem_map.mpr ⟨p,List.mem_of_find?_eq_some f,l⟩;rw[i]at c;obtain⟨u,m,g⟩:=List.mem_map.mp c;exact a (Oy g▸m)
 rw[e];exact q
theorem Num.names(N:Num P w H d S L):∃kvs,DH P w H d kvs/\kvs.length=S.length/\Zn H (kvs.map λp=>V.ref p.2.1) S:=by
 obtain⟨kvs,h1,h2,a,f⟩:=N.ex;have lk:kvs.length=S.length:=by have:=congrArg List.length a;simpa using this
 refine⟨kvs,⟨h1,h2⟩,lk,?_⟩;have all:∀(l:List KE)(S:List Th),(∀p∈l,p∈kvs)->l.map (·.1)=S.map kd->Zn H (l.map λp=>V.ref p.2.1) S:=by
  intro l;induction l with
  |nil=>intro S _ e;cases S with
   |nil=>exact .nil
   |cons t r=>simp at e
  |cons p l c=>intro S sub e;cases S with
   |nil=>simp at e
   |cons t r=>simp only[List.map_cons,List.cons.injEq]at e;refine .cons (Qh9 t ?_) (c r (λq b=>sub q (List.mem_cons_of_mem _ b)) e.2);have:=(h2 p (sub p List.mem_cons_self)).1;rw[e.1,Rz]at this;exact this
 exact all kvs S (λ_ h=>h) a
def tw(b:Bool):Gy:=if b then"same"else"unlike"
def Vg(H:Hp):List V->Tl->Prop:=Paired λx p=>∃a v u,x=.ref a/\H a=Ga (.tup [.str (tw p.1),v,u])/\Z5 H v p.2.1/\Z5 H u p.2.2
theorem Vg.Qk{H H':Hp}(e:Qp H H'){xs:List V}{tl:Tl}(h:Vg H xs tl):Vg H' xs tl:=L2.Paired.Yb h λx p⟨a,v,u,h1,h2,b,c⟩=>⟨a,v,u,h1,e _ _ h2,b.Qk e,c.Qk e⟩
def Qaq(H:Hp):List V->List (Th×Th)->Prop:=Paired λx p=>∃a v u,x=.ref a/\H a=Ga (.tup [v,u])/\Z5 H v p.1/\Z5 H u p.2
theorem Qaq.Qk{H H':Hp}(e:Qp H H'){xs:List V}{l:List (Th×Th)}(h:Qaq H xs l):Qaq H' xs l:=L2.Paired.Yb h λx p⟨a,v,u,h1,h2,b,c⟩=>⟨a,v,u,h1,e _ _ h2,b.Qk e,c.Qk e⟩
theorem Qw{α β:Type}{F:α->β->Prop}:∀{xs:List α}{ys:List β}{i:Nat}{x:α},Paired F xs ys->xs[i]?=Ga x->∃y,ys[i]?=Ga y/\F x y
 |_,_,_,_,.nil,e=>by simp at e
 |_,_,0,_,.cons h _,e=>by simp at e;subst e;exact⟨_,Xb,h⟩
 |_,_,i+1,_,.cons _ t,e=>by obtain⟨y,h1,h2⟩:=Qw (i:=i) t (by simpa using e);exact⟨y,by simpa using h1,h2⟩
theorem Yh{α β:Type}{F:α->β->Prop}:∀{a b:List α}{c d:List β},Paired F a c->Paired F b d->Paired F (a++b) (c++d)
 |_,_,_,_,.nil,t=>t
 |_,_,_,_,.cons h r,t=>.cons h (Yh r t)
def Rj(tl:Tl):List (Th×Th):=(tl.filter (·.1)).map (·.2)
theorem Qez{a b:Th}:(a,b)∈Rj tl↔(Gf,a,b)∈tl:=by
 unfold Rj;rw[List.mem_map];constructor
 ·rintro⟨⟨c,x⟩,h,e⟩;rw[List.mem_filter]at h;obtain⟨h1,h2⟩:=h;have:c=Gf:=h2;subst this;cases e;exact h1
 ·intro h;exact⟨(Gf,a,b),List.mem_filter.mpr ⟨h,Xb⟩,Xb⟩
def Qab(P:Gj)(w:Gs):Sp:=λvs H Q _=>∃(a b:Gc)(us c:List V)(tl:Tl)(ts:List Th),vs=[.ref a,.ref b]/\H a=Ga (.lst us)/\Vg H us tl/\H b=Ga (.lst c)/\Zn H c ts/\
 (∀t∈ts,t.ok=Gf/\t.depth<=8)/\(∀p∈tl,(p.2.1.ok=Gf/\p.2.1.depth<=8)/\p.2.2.ok=Gf/\p.2.2.depth<=8)/\Qr ts+Qr (tl.map (·.2.1))+Qr (tl.map (·.2.2))<=3000/\
 ∀(d:Gc)(S:List Th)(L:Th->Int)(H':Hp),Qv H H'->H d=Ge->Num P w H' d S L->Tells tl S L->(∀t∈ts,t∈S)->(∀p∈tl,p.2.1∈S/\p.2.2∈S)->Q (.ref d) H'
end Sb
namespace L2
open PySem PySem.Spec PyProof.Rows
variable{d:Gc}{H:Hp}
theorem Qia{K:PySem.W.Frag}{a p:Gc}{xs:List V}{g:TG}{tt:TT}{te:TE}{Q:Hp->Prop}{h:St}{H0:Hp}(u:xs.length<=Gh)(Pv:Nat->List V->St->Hp->Prop)(r:Pv 0 [] h (upd H0 p (.lst [])))
  (s:∀i ys σ H,i<=xs.length->Pv i ys σ H->Zb K H a xs)
  (t:∀i x ys σ H,xs[i]?=Ga x->Pv i ys σ H->H p=Ga (.lst ys)->g x σ H λd H2=>tt d H2 λb j=>if b=Gf then te d j λv n=>n p=Ga (.lst ys)/\Pv (i+1) (ys++[v]) d (upd n p (.lst (ys++[v])))else j p=Ga (.lst ys)/\Pv (i+1) ys d j)
  (hd:∀ys σ H,Pv xs.length ys σ H->H p=Ga (.lst ys)->Q H):Qc0 p (Itl K a) g tt te Q h (upd H0 p (.lst [])):=by
 refine⟨λi m σ H=>m=xs.length - i/\i<=xs.length/\∃ys,ys.length<=i/\Pv i ys σ H/\H p=Ga (.lst ys),⟨xs.length,by simp,Gv _,[],Gm _,r,Qb⟩,?_⟩;rintro i m σ H ⟨rfl,hi,ys,w,pv,o⟩;have q:=s i ys σ H hi pv;by_cases f:i<xs.length
 ·refine .inr ⟨⟨xs,xs[i],q,by simp[f]⟩,λv c H'=>H' p=Ga (.lst ys)/\Pv (i+1) (ys++[v]) c (upd H' p (.lst (ys++[v]))),λc H'=>H' p=Ga (.lst ys)/\Pv (i+1) ys c H',
   λv c H'⟨k,l⟩=>⟨ys,k,by omega,xs.length - (i+1),by omega,Xb,f,ys++[v],by simp[w],l,Qb⟩,λc H'⟨k,l⟩=>⟨xs.length - (i+1),by omega,Xb,f,ys,by omega,l,k⟩,λx H' y=>?_⟩
  obtain⟨e,y⟩:=y;subst e;exact t i x ys σ _ (y xs q) pv o
 ·have e:i=xs.length:=by omega
  subst e;exact .inl ⟨⟨xs,q,Gm _⟩,hd ys σ H pv o⟩
def Tr(t:TS)(pre a:St->Hp->Prop):Prop:=∀D σ H,pre σ H->(∀b H',a b H'->D.nx b H')->t D σ H
def U3(d:Gc)(H H':Hp):Prop:=∀c o,H c=Ga o->c≠d->H' c=Ga o
theorem U3.refl:U3 d H H:=λ_ _ e _=>e
theorem U3.trans{H1 H2:Hp}(a:U3 d H H1)(b:U3 d H1 H2):U3 d H H2:=λc o e h=>b c o (a c o e h) h
theorem U3.of{H1:Hp}(e:Qv H H1):U3 d H H1:=λc o h _=>e c o h
end L2
namespace Sb
open PySem PySem.Spec PyProof.Rows L2
variable{H:Hp}{tl tl':Tl}{x y:Th}{φ ψ:Gy->Gy}
theorem _root_.L2.U3.Qk{d:Gc}{H':Hp}{o:HO}(b:U3 d H H')(h:H d=Ga o)(a:∀xs,o≠.tup xs):Qp H H':=λc xs e=>b c _ e λz=>by subst z;rw[h]at e;exact a xs (Tc e)
theorem Qfs{α:Type}{p q:α->Bool}:∀{l:List α},(∀x∈l,p x=Gf->q x=Gf)->l.countP p<=l.countP q
 |[],_=>by simp
 |x::l,h=>by
  have b:=Qfs (l:=l) λy a=>h y (List.mem_cons_of_mem _ a);have h1:=h x List.mem_cons_self;rw[List.countP_cons,List.countP_cons];cases e1:p x with
  |true=>rw[h1 e1];simp;exact b
  |false=>simp;omega
theorem Qfj{α:Type}{p q:α->Bool}:∀{l:List α},(∀x∈l,p x=Gf->q x=Gf)->(∃x∈l,q x=Gf/\p x=Gp)->l.countP p<l.countP q
 |[],_,⟨x,e,_⟩=>nomatch e
 |x::l,h,⟨y,a,b,c⟩=>by
  have d:∀y∈l,p y=Gf->q y=Gf:=λy a=>h y (List.mem_cons_of_mem _ a);have le:=Qfs d;rw[List.countP_cons,List.countP_cons];rcases List.mem_cons.mp a with z|z
  ·subst z;rw[b,c];simp;omega
  ·have f:=Qfj d ⟨y,z,b,c⟩;have h1:=h x List.mem_cons_self;cases e3:p x with
   |true=>rw[h1 e3];simp;exact f
   |false=>simp;omega
def dis(S:List Th)(L:Th->Int):Nat:=(S.flatMap λx=>S.map λy=>(x,y)).countP λp=>decide (L p.1≠L p.2)
theorem Qw7{S:List Th}{L a:Th->Int}(h:∀x∈S,∀y∈S,L x=L y->a x=a y)(h2:∃x∈S,∃y∈S,L x≠L y/\a x=a y):dis S a<dis S L:=by
 obtain⟨x,c,y,d,f,g⟩:=h2;refine Qfj (λp b e=>?_) ⟨(x,y),?_,GQ f,by simp[g]⟩
 ·rw[List.mem_flatMap]at b;obtain⟨x,c,b⟩:=b;obtain⟨y,d,rfl⟩:=List.mem_map.mp b;exact GQ λz=>(TC e) (h x c y d z)
 ·rw[List.mem_flatMap];exact⟨x,c,List.mem_map.mpr ⟨y,d,Xb⟩⟩
theorem Qcv{H:Hp}:∀l:List Int,Ob H (l.map V.int) (l.map DX)
 |[]=>.nil
 |i::r=>.cons (.int i) (Qcv r)
theorem Qcn:∀l:List Int,Gr (l.map DX)=Gf
 |[]=>by simp[Gr]
 |i::r=>by simp[Gr,Tg,Qcn r]
theorem Qda:∀l:List Int,Tj (l.map DX)<=1
 |[]=>by simp[Tj]
 |i::r=>by have:=Qda r;simp only[List.map_cons,Tj,Dj];omega
theorem Qhw:∀l m:List Int,Tp (l.map DX) (m.map DX)=decide (l=m)
 |[],[]=>by simp[Tp]
 |[],_::_=>by simp[Tp]
 |_::_,[]=>by simp[Tp]
 |i::l,j::m=>by
  simp only[List.map_cons,Tp,Tq,Qhw l m];by_cases h:i=j
  ·subst h;simp
  ·simp[h]
theorem Qer{P:Gj}{w:Gs}{K:PySem.W.Frag}{r p d:Gc}{us:List V}{ps S:List Th}{L:Th->Int}{Q:Hp->Prop}(o:H r=Ga (.tup us))(g:Zn H us ps)(f:∀t∈ps,t∈S)(N:Num P w H d S L)(h:H p=Ge)(k:us.length<=3000)
  (q:∀H',Qv H H'->H' p=Ga (.lst ((ps.map L).map V.int))->Q H'):Qc0 p (Itt K r) (Vj 0) Qpn (tOp (Qba P w) (Vp 1) (Vp 0)) Q [Ge,Ga (.ref d)] (upd H p (.lst [])):=by
 refine Uq (K:=K) (a:=r) (xs:=us) (small (by omega)) (λi ys σ H1=>(∃n,σ=[n,Ga (.ref d)])/\ys=((ps.take i).map L).map V.int/\H1=upd H p (.lst ys)) ⟨⟨_,Xb⟩,by simp,Xb⟩ (λi ys σ H1 _⟨_,_,e⟩=>Z4.of (by rw[e];exact Qf h _ _ _ o)) ?_ ?_
 ·rintro i x ys σ H1 hi j ⟨⟨n,rfl⟩,rfl,rfl⟩ c;obtain⟨t,l,m⟩:=g.get hi;obtain⟨b,_,_,_,rfl,_,_,_⟩:=m.inv;have s1:=Qf h (.lst (((ps.take i).map L).map V.int));refine⟨_,Xb,_,Xb,(N.same s1).get (f t (List.mem_of_getElem? l)) (m.same s1) ⟨c,⟨_,Xb⟩,?_,?_⟩⟩
  ·rw[List.take_add_one,l];simp
  ·rw[Vk]
 ·rintro ys σ H1 j ⟨_,rfl,rfl⟩ c;rw[g.length,List.take_length]at c⊢;exact q _ (Qf h _) c
inductive Dd where
 |tell (b:Bool) (x y:Th)
 |ask (x y:Th)
 |back (i:Int)
variable{d:Dd}
def Dd.fits(ts:List Th):Dd->Prop
 |.tell _ x y=>x∈ts/\y∈ts
 |.ask x y=>x∈ts/\y∈ts
 |.back _=>True
def Qee(H:Hp)(x:V):Dd->Prop
 |.tell b t u=>∃a c d,x=.ref a/\H a=Ga (.tup [.str (tw b),c,d])/\Z5 H c t/\Z5 H d u
 |.ask t u=>∃a c d,x=.ref a/\H a=Ga (.tup [.str "ask",c,d])/\Z5 H c t/\Z5 H d u
 |.back i=>∃a,x=.ref a/\H a=Ga (.tup [.str "back",.int i])
theorem Qee.Qk{H H':Hp}(e:Qp H H'){x:V}:∀{d:Dd},Qee H x d->Qee H' x d
 |.tell _ _ _,⟨a,f,g,h1,h2,b,c⟩=>⟨a,f,g,h1,e _ _ h2,b.Qk e,c.Qk e⟩
 |.ask _ _,⟨a,f,g,h1,h2,b,c⟩=>⟨a,f,g,h1,e _ _ h2,b.Qk e,c.Qk e⟩
 |.back _,⟨a,h1,h2⟩=>⟨a,h1,e _ _ h2⟩
def Uy(H:Hp):List V->List Dd->Prop:=Paired λx d=>Qee H x d
theorem Uy.Qk{H H':Hp}(e:Qp H H'){xs:List V}{ds:List Dd}(h:Uy H xs ds):Uy H' xs ds:=L2.Paired.Yb h λ_ _ h=>h.Qk e
theorem Uy.same{H':Hp}(e:Qv H H'){xs:List V}{ds:List Dd}(h:Uy H xs ds):Uy H' xs ds:=h.Qk (Qp.of e)
def Ql4(K:PySem.W.Frag):Sp:=λvs H Q _=>∃(a b:Gc)(ns:List Int)(us:List V)(ts:List Th),vs=[.ref a,.ref b]/\Zb K H a (ns.map V.int)/\ns.length<=63/\H b=Ga (.lst us)/\Zn H us ts/\0<ts.length/\ts.length<=1000/\
 ∀(r:Gc)(es:List V)(dl:List Dd)(H':Hp),Qv H H'->H r=Ge->H' r=Ga (.lst es)->Uy H' es dl->dl.length=ns.length->(∀d∈dl,d.fits ts)->Q (.ref r) H'
def Qww:Sp:=λvs H Q _=>∃n:Int,vs=[.int n]/\∀(m:Int)(H':Hp),Qv H H'->Q (.int m) H'
def Qk6(tl:Tl)(x y:Th)(k:Gy):Prop:=(k="equal"/\Cg tl x y)\/(k="unlike"/\¬Cg tl x y/\∃a b,(Gp,a,b)∈tl/\Cg (tl++[(Gf,x,y)]) a b)\/(k="open"/\¬Cg tl x y/\∀a b,(Gp,a,b)∈tl->¬Cg (tl++[(Gf,x,y)]) a b)
def Yy(tl:Tl):Prop:=∃a b,(Gp,a,b)∈tl/\Cg tl a b
def Qqm:Sp:=λvs H Q _=>∃(a:Gc)(us:List V)(tl:Tl)(b c:V)(x y:Th),vs=[.ref a,b,c]/\H a=Ga (.lst us)/\Vg H us tl/\Z5 H b x/\Z5 H c y/\(x.ok=Gf/\x.depth<=8)/\(y.ok=Gf/\y.depth<=8)/\
 (∀p∈tl,(p.2.1.ok=Gf/\p.2.1.depth<=8)/\p.2.2.ok=Gf/\p.2.2.depth<=8)/\Qr (tl.map (·.2.1))+Qr (tl.map (·.2.2))+x.size+y.size<=3000/\∀(k:Gy)(H':Hp),Qv H H'->Qk6 tl x y k->Q (.str k) H'
def Qhb:Sp:=λvs H Q _=>∃(a e:Gc)(us:List V)(tl:Tl)(c d:V)(b:Bool)(x y:Th),vs=[.ref a,.ref e]/\H a=Ga (.lst us)/\Vg H us tl/\H e=Ga (.tup [.str (tw b),c,d])/\Z5 H c x/\Z5 H d y/\(x.ok=Gf/\x.depth<=8)/\(y.ok=Gf/\y.depth<=8)/\
 (∀p∈tl,(p.2.1.ok=Gf/\p.2.1.depth<=8)/\p.2.2.ok=Gf/\p.2.2.depth<=8)/\Qr (tl.map (·.2.1))+Qr (tl.map (·.2.2))+x.size+y.size<=3000/\∀(r:Bool)(H':Hp),Qv H H'->(r=Gf↔Yy (tl++[(b,x,y)]))->Q (.bl r) H'
open Classical in
noncomputable def kindOf(tl:Tl)(x y:Th):Gy:=if Cg tl x y then"equal"else if∃a b,(Gp,a,b)∈tl/\Cg (tl++[(Gf,x,y)]) a b then"unlike"else"open"
theorem Qk6.eq{k:Gy}(h:Qk6 tl x y k):k=kindOf tl x y:=by
 unfold kindOf;rcases h with⟨e,c⟩|⟨e,c,d⟩|⟨e,c,d⟩
 ·rw[Gk c,e]
 ·rw[Gg c,Gk d,e]
 ·rw[Gg c,Gg (λ⟨a,b,h1,h2⟩=>d a b h1 h2),e]
open Classical in
noncomputable def Ve(tl:Tl):Dd->Tl×V
 |.ask x y=>(tl,.str (kindOf tl x y))
 |.back i=>if 0<=i/\i<=(tl.length:Int)then(tl.take i.toNat,.int ((tl.length:Int) - i))else(tl,.str "no moment")
 |.tell b x y=>if Yy (tl++[(b,x,y)])then(tl,.str "clash")else(tl++[(b,x,y)],.int ((tl.length:Int)+1))
noncomputable def after(tl:Tl):List Dd->Tl
 |[]=>tl
 |d::ds=>after (Ve tl d).1 ds
noncomputable def Qiv(tl:Tl):List Dd->List V
 |[]=>[]
 |d::ds=>(Ve tl d).2::Qiv (Ve tl d).1 ds
theorem Ol(tl:Tl):∀(ds es:List Dd),after tl (ds++es)=after (after tl ds) es
 |[],es=>rfl
 |d::ds,es=>Ol (Ve tl d).1 ds es
theorem Qdr{ds:List Dd}{k:Nat}(h:ds[k]?=Ga d):after tl (ds.take (k+1))=(Ve (after tl (ds.take k)) d).1:=by rw[List.take_add_one,h,Ol];rfl
def Th.good(t:Th):Prop:=t.ok=Gf/\t.depth<=8/\t.size<=100
def Dd.good:Dd->Prop
 |.tell _ x y=>x.good/\y.good
 |.ask x y=>x.good/\y.good
 |.back _=>True
def Tlg(tl:Tl):Prop:=∀p∈tl,p.2.1.good/\p.2.2.good
theorem Qsj(h:Tlg tl)(g:d.good):Tlg (Ve tl d).1:=by
 cases d with
 |ask x y=>exact h
 |back i=>
  simp only[Ve];split
  ·exactλp a=>h p (List.mem_of_mem_take a)
  ·exact h
 |tell b x y=>
  simp only[Ve];split
  ·exact h
  ·intro p a;rcases List.mem_append.mp a with z|z
   ·exact h p z
   ·rw[List.mem_singleton]at z;subst z;exact g
theorem Qt1:(Ve tl d).1.length<=tl.length+1:=by
 cases d with
 |ask x y=>exact D9 _
 |back i=>
  simp only[Ve];split
  ·rw[List.length_take];omega
  ·exact D9 _
 |tell b x y=>
  simp only[Ve];split
  ·exact D9 _
  ·rw[List.length_append,List.length_singleton];omega
theorem Rn:∀{ds:List Dd}{tl:Tl},Tlg tl->(∀d∈ds,d.good)->Tlg (after tl ds)
 |[],_,h,_=>h
 |d::ds,tl,h,g=>by have:=Rn (ds:=ds) (tl:=(Ve tl d).1) (Qsj h (g d List.mem_cons_self)) λe a=>g e (List.mem_cons_of_mem _ a);simp only[after];exact this
theorem Iy:∀{ds:List Dd}{tl:Tl},(after tl ds).length<=tl.length+ds.length
 |[],tl=>Gm _
 |d::ds,tl=>by have h1:=Iy (ds:=ds) (tl:=(Ve tl d).1);have h2:=Qt1 (tl:=tl) (d:=d);simp only[after,List.length_cons];omega
theorem Qie(h:Tlg tl):Qr (tl.map (·.2.1))<=tl.length*100/\Qr (tl.map (·.2.2))<=tl.length*100:=by
 have h1:=Io (tl.map (·.2.1)) 100 λt b=>by obtain⟨p,a,rfl⟩:=List.mem_map.mp b;exact(h p a).1.2.2
 have h2:=Io (tl.map (·.2.2)) 100 λt b=>by obtain⟨p,a,rfl⟩:=List.mem_map.mp b;exact(h p a).2.2.2
 rw[List.length_map]at h1 h2;exact⟨h1,h2⟩
def Qyg(H:Hp)(v:V)(h:V):Prop:=v=h\/∃a xs,v=.ref a/\H a=Ga (.tup (h::xs))
structure Qqw(U:List Th):Prop where
 cl:Vo U
 good:∀t∈U,t.good
 len:U.length<=60
theorem O1{ts:List Th}(h:∀t∈ts,∀p∈t.parts,p∈ts):Vo ts:=by
 have key:∀n:Nat,∀t∈ts,t.depth<=n->∀s∈t.inside,s∈ts:=by
  intro n;induction n with
  |zero=>intro t _ hd;have:=Qag t;omega
  |succ n d=>
   intro t b hd s a;cases t with
   |mk u ps=>
    simp only[Th.inside,List.mem_append,List.mem_singleton]at a;rcases a with a|rfl
    ·rw[Xq,List.mem_flatMap]at a;obtain⟨p,c,a⟩:=a;have:=Wy c;simp only[Th.depth]at hd;exact d p (h _ b p c) (by omega) s a
    ·exact b
 exactλt b=>key _ t b (Gm _)
theorem Qzh{A c B d:Prop}[Decidable A][Decidable c][Decidable B][Decidable d]{x y z:Gy}(h1:A=c)(h2:B=d):(if A then x else if B then y else z)=(if c then x else if d then y else z):=by
 subst h1 h2;by_cases a:A
 ·rw[Gk a,Gk a]
 ·by_cases b:B
  ·rw[Gg a,Gg a,Gk b,Gk b]
  ·rw[Gg a,Gg a,Gg b,Gg b]
mutual
def Th.Vm(φ:Gy->Gy):Th->Th
 |.mk w ps=>.mk (φ w) (V3 φ ps)
def V3(φ:Gy->Gy):List Th->List Th
 |[]=>[]
 |p::r=>p.Vm φ::V3 φ r
end
def Ui(φ:Gy->Gy)(p:Bool×Th×Th):Bool×Th×Th:=(p.1,p.2.1.Vm φ,p.2.2.Vm φ)
mutual
theorem Cg.Vm{tl:Tl}(φ:Gy->Gy):∀{s t:Th},Cg tl s t->Cg (tl.map (Ui φ)) (s.Vm φ) (t.Vm φ)
 |_,_,.refl t=>.refl _
 |_,_,.symm c=>.symm (Cg.Vm φ c)
 |_,_,.trans c d=>.trans (Cg.Vm φ c) (Cg.Vm φ d)
 |_,_,.told m=>.told (List.mem_map.mpr ⟨_,m,Xb⟩)
 |_,_,.cong c=>by simp only[Th.Vm];exact .cong (CgL.Vm φ c)
theorem CgL.Vm{tl:Tl}(φ:Gy->Gy):∀{s t:List Th},CgL tl s t->CgL (tl.map (Ui φ)) (V3 φ s) (V3 φ t)
 |_,_,.nil=>by simp only[V3];exact .nil
 |_,_,.cons c d=>by simp only[V3];exact .cons (Cg.Vm φ c) (CgL.Vm φ d)
end
mutual
theorem Ox{φ ψ:Gy->Gy}(h:∀w,ψ (φ w)=w):∀t:Th,(t.Vm φ).Vm ψ=t
 |.mk w ps=>by simp only[Th.Vm,h,Qfn h ps]
theorem Qfn{φ ψ:Gy->Gy}(h:∀w,ψ (φ w)=w):∀ts:List Th,V3 ψ (V3 φ ts)=ts
 |[]=>by simp only[V3]
 |t::r=>by simp only[V3,Ox h t,Qfn h r]
end
theorem Qo9(h:∀w,ψ (φ w)=w)(tl:Tl):(tl.map (Ui φ)).map (Ui ψ)=tl:=by
 rw[List.map_map];have:(Ui ψ∘Ui φ)=id:=funext λ⟨b,x,y⟩=>by simp only[Sz,Ui,Ox h,id]
 rw[this,List.map_id]
theorem Qd7(h:∀w,ψ (φ w)=w):Cg (tl.map (Ui φ)) (x.Vm φ) (y.Vm φ)↔Cg tl x y:=by
 constructor
 ·intro c;have:=Cg.Vm ψ c;rw[Qo9 h,Ox h,Ox h]at this;exact this
 ·exact Cg.Vm φ
theorem Qke(h:∀w,ψ (φ w)=w):Yy (tl.map (Ui φ))↔Yy tl:=by
 constructor
 ·rintro⟨a,b,m,c⟩;obtain⟨⟨d,x,y⟩,f,e⟩:=List.mem_map.mp m;simp only[Ui,TH]at e;obtain⟨rfl,rfl,rfl⟩:=e;exact⟨x,y,f,(Qd7 h).mp c⟩
 ·rintro⟨a,b,m,c⟩;exact⟨_,_,List.mem_map.mpr ⟨_,m,Xb⟩,(Qd7 h).mpr c⟩
theorem Qjo(h:∀w,ψ (φ w)=w):kindOf (tl.map (Ui φ)) (x.Vm φ) (y.Vm φ)=kindOf tl x y:=by
 unfold kindOf;have f:Cg (tl.map (Ui φ)) (x.Vm φ) (y.Vm φ)=Cg tl x y:=propext (Qd7 h);have g:(∃a b,(Gp,a,b)∈tl.map (Ui φ)/\Cg (tl.map (Ui φ)++[(Gf,x.Vm φ,y.Vm φ)]) a b)=(∃a b,(Gp,a,b)∈tl/\Cg (tl++[(Gf,x,y)]) a b):=by
  have i:tl.map (Ui φ)++[(Gf,x.Vm φ,y.Vm φ)]=(tl++[(Gf,x,y)]).map (Ui φ):=by rw[List.map_append];rfl
  rw[i];refine propext ⟨?_,?_⟩
  ·rintro⟨a,b,m,c⟩;obtain⟨⟨d,u,v⟩,j,e⟩:=List.mem_map.mp m;simp only[Ui,TH]at e;obtain⟨rfl,rfl,rfl⟩:=e;exact⟨u,v,j,(Qd7 h).mp c⟩
  ·rintro⟨a,b,m,c⟩;exact⟨_,_,List.mem_map.mpr ⟨_,m,Xb⟩,(Qd7 h).mpr c⟩
 exact@Qzh _ _ _ _ (TM _) (TM _) (TM _) (TM _) _ _ _ f g
def Sub(tl a:Tl):Prop:=∀b x y,(b,x,y)∈tl->(b,x,y)∈a\/(b,y,x)∈a
mutual
theorem Cg.sub{tl a:Tl}(h:Sub tl a):∀{s t:Th},Cg tl s t->Cg a s t
 |_,_,.refl t=>.refl t
 |_,_,.symm c=>.symm (Cg.sub h c)
 |_,_,.trans c d=>.trans (Cg.sub h c) (Cg.sub h d)
 |_,_,.told m=>by
  rcases h _ _ _ m with z|z
  ·exact .told z
  ·exact .symm (.told z)
 |_,_,.cong c=>.cong (CgL.sub h c)
theorem CgL.sub{tl a:Tl}(h:Sub tl a):∀{s t:List Th},CgL tl s t->CgL a s t
 |_,_,.nil=>.nil
 |_,_,.cons c d=>.cons (Cg.sub h c) (CgL.sub h d)
end
theorem Sub.app(h:Sub tl tl'){p q:Bool×Th×Th}(a:q=p\/q=(p.1,p.2.2,p.2.1)):Sub (tl++[p]) (tl'++[q]):=by
 intro b x y m;rcases List.mem_append.mp m with m|m
 ·rcases h b x y m with z|z
  ·exact .inl (List.mem_append_left _ z)
  ·exact .inr (List.mem_append_left _ z)
 ·rw[List.mem_singleton]at m;subst m;rcases a with rfl|rfl
  ·exact .inl (List.mem_append_right _ List.mem_cons_self)
  ·exact .inr (List.mem_append_right _ List.mem_cons_self)
theorem Jm(h:Sub tl tl')(b:Yy tl):Yy tl':=by
 obtain⟨x,y,m,c⟩:=b;rcases h _ _ _ m with z|z
 ·exact⟨x,y,z,c.sub h⟩
 ·exact⟨y,x,z,.symm (c.sub h)⟩
theorem Qkd(h:Sub tl tl')(h':Sub tl' tl){u v:Th}(e:(u,v)=(x,y)\/(u,v)=(y,x)):kindOf tl x y=kindOf tl' u v:=by
 unfold kindOf;have k:Cg tl x y=Cg tl' u v:=propext ⟨λc=>by
   rcases e with e|e
   ·cases e;exact c.sub h
   ·cases e;exact .symm (c.sub h),λc=>by
   rcases e with e|e
   ·cases e;exact c.sub h'
   ·cases e;exact .symm (c.sub h')⟩
 have i:Sub (tl++[(Gf,x,y)]) (tl'++[(Gf,u,v)]):=h.app (by rcases e with e|e<;>cases e<;>simp);have j:Sub (tl'++[(Gf,u,v)]) (tl++[(Gf,x,y)]):=h'.app (by rcases e with e|e<;>cases e<;>simp);have d:∀{f g:Tl}{p q:Bool×Th×Th},Sub f g->Sub (f++[p]) (g++[q])->(∃a b,(Gp,a,b)∈f/\Cg (f++[p]) a b)->∃a b,(Gp,a,b)∈g/\Cg (g++[q]) a b:=by
  rintro f g p q s1 s2 ⟨a,b,m,c⟩;rcases s1 _ _ _ m with z|z
  ·exact⟨a,b,z,c.sub s2⟩
  ·exact⟨b,a,z,.symm (c.sub s2)⟩
 have l:(∃a b,(Gp,a,b)∈tl/\Cg (tl++[(Gf,x,y)]) a b)=(∃a b,(Gp,a,b)∈tl'/\Cg (tl'++[(Gf,u,v)]) a b):=propext ⟨d h i,d h' j⟩;exact@Qzh _ _ _ _ (TM _) (TM _) (TM _) (TM _) _ _ _ k l
theorem Qh1(n:Nat):Sub (tl.take n) tl:=λ_ _ _ m=>.inl (List.mem_of_mem_take m)
theorem Qdq:¬Yy []:=λ⟨_,_,m,_⟩=>nomatch m
theorem Qjy(h:¬Yy tl):¬Yy (Ve tl d).1:=by
 cases d with
 |ask x y=>exact h
 |back i=>
  simp only[Ve];split
  ·exactλb=>h (Jm (Qh1 _) b)
  ·exact h
 |tell b x y=>
  simp only[Ve];split
  ·exact h
  ·rename_i z;exact z
theorem Og:∀{ds:List Dd}{tl:Tl},¬Yy tl->¬Yy (after tl ds)
 |[],_,h=>h
 |d::ds,tl,h=>by have:=Og (ds:=ds) (tl:=(Ve tl d).1) (Qjy h);simp only[after];exact this
def V8(p:Bool×Th×Th):Dd:=.tell p.1 p.2.1 p.2.2
theorem Qa5:∀(more tl:Tl),¬Yy (tl++more)->after tl (more.map V8)=tl++more/\Qiv tl (more.map V8)=(List.range more.length).map λk:Nat=>V.int ((tl.length:Int)+(k:Int)+1)
 |[],tl,_=>by simp[after,Qiv]
 |p::more,tl,h=>by
  obtain⟨b,x,y⟩:=p;have d:¬Yy (tl++[(b,x,y)]):=λz=>h (Jm (λc u v m=>.inl (by
   rcases List.mem_append.mp m with m|m
   ·exact List.mem_append_left _ m
   ·rw[List.mem_singleton]at m;rw[m];exact List.mem_append_right _ List.mem_cons_self)) z)
  have e:Ve tl (.tell b x y)=(tl++[(b,x,y)],.int ((tl.length:Int)+1)):=by simp only[Ve];rw[Gg d]
  have ea:tl++(b,x,y)::more=(tl++[(b,x,y)])++more:=by simp
  rw[ea]at h⊢;obtain⟨i1,i2⟩:=Qa5 more (tl++[(b,x,y)]) h;refine⟨?_,?_⟩
  ·simp only[List.map_cons,V8,after,e];exact i1
  ·simp only[List.map_cons,V8,Qiv,e];have a:Qiv (tl++[(b,x,y)]) (more.map V8)=(List.range more.length).map λk:Nat=>V.int (((tl++[(b,x,y)]).length:Int)+(k:Int)+1):=i2;have u:(more.map λp:Bool×Th×Th=>Dd.tell p.1 p.2.1 p.2.2)=more.map V8:=rfl;first
    |rw[u,a]
    |rw[a]
   rw[List.length_cons,List.range_succ_eq_map,List.map_cons,List.map_map];simp only[List.cons.injEq];refine⟨by simp,List.map_congr_left λk _=>?_⟩;simp only[Sz,V.int.injEq,List.length_append,List.length_singleton];omega
end Sb
namespace L2
open PySem PySem.Spec PyProof.Rows
def Qrg(K:PySem.W.Frag)(a:Gc)(n:Nat):It:=
 ⟨λi H=>∃xs,Zb K H a xs/\xs.length=n/\i<n,λi H x H'=>H'=H/\∀xs,Zb K H a xs->xs[n - 1 - i]?=Ga x,λi _=>i=n⟩
theorem Qpa{P:Gj}{w:Gs}{K:PySem.W.Frag}{tg:TJ}(a it:Gc)(n:Nat):Qgt P w K tg (Qrg K a n) [it] it (λi h=>i<=n/\h.IsRevIter it a ((n:Int) - 1 - (i:Int))) where
 mem:=by simp
 obj:=λi h st b hb=>by
  have e:b=it:=by simpa using hb
  subst e;obtain⟨_,o,e,c,d⟩:=st;exact⟨o,e,λv z=>by rw[d]at z;cases z⟩
 keep:=λi h h' st k=>⟨st.1,st.2.at λo e=>k it (by simp) o e⟩
 item:=by
  intro X B hw A C i pins s σ H E I j st l;subst B hw A;obtain⟨xs,D,U,hi⟩:=l;obtain⟨its,rv,p,hz⟩:=I.list D;have T:=rv.length;have F:xs[n - 1 - i]?=Ga (xs[n - 1 - i]'(by omega)):=List.getElem?_eq_getElem (by omega);obtain⟨u,O,R⟩:=rv.get F;obtain⟨m,q,N,r,t,y⟩:=j it (by simp);have e:(n:Int) - 1 - (i:Int)=((n - 1 - i:Nat):Int):=by omega
  have f:=st.2;rw[e]at f;refine Sg f p.isList (x:=u) (by simpa using O) λh' g S=>?_;have G:Inv X pins σ H {s with heap:=h'}:=I.turned (t':=s.toks) (λb o hb e=>(S.2 b hb).trans e) m q r t y;have J:((n - 1 - i:Nat):Int) - 1=(n:Int) - 1 - ((i+1:Nat):Int):=by omega
  rw[J]at g;obtain⟨o,L,c,d⟩:=id g;exact⟨u,Xb,Qfk (s:={s with heap:=h'}) L c d (by decide) ⟨_,H,G,R,⟨Xb,λys Q=>by rw[I.Qcg Q D];exact F⟩,⟨hi,g⟩,λb hb=>(j b hb).1⟩⟩
 done:=by intro X B hw A C i pins s σ H E I j st l;subst B hw A;have l:i=n:=l;obtain⟨m,q,N,r,t,y⟩:=j it (by simp);have f:=st.2;rw[show(n:Int) - 1 - (i:Int)= -1 by omega]at f;exact So (I.ok.hd C) f λh' M=>⟨Xb,I.turned (t':=s.toks) (λb o hb e=>M b o hb e) m q r t y⟩
 self:=λ_ _ _ _ _ st h=>Er st.2 h
def Q0o(K:PySem.W.Frag)(ta:TA):TI:=λσ H R=>ta σ H λvs H1=>∃a xs,vs=[.ref a]/\Zb K H1 a xs/\R (Qrg K a xs.length) H1
section
variable{X:Cx}{tg:TJ}
theorem Quy{a:TJ}{ta:TA}{p pos:E1}(k:Gl X "reversed")(l:X.mg "reversed"=Ge)(i:PA X [a] ta)(n:GX [a] X.env=[(Gp,eval a X.env)]:=by rfl):PI X tg (.Call (.Name "reversed" p) [a] [] pos) (Q0o X.K ta):=by
 intro pins s σ H R I h;refine FK (Vq I k l LP (T9 (Yl (i pos pins s σ H _ I h) λus s1⟨vs,H1,d,t,r⟩=>?_) n Xb));obtain⟨b,xs,e,m,q⟩:=r;subst e;obtain⟨u,rfl,v⟩:=vals1 t;cases(show u=Value.ref b from v);obtain⟨its,rv,pt,hz⟩:=d.list m;have w:=rv.length;refine SJ pt.isList ?_;have f:Inv X pins σ H1 {s1 with heap:=s1.heap.push (revObj b ((its.toArray.size:Int) - 1))}:=d.kept (t':=s1.toks) λb o e=>Heap.get?_push_of_some _ e;have st:(s1.heap.push (revObj b ((its.toArray.size:Int) - 1))).IsRevIter s1.heap.objs.size b ((xs.length:Int) - 1 - ((0:Nat):Int)):=by
  have g:(xs.length:Int) - 1 - ((0:Nat):Int)=(its.toArray.size:Int) - 1:=by rw[List.size_toArray];omega
  rw[g];exact⟨_,Heap.get?_push_size _ Xb,Xb,Xb⟩
 refine Er st ⟨s1.heap.objs.size,[s1.heap.objs.size],_,_,H1,Xb,f,Qpa b _ xs.length,⟨Gv _,st⟩,λc j=>?_,q⟩;have e:c=s1.heap.objs.size:=by simpa using j
 subst e;exact d.Qi0 (Gm _) (d.Zu.fresh (Gm _))
end
theorem Qrb{K:PySem.W.Frag}{a:Gc}{xs:List V}{g:TG}{tb:TS}{D:Ends}{σ:St}{H:Hp}(Pv:Nat->St->Hp->Prop)(j:Pv 0 σ H)(k:∀i σ H,i<=xs.length->Pv i σ H->Zb K H a xs)
  (l:∀i x σ H,xs.reverse[i]?=Ga x->Pv i σ H->g x σ H λd H2=>tb {D with nx:=Pv (i+1),ct:=Pv (i+1),bk:=D.nx} d H2)(hd:∀σ H,Pv xs.length σ H->D.nx σ H):
  ∃W:Nat->Nat->St->Hp->Prop,(∃m,W 0 m σ H)/\∀i m σ H,W i m σ H->
   ((Qrg K a xs.length).stop i H/\D.nx σ H)\/((Qrg K a xs.length).go i H/\∃N:St->Hp->Prop,(∀c H',N c H'->∃f,f<m/\W (i+1) f c H')/\∀x H',(Qrg K a xs.length).yld i H x H'->g x σ H' λd H2=>tb {D with nx:=N,ct:=N,bk:=D.nx} d H2):=by
 refine⟨λi m σ H=>m=xs.length - i/\i<=xs.length/\Pv i σ H,⟨xs.length,by simp,Gv _,j⟩,?_⟩;rintro i m σ H ⟨rfl,hi,p⟩;have q:=k i σ H hi p;by_cases b:i<xs.length
 ·refine .inr ⟨⟨xs,q,Xb,b⟩,Pv (i+1),λc H' h=>⟨xs.length - (i+1),by omega,Xb,b,h⟩,λx H' y=>?_⟩;obtain⟨e,y⟩:=y;subst e;exact l i x σ _ (by rw[List.getElem?_reverse b];exact y xs q) p
 ·have e:i=xs.length:=by omega
  subst e;exact .inl ⟨Xb,hd σ H p⟩
end L2
namespace Sb
open PySem PySem.Spec PyProof.Rows L2
variable{P:Gj}{w:Gs}{H:Hp}{d:Gc}{S:Th->Prop}{F:Th->Th}
structure Mp(P:Gj)(w:Gs)(H:Hp)(d:Gc)(S:Th->Prop)(F:Th->Th):Prop where
 ex:∃kvs:List KE,H d=Ga (Vh P w d kvs)/\W4 H kvs/\∀t,S t->∃b,Yf kvs (kd t)=Ga (.ref b)/\Z5 H (.ref b) (F t)
theorem Mp.at(N:Mp P w H d S F):∃o,H d=Ga (.ext o):=by obtain⟨kvs,h,_⟩:=N.ex;exact⟨_,h⟩
theorem Mp.keep{H':Hp}(N:Mp P w H d S F)(hd:∀o,H d=Ga o->H' d=Ga o)(e:Qp H H'):Mp P w H' d S F:=by obtain⟨kvs,h1,h2,f⟩:=N.ex;exact⟨kvs,hd _ h1,Q6 e h2,λt g=>by obtain⟨b,a,c⟩:=f t g;exact⟨b,a,c.Qk e⟩⟩
theorem Mp.same{H':Hp}(N:Mp P w H d S F)(e:Qv H H'):Mp P w H' d S F:=N.keep (λo h=>e d o h) (Qp.of e)
theorem Mp.get{b:Gc}{t:Th}{Q:VK}(N:Mp P w H d S F)(g:S t)(ok:t.ok=Gf)(dp:t.depth<=8)(h:Z5 H (.ref b) t)(q:∀c,Z5 H (.ref c) (F t)->Q (.ref c) H):Qba P w (.ref d) (.ref b) H Q:=by obtain⟨kvs,h1,h2,f⟩:=N.ex;obtain⟨c,a,e⟩:=f t g;exact⟨d,b,kd t,kvs,_,Xb,Xb,⟨h1,h2⟩,Ro h ok dp,a,q c e⟩
theorem Mp.set{b c:Gc}{t:Th}{n:Nat}{Q:Hp->Prop}(N:∃kvs:List KE,kvs.length<=n/\H d=Ga (Vh P w d kvs)/\W4 H kvs/\∀t,S t->∃b,Yf kvs (kd t)=Ga (.ref b)/\Z5 H (.ref b) (F t))(r:n<=1000000)(ok:t.ok=Gf)(dp:t.depth<=8)(h:Z5 H (.ref b) t)(a:Z5 H (.ref c) (F t))
  (q:∀H',(∀e o,H e=Ga o->e≠d->H' e=Ga o)->(∃kvs:List KE,kvs.length<=n+1/\H' d=Ga (Vh P w d kvs)/\W4 H' kvs/\∀u,S u\/u=t->∃b,Yf kvs (kd u)=Ga (.ref b)/\Z5 H' (.ref b) (F u))->Q H'):Qf7 P w (.ref d) (.ref b) (.ref c) H Q:=by
 obtain⟨kvs,p,h1,h2,l⟩:=N;have g:=Ro h ok dp;refine⟨d,b,kd t,kvs,Xb,Xb,⟨h1,h2⟩,g,by rw[Gu];omega,q _ (λe o h a=>by rw[Qg a];exact h) ?_⟩;have f:Qp H (upd H d (Vh P w d (Wr kvs (kd t) b (.ref c)))):=Zh λxs e=>by rw[h1]at e;cases e
 refine⟨_,TL (Oc _ _ _ _) (by omega),Qb,Q6 f (h2.put g),λu m=>?_⟩;rw[Us];by_cases e:u=t
 ·subst e;exact⟨c,Gk Xb,a.Qk f⟩
 ·obtain⟨k,i,j⟩:=l u (m.resolve_right e);exact⟨k,by rw[Gg (λz=>e (Oy z))];exact i,j.Qk f⟩
open PySem L2
abbrev KI(K:PySem.W.Frag)(f:Gc):Prop:=PySem.W.keepIn K (.ref f)=Gf
abbrev MG(mg:Gy->Option Value)(x:Gy)(f:Gc):Prop:=mg x=Ga (.ref f)
end Sb
namespace K07
open PySem L2 Sb
def top(i:Nat):T4:=PySem.Challenge.pw_samebook_k07_whole_order_and_words.main.body.getD i (.Pass ⟨0,0,0,0⟩)
abbrev Qgp:T4:=top 1
abbrev Ot:T4:=Z8 (top 2) 0
abbrev Oi:T4:=Z8 (top 2) 1
abbrev Rr:T4:=Z8 (top 2) 2
abbrev Qf6:T4:=Z8 (top 2) 3
abbrev Qgh:T4:=Z8 (top 2) 4
abbrev Jp:T4:=Z8 (top 2) 5
abbrev Qmj:T4:=Z8 (top 2) 6
abbrev Iq:T4:=Z8 (top 2) 7
abbrev Qv1:T4:=Z8 (top 2) 8
abbrev Qg1:T4:=Z8 (top 2) 9
abbrev Qje:T4:=Z8 (top 2) 10
abbrev Qgn:T4:=top 4
abbrev Qbv:T4:=top 5
abbrev Qgq:T4:=top 6
abbrev Qby:T4:=Z8 (top 7) 0
abbrev Qf8:T4:=Z8 (top 7) 1
abbrev Vz:T4:=Z8 (top 7) 2
abbrev Ij:T4:=Z8 (top 7) 3
abbrev Qb3:T4:=Z8 (top 9) 0
abbrev Oq:T4:=Z8 (top 9) 1
abbrev Ig:T4:=Z8 (top 9) 2
abbrev Qb6:T4:=Z8 (top 9) 3
abbrev Qrc:T4:=top 10
abbrev Jy:T4:=top 13
abbrev Qb9:T4:=Z8 (top 14) 0
abbrev Qcb:T4:=Z8 (top 14) 1
abbrev Qca:T4:=Z8 (top 14) 2
abbrev Qm3:T4:=Z8 (top 14) 3
abbrev Qt2:T4:=Z8 (top 14) 4
abbrev Ir:T4:=Z8 (top 14) 5
abbrev Qgu:T4:=top 15
abbrev Qf0:T4:=top 17
abbrev sAt:T4:=top 18
abbrev Qgd:T4:=top 19
abbrev Qf1:T4:=top 20
abbrev Wj:T4:=top 21
abbrev Ql1:T4:=top 22
abbrev Qbx:T4:=top 23
abbrev Qfz:T4:=top 24
abbrev Ux:T4:=top 25
abbrev Qmf:T4:=top 26
abbrev Qvp:T4:=top 27
abbrev sSo:T4:=top 28
abbrev Qgc:T4:=top 29
end K07
namespace Sb
open PySem PySem.Spec PyProof.Rows L2
variable{ts:List Th}{t:Th}{H H':Hp}{a f d dn:Gc}{S:List Gc}{m:Nat}
def jv(j:Nat):V:=.int (j:Int)
theorem Qxd{i j:Nat}(h:jv i=jv j):i=j:=by unfold jv at h;injection h with h;omega
abbrev Fm:=Gy×List Nat
def fm(ts:List Th)(t:Th):Fm:=(t.word,t.parts.map λp=>ts.idxOf p)
def ik(i:Nat):KD:=.int (i:Int)
def Yu(f:Fm):KD:=.tup [.str f.1,.tup (f.2.map ik)]
theorem Qa7:∀{a b:List Nat},a.map ik=b.map ik->a=b
 |[],[],_=>rfl
 |[],_::_,h=>by simp at h
 |_::_,[],h=>by simp at h
 |x::a,y::b,h=>by
  simp only[List.map_cons,List.cons.injEq]at h;have e:(x:Int)=(y:Int):=by have:=h.1;unfold ik at this;injection this
  have t:=Qa7 h.2;rw[t,show x=y by omega]
theorem Uw{f g:Fm}(h:Yu f=Yu g):f=g:=by unfold Yu at h;simp only[KD.tup.injEq,List.cons.injEq,KD.str.injEq,LB]at h;exact SU h.1 (Qa7 h.2)
theorem Iz(h:t∈ts):ts[ts.idxOf t]?=Ga t:=by have a:ts.idxOf t<ts.length:=List.idxOf_lt_length_of_mem h;rw[List.getElem?_eq_getElem a,List.getElem_idxOf a]
theorem R6{j:Nat}(nd:ts.Nodup)(h:ts[j]?=Ga t):ts.idxOf t=j:=by obtain⟨a,e⟩:=List.getElem?_eq_some_iff.mp h;subst e;exact nd.idxOf_getElem j a
theorem Qgi{s:Th}(a:s∈ts)(b:t∈ts)(e:ts.idxOf s=ts.idxOf t):s=t:=by have h1:=Iz a;have h2:=Iz b;rw[e,h2]at h1;exact(Tc h1).symm
theorem Qum{us:List Th}(h:t∈ts):(ts++us).idxOf t=ts.idxOf t:=by rw[List.idxOf_append,Gk h]
theorem Qbi{ts:List Th}:∀{a b:List Th},(∀x∈a,x∈ts)->(∀x∈b,x∈ts)->a.map (λp=>ts.idxOf p)=b.map (λp=>ts.idxOf p)->a=b
 |[],[],_,_,_=>rfl
 |[],_::_,_,_,h=>by simp at h
 |_::_,[],_,_,h=>by simp at h
 |x::a,y::b,h1,h2,h=>by simp only[List.map_cons,List.cons.injEq]at h;rw[Qgi (h1 x List.mem_cons_self) (h2 y List.mem_cons_self) h.1,Qbi (λz hz=>h1 z (List.mem_cons_of_mem _ hz)) (λz hz=>h2 z (List.mem_cons_of_mem _ hz)) h.2]
theorem Xr(cl:Vo ts)(h:t∈ts):∀p∈t.parts,p∈ts:=λp a=>by
 refine cl t h p ?_;cases t with
 |mk w ps=>simp only[Th.parts]at a;simp only[Th.inside,List.mem_append];left;rw[Xq,List.mem_flatMap];exact⟨p,a,Qlo p⟩
theorem Qle{s:Th}(a:∀p∈s.parts,p∈ts)(b:∀p∈t.parts,p∈ts)(e:fm ts s=fm ts t):s=t:=by
 cases s with
 |mk w ps=>
  cases t with
  |mk v c=>unfold fm at e;simp only[Th.word,Th.parts,TH]at e a b;rw[e.1,Qbi a b e.2]
theorem Qk9{us:List Th}(h:∀p∈t.parts,p∈ts):fm (ts++us) t=fm ts t:=by unfold fm;refine SU rfl (List.map_congr_left λp a=>Qum (h p a))
def R3(H:Hp)(x:V)(f:Fm):Prop:=∃c e,x=.ref c/\H c=Ga (.tup [.str f.1,.ref e])/\H e=Ga (.tup (f.2.map jv))
theorem R3.Qk{x:V}{f:Fm}(e:Qp H H')(h:R3 H x f):R3 H' x f:=by obtain⟨c,d,h1,h2,a⟩:=h;exact⟨c,d,h1,e _ _ h2,e _ _ a⟩
theorem Qp3{H:Hp}:∀l:List Nat,Ob H (l.map jv) (Ug (l.map ik))
 |[]=>by simp only[List.map_nil,Ug];exact .nil
 |i::r=>by simp only[List.map_cons,Ug,ik,KD.toD];exact .cons (.int _) (Qp3 r)
theorem Qsi:∀l:List Nat,Gr (Ug (l.map ik))=Gf
 |[]=>by simp[Ug,Gr]
 |i::r=>by simp only[List.map_cons,Ug];simp only[Gr,Qsi r,LQ];simp[ik,KD.toD,Tg]
theorem Qp7:∀l:List Nat,Ib (l.map ik)=0
 |[]=>by simp[Ib]
 |i::r=>by simp only[List.map_cons,Ib,Qp7 r];simp[ik,KD.depth]
theorem R3.key{c:Gc}{f:Fm}(h:R3 H (.ref c) f)(ok:TW f.1=Gf):Qad H c (Yu f):=by
 obtain⟨b,e,h1,h2,a⟩:=h;cases h1;unfold Yu;refine⟨?_,?_,?_⟩
 ·simp only[KD.toD,Ug];exact .tup h2 (.cons (.str _) (.cons (.tup a (Qp3 f.2)) .nil))
 ·simp only[KD.toD,Ug,Tg,Gr,ok,Qsi,Bool.and_self]
 ·simp only[KD.depth,Ib,Qp7];decide
def Rc(a f d:Gc):List (Gy×V):=[("things",.ref a),("forms",.ref f),("known",.ref d)]
structure Pl(P:Gj)(w:Gs)(C:Gc)(H:Hp)(p a f d:Gc)(ts:List Th):Prop where
 ob:∃dx,H p=Ga (.ins C dx (Rc a f d))
 th:∃us,H a=Ga (.lst us)/\Zn H us ts
 fo:∃ws,H f=Ga (.lst ws)/\Paired (R3 H) ws (ts.map (fm ts))
 kn:∃kvs,DH P w H d kvs/\kvs.length<=ts.length/\(∀(j:Nat)t,ts[j]?=Ga t->Yf kvs (Yu (fm ts t))=Ga (jv j))/\∀k v,Yf kvs k=Ga v->∃t∈ts,k=Yu (fm ts t)
 af:a≠f
 nd:ts.Nodup
 cl:Vo ts
 ok:∀t∈ts,t.ok=Gf/\t.depth<=50
structure Fr3(a f d:Gc)(H H':Hp):Prop where
 keep:∀b o,H b=Ga o->b≠a->b≠f->b≠d->H' b=Ga o
 there:∀b,H' b=Ge->H b=Ge
theorem Fr3.refl:Fr3 a f d H H:=⟨λ_ _ e _ _ _=>e,λ_ h=>h⟩
theorem Fr3.trans{H1 H2:Hp}(x:Fr3 a f d H H1)(y:Fr3 a f d H1 H2):Fr3 a f d H H2:=⟨λb o e h1 h2 c=>y.keep b o (x.keep b o e h1 h2 c) h1 h2 c,λb h=>x.there b (y.there b h)⟩
theorem Fr3.of(g:Qv H H'):Fr3 a f d H H':=⟨λb o e _ _ _=>g b o e,λb h=>g.free h⟩
section
variable{P:Gj}{w:Gs}{C:Gc}{H H':Hp}{p a f d:Gc}{ts:List Th}
theorem Fr3.Qk(x:Fr3 a f d H H')(y:Pl P w C H p a f d ts):Qp H H':=λb xs e=>by obtain⟨us,g,_⟩:=y.th;obtain⟨h,c,_⟩:=y.fo;obtain⟨kvs,n1,_⟩:=y.kn;exact x.keep b _ e (Zw e g (by intro z;cases z)) (Zw e c (by intro z;cases z)) (Zw e n1.at_ (by intro z;cases z))
theorem Pl.keep(x:Pl P w C H p a f d ts)(j:∀o,H p=Ga o->H' p=Ga o)(g:∀o,H a=Ga o->H' a=Ga o)(i:∀o,H f=Ga o->H' f=Ga o)(hd:∀o,H d=Ga o->H' d=Ga o)(b:Qp H H'):Pl P w C H' p a f d ts:=by obtain⟨dx,l⟩:=x.ob;obtain⟨us,m,n⟩:=x.th;obtain⟨q,c,e⟩:=x.fo;obtain⟨kvs,n1,n2,n3,k⟩:=x.kn;exact⟨⟨dx,j _ l⟩,⟨us,g _ m,n.Qk b⟩,⟨q,i _ c,L2.Paired.Yb e λ_ _ h=>h.Qk b⟩,⟨kvs,⟨hd _ n1.at_,Q6 b n1.keys⟩,n2,n3,k⟩,x.af,x.nd,x.cl,x.ok⟩
theorem Pl.same(g:Qv H H')(x:Pl P w C H p a f d ts):Pl P w C H' p a f d ts:=x.keep (g _) (g _) (g _) (g _) (Qp.of g)
theorem Pl.but{b:Gc}{zs c:List V}(x:Pl P w C H p a f d ts)(hb:H b=Ga (.lst zs))(g:b≠a)(h:b≠f):Pl P w C (upd H b (.lst c)) p a f d ts:=by
 obtain⟨dx,i⟩:=x.ob;obtain⟨kvs,n1,_⟩:=x.kn;refine x.keep (λo e=>?_) (λo e=>by rw[Qg (Gn g)];exact e) (λo e=>by rw[Qg (Gn h)];exact e) (λo e=>?_) (Zh λxs e=>by rw[hb]at e;cases e)
 ·rw[Qg (Zw i hb (by intro z;cases z))];exact e
 ·rw[Qg (Zw n1.at_ hb (by intro z;cases z))];exact e
end
structure Nrr(H:Hp)(dn:Gc)(S:List Gc)(m:Nat)(ts:List Th):Prop where
 at_:∃kvs,H dn=Ga (.dT kvs)/\kvs.length<=m/\∀k v,Yq kvs k=Ga v->∃l∈S,v=.ref l
 ls:∀l∈S,∃es,H l=Ga (.lst es)/\es.length<=m/\∀e∈es,∃c v,∃(j:Nat)(t:Th),e=.ref c/\H c=Ga (.tup [v,jv j])/\Z5 H v t/\ts[j]?=Ga t
theorem Nrr.keep{d:Nat}{a:List Th}(x:Nrr H dn S m ts)(hd:∀o,H dn=Ga o->H' dn=Ga o)(n:∀l∈S,∀o,H l=Ga o->H' l=Ga o)(f:Qp H H')(b:∀(j:Nat)t,ts[j]?=Ga t->a[j]?=Ga t)(w:m<=d):Nrr H' dn S d a:=by obtain⟨kvs,h1,h2,i⟩:=x.at_;refine⟨⟨kvs,hd _ h1,by omega,i⟩,λl hS=>?_⟩;obtain⟨es,g,u,h⟩:=x.ls l hS;refine⟨es,n l hS _ g,by omega,λe k=>?_⟩;obtain⟨c,v,j,t,p,q,r,s⟩:=h e k;exact⟨c,v,j,t,p,f _ _ q,r.Qk f,b j t s⟩
theorem Nrr.same(g:Qv H H')(x:Nrr H dn S m ts):Nrr H' dn S m ts:=x.keep (g _) (λl _=>g l) (Qp.of g) (λ_ _ h=>h) (Gm _)
structure Fra(a f d dn:Gc)(S S':List Gc)(H H':Hp):Prop where
 keep:∀b o,H b=Ga o->b≠a->b≠f->b≠d->b≠dn->b∉S->H' b=Ga o
 own:∀b∈S',b∈S\/H b=Ge
 sub:∀b∈S,b∈S'
 there:∀b,H' b=Ge->H b=Ge
theorem Fra.of(g:Qv H H'):Fra a f d dn S S H H':=⟨λb o e _ _ _ _ _=>g b o e,λ_ h=>.inl h,λ_ h=>h,λb h=>g.free h⟩
theorem Fra.trans{S1 S2:List Gc}{H1 H2:Hp}(x:Fra a f d dn S S1 H H1)(y:Fra a f d dn S1 S2 H1 H2):Fra a f d dn S S2 H H2:=by
 refine⟨λb o e h1 h2 c g i=>y.keep b o (x.keep b o e h1 h2 c g i) h1 h2 c g λz=>?_,λb hb=>?_,λb h=>y.sub b (x.sub b h),λb h=>x.there b (y.there b h)⟩
 ·rcases x.own b z with z|z
  ·exact i z
  ·rw[e]at z;cases z
 ·rcases y.own b hb with h|h
  ·exact x.own b h
  ·exact .inr (x.there b h)
theorem Fra.Qk{P:Gj}{w:Gs}{C:Gc}{p:Gc}{c:List Gc}(x:Fra a f d dn S c H H')(y:Pl P w C H p a f d ts)(z:Nrr H dn S m ts):Qp H H':=λb xs e=>by obtain⟨us,j,_⟩:=y.th;obtain⟨l,g,_⟩:=y.fo;obtain⟨kvs,n1,_⟩:=y.kn;obtain⟨k,i,_⟩:=z.at_;refine x.keep b _ e (Zw e j (by intro z;cases z)) (Zw e g (by intro z;cases z)) (Zw e n1.at_ (by intro z;cases z)) (Zw e i (by intro z;cases z)) λhb=>?_;obtain⟨es,h,_⟩:=z.ls b hb;rw[e]at h;cases h
def Qit(P:Gj)(w:Gs)(C:Gc):Sp:=λvs H Q _=>∃(p dx:Gc),vs=[.ref p]/\H p=Ga (.ins C dx [])/\
 ∀(a f d:Gc)(H':Hp),Pl P w C H' p a f d []->(∀b o,H b=Ga o->b≠p->H' b=Ga o)->H a=Ge->H f=Ge->H d=Ge->Q .non H'
def Qdp(P:Gj)(w:Gs)(C:Gc):Sp:=λvs H Q _=>∃(p c:Gc)(v:V)(t:Th)(a f d:Gc)(ts:List Th),vs=[.ref p,v,.ref c]/\Pl P w C H p a f d ts/\Z5 H v t/\t.ok=Gf/\t.depth<=50/\
 (∀q∈t.parts,q∈ts)/\R3 H (.ref c) (fm ts t)/\ts.length<1000000/\
 ∀(j:Nat)(H':Hp),Pl P w C H' p a f d (if t∈ts then ts else ts++[t])->(if t∈ts then ts else ts++[t])[j]?=Ga t->Fr3 a f d H H'->Q (jv j) H'
def Ul(P:Gj)(w:Gs)(C:Gc)(n:Nat):Sp:=λvs H Q _=>∃(p b:Gc)(v:V)(t:Th)(a f d:Gc)(S:List Gc)(m:Nat)(ts:List Th),vs=[.ref p,v,.ref b]/\Pl P w C H p a f d ts/\Nrr H b S m ts/\a∉S/\f∉S/\
 Z5 H v t/\t.ok=Gf/\t.depth<=n/\t.depth<=50/\m+2*t.size<=1000000/\ts.length+t.size<=1000000/\
 ∀(j:Nat)(c:List Gc)(H':Hp),Pl P w C H' p a f d (Xo ts t.inside)->Nrr H' b c (m+2*t.size) (Xo ts t.inside)->(Xo ts t.inside)[j]?=Ga t->Fra a f d b S c H H'->Q (jv j) H'
def Qe6(P:Gj)(w:Gs)(C:Gc):Sp:=λvs H Q _=>∃(p:Gc)(v:V)(t:Th)(a f d:Gc)(ts:List Th),vs=[.ref p,v]/\Pl P w C H p a f d ts/\Z5 H v t/\t.ok=Gf/\t.depth<=50/\ts.length+t.size<=500000/\
 ∀(j:Nat)(H':Hp),Pl P w C H' p a f d (Xo ts t.inside)->(Xo ts t.inside)[j]?=Ga t->Fr3 a f d H H'->Q (jv j) H'
end Sb
namespace L2
open PySem PySem.Spec PyProof.Rows
def Qqt:V->List V->Hp->VK->Prop:=λx vs H Q=>∃d b a kvs k,x=.ref d/\vs=[.ref b,a]/\H d=Ga (.dT kvs)/\H b=Ga (.tup (k.map kV))/\kvs.length<Gh/\
 ∀v H',((Yq kvs k=Ga v/\H'=H)\/(Yq kvs k=Ge/\v=a/\H'=upd H d (.dT (kvs++[(k,a)]))))->Q v H'
theorem Qk7{X:Cx}(l:X.A.units+1<Dk):MtR X "dict.setdefault" Qqt:=by intro pins s σ H x vs v us Q I n rv h;obtain⟨d,b,a,kvs,k,c,e,f,g,i,q⟩:=h;exact Qny l pins s σ H x vs v us Q I n rv ⟨d,b,a,kvs,k,c,e,f,g,i,λv m=>q v H (.inl ⟨m,Xb⟩),λj=>q a _ (.inr ⟨j,Xb,Xb⟩)⟩
end L2
namespace K07
open PySem L2 Sb
variable{f C:Gc}{fd:Td}
structure Ik(mg:Gy->Option Value):Prop where
 len:mg "len"=Ge
 list:mg "list"=Ge
 tuple:mg "tuple"=Ge
 range:mg "range"=Ge
 reversed:mg "reversed"=Ge
 enumerate:mg "enumerate"=Ge
 zip:mg "zip"=Ge
 sorted:mg "sorted"=Ge
theorem Rv(x:V)(vs:List V):atI (x::vs) (0:Int)=Ga x:=Qz (xs:=x::vs) (j:=0) rfl
def Quk(t:Th):List Xh:=(Qcs t).map EA
theorem Quz(t:Th):(Quk t).map kV=(Qcs t).map V.str:=by unfold Quk;rw[List.map_map];rfl
def Qr3:Sp:=λvs H Q _=>∃(v:V)(t:Th),vs=[v]/\Z5 H v t/\t.size<=1000000/\∀(r:Gc)(H':Hp),Qv H H'->H' r=Ga (.tup ((Quk t).map kV))->Q (.ref r) H'
section
variable{P:Gj}{w:Gs}{K:PySem.W.Frag}{mg:Gy->Option Value}{base:Heap}
theorem Qzd:Qy ["thing"] ["thing"] (Ql Qrc):=by eq_refl
theorem Qyz(F:Va K "top_words" "top_words" Qrc f fd)(B:Ik mg):Qt P w K mg base Ya 1 f fd ["thing"] Qr3:=by
 refine F.ok Qzd (λvs H Q E h=>?_) (λcdv A outer s H vs Q E W h=>?_)
 ·obtain⟨v,t,rfl,_⟩:=h;rfl
 obtain⟨v,t,rfl,N,hsz,q⟩:=h;obtain⟨a,wd,vs,ps,rfl,rfl,z,d⟩:=N.inv;refine⟨_,Qh (Qx (Xt X5 rfl B.tuple Tz (Qa (Zf Vy (Zj (Qa (Qn Q3 (pv 0) Qj) Qe))
  (Ub (own:=["part"]) (fv:=[]) rfl (S:=(by eq_refl:Wc (Ql Qrc) _)) .nil (Ue (Yp Jd (pv 0) (Y2 Qj) Xw))
   (λ_ _ _ _ _=>Xc (i:=0) (nd1 _) rfl (TZ Xb) (DO Xb)) (λ_ _ _ _ _=>X7) (λ_ _ _ _ _=>Qn (r:=Qv2 K) Q3 (pv 0) Qj (λ_ _=>rfl)))) Qe))),?_⟩
 simp only[Th.size]at hsz;have R:=Zi ps;have y:=d.length;refine⟨_,Xb,a,_,_,.str wd,Xb,Xb,Z4.of z,Rv _ _,by show 1<=Gh;decide,λl L=>?_⟩;have s1:=Qf L (.lst [.str wd]);refine⟨_,Xb,_,Xb,a,_,Xb,Z4.of (s1 _ _ z),Vc _ _,λr k=>?_⟩;rw[Qf9];have s2:=Qf k (.tup vs);refine⟨r,Xb,⟨_,Z4.of Qb⟩,λp C=>?_⟩;have D:=Qf C (.lst []);have T:=(s1.trans s2).trans D;refine Uq (K:=K) (a:=r) (xs:=vs) (small (by omega)) (λi ys σ H2=>(∃G,σ=[G])/\Qv (upd (upd H l (.lst [.str wd])) r (.tup vs)) H2/\ys=(ps.take i).map λt=>V.str t.word)
  ⟨⟨_,Xb⟩,D,by simp⟩ (λi ys σ H2 _ h=>Z4.of (h.2.1 _ _ Qb)) ?_ ?_
 ·rintro i x ys σ H2 hi u ⟨⟨G,rfl⟩,g,rfl⟩ j;obtain⟨t,n,O⟩:=d.get hi;obtain⟨b,U,us,X,rfl,rfl,hb,_⟩:=O.inv;refine⟨_,Xb,b,_,_,.str U,Xb,Xb,Z4.of (g _ _ (s2 _ _ (s1 _ _ hb))),Rv _ _,j,⟨_,Xb⟩,λc o e=>?_,?_⟩
  ·rw[Qg (Qc e C)];exact g _ _ e
  ·rw[List.take_add_one,n,List.map_append];rfl
 ·rintro ys σ H2 u ⟨_,g,rfl⟩ j;have e:ps.take vs.length=ps:=by rw[y,List.take_length]
  rw[e]at j;have I:=g _ _ (s2 _ _ (@Qb H l (.lst [.str wd])));refine⟨l,p,_,_,Xb,Xb,I,j,small (by rw[List.length_map,List.length_singleton];omega),λc J=>?_⟩;refine⟨c,_,Xb,.inl ⟨Zb.of Qb,λm M=>?_⟩⟩;refine q m _ ((((s1.trans s2).trans g).trans (Qf J _)).trans (Qf M _)) ?_;rw[Qb,Quz];simp[Qcs,Th.word,Th.parts]
end
theorem n1:¬(("things":Gy)="forms"):=by decide+kernel
theorem n2:¬(("things":Gy)="known"):=by decide+kernel
theorem n3:¬(("forms":Gy)="known"):=by decide+kernel
theorem Qun(a f d:Gc):Yo "known" (.ref d) (Yo "forms" (.ref f) (Yo "things" (.ref a) []))=Rc a f d:=by simp only[Yo,Gg n1,Gg n2,Gg n3,Rc]
theorem Qe1(a f d:Gc):(Rc a f d).lookup ("things":Gy)=Ga (.ref a):=by rfl
theorem Qsl(a f d:Gc):(Rc a f d).lookup ("forms":Gy)=Ga (.ref f):=by rfl
theorem On(a f d:Gc):(Rc a f d).lookup ("known":Gy)=Ga (.ref d):=by rfl
theorem Qeu(a f d:Gc):(Rc a f d).lookup ("place_within":Gy)=Ge:=by rfl
theorem Qu7(a f d:Gc):(Rc a f d).lookup ("place_by_form":Gy)=Ge:=by rfl
structure Qc9(K:PySem.W.Frag)(mg:Gy->Option Value)(C:Gc):Prop where
 cl:Cls K C
 nT:Yr K C "things"
 nF:Yr K C "forms"
 nN:Yr K C "known"
 mgC:mg "Places"=Ga (.ref C)
section
variable{P:Gj}{w:Gs}{K:PySem.W.Frag}{mg:Gy->Option Value}{base:Heap}
theorem Qp1:Qy ["self"] ["self"] (Ql Qb3):=by eq_refl
theorem Qni(F:Va K "__init__" "Places.__init__" Qb3 f fd)(T:Qc9 K mg C):Qt P w K mg base Ya 1 f fd ["self"] (Qit P w C):=by
 refine F.ok Qp1 (λvs H Q E h=>?_) (λcdv A outer s H vs Q E I h=>?_)
 ·obtain⟨p,dx,rfl,_⟩:=h;rfl
 obtain⟨p,dx,rfl,y,q⟩:=h;refine⟨_,Qd (Xe (pv 0) (Zj Qe) rfl) (Qd (Xe (pv 0) (Zj Qe) rfl) (Qh (Xe (pv 0) Im Xb))),?_⟩;refine⟨Gv _,λa B=>?_⟩;have c:p≠a:=Qc y B;refine⟨_,Xb,p,C,dx,[],Xb,(by rw[Qg c];exact y),T.cl,T.nT,by show 0<1000;decide,Gv _,λf n=>?_⟩;have g:p≠f:=Qc Qb n;have i:a≠f:=Qc (o:=.lst []) (by rw[Qg (Gn c),Qb]) n;refine⟨_,Xb,p,C,dx,_,Xb,(by rw[Qg g,Qb]),T.cl,T.nF,by show 1<1000;decide,λd hd=>?_⟩;have l:p≠d:=Qc Qb hd;have x:f≠d:=Qc (o:=.lst []) (by rw[Qg (Gn g),Qb]) hd;have u:a≠d:=Qc (o:=.lst []) (by rw[Qg (Gn c),Qg i,Qg (Gn c),Qb]) hd;refine⟨_,Xb,p,C,dx,_,Xb,(by rw[Qg l,Qb]),T.cl,T.nN,by show 2<1000;decide,?_⟩;refine q a f d _ ⟨⟨dx,?_⟩,⟨[],?_,.nil⟩,⟨[],?_,.nil⟩,⟨[],⟨?_,λp y=>nomatch y⟩,Gm _,λj t e=>?_,λk v e=>?_⟩,i,List.nodup_nil,Qkb,λt G=>by simp at G⟩ (λb o e hb=>?_) B ?_ ?_
 ·rw[Qb,Qun]
 ·rw[Qg (Gn c),Qg u,Qg (Gn c),Qg i,Qg (Gn c),Qb]
 ·rw[Qg (Gn g),Qg x,Qg (Gn g),Qb]
 ·rw[Qg (Gn l),Qb];rfl
 ·simp at e
 ·simp[Yf]at e
 ·have m:b≠a:=Qc e B;have r:b≠f:=λz=>by subst z;rw[Qg hb,Qg m,e]at n;cases n
  have D:b≠d:=λz=>by subst z;rw[Qg hb,Qg r,Qg hb,Qg m,e]at hd;cases hd
  rw[Qg hb,Qg D,Qg hb,Qg r,Qg hb,Qg m];exact e
 ·rw[Qg (Gn g),Qg (Gn i)]at n;exact n
 ·rw[Qg (Gn l),Qg (Gn x),Qg (Gn l),Qg (Gn u)]at hd;exact hd
theorem Qq8:Qy ["self","thing","form"] ["self","thing","form"] (Ql Qb6):=by eq_refl
theorem Qwo{P:Gj}{w:Gs}{H:Hp}{p a d:Gc}{ts:List Th}{kvs:List KE}{t:Th}(x:Pl P w C H p a f d ts)(i:∀q∈t.parts,q∈ts)(c:∀(j:Nat)t,ts[j]?=Ga t->Yf kvs (Yu (fm ts t))=Ga (jv j))(g:∀k v,Yf kvs k=Ga v->∃t∈ts,k=Yu (fm ts t)):
  (Yf kvs (Yu (fm ts t))).isSome=decide (t∈ts):=by
 by_cases h:t∈ts
 ·rw[GQ h,c _ t (Iz h)];rfl
 ·rw[Gx h];cases e:Yf kvs (Yu (fm ts t))with
  |none=>rfl
  |some v=>exfalso;obtain⟨s,b,es⟩:=g _ _ e;exact h (Qle i (Xr x.cl b) (Uw es)▸b)
theorem Qyy{P:Gj}{w:Gs}{H:Hp}{p a d c:Gc}{ts:List Th}{kvs:List KE}{us E:List V}{v:V}{t:Th}(x:Pl P w C H p a f d ts)(o:DH P w H d kvs)(hl:kvs.length<=ts.length)(G:∀(j:Nat)t,ts[j]?=Ga t->Yf kvs (Yu (fm ts t))=Ga (jv j))(I:∀k v,Yf kvs k=Ga v->∃t∈ts,k=Yu (fm ts t))
  (n:H a=Ga (.lst us))(M:Zn H us ts)(hw:H f=Ga (.lst E))(N:Paired (R3 H) E (ts.map (fm ts)))(U:Z5 H v t)(ok:t.ok=Gf)(dp:t.depth<=50)(A:∀q∈t.parts,q∈ts)(J:R3 H (.ref c) (fm ts t))(new:¬t∈ts):
  Pl P w C (upd (upd (upd H d (Vh P w d (Wr kvs (Yu (fm ts t)) c (jv ts.length)))) a (.lst (us++[v]))) f (.lst (E++[.ref c]))) p a f d (ts++[t]):=by
 obtain⟨dx,B⟩:=x.ob;have O:d≠a:=Zw o.at_ n (by intro z;cases z);have Q:d≠f:=Zw o.at_ hw (by intro z;cases z);have Y:p≠d:=Zw B o.at_ (by intro z;cases z);have X:p≠a:=Zw B n (by intro z;cases z);have Z:p≠f:=Zw B hw (by intro z;cases z);have D:Qp H (upd (upd (upd H d (Vh P w d (Wr kvs (Yu (fm ts t)) c (jv ts.length)))) a (.lst (us++[v]))) f (.lst (E++[.ref c]))):=λb xs e=>by rw[Qg (Zw e hw (by intro z;cases z)),Qg (Zw e n (by intro z;cases z)),Qg (Zw e o.at_ (by intro z;cases z))];exact e
 have hn:Yf kvs (Yu (fm ts t))=Ge:=by
  have:=Qwo x A G I;rw[Gx new]at this;cases e:Yf kvs (Yu (fm ts t))with
  |none=>rfl
  |some u=>rw[e]at this;cases this
 have W:Qad H c (Yu (fm ts t)):=J.key (by cases t;simp only[Th.ok,GO]at ok;exact ok.1);have m:∀s∈ts,fm (ts++[t]) s=fm ts s:=λs g=>Qk9 (Xr x.cl g);have i:fm (ts++[t]) t=fm ts t:=Qk9 A;refine⟨⟨dx,?_⟩,⟨_,?_,(M.append (.one U)).Qk D⟩,⟨_,Qb,?_⟩,⟨Wr kvs (Yu (fm ts t)) c (jv ts.length),⟨?_,Q6 D (o.keys.put W)⟩,?_,λj s e=>?_,λk y e=>?_⟩,x.af,?_,?_,?_⟩
 ·rw[Qg Z,Qg X,Qg Y];exact B
 ·rw[Qg x.af,Qb]
 ·have R:(ts++[t]).map (fm (ts++[t]))=ts.map (fm ts)++[fm ts t]:=by rw[List.map_append,List.map_congr_left m,List.map_cons,List.map_nil,i]
  rw[R];exact Yh (L2.Paired.Yb N λ_ _ h=>h.Qk D) (.cons (J.Qk D) .nil)
 ·rw[Qg Q,Qg O,Qb]
 ·have:=Oc kvs (Yu (fm ts t)) c (jv ts.length);rw[List.length_append,List.length_singleton];omega
 ·rw[Us];rcases Tb j ts.length with F|F
  ·rw[List.getElem?_append_left F]at e;have g:=List.mem_of_getElem? e;rw[m s g,Gg (λz=>new (Qle (Xr x.cl g) A (Uw z)▸g))];exact G j s e
  ·rw[List.getElem?_append_right F]at e;have S:j - ts.length=0:=by have:=(List.getElem?_eq_some_iff.mp e).1;simp at this;omega
   rw[S]at e;simp at e;subst e;have:j=ts.length:=by omega
   subst this;rw[i,Gk rfl]
 ·rw[Us]at e;by_cases K:k=Yu (fm ts t)
  ·exact⟨t,by simp,by rw[i];exact K⟩
  ·rw[Gg K]at e;obtain⟨s,g,es⟩:=I _ _ e;exact⟨s,List.mem_append_left _ g,by rw[m s g];exact es⟩
 ·rw[List.nodup_append];refine⟨x.nd,by simp,λs g u n=>?_⟩;simp at n;subst n;exactλz=>new (z▸g)
 ·intro s g r l;rcases List.mem_append.mp g with g|g
  ·exact List.mem_append_left _ (x.cl s g r l)
  ·simp at g;subst g;cases s with
   |mk w0 ps=>
    simp only[Th.inside,List.mem_append,List.mem_singleton]at l;rcases l with l|l
    ·rw[Xq,List.mem_flatMap]at l;obtain⟨L,T,l⟩:=l;exact List.mem_append_left _ (x.cl L (A L T) r l)
    ·subst l;simp
 ·intro s g;rcases List.mem_append.mp g with g|g
  ·exact x.ok s g
  ·simp at g;subst g;exact⟨ok,dp⟩
theorem Qn3{f0:Gc}(F:Va K "place_by_form" "Places.place_by_form" Qb6 f0 fd)(T:Qc9 K mg C)(B:Ik mg):Qt P w K mg base Ya 1 f0 fd ["self","thing","form"] (Qdp P w C):=by
 refine F.ok Qq8 (λvs H Q E h=>?_) (λcdv A outer s H vs Q E hr h=>?_)
 ·obtain⟨p,c,v,t,a,f,d,ts,rfl,_⟩:=h;rfl
 obtain⟨p,c,v,t,a,f,d,ts,rfl,x,hv,ok,dp,V,U,hl,q⟩:=h;have W:=hr.units;refine⟨_,Qd (Zr (Qu (Qdz W) (pv 2) (Qm (pv 0) rfl) rfl)
   (Qd (Rq (Qo Zo rfl B.len PySem.boot_len (Qa (Qm (pv 0) rfl) Qe)) (Qak (Qm (pv 0) rfl) (pv 2) (Qao W)))
   (Qd (Zc (Xn PySem.F.plainAttrs_list PySem.F.slot_list_append PySem.F.type_list_append Zq (Qm (pv 0) rfl) (Qa (pv 1) Qe)))
   (Qh (Zc (Xn PySem.F.plainAttrs_list PySem.F.slot_list_append PySem.F.type_list_append Zq (Qm (pv 0) rfl) (Qa (pv 2) Qe)))))) Q9)
  (Qh (Qx (Qn (Vr W) (Qm (pv 0) rfl) (pv 2)))),?_⟩
 obtain⟨dx,k⟩:=x.ob;obtain⟨us,J,u2⟩:=x.th;obtain⟨R,O,w2⟩:=x.fo;obtain⟨kvs,D,kl,X,k4⟩:=x.kn;have Z:Qad H c (Yu (fm ts t)):=U.key (by cases t;simp only[Th.ok,GO]at ok;exact ok.1);have ul:=u2.length;have wl:R.length=ts.length:=by rw[Paired.length w2,List.length_map]
 refine⟨_,Xb,_,Xb,p,C,dx,_,_,Xb,k,T.cl,T.nN,On _ _ _,c,d,Yu (fm ts t),kvs,Xb,Xb,D,Z,_,Xb,?_⟩;rw[Qwo x V X k4];by_cases i:t∈ts
 ·rw[GQ i];refine Zz ?_;have e:=q (ts.idxOf t) H (by rw[Gk i];exact x) (by rw[Gk i];exact Iz i) Fr3.refl;exact⟨_,Xb,p,C,dx,_,_,Xb,k,T.cl,T.nN,On _ _ _,_,Xb,d,c,Yu (fm ts t),kvs,_,Xb,Xb,D,Z,X _ t (Iz i),e⟩
 ·rw[Gx i];refine Xf ?_;have fin:=Qyy (c:=c) x D kl X k4 J u2 O w2 hv ok dp V U i;have da:d≠a:=Zw D.at_ J (by intro z;cases z);have df:d≠f:=Zw D.at_ O (by intro z;cases z);have pd:p≠d:=Zw k D.at_ (by intro z;cases z);have pa:p≠a:=Zw k J (by intro z;cases z);have pf:p≠f:=Zw k O (by intro z;cases z);have e1:(us.length:Int)=((ts.length:Nat):Int):=by rw[ul]
  refine⟨_,Xb,p,C,dx,_,_,Xb,k,T.cl,T.nT,Qe1 _ _ _,a,us,Xb,.inl (Zb.of J),_,Xb,p,C,dx,_,_,Xb,k,T.cl,T.nN,On _ _ _,_,Xb,d,c,Yu (fm ts t),kvs,Xb,Xb,D,Z,by rw[Gu];omega,?_⟩;have L:(upd H d (Vh P w d (Wr kvs (Yu (fm ts t)) c (.int us.length)))) a=Ga (.lst us):=by rw[Qg (Gn da)];exact J
  have I:(upd H d (Vh P w d (Wr kvs (Yu (fm ts t)) c (.int us.length)))) p=Ga (.ins C dx (Rc a f d)):=by rw[Qg pd];exact k
  refine⟨_,Xb,p,C,dx,_,_,Xb,I,T.cl,T.nT,Qe1 _ _ _,.inl ⟨Xb,_,Zb.of L⟩,_,Xb,a,us,_,Xb,Xb,L,by rw[Gu];omega,?_⟩;have o2:(upd (upd H d (Vh P w d (Wr kvs (Yu (fm ts t)) c (.int us.length)))) a (.lst (us++[v]))) p=Ga (.ins C dx (Rc a f d)):=by rw[Qg pa];exact I
  have M:(upd (upd H d (Vh P w d (Wr kvs (Yu (fm ts t)) c (.int us.length)))) a (.lst (us++[v]))) f=Ga (.lst R):=by rw[Qg (Gn x.af),Qg (Gn df)];exact O
  refine⟨_,Xb,p,C,dx,_,_,Xb,o2,T.cl,T.nF,Qsl _ _ _,.inl ⟨Xb,_,Zb.of M⟩,_,Xb,f,R,_,Xb,Xb,M,by rw[Gu];omega,?_⟩;rw[e1];have fr:Fr3 a f d H (upd (upd (upd H d (Vh P w d (Wr kvs (Yu (fm ts t)) c (jv ts.length)))) a (.lst (us++[v]))) f (.lst (R++[.ref c]))):=⟨λb o e h1 h2 h3=>by rw[Qg h2,Qg h1,Qg h3];exact e,λb hb=>by
    by_cases u:b=f
    ·subst u;rw[Qb]at hb;cases hb
    ·rw[Qg u]at hb;by_cases n:b=a
     ·subst n;rw[Qb]at hb;cases hb
     ·rw[Qg n]at hb;by_cases r:b=d
      ·subst r;rw[Qb]at hb;cases hb
      ·rw[Qg r]at hb;exact hb⟩
  have tn:fm (ts++[t]) t=fm ts t:=Qk9 V;have G:(ts++[t])[ts.length]?=Ga t:=by simp
  have m:∀l,Pl P w C l p a f d (ts++[t])->Fr3 a f d H l->∃j g,l p=Ga (.ins C j (Rc a f d))/\DH P w l d g/\Qad l c (Yu (fm ts t))/\Yf g (Yu (fm ts t))=Ga (jv ts.length):=λl y fr=>by obtain⟨j,o3⟩:=y.ob;obtain⟨g,S,_,Y,_⟩:=y.kn;have N:=Y ts.length t G;rw[tn]at N;exact⟨j,g,o3,S,(U.Qk (fr.Qk x)).key (by cases t;simp only[Th.ok,GO]at ok;exact ok.1),N⟩
  obtain⟨j,g,o3,S,aa,N⟩:=m _ fin fr;exact⟨_,Xb,p,C,j,_,_,Xb,o3,T.cl,T.nN,On _ _ _,_,Xb,d,c,Yu (fm ts t),g,_,Xb,Xb,S,aa,N,q ts.length _ (by rw[Gg i];exact fin) (by rw[Gg i];exact G) fr⟩
end
end K07
namespace Sb
open PySem PySem.Spec PyProof.Rows L2
theorem Wx:∀(l:List Th)(i:Nat),Qr (l.take i)<=Qr l
 |[],_=>by simp
 |x::l,0=>by simp[Qr]
 |x::l,i+1=>by have:=Wx l i;simp only[List.take_succ_cons,Qr];omega
theorem Qge(ps:List Th)(i:Nat)(t:Th)(h:ps[i]?=Ga t):Zp (ps.take (i+1))=Zp (ps.take i)++t.inside:=by rw[List.take_add_one,h,Xq,List.flatMap_append,<-Xq];simp
theorem Qd6:∀(ps:List Th)(i:Nat)(t:Th),ps[i]?=Ga t->Qr (ps.take (i+1))=Qr (ps.take i)+t.size
 |[],_,_,h=>by simp at h
 |x::r,0,t,h=>by simp at h;subst h;simp[Qr]
 |x::r,i+1,t,h=>by have:=Qd6 r i t (by simpa using h);simp only[List.take_succ_cons,Qr]at this⊢;omega
theorem Qc8{acc xs:List Th}{j:Nat}{t:Th}(h:acc[j]?=Ga t):(Xo acc xs)[j]?=Ga t:=by obtain⟨m,e⟩:=W9 xs acc;rw[e,List.getElem?_append_left (List.getElem?_eq_some_iff.mp h).1];exact h
theorem Qvd{H H1 n:Hp}{d q:Gc}{S:List Gc}{m:Nat}{ts:List Th}{k:List Xh}{kvs:List (List Xh×V)}{C:V}(x:Nrr H d S m ts)(f:H d=Ga (.dT kvs))(F:Qv H H1)(I:H1 q=Ge)
  (i:(Yq kvs k=Ga C/\n=upd H1 q (.lst []))\/(Yq kvs k=Ge/\C=.ref q/\n=upd (upd H1 q (.lst [])) d (.dT (kvs++[(k,.ref q)])))):
  ∃l S1,C=.ref l/\l∈S1/\Nrr n d S1 (m+1) ts/\(∀b∈S,b∈S1)/\(∀b∈S1,b∈S\/H b=Ge)/\(∀b o,H b=Ga o->b≠d->n b=Ga o)/\(∀b,n b=Ge->H b=Ge):=by
 have a:=F.trans (Qf I (.lst []));have B:H q=Ge:=F.free I;obtain⟨kvs',n1,n2,n3⟩:=x.at_;rw[f]at n1;cases n1;rcases i with⟨L,rfl⟩|⟨K,rfl,rfl⟩
 ·obtain⟨l,g,rfl⟩:=n3 _ _ L;exact⟨l,S,Xb,g,x.keep (a _) (λl _=>a l) (Qp.of a) (λ_ _ h=>h) (D9 _),λ_ h=>h,λ_ h=>.inl h,λb o e _=>a _ _ e,λb h=>a.free h⟩
 ·have r:=a _ _ f;have s:(upd H1 q (.lst [])) q=Ga (.lst []):=Qb;have A:q≠d:=Zw s r (by intro z;cases z);have P:Qp (upd H1 q (.lst [])) (upd (upd H1 q (.lst [])) d (.dT (kvs++[(k,.ref q)]))):=Zh λxs e=>by rw[r]at e;cases e
  have u:Qp H (upd (upd H1 q (.lst [])) d (.dT (kvs++[(k,.ref q)]))):=λb xs e=>P b xs (a _ _ e);refine⟨q,q::S,Xb,List.mem_cons_self,⟨⟨_,Qb,by rw[List.length_append,List.length_singleton];omega,λw Q e=>?_⟩,λl g=>?_⟩,λb hb=>List.mem_cons_of_mem _ hb,λb hb=>?_,λb o e hb=>by rw[Qg hb];exact a _ _ e,λb hb=>?_⟩
  ·rw[Qan (κ:=List Xh) k w _ kvs K]at e;by_cases G:w=k
   ·rw[Gk G]at e;cases e;exact⟨q,List.mem_cons_self,Xb⟩
   ·rw[Gg G]at e;obtain⟨l,g,E⟩:=n3 _ _ e;exact⟨l,List.mem_cons_of_mem _ g,E⟩
  ·rcases List.mem_cons.mp g with rfl|g
   ·exact⟨[],by rw[Qg A];exact s,Gv _,λe y=>nomatch y⟩
   ·obtain⟨es,D,E,J⟩:=x.ls l g;refine⟨es,?_,by omega,λe y=>?_⟩
    ·rw[Qg (Zw D f (by intro z;cases z))];exact a _ _ D
    ·obtain⟨c,v,j,t,M,w,N,O⟩:=J e y;exact⟨c,v,j,t,M,u _ _ w,N.Qk u,O⟩
  ·rcases List.mem_cons.mp hb with rfl|hb
   ·exact .inr B
   ·exact .inl hb
  ·by_cases p:b=d
   ·subst p;rw[Qb]at hb;cases hb
   ·rw[Qg p]at hb;exact a.free hb
end Sb
namespace K07
open PySem L2 Sb
variable{C:Gc}{fd:Td}
section
variable{P:Gj}{w:Gs}{K:PySem.W.Frag}{mg:Gy->Option Value}{base:Heap}
theorem Qev:Qy ["self","thing","near","met","twin","place","parts","part","new_place"] ["self","thing","near"] (Ql Ig):=by eq_refl
theorem Qoq{n:Nat}{f0 fT fB:Gc}{aC aB:Td}(F:Va K "place_within" "Places.place_within" Ig f0 fd)(T:Qc9 K mg C)(B:Ik mg)(mP:Yc K C "place_within" f0)(bP:Binds K fd ["self","thing","near"] [])
  (G:Qt P w K mg base Ya (n+1) f0 fd ["self","thing","near"] (Ul P w C n))(GT:Qt P w K mg base Ya 1 fT aC ["thing"] Qr3)(kT:KI K fT)(bT:Binds K aC ["thing"] [])(mT:MG mg "top_words" fT)
  (mB:Yc K C "place_by_form" fB)(GB:Qt P w K mg base Ya 1 fB aB ["self","thing","form"] (Qdp P w C))(bB:Binds K aB ["self","thing","form"] []):
  Qt P w K mg base Ya (n+2) f0 fd ["self","thing","near"] (Ul P w C (n+1)):=by
 refine F.ok Qev (λvs H Q E h=>?_) (λcdv A outer s H vs Q E hr h=>?_)
 ·obtain⟨p,dn,v,t,a,f,d,S,m,ts,rfl,_⟩:=h;rfl
 obtain⟨p,dn,v,t,a,f,d,S,m,ts,rfl,x,xn,aS,fS,ht,Zu,a9,ba,hm,be,q⟩:=h;have hu:=hr.units;have aI:Yd 1 _:=hr.mono (by omega);have nd:=Qev.nd;refine⟨_,Qd (Qs 3 nd (Xn PySem.F.plainAttrs_dict PySem.F.slot_dict_setdefault PySem.F.type_dict_setdefault (Qk7 (Ut hr)) (pv 2) (Qa (Zv GT aI rfl mT kT bT .nil Q4 (Qa (pv 1) Qe)) (Qa (Zj Qe) Qe))))
  (Qd (Z6 Gq rfl (Yn (pv 3)) (Vf rfl (Zm (Z2 4 nd) (Zm (Z2 5 nd) Wb)))
   (Qh (Zr (Qu (Qpl hu) (pv 4) (pv 1) (Za _)) (Qh (Qx (pv 5))) Q9)))
  (Qd (Qs 6 nd (Zj Qe))
  (Qd (Z6 Gq rfl (Ue (Yp Jd (pv 1) (Y2 Qj) Xw)) (Z2 7 nd)
   (Qh (Zc (Xn PySem.F.plainAttrs_list PySem.F.slot_list_append PySem.F.type_list_append Zq (pv 6) (Qa (Zd (pv 0) T.cl mP G hr bP .nil Q4 (Qa (pv 7) (Qa (pv 2) Qe))) Qe)))))
  (Qd (Qs 8 nd (Zd (pv 0) T.cl mB GB aI bB .nil Q4 (Qa (pv 1) (Qa (Q8 (Qa (Qn Q3 (pv 1) Qj) (Qa (Xt X5 rfl B.tuple Tz (Qa (pv 6) Qe)) Qe))) Qe))))
  (Qd (Zc (Xn PySem.F.plainAttrs_list PySem.F.slot_list_append PySem.F.type_list_append Zq (pv 3) (Qa (Q8 (Qa (pv 1) (Qa (pv 8) Qe))) Qe)))
  (Qh (Qx (pv 8)))))))),?_⟩
 have sp:=Om t;obtain⟨kvs,I,kv2,_⟩:=xn.at_;refine⟨_,Xb,.inr (.inr (.inl ⟨Xb,.inr ⟨kvs,I⟩⟩)),_,Xb,v,t,Xb,ht,by omega,λr H1 g1 h1=>⟨Gv _,λq1 al=>?_⟩⟩;have g2:=g1.trans (Qf al (.lst []));refine⟨dn,r,.ref q1,kvs,Quk t,Xb,Xb,g2 _ _ I,(Qf al (.lst [])) _ _ h1,by rw[Gu];omega,λnv H3 ab=>?_⟩;obtain⟨l,S1,rfl,lS,L,aT,aq,U,bp⟩:=Qvd xn I g1 al ab;clear ab g2 h1 g1 al;have t3:Qp H H3:=λb xs e=>U b _ e (Zw e I (by intro z;cases z));have am:=ht.Qk t3;have x3:Pl P w C H3 p a f d ts:=by obtain⟨dx,o1⟩:=x.ob;obtain⟨us,u1,_⟩:=x.th;obtain⟨ws,w1,_⟩:=x.fo;obtain⟨kv,D,_⟩:=x.kn;exact x.keep (λo e=>U _ _ e (Zw o1 I (by intro z;cases z))) (λo e=>U _ _ e (Zw u1 I (by intro z;cases z))) (λo e=>U _ _ e (Zw w1 I (by intro z;cases z))) (λo e=>U _ _ e (Zw D.at_ I (by intro z;cases z))) t3
 have ap:∀c,c∉S->H c≠Ge->c∉S1:=λc h1 h2 z=>by
  rcases aq c z with z|z
  ·exact h1 z
  ·exact h2 z
 have aW:a∉S1:=ap a aS (by obtain⟨us,u1,_⟩:=x.th;rw[u1];intro z;cases z);have a3:f∉S1:=ap f fS (by obtain⟨us,u1,_⟩:=x.fo;rw[u1];intro z;cases z);have F3:Fra a f d dn S S1 H H3:=⟨λb o e _ _ _ h4 _=>U b o e h4,aq,aT,bp⟩;obtain⟨es,hl,bE,a0⟩:=L.ls l lS;refine⟨_,Xb,l,Xb,⟨_,Zb.of hl⟩,Yz (K:=K) (a:=l) (xs:=es) (λi σ Y=>Y=H3/\∃x4 x5,σ=[Ga (.ref p),Ga v,Ga (.ref dn),Ga (.ref l),x4,x5,Ge,Ge,Ge])
  ⟨Xb,_,_,Xb⟩ (λi σ Y _⟨e,_⟩=>by rw[e];exact Zb.of hl) ?_ ?_⟩
 ·rintro i y σ Y hi ⟨rfl,x4,x5,rfl⟩;obtain⟨c,v2,j,t2,rfl,hc,bf,ej⟩:=a0 y (List.mem_of_getElem? hi);have aN:=x3.ok _ (List.mem_of_getElem? ej);refine⟨c,_,Xb,Z4.of hc,Xb,v2,_,Xb,jv j,_,Xb,Xb,_,Xb,_,Xb,_,_,bf.dt,am.dt,Qgo _ aN.1,Qgo _ Zu,?_,_,Xb,?_⟩
  ·rw[Iw,Iw];have:=aN.2;omega
  rw[Quw];by_cases aG:t2=t
  ·subst aG;rw[GQ rfl];refine Xf ?_;have e:=Qtt x.cl (List.mem_of_getElem? ej);exact⟨_,Xb,q j S1 Y (by rw[e];exact x3) (by rw[e];exact L.keep (λ_ h=>h) (λ_ _ _ h=>h) (λ_ _ h=>h) (λ_ _ h=>h) (by omega)) (by rw[e];exact ej) F3⟩
  ·rw[Gx aG];exact Zz ⟨Xb,_,_,Xb⟩
 ·rintro σ Y ⟨rfl,x4,bq,rfl⟩;obtain⟨b0,wd,vs,ps,rfl,rfl,aD,aH⟩:=am.inv;simp only[Th.size,Th.depth]at hm be a9 ba;have aO:okL ps=Gf:=by simp only[Th.ok,GO]at Zu;exact Zu.2
  have bh:=aH.length;have bF:=Zi ps;refine⟨Gv _,λu g=>?_⟩;have s4:=Qf g (.lst []);refine⟨_,Xb,_,Xb,b0,_,Xb,Z4.of (s4 _ _ aD),Vc _ _,λr2 aJ=>?_⟩;rw[Qf9];have s5:=Qf aJ (.tup vs);have az:=s4.trans s5;have q5:=s5 _ _ (@Qb Y u (.lst []));have r5:=@Qb (upd Y u (.lst [])) r2 (.tup vs);have bc:u≠r2:=Qc Qb aJ;have x5:=x3.same az;have br:=L.same az;generalize bA:upd (upd Y u (.lst [])) r2 (.tup vs)=H5 at*;obtain⟨bG,aU,bx⟩:=x3.th;obtain⟨bH,a5,_⟩:=x3.fo;obtain⟨bv,D3,_⟩:=x3.kn;obtain⟨bt,aY,_⟩:=L.at_;have aP:u≠a:=λz=>by rw[z,aU]at g;cases g
  have aQ:u≠f:=λz=>by rw[z,a5]at g;cases g
  have bn:u≠d:=λz=>by rw[z,D3.at_]at g;cases g
  have aR:u≠dn:=λz=>by rw[z,aY]at g;cases g
  have bm:u∉S1:=λz=>by obtain⟨xs,h,_⟩:=L.ls _ z;rw[h]at g;cases g
  refine⟨r2,Xb,⟨_,Z4.of r5⟩,Qgr (K:=K) (a:=r2) (xs:=vs) (λi σ M=>∃(S6:List Gc)(N:List Nat)(x5:Option V),σ=[Ga (.ref p),Ga (.ref b0),Ga (.ref dn),Ga (.ref l),x4,bq,Ga (.ref u),x5,Ge]/\Pl P w C M p a f d (Xo ts (Zp (ps.take i)))/\Nrr M dn S6 (m+1+2*Qr (ps.take i)) (Xo ts (Zp (ps.take i)))/\Fra a f d dn S1 S6 Y M/\u∉S6/\a∉S6/\f∉S6/\M u=Ga (.lst (N.map jv))/\N.length=i/\(∀(k j:Nat),N[k]?=Ga j->∃s,ps[k]?=Ga s/\(Xo ts (Zp (ps.take i)))[j]?=Ga s)/\M r2=Ga (.tup vs))
   ⟨S1,[],_,Xb,?_,?_,Fra.of az,bm,aW,a3,q5,Xb,λk j h=>by simp at h,r5⟩ (λi σ M _⟨_,_,_,_,_,_,_,_,_,_,_,_,_,h⟩=>Z4.of h) ?_ ?_⟩
  ·simp only[List.take_zero,Zp,Ic];exact x5
  ·simp only[List.take_zero,Zp,Qr,Ic,Nat.mul_zero,SY];exact br
  ·rintro i y σ M hi ⟨S6,N,bs,rfl,O,J,F6,ac,Z,aa,q6,lw,aj,r6⟩;have bC:i<vs.length:=(List.getElem?_eq_some_iff.mp hi).1;obtain⟨ty,ah,hy⟩:=aH.get hi;have ao:ty∈ps:=List.mem_of_getElem? ah;have m1:=Qd6 ps i ty ah;have m2:=Wy ao;have m3:=Wx ps (i+1);have bl:ty.ok=Gf:=by rw[I8,List.all_eq_true]at aO;exact aO ty ao
   have t6:Qp Y M:=F6.Qk x3 L;obtain⟨au,o6⟩:=O.ob;have R:=Qc1 (Zp (ps.take i)) ts;rw[Ua]at R;refine⟨_,Xb,.inl ⟨Xb,_,Zb.of q6⟩,_,Xb,p,au,_,Xb,o6,Qeu _ _ _,_,Xb,_,Xb,p,dn,y,ty,a,f,d,S6,_,_,Xb,O,J,Z,aa,hy.Qk t6,bl,by omega,by omega,by omega,by omega,λj S7 H7 x7 aA e7 F7=>?_⟩;have q7:H7 u=Ga (.lst (N.map jv)):=F7.keep _ _ q6 aP aQ bn aR ac;have ay:∀c,c∉S6->M c≠Ge->c∉S7:=λc h1 h2 z=>by
    rcases F7.own c z with z|z
    ·exact h1 z
    ·exact h2 z
   have ar:u∉S7:=ay u ac (by rw[q6];intro z;cases z);obtain⟨aV,ae,_⟩:=O.th;obtain⟨bI,a6,_⟩:=O.fo;have aX:a∉S7:=ay a Z (by rw[ae];intro z;cases z);have a4:f∉S7:=ay f aa (by rw[a6];intro z;cases z);refine⟨u,N.map jv,jv j,Xb,Xb,q7,by rw[List.length_map,Gu];omega,?_⟩;have r7:H7 r2=Ga (.tup vs):=F7.Qk O J _ _ r6;have eS:Xo (Xo ts (Zp (ps.take i))) ty.inside=Xo ts (Zp (ps.take (i+1))):=by rw[Qge ps i ty ah,Uc]
   rw[eS]at x7 aA e7;have eM:m+1+2*Qr (ps.take i)+2*ty.size=m+1+2*Qr (ps.take (i+1)):=by omega
   rw[eM]at aA;refine⟨S7,N++[j],_,Xb,x7.but q7 aP aQ,?_,?_,ar,aX,a4,?_,by rw[List.length_append,List.length_singleton,lw],λk j' hk=>?_,?_⟩
   ·refine aA.keep (λo e=>?_) (λb hb o e=>?_) (Zh λxs e=>by rw[q7]at e;cases e) (λ_ _ h=>h) (Gm _)
    ·rw[Qg (Gn aR)];exact e
    ·rw[Qg (show b≠u fromλz=>ar (by rw[<-z];exact hb))];exact e
   ·have ag:=F6.trans F7;refine⟨λb o e h1 h2 h3 h4 h5=>?_,ag.own,ag.sub,λb hb=>?_⟩
    ·rw[Qg (Qc e g)];exact ag.keep b o e h1 h2 h3 h4 h5
    ·by_cases aF:b=u
     ·subst aF;rw[Qb]at hb;cases hb
     ·rw[Qg aF]at hb;exact ag.there b hb
   ·rw[Qb,List.map_append];rfl
   ·rcases Tb k N.length with ax|ax
    ·rw[List.getElem?_append_left ax]at hk;obtain⟨s0,h1,h2⟩:=aj k j' hk;refine⟨s0,h1,?_⟩;rw[<-eS];exact Qc8 h2
    ·rw[List.getElem?_append_right ax]at hk;have h0:k - N.length=0:=by have:=(List.getElem?_eq_some_iff.mp hk).1;simp at this;omega
     rw[h0]at hk;simp at hk;subst hk;have:k=i:=by omega
     subst this;exact⟨ty,ah,e7⟩
   ·rw[Qg (Gn bc)];exact r7
  ·rintro σ M ⟨S6,N,bs,rfl,O,J,F6,ac,Z,aa,q6,lw,aj,r6⟩;have ep:ps.take vs.length=ps:=by rw[bh,List.take_length]
   rw[ep]at O J aj;have t6:Qp Y M:=F6.Qk x3 L;have a7:=t6 _ _ aD;obtain⟨au,o6⟩:=O.ob;have bg:=Qc1 (Zp ps) ts;rw[Ua]at bg;have an:=F6.sub l lS;have pin:∀s0∈ps,s0∈Xo ts (Zp ps):=λs0 bd=>(Qcd _ _ _).mpr (.inr (by rw[Xq,List.mem_flatMap];exact⟨s0,bd,Qlo s0⟩));have a1:N=ps.map λs0=>(Xo ts (Zp ps)).idxOf s0:=by
    refine List.ext_getElem? λk=>?_;rw[List.getElem?_map];cases e:N[k]? with
    |none=>
     have:N.length<=k:=by simpa using e
     rw[List.getElem?_eq_none (by omega)];rfl
    |some j0=>obtain⟨s0,h1,h2⟩:=aj k j0 e;rw[h1,TQ,R6 O.nd h2]
   refine⟨_,Xb,p,au,_,Xb,o6,Qu7 _ _ _,_,Xb,_,Xb,b0,_,_,.str wd,Xb,Xb,Z4.of a7,Rv _ _,_,Xb,u,_,Xb,.inl ⟨Zb.of q6,λe0 bb=>?_⟩⟩;have s6:=Qf bb (.tup (N.map jv));refine⟨by show 2<=Gh;decide,λc0 a8=>?_⟩;have s7:=Qf a8 (.tup [.str wd,.ref e0]);have ad:=s6.trans s7;refine⟨p,c0,.ref b0,.mk wd ps,a,f,d,_,Xb,O.same ad,(am.Qk t6).same ad,Zu,by simp only[Th.depth];omega,pin,⟨c0,e0,Xb,Qb,?_⟩,by omega,λj H8 x8 e8 F8=>?_⟩
   ·rw[s7 _ _ Qb,a1];rfl
   have eD:Xo ts (Th.mk wd ps).inside=if Th.mk wd ps∈Xo ts (Zp ps)then Xo ts (Zp ps)else Xo ts (Zp ps)++[Th.mk wd ps]:=by
    have e:(Th.mk wd ps).inside=Zp ps++[Th.mk wd ps]:=by simp[Th.inside]
    rw[e,Qo0]
   rw[<-eD]at x8 e8;have bo:Qp M H8:=λb xs e=>(F8.Qk (O.same ad)) b xs (ad _ _ e);have X:Fr3 a f d M H8:=(Fr3.of ad).trans F8;obtain⟨av,R,bD,aZ⟩:=J.ls l an;have aL:l≠a:=λz=>Z (z▸an);have aM:l≠f:=λz=>aa (z▸an);obtain⟨bw,D6,_⟩:=O.kn;obtain⟨bu,bz,_⟩:=J.at_;have bk:l≠d:=Zw R D6.at_ (by intro z;cases z);have ak:=X.keep _ _ R aL aM bk;refine⟨_,Xb,.inl ⟨Xb,_,Zb.of ak⟩,_,Xb,_,Xb,by show 2<=Gh;decide,λc9 aw=>?_⟩;have s9:=Qf aw (.tup [.ref b0,jv j]);refine⟨l,av,.ref c9,Xb,Xb,s9 _ _ ak,by rw[Gu];omega,?_⟩;have x9:=x8.same s9;have sE:(Th.mk wd ps).size=Qr ps+1:=by simp[Th.size]
   have af:Qp M (upd (upd H8 c9 (.tup [.ref b0,jv j])) l (.lst (av++[.ref c9]))):=λb xs e=>by rw[Qg (Zw e R (by intro z;cases z))];exact s9 _ _ (bo _ _ e)
   have aK:(upd (upd H8 c9 (.tup [.ref b0,jv j])) l (.lst (av++[.ref c9]))) c9=Ga (.tup [.ref b0,jv j]):=by rw[Qg (λz=>by rw[z,ak]at aw;cases aw),Qb]
   refine⟨_,Xb,q j S6 _ (x9.but (s9 _ _ ak) aL aM) ⟨?_,λb hb=>?_⟩ e8 ?_⟩
   ·obtain⟨kv,k1,k2,k3⟩:=J.at_;refine⟨kv,?_,by rw[sE];omega,k3⟩;rw[Qg (Zw k1 R (by intro z;cases z))];have bi:dn≠a:=λz=>by obtain⟨aV,ae,_⟩:=O.th;exact Zw k1 ae (by intro z;cases z) z
    have bj:dn≠f:=λz=>by obtain⟨aV,ae,_⟩:=O.fo;exact Zw k1 ae (by intro z;cases z) z
    exact s9 _ _ (X.keep _ _ k1 bi bj (Zw k1 D6.at_ (by intro z;cases z)))
   ·by_cases ai:b=l
    ·subst ai;refine⟨_,Qb,by rw[List.length_append,List.length_singleton,sE];omega,λe he=>?_⟩;rcases List.mem_append.mp he with he|he
     ·obtain⟨c,v,j0,t0,k1,k2,k3,k4⟩:=aZ e he;refine⟨c,v,j0,t0,k1,af _ _ k2,k3.Qk af,?_⟩;have e:(Th.mk wd ps).inside=Zp ps++[Th.mk wd ps]:=by simp[Th.inside]
      rw[e,Uc];exact Qc8 k4
     ·rw[List.mem_singleton]at he;subst he;exact⟨c9,.ref b0,j,_,Xb,aK,(am.Qk t6).Qk af,e8⟩
    ·obtain⟨a2,k1,k2,k3⟩:=J.ls b hb;refine⟨a2,?_,by rw[sE];omega,λe he=>?_⟩
     ·rw[Qg ai];exact s9 _ _ (X.keep _ _ k1 (λz=>Z (z▸hb)) (λz=>aa (z▸hb)) (Zw k1 D6.at_ (by intro z;cases z)))
     ·obtain⟨c,v,j0,t0,k4,k5,k6,k7⟩:=k3 e he;refine⟨c,v,j0,t0,k4,af _ _ k5,k6.Qk af,?_⟩;have e:(Th.mk wd ps).inside=Zp ps++[Th.mk wd ps]:=by simp[Th.inside]
      rw[e,Uc];exact Qc8 k7
   ·have W:=F3.trans F6;refine⟨λb o e h1 h2 h3 h4 h5=>?_,W.own,W.sub,λb hb=>?_⟩
    ·have e9:=W.keep b o e h1 h2 h3 h4 h5;have ai:b≠l:=λz=>by
      rcases W.own l an with w1|w1
      ·exact h5 (z▸w1)
      ·rw[<-z,e]at w1;cases w1
     rw[Qg ai];exact s9 _ _ (X.keep _ _ e9 h1 h2 h3)
    ·refine W.there b (X.there b ?_);by_cases aE:b=l
     ·subst aE;rw[Qb]at hb;cases hb
     ·rw[Qg aE]at hb;exact s9.free hb
theorem Qu9{f:Gc}:Qt P w K mg base Ya 1 f fd ["self","thing","near"] (Ul P w C 0):=by
 have no:∀vs H Q E,¬Ul P w C 0 vs H Q E:=λvs H Q E h=>by obtain⟨p,b,v,t,a,f,d,S,m,ts,_,_,_,_,_,_,_,h1,_⟩:=h;have:=Qag t;omega
 exact⟨λvs H Q E h=>absurd h (no vs H Q E),λA outer s H args us vs Q E _ _ _ _ h=>absurd h (no vs H Q E)⟩
theorem Qdn{c d i C:Gc}{fd b a:Td}(F:Va K "place_within" "Places.place_within" Ig c fd)(T:Qc9 K mg C)(B:Ik mg)(l:Yc K C "place_within" c)(g:Binds K fd ["self","thing","near"] [])
  (GT:Qt P w K mg base Ya 1 d b ["thing"] Qr3)(j:KI K d)(h:Binds K b ["thing"] [])(m:MG mg "top_words" d)
  (k:Yc K C "place_by_form" i)(e:Qt P w K mg base Ya 1 i a ["self","thing","form"] (Qdp P w C))(f:Binds K a ["self","thing","form"] []):∀n:Nat,Qt P w K mg base Ya (n+1) c fd ["self","thing","near"] (Ul P w C n)
 |0=>Qu9
 |n+1=>Qoq F T B l g (Qdn F T B l g GT j h m k e f n) GT j h m k e f
theorem Qns:Qy ["self","thing"] ["self","thing"] (Ql Oq):=by eq_refl
theorem Qk8{n r:Gc}{c:Td}(F:Va K "place_of" "Places.place_of" Oq n fd)(T:Qc9 K mg C)(M:Yc K C "place_within" r)(u:Binds K c ["self","thing","near"] [])
  (G:Qt P w K mg base Ya 51 r c ["self","thing","near"] (Ul P w C 50)):Qt P w K mg base Ya 52 n fd ["self","thing"] (Qe6 P w C):=by
 refine F.ok Qns (λvs H Q E h=>?_) (λcdv A outer s H vs Q E I h=>?_)
 ·obtain⟨p,v,t,a,f,d,ts,rfl,_⟩:=h;rfl
 obtain⟨p,v,t,a,f,d,ts,rfl,x,J,Zu,i,L,q⟩:=h;refine⟨_,Qh (Qx (Zd (pv 0) T.cl M G I u .nil Q4 (Qa (pv 1) (Qa Qdf Qe)))),?_⟩;obtain⟨dx,N⟩:=x.ob;refine⟨_,Xb,p,dx,_,Xb,N,Qeu _ _ _,_,Xb,λy g=>?_⟩;have s1:=Qf g (.dT []);refine⟨p,y,v,t,a,f,d,[],0,ts,Xb,x.same s1,⟨⟨[],Qb,Gm _,λk v e=>by rw[Qhf]at e;cases e⟩,λl D=>nomatch D⟩,by simp,by simp,J.same s1,Zu,i,i,by omega,by omega,λj R H' O S z m=>?_⟩;refine q j H' O z ⟨λb o e h1 h2 B=>m.keep b o (s1 _ _ e) h1 h2 B (Qc e g) (by simp),λb hb=>s1.free (m.there b hb)⟩
end
end K07
namespace Nt
variable{up:Nat->Option Nat}{p a b m n q x lo hi:Nat}{l S cl:List Nat}
inductive Ch(up:Nat->Option Nat):Nat->List Nat->Prop
 |top {p:Nat}:up p=Ge->Ch up p [p]
 |step {p q:Nat} {l:List Nat}:up p=Ga q->Ch up q l->Ch up p (p::l)
theorem Ch.uniq{up:Nat->Option Nat}:∀{p:Nat}{l m:List Nat},Ch up p l->Ch up p m->l=m
 |_,_,_,.top e,.top _=>rfl
 |_,_,_,.top e,.step f _=>by rw[e]at f;cases f
 |_,_,_,.step e _,.top f=>by rw[e]at f;cases f
 |_,_,_,.step e h,.step f k=>by rw[e]at f;cases f;rw[Ch.uniq h k]
theorem Ch.ne(h:Ch up p l):l≠[]:=by cases h<;>simp
theorem Ch.head(h:Ch up p l):∃r,l=p::r:=by cases h<;>exact⟨_,Xb⟩
theorem Ch.suffix{up:Nat->Option Nat}:∀{p:Nat}{l a:List Nat}{z:Nat}{b:List Nat},Ch up p l->l=a++z::b->Ch up z (z::b)
 |p,_,[],z,b,h,e=>by simp only[List.nil_append]at e;obtain⟨r,c⟩:=h.head;rw[e]at c;cases c;rw[<-e];exact h
 |p,_,x::a,z,b,.top _,e=>by simp at e
 |p,_,x::a,z,b,.step f h,e=>by simp only[List.cons_append,List.cons.injEq]at e;exact Ch.suffix h e.2
theorem Ch.nodup{up:Nat->Option Nat}:∀{p:Nat}{l:List Nat},Ch up p l->l.Nodup
 |_,_,.top _=>by simp
 |p,_,.step (l:=l) e h=>by rw[List.nodup_cons];refine⟨λc=>?_,h.nodup⟩;obtain⟨a,b,rfl⟩:=List.append_of_mem c;have h1:=h.suffix rfl;have h2:Ch up p (p::(a++p::b)):=.step e h;have:=congrArg List.length (h1.uniq h2);simp at this;omega
def Zx(l:List Nat):Nat:=l.getLastD 0
theorem Qaz(h:l≠[]):Zx (p::l)=Zx l:=by
 cases l with
 |nil=>exact absurd rfl h
 |cons x r=>simp[Zx,List.getLastD]
theorem Qsa{a b:List Nat}(h:b≠[]):Zx (a++b)=Zx b:=by
 induction a with
 |nil=>rfl
 |cons x r c=>rw[List.cons_append,Qaz (by simp[h]),c]
theorem Ch.Oo{z:Nat}(h:Ch up p l)(hz:z∈l):∃m,Ch up z m/\Zx m=Zx l:=by obtain⟨a,b,rfl⟩:=List.append_of_mem hz;exact⟨z::b,h.suffix Xb,by rw[Qsa (by simp)]⟩
def Qcy(up:Nat->Option Nat)(p:Nat)(v:Nat):Nat->Option Nat:=λq=>if q=p then Ga v else up q
def Xp(up:Nat->Option Nat):Nat->List Nat->(Nat->Option Nat)
 |_,[]=>up
 |over,c::r=>Xp (Qcy up c over) c r
theorem Up:∀{l:List Nat}{up:Nat->Option Nat}{over q:Nat},q∉l->Xp up over l q=up q
 |[],_,_,_,_=>rfl
 |c::r,up,over,q,h=>by simp only[List.mem_cons,not_or]at h;show Xp (Qcy up c over) c r q=_;rw[Up h.2];unfold Qcy;rw[Gg h.1]
theorem Ch.Qdw{up:Nat->Option Nat}{low:List Nat}{over:Nat}:∀{p:Nat}{l:List Nat},Ch up p l->(∀z∈l,z∉low)->Ch (Xp up over low) p l
 |p,_,.top e,h=>.top (by rw[Up (h p (by simp))];exact e)
 |p,_,.step e k,h=>.step (by rw[Up (h p (by simp))];exact e) (Ch.Qdw k λz hz=>h z (by simp[hz]))
theorem Qgj:∀{low:List Nat}{up:Nat->Option Nat}{over:Nat}{m:List Nat},low.Nodup->Ch (Xp up over low) over m->∀z∈low,∃l,Ch (Xp up over low) z l/\Zx l=Zx m
 |[],_,_,_,_,_,z,hz=>by simp at hz
 |c::r,up,over,m,nd,b,z,hz=>by
  rw[List.nodup_cons]at nd;have d:Xp up over (c::r) c=Ga over:=by show Xp (Qcy up c over) c r c=_;rw[Up nd.1];unfold Qcy;rw[Gk rfl]
  have h1:Ch (Xp up over (c::r)) c (c::m):=.step d b;have a:Zx (c::m)=Zx m:=Qaz b.ne;rcases List.mem_cons.mp hz with rfl|hz
  ·exact⟨_,h1,a⟩
  ·obtain⟨l,e,f⟩:=Qgj (low:=r) (up:=Qcy up c over) (over:=c) (m:=c::m) nd.2 h1 z hz;exact⟨l,e,by rw[f,a]⟩
theorem Qr4{low:List Nat}{over:Nat}{m:List Nat}(nd:low.Nodup)(d:Ch (Xp up over low) over m):∀{p:Nat}{l:List Nat},Ch up p l->(∃z∈l,z∈low)->∃b,Ch (Xp up over low) p b/\Zx b=Zx m:=by
 intro p l h;induction h with
 |@top p e=>rintro⟨z,hz,a⟩;simp at hz;subst hz;exact Qgj nd d _ a
 |@step p q l e k g=>
  rintro⟨z,hz,a⟩;by_cases c:p∈low
  ·exact Qgj nd d p c
  ·rcases List.mem_cons.mp hz with rfl|hz
   ·exact absurd a c
   ·obtain⟨b,f,i⟩:=g ⟨z,hz,a⟩;exact⟨p::b,.step (by rw[Up c];exact e) f,by rw[Qaz f.ne,i]⟩
theorem Qdj:∀{l:List Nat}{up:Nat->Option Nat}{over p q:Nat},l.Nodup->Xp up over l p=Ga q->up p=Ga q\/(∃r,l=p::r/\q=over)\/∃a b,l=a++q::p::b
 |[],_,_,_,_,_,h=>.inl h
 |c::r,up,over,p,q,nd,h=>by
  rw[List.nodup_cons]at nd;have h:Xp (Qcy up c over) c r p=Ga q:=h;rcases Qdj nd.2 h with h|⟨d,rfl,rfl⟩|⟨a,b,rfl⟩
  ·unfold Qcy at h;by_cases e:p=c
   ·rw[Gk e]at h;cases h;subst e;exact .inr (.inl ⟨r,Xb,Xb⟩)
   ·rw[Gg e]at h;exact .inl h
  ·exact .inr (.inr ⟨[],d,Xb⟩)
  ·exact .inr (.inr ⟨c::a,b,Xb⟩)
theorem Ch.Qef{up:Nat->Option Nat}:∀{a:List Nat}{p x y:Nat}{b l:List Nat},Ch up p l->l=a++x::y::b->up x=Ga y
 |[],p,x,y,b,_,.top _,e=>by simp at e
 |[],p,x,y,b,_,.step f h,e=>by simp only[List.nil_append,List.cons.injEq]at e;obtain⟨rfl,rfl⟩:=e;obtain⟨r,c⟩:=h.head;cases c;exact f
 |z::a,p,x,y,b,_,.top _,e=>by simp at e
 |z::a,p,x,y,b,_,.step f h,e=>by simp only[List.cons_append,List.cons.injEq]at e;exact Ch.Qef h e.2
variable{α:Type}
inductive Cn(ls:List (Nat×Nat×α)):Nat->Nat->Prop
 |refl (p:Nat):Cn ls p p
 |symm {p q:Nat}:Cn ls p q->Cn ls q p
 |trans {p q r:Nat}:Cn ls p q->Cn ls q r->Cn ls p r
 |link {p q:Nat} {r:α}:(p,q,r)∈ls->Cn ls p q
theorem Cn.mono{ls a:List (Nat×Nat×α)}(h:∀x∈ls,x∈a):∀{p q:Nat},Cn ls p q->Cn a p q:=by
 intro p q c;induction c with
 |refl p=>exact .refl p
 |symm _ b=>exact .symm b
 |trans _ _ i1 i2=>exact .trans i1 i2
 |link m=>exact .link (h _ m)
theorem Cn.Qov{ls:List (Nat×Nat×α)}(h:m<=n)(c:Cn (ls.take m) p q):Cn (ls.take n) p q:=
 c.mono λx a=>by
  have:ls.take m=(ls.take n).take m:=by rw[List.take_take,Eu h]
  rw[this]at a;exact List.mem_of_mem_take a
structure Fst(S:List Nat)(ls:List (Nat×Nat×α))(Y1:Nat->Nat->Option Nat)(up:Nat->Option Nat):Prop where
 Qef:∀p q,up p=Ga q->∃n,Y1 p q=Ga n
 Qgm:∀p q n,Y1 p q=Ga n->∃r,ls[n]?=Ga (p,q,r)\/ls[n]?=Ga (q,p,r)
 all:∀(n p q:Nat)r,ls[n]?=Ga (p,q,r)->Y1 p q=Ga n/\Y1 q p=Ga n
 sep:∀(n p q:Nat)r,ls[n]?=Ga (p,q,r)->¬Cn (ls.take n) p q
 chain:∀p∈S,∃l,Ch up p l
 inS:∀p q,up p=Ga q->p∈S/\q∈S
theorem Fst.Qck{ls:List (Nat×Nat×α)}{Y1:Nat->Nat->Option Nat}(F:Fst S ls Y1 up)(h:Y1 p q=Ga n):Y1 q p=Ga n:=by
 obtain⟨r,h|h⟩:=F.Qgm p q n h
 ·exact(F.all _ _ _ _ h).2
 ·exact(F.all _ _ _ _ h).1
inductive Pth(Y1:Nat->Nat->Option Nat):Nat->List Nat->Nat->Prop
 |nil (p:Nat):Pth Y1 p [] p
 |cons {p q r n:Nat} {ns:List Nat}:Y1 p q=Ga n->Pth Y1 q ns r->Pth Y1 p (n::ns) r
theorem Pth.app{Y1:Nat->Nat->Option Nat}:∀{p q r:Nat}{a b:List Nat},Pth Y1 p a q->Pth Y1 q b r->Pth Y1 p (a++b) r
 |_,_,_,_,_,.nil _,k=>k
 |_,_,_,_,_,.cons e h,k=>.cons e (h.app k)
theorem Pth.rev{Y1:Nat->Nat->Option Nat}(b:∀p q n,Y1 p q=Ga n->Y1 q p=Ga n):∀{p q:Nat}{a:List Nat},Pth Y1 p a q->Pth Y1 q a.reverse p
 |_,_,_,.nil _=>.nil _
 |_,_,_,.cons e h=>by rw[List.reverse_cons];exact(h.rev b).app (.cons (b _ _ _ e) (.nil _))
theorem Pth.split{Y1:Nat->Nat->Option Nat}{n:Nat}{b:List Nat}:∀{a:List Nat}{p q:Nat}{l:List Nat},Pth Y1 p l q->l=a++n::b->∃x y,Pth Y1 p a x/\Y1 x y=Ga n/\Pth Y1 y b q
 |a,p,_,_,.nil _,e=>by simp at e
 |[],p,q,_,.cons f h,e=>by simp only[List.nil_append,List.cons.injEq]at e;obtain⟨rfl,rfl⟩:=e;exact⟨p,_,.nil p,f,h⟩
 |z::a,p,q,_,.cons f h,e=>by simp only[List.cons_append,List.cons.injEq]at e;obtain⟨rfl,e⟩:=e;obtain⟨x,y,h1,h2,c⟩:=h.split e;exact⟨x,y,.cons f h1,h2,c⟩
theorem Qdy:∀{l:List Nat},l≠[]->∃m∈l,∀k∈l,k<=m
 |[x],_=>⟨x,by simp,λk a=>by simp at a;omega⟩
 |x::y::r,_=>by
  obtain⟨m,h1,h2⟩:=Qdy (l:=y::r) (by simp);by_cases e:x<=m
  ·refine⟨m,List.mem_cons_of_mem _ h1,λk a=>?_⟩;rcases List.mem_cons.mp a with rfl|a
   ·exact e
   ·exact h2 k a
  ·refine⟨x,List.mem_cons_self,λk a=>?_⟩;rcases List.mem_cons.mp a with rfl|a
   ·exact Gm _
   ·have:=h2 k a;omega
section
variable{S:List Nat}{ls:List (Nat×Nat×α)}{Y1:Nat->Nat->Option Nat}{up:Nat->Option Nat}
theorem Fst.Qkv(F:Fst S ls Y1 up){M:Nat}:∀{p q:Nat}{a:List Nat},Pth Y1 p a q->(∀k∈a,k<M)->Cn (ls.take M) p q
 |_,_,_,.nil _,_=>.refl _
 |p,_,_,.cons (n:=n) e h,b=>by
  refine .trans ?_ (F.Qkv h λk d=>b k (List.mem_cons_of_mem _ d));have c:=b n List.mem_cons_self;obtain⟨r,h1|h1⟩:=F.Qgm _ _ _ e
  ·exact .link (r:=r) (List.mem_of_getElem? (i:=n) (by rw[List.getElem?_take,Gk c];exact h1))
  ·exact .symm (.link (r:=r) (List.mem_of_getElem? (i:=n) (by rw[List.getElem?_take,Gk c];exact h1)))
theorem Fst.early(F:Fst S ls Y1 up){a:List Nat}(h:Pth Y1 p a q)(nd:a.Nodup)(c:Cn (ls.take n) p q):∀k∈a,k<n:=by
 intro k g;obtain⟨M,w,f⟩:=Qdy (l:=a) (by intro z;rw[z]at g;simp at g);by_cases i:M<n
 ·exact D2 (f k g) i
 exfalso;obtain⟨b,d,rfl⟩:=List.append_of_mem w;obtain⟨x,y,h1,h2,v⟩:=h.split rfl;rw[List.nodup_append]at nd;obtain⟨n1,n2,n3⟩:=nd;rw[List.nodup_cons]at n2;have m:∀k∈b,k<M:=λk g=>by have:=f k (List.mem_append_left _ g);have:=n3 k g M List.mem_cons_self;omega
 have u:∀k∈d,k<M:=λk g=>by have:=f k (List.mem_append_right _ (List.mem_cons_of_mem _ g));have:k≠M:=λz=>n2.1 (z▸g);omega
 have o:=F.Qkv h1 m;have s:=F.Qkv v u;have t:Cn (ls.take M) p q:=c.Qov (by omega);have j:Cn (ls.take M) x y:=.trans (.symm o) (.trans t (.symm s));obtain⟨r,e|e⟩:=F.Qgm _ _ _ h2
 ·exact F.sep _ _ _ _ e j
 ·exact F.sep _ _ _ _ e (.symm j)
def num(Y1:Nat->Nat->Option Nat)(up:Nat->Option Nat)(x:Nat):Nat:=((up x).bind (Y1 x)).getD 0
theorem Fst.Qc7(F:Fst S ls Y1 up){y:Nat}(h:up x=Ga y):Y1 x y=Ga (num Y1 up x):=by obtain⟨n,a⟩:=F.Qef x y h;unfold num;rw[h];simp[a]
theorem Fst.Qt9(F:Fst S ls Y1 up){y i j:Nat}(h:up x=Ga i)(k:up y=Ga j)(e:num Y1 up x=num Y1 up y):x=y:=by
 have h1:=F.Qc7 h;have n:=F.Qc7 k;rw[e]at h1;obtain⟨r,h2⟩:=F.Qgm _ _ _ h1;obtain⟨q,a⟩:=F.Qgm _ _ _ n;have swap:x=j->i=y->x=y:=λo p=>by
  subst o p;exfalso;obtain⟨l,d⟩:=F.chain x (F.inS _ _ h).1;have nd:=d.nodup;cases d with
  |top f=>rw[h]at f;cases f
  |step f g=>
   rw[h]at f;cases f;cases g with
   |top b=>rw[k]at b;cases b
   |step b m=>rw[k]at b;cases b;obtain⟨s,c⟩:=m.head;subst c;simp at nd
 rcases h2 with h2|h2<;>rcases a with a|a<;>rw[h2]at a<;>simp only[FC,TH]at a
 ·exact a.1
 ·exact swap a.1 a.2.1
 ·exact swap a.2.1 a.1
 ·exact a.2.1
theorem Fst.Qkx(F:Fst S ls Y1 up){m:Nat}{s:List Nat}:∀{P:List Nat}{p:Nat}{l:List Nat},Ch up p l->l=P++m::s->Pth Y1 p (P.map (num Y1 up)) m
 |[],p,_,h,e=>by obtain⟨r,a⟩:=h.head;rw[e]at a;simp only[List.nil_append,List.cons.injEq]at a;rw[a.1];exact .nil _
 |z::P,p,_,.top _,e=>by simp at e
 |z::P,p,_,.step (q:=q) f h,e=>by simp only[List.cons_append,List.cons.injEq]at e;obtain⟨rfl,e⟩:=e;rw[List.map_cons];exact .cons (F.Qc7 f) (F.Qkx h e)
theorem Ch.Qpr{P:List Nat}{s:List Nat}(h:Ch up p l)(e:l=P++m::s)(c:x∈P):∃y,up x=Ga y:=by
 obtain⟨a,b,rfl⟩:=List.append_of_mem c;cases b with
 |nil=>exact⟨m,h.Qef (a:=a) (b:=s) (by rw[e];simp)⟩
 |cons y b=>exact⟨y,h.Qef (a:=a) (b:=b++m::s) (by rw[e];simp)⟩
theorem Of{f:Nat->Nat}:∀{l:List Nat},l.Nodup->(∀x∈l,∀y∈l,f x=f y->x=y)->(l.map f).Nodup
 |[],_,_=>by simp
 |x::r,nd,h=>by rw[List.nodup_cons]at nd;rw[List.map_cons,List.nodup_cons];refine⟨λz=>?_,Of nd.2 λa d b hb=>h a (List.mem_cons_of_mem _ d) b (List.mem_cons_of_mem _ hb)⟩;obtain⟨y,c,e⟩:=List.mem_map.mp z;exact nd.1 (h y (List.mem_cons_of_mem _ c) x List.mem_cons_self e▸c)
theorem O7{x y:Nat}:∀{l:List Nat},(x,y)∈l.zip (l.drop 1)->∃a b,l=a++x::y::b
 |[],h=>by simp at h
 |[z],h=>by simp at h
 |z::w::r,h=>by
  simp only[List.drop_succ_cons,List.drop_zero,List.zip_cons_cons,List.mem_cons,TH]at h;rcases h with⟨rfl,rfl⟩|h
  ·exact⟨[],r,Xb⟩
  ·obtain⟨a,b,e⟩:=O7 (l:=w::r) (by simpa using h);exact⟨z::a,b,by rw[e];rfl⟩
theorem Fst.way(F:Fst S ls Y1 up){one f:Nat}{l1 l2 P Q s:List Nat}(h1:Ch up one l1)(h2:Ch up f l2)(l:l1=P++m::s)(o:l2=Q++m::s)(C:P=[]\/Q=[]\/P.getLast?≠Q.getLast?):
  ∀x y,(x,y)∈(P++m::Q.reverse).zip ((P++m::Q.reverse).drop 1)->∃k,Y1 x y=Ga k/\∀n,Cn (ls.take n) one f->k<n:=by
 have dis:∀z∈P,z∉Q:=λz V W=>by
  obtain⟨M,w,rfl⟩:=List.append_of_mem V;obtain⟨N,O,rfl⟩:=List.append_of_mem W;have R:=h1.suffix (a:=M) (z:=z) (b:=w++m::s) (by rw[l];simp);have T:=h2.suffix (a:=N) (z:=z) (b:=O++m::s) (by rw[o];simp);have e:=R.uniq T;simp only[List.cons.injEq,true_and]at e;have e:=List.append_cancel_right e;subst e;rcases C with h|h|h
  ·simp at h
  ·simp at h
  ·refine h ?_;rw[List.getLast?_append,List.getLast?_append];have:(z::w).getLast?=Ga ((z::w).getLast (by simp)):=List.getLast?_eq_some_getLast (by simp);rw[this];rfl
 have G:P.Nodup:=by have:=h1.nodup;rw[l,List.nodup_append]at this;exact this.1
 have H:Q.Nodup:=by have:=h2.nodup;rw[o,List.nodup_append]at this;exact this.1
 have v:∀x∈P++Q.reverse,∃y,up x=Ga y:=λx i=>by
  rcases List.mem_append.mp i with i|i
  ·exact h1.Qpr l i
  ·exact h2.Qpr o (List.mem_reverse.mp i)
 have nd:(P++Q.reverse).Nodup:=by rw[List.nodup_append];refine⟨G,by rw[List.Nodup,List.pairwise_reverse];exact H.imp λh=>Gn h,λa X b hb z=>?_⟩;subst z;exact dis a X (List.mem_reverse.mp hb)
 have I:((P++Q.reverse).map (num Y1 up)).Nodup:=Of nd λx i y E e=>by obtain⟨x',ex⟩:=v x i;obtain⟨y',U⟩:=v y E;exact F.Qt9 ex U e
 have J:Pth Y1 one ((P++Q.reverse).map (num Y1 up)) f:=by rw[List.map_append,List.map_reverse];exact(F.Qkx h1 l).app ((F.Qkx h2 o).rev λ_ _ _=>F.Qck)
 intro x y D;obtain⟨a,b,e⟩:=O7 D;have fin:∀z L,up z=Ga L->z∈P++Q.reverse->Y1 x y=Ga (num Y1 up z)->∃k,Y1 x y=Ga k/\∀n,Cn (ls.take n) one f->k<n:=λz L _ hz Y=>⟨_,Y,λn c=>F.early J I c _ (List.mem_map.mpr ⟨z,hz,Xb⟩)⟩
 have p:(∃z,z∈P/\x=z/\up z=Ga y)\/(∃z,z∈Q/\y=z/\up z=Ga x):=by
  rcases Tb a.length P.length with B|A
  ·left;have i:P[a.length]?=Ga x:=by
    have:(P++m::Q.reverse)[a.length]?=(a++x::y::b)[a.length]?:=by rw[e]
    rw[List.getElem?_append_left B,List.getElem?_append_right (Gm _)]at this;simpa using this
   refine⟨x,List.mem_of_getElem? i,Xb,?_⟩;have g:P++[m]=a++x::y::(P++[m]).drop (a.length+2):=by
    have t:=congrArg (List.take (P.length+1)) e;have Z:(P++m::Q.reverse).take (P.length+1)=P++[m]:=by rw[show P++m::Q.reverse=(P++[m])++Q.reverse by simp,List.take_left' (by simp)]
    rw[Z]at t;have t2:(a++x::y::b).take (P.length+1)=a++x::y::b.take (P.length+1 - a.length - 2):=by rw[List.take_append,List.take_of_length_le (by omega)];congr 1;obtain⟨d,hd⟩:∃d,P.length+1 - a.length=d+2:=⟨P.length+1 - a.length - 2,by omega⟩;rw[hd];simp
    rw[t2]at t;rw[t];congr 3;rw[List.drop_append];simp
   exact h1.Qef (a:=a) (b:=(P++[m]).drop (a.length+2)++s) (by rw[l,show P++m::s=(P++[m])++s by simp,g];simp[List.append_assoc])
  ·right;obtain⟨j,rfl⟩:∃j,a=P++j:=by refine⟨a.drop P.length,?_⟩;have t:=congrArg (List.take P.length) e;rw[List.take_left' Xb,List.take_append_of_le_length A]at t;exact(List.take_append_drop P.length a).symm.trans (by rw[<-t])
   rw[List.append_assoc]at e;have e:=List.append_cancel_left e;have r:=congrArg List.reverse e;rw[List.reverse_cons,List.reverse_reverse]at r;simp only[List.reverse_append,List.reverse_cons,List.append_assoc,List.cons_append,List.nil_append]at r;have K:Q++m::s=b.reverse++y::x::(j.reverse++s):=by rw[show Q++m::s=(Q++[m])++s by simp,r];simp
   refine⟨y,?_,Xb,h2.Qef (a:=b.reverse) (b:=j.reverse++s) (by rw[o,K])⟩;have q:b.reverse.length<Q.length:=by have:=congrArg List.length r;simp at this;simp;omega
   have E:Q[b.reverse.length]?=Ga y:=by
    have:(Q++m::s)[b.reverse.length]?=(b.reverse++y::x::(j.reverse++s))[b.reverse.length]?:=by rw[K]
    rw[List.getElem?_append_left q,List.getElem?_append_right (Gm _)]at this;simpa using this
   exact List.mem_of_getElem? E
 rcases p with⟨z,hz,rfl,u⟩|⟨z,hz,rfl,u⟩
 ·exact fin x y u (List.mem_append_left _ hz) (F.Qc7 u)
 ·exact fin y x u (List.mem_append_right _ (List.mem_reverse.mpr hz)) (F.Qck (F.Qc7 u))
end
variable{W ρ:Type}[DecidableEq W]
structure Nst(W ρ:Type) where
 S:List Nat
 lead:Nat->Nat
 mem:Nat->List Nat
 Xg:Nat->List Nat
 tab:W×List Nat->Option Nat
 links:List (Nat×Nat×Option ρ)
 Y1:Nat->Nat->Option Nat
 up:Nat->Option Nat
def Zk(wd:Nat->W)(pt:Nat->List Nat)(ld:Nat->Nat)(p:Nat):W×List Nat:=(wd p,(pt p).map ld)
inductive Cj(S:List Nat)(ld:Nat->Nat)(pend:List (Nat×Nat×Option ρ)):Nat->Nat->Prop
 |lead {p q:Nat}:p∈S->q∈S->ld p=ld q->Cj S ld pend p q
 |wait {p q:Nat} {r:Option ρ}:(p,q,r)∈pend->Cj S ld pend p q
 |symm {p q:Nat}:Cj S ld pend p q->Cj S ld pend q p
 |trans {p q r:Nat}:Cj S ld pend p q->Cj S ld pend q r->Cj S ld pend p r
theorem Cj.map{ld d:Nat->Nat}{pend pend':List (Nat×Nat×Option ρ)}(h1:∀p∈S,∀q∈S,ld p=ld q->Cj S d pend' p q)(h2:∀p q r,(p,q,r)∈pend->Cj S d pend' p q):∀{p q:Nat},Cj S ld pend p q->Cj S d pend' p q:=by
 intro p q c;induction c with
 |lead a b e=>exact h1 _ a _ b e
 |wait m=>exact h2 _ _ _ m
 |symm _ f=>exact .symm f
 |trans _ _ i1 i2=>exact .trans i1 i2
theorem Cj.nil{ld:Nat->Nat}(c:Cj (ρ:=ρ) S ld [] p q):ld p=ld q:=by
 induction c with
 |lead _ _ e=>exact e
 |wait m=>simp at m
 |symm _ a=>exact a.symm
 |trans _ _ i1 i2=>exact i1.trans i2
def Two(F:Nat->Nat->Prop)(ps a:List Nat):Prop:=ps.length=a.length/\∀(i p q:Nat),ps[i]?=Ga p->a[i]?=Ga q->F p q
theorem Qb4{f:Nat->Nat}{ps a:List Nat}:ps.map f=a.map f↔Two (λp q=>f p=f q) ps a:=by
 constructor
 ·intro h;have b:=congrArg List.length h;simp at b;refine⟨b,λi p q c d=>?_⟩;have:(ps.map f)[i]?=(a.map f)[i]?:=by rw[h]
  simpa[c,d]using this
 ·rintro⟨b,h⟩;refine List.ext_getElem? λi=>?_;rw[List.getElem?_map,List.getElem?_map];rcases Tb i ps.length with hi|hi
  ·have h1:=List.getElem?_eq_getElem hi;have h2:=List.getElem?_eq_getElem (show i<a.length by omega);rw[h1,h2,TQ,TQ,h i _ _ h1 h2]
  ·rw[List.getElem?_eq_none hi,List.getElem?_eq_none (by omega)]
structure X8(wd:Nat->W)(pt:Nat->List Nat)(x:Nst W ρ)(pend:List (Nat×Nat×Option ρ)):Prop where
 nd:x.S.Nodup
 pt_:∀p∈x.S,∀q∈pt p,q∈x.S
 ld:∀p∈x.S,x.lead p∈x.S
 idem:∀p∈x.S,x.lead (x.lead p)=x.lead p
 Qbm:∀l∈x.S,x.lead l=l->∀p,p∈x.mem l↔p∈x.S/\x.lead p=l
 Qjr:∀l∈x.S,x.lead l=l->(x.mem l).Nodup
 Qiu:∀l∈x.S,∀p∈x.Xg l,p∈x.S
 Qtx:∀p∈x.S,∀q∈pt p,p∈x.Xg (x.lead q)
 tabS:∀k u,x.tab k=Ga u->u∈x.S/\wd u=k.1/\(∀q∈k.2,q∈x.S)/\(pt u).map x.lead=k.2.map x.lead
 Qso:∀p∈x.S,∃u,x.tab (Zk wd pt x.lead p)=Ga u/\Cj x.S x.lead pend u p
 pnd:∀a b r,(a,b,r)∈pend->a∈x.S/\b∈x.S/\(r=Ge->wd a=wd b/\(pt a).map x.lead=(pt b).map x.lead)
 fst:Fst x.S x.links x.Y1 x.up
 lnk:∀(n a b:Nat)r,x.links[n]?=Ga (a,b,r)->a∈x.S/\b∈x.S/\(r=Ge->wd a=wd b/\Two (Cn (x.links.take n)) (pt a) (pt b))
 conn:∀p∈x.S,∀q∈x.S,(x.lead p=x.lead q↔Cn x.links p q)
 root:∀p q l m,p∈x.S->q∈x.S->Ch x.up p l->Ch x.up q m->(x.lead p=x.lead q↔Zx l=Zx m)
def scan(ky:Nat->W×List Nat):List Nat->(W×List Nat->Option Nat)->List (Nat×Nat×Option ρ)->(W×List Nat->Option Nat)×List (Nat×Nat×Option ρ)
 |[],t,f=>(t,f)
 |u::r,t,f=>match t (ky u)with
  |some v=>scan ky r t (if v=u then f else f++[(u,v,Ge)])
  |none=>scan ky r (λk=>if k=ky u then Ga u else t k) f
theorem Ur{ky:Nat->W×List Nat}:∀{l:List Nat}{t:W×List Nat->Option Nat}{f:List (Nat×Nat×Option ρ)}{k:W×List Nat}{v:Nat},t k=Ga v->(scan ky l t f).1 k=Ga v
 |[],_,_,_,_,h=>h
 |u::r,t,f,k,v,h=>by
  unfold scan;cases e:t (ky u)with
  |some w=>exact Ur h
  |none=>
   refine Ur ?_;have:k≠ky u:=λz=>by rw[z,e]at h;cases h
   simp only[Gg this];exact h
theorem scan_keep{ky:Nat->W×List Nat}:∀{l:List Nat}{t:W×List Nat->Option Nat}{f:List (Nat×Nat×Option ρ)}{y},y∈f->y∈(scan ky l t f).2
 |[],_,_,_,h=>h
 |u::r,t,f,y,h=>by
  unfold scan;cases e:t (ky u)with
  |some w=>
   refine scan_keep ?_;split
   ·exact h
   ·exact List.mem_append_left _ h
  |none=>exact scan_keep h
theorem Qdt{ky:Nat->W×List Nat}:∀{l:List Nat}{t:W×List Nat->Option Nat}{f:List (Nat×Nat×Option ρ)}{u:Nat},u∈l->∃v,(scan ky l t f).1 (ky u)=Ga v/\(v=u\/(u,v,Ge)∈(scan ky l t f).2)
 |[],_,_,_,h=>by simp at h
 |z::r,t,f,u,h=>by
  unfold scan;rcases List.mem_cons.mp h with rfl|h
  ·cases e:t (ky u)with
   |some w=>
    refine⟨w,Ur e,?_⟩;by_cases hw:w=u
    ·exact .inl hw
    ·right;refine scan_keep ?_;rw[Gg hw];simp
   |none=>exact⟨u,Ur (by simp),.inl Xb⟩
  ·cases e:t (ky z)with
   |some w=>exact Qdt h
   |none=>exact Qdt h
theorem Qcr{ky:Nat->W×List Nat}:∀{l:List Nat}{t:W×List Nat->Option Nat}{f:List (Nat×Nat×Option ρ)}{k:W×List Nat}{v:Nat},(scan ky l t f).1 k=Ga v->t k=Ga v\/(v∈l/\k=ky v)
 |[],_,_,_,_,h=>.inl h
 |u::r,t,f,k,v,h=>by
  unfold scan at h;cases e:t (ky u)with
  |some w=>
   rw[e]at h;rcases Qcr h with h|⟨h1,h2⟩
   ·exact .inl h
   ·exact .inr ⟨List.mem_cons_of_mem _ h1,h2⟩
  |none=>
   rw[e]at h;rcases Qcr h with h|⟨h1,h2⟩
   ·by_cases a:k=ky u
    ·simp only[Gk a]at h;cases h;exact .inr ⟨List.mem_cons_self,a⟩
    ·simp only[Gg a]at h;exact .inl h
   ·exact .inr ⟨List.mem_cons_of_mem _ h1,h2⟩
theorem Vu{ky:Nat->W×List Nat}:∀{l:List Nat}{t:W×List Nat->Option Nat}{f:List (Nat×Nat×Option ρ)}{a b:Nat}{r:Option ρ},(a,b,r)∈(scan ky l t f).2->(a,b,r)∈f\/(r=Ge/\a∈l/\(scan ky l t f).1 (ky a)=Ga b)
 |[],_,_,_,_,_,h=>.inl h
 |u::l,t,f,a,b,r,h=>by
  unfold scan at h⊢;cases e:t (ky u)with
  |some w=>
   rw[e]at h;rcases Vu h with h|⟨h1,h2,c⟩
   ·split at h
    ·exact .inl h
    ·rcases List.mem_append.mp h with h|h
     ·exact .inl h
     ·simp at h;obtain⟨rfl,rfl,rfl⟩:=h;exact .inr ⟨Xb,List.mem_cons_self,Ur e⟩
   ·exact .inr ⟨h1,List.mem_cons_of_mem _ h2,c⟩
  |none=>
   rw[e]at h;rcases Vu h with h|⟨h1,h2,c⟩
   ·exact .inl h
   ·exact .inr ⟨h1,List.mem_cons_of_mem _ h2,c⟩
theorem scan_len{ky:Nat->W×List Nat}:∀{l:List Nat}{t:W×List Nat->Option Nat}{f:List (Nat×Nat×Option ρ)},(scan ky l t f).2.length<=f.length+l.length
 |[],_,_=>by simp[scan]
 |u::l,t,f=>by
  unfold scan;cases e:t (ky u)with
  |some w=>
   have:=scan_len (ky:=ky) (l:=l) (t:=t) (f:=if w=u then f else f++[(u,w,Ge)]);simp only[List.length_cons];split at this
   ·rename_i h
    simp only[Gk h];omega
   ·rename_i h
    simp only[Gg h];rw[List.length_append,List.length_singleton]at this;omega
  |none=>have:=scan_len (ky:=ky) (l:=l) (t:=λk=>if k=ky u then Ga u else t k) (f:=f);simp only[List.length_cons];omega
def Q7(x:Nst W ρ)(a kept:Nat):Nat->Nat:=λp=>if p∈x.mem a then kept else x.lead p
def V2(wd:Nat->W)(pt:Nat->List Nat)(x:Nst W ρ)(a kept:Nat):Nst W ρ×List (Nat×Nat×Option ρ):=
 ({x with lead:=Q7 x a kept,mem:=(λp=>if p=kept then x.mem kept++x.mem a else x.mem p),Xg:=(λp=>if p=kept then x.Xg kept++x.Xg a else x.Xg p),tab:=(scan (ρ:=ρ) (Zk wd pt (Q7 x a kept)) (x.Xg a) x.tab []).1},(scan (Zk wd pt (Q7 x a kept)) (x.Xg a) x.tab []).2)
def Qa3(Y1:Nat->Nat->Option Nat)(a b n:Nat):Nat->Nat->Option Nat:=λp q=>if(p=a/\q=b)\/(p=b/\q=a)then Ga n else Y1 p q
def Yi(wd:Nat->W)(pt:Nat->List Nat)(x:Nst W ρ)(a b:Nat)(r:Option ρ)(lo hi:Nat)(cl:List Nat):Nst W ρ×List (Nat×Nat×Option ρ):=
 V2 wd pt {x with links:=x.links++[(a,b,r)],Y1:=Qa3 x.Y1 a b x.links.length,up:=Xp x.up hi cl} (x.lead lo) (x.lead hi)
section
variable{wd:Nat->W}{pt:Nat->List Nat}{x:Nst W ρ}{pend:List (Nat×Nat×Option ρ)}
theorem Qul{ls:List (Nat×Nat×Option ρ)}{r:Option ρ}(c:Cn (ls++[(a,b,r)]) p q):Cn ls p q\/(Cn ls p a/\Cn ls b q)\/(Cn ls p b/\Cn ls a q):=by
 induction c with
 |refl p=>exact .inl (.refl p)
 |symm _ f=>
  rcases f with h|⟨h1,h2⟩|⟨h1,h2⟩
  ·exact .inl (.symm h)
  ·exact .inr (.inr ⟨.symm h2,.symm h1⟩)
  ·exact .inr (.inl ⟨.symm h2,.symm h1⟩)
 |trans _ _ i1 i2=>
  rcases i1 with h|⟨h1,h2⟩|⟨h1,h2⟩<;>rcases i2 with k|⟨e,d⟩|⟨e,d⟩
  ·exact .inl (.trans h k)
  ·exact .inr (.inl ⟨.trans h e,d⟩)
  ·exact .inr (.inr ⟨.trans h e,d⟩)
  ·exact .inr (.inl ⟨h1,.trans h2 k⟩)
  ·exact .inr (.inl ⟨h1,d⟩)
  ·exact .inl (.trans h1 d)
  ·exact .inr (.inr ⟨h1,.trans h2 k⟩)
  ·exact .inl (.trans h1 d)
  ·exact .inr (.inr ⟨h1,d⟩)
 |link m=>
  rcases List.mem_append.mp m with m|m
  ·exact .inl (.link m)
  ·simp at m;obtain⟨rfl,rfl,rfl⟩:=m;exact .inr (.inl ⟨.refl _,.refl _⟩)
theorem X8.Qqn(I:X8 wd pt x pend){g k:Nat}(b:g∈x.S)(a:x.lead g=g)(c:p∈x.S):Q7 x g k p=if x.lead p=g then k else x.lead p:=by
 unfold Q7;by_cases h:x.lead p=g
 ·rw[Gk h,Gk ((I.Qbm g b a p).mpr ⟨c,h⟩)]
 ·rw[Gg h,Gg λz=>h ((I.Qbm g b a p).mp z).2]
end
variable{W ρ:Type}[DecidableEq W]
section
variable{wd:Nat->W}{pt:Nat->List Nat}{x:Nst W ρ}{pend:List (Nat×Nat×Option ρ)}
theorem X8.join(I:X8 wd pt x (pend++[(a,b,r)]))(ac:x.lead a≠x.lead b)(Q:(lo=a/\hi=b)\/(lo=b/\hi=a))(W:Ch x.up lo cl):
  X8 wd pt (Yi wd pt x a b r lo hi cl).1 (pend++(Yi wd pt x a b r lo hi cl).2)/\(∀p∈x.S,(Yi wd pt x a b r lo hi cl).1.lead p=if x.lead p=x.lead lo then x.lead hi else x.lead p):=by
 obtain⟨aS,bS,N⟩:=I.pnd a b r (by simp);have M:lo∈x.S:=by rcases Q with⟨h,_⟩|⟨h,_⟩<;>rw[h]<;>assumption
 have G:hi∈x.S:=by rcases Q with⟨_,h⟩|⟨_,h⟩<;>rw[h]<;>assumption
 have s:x.lead lo≠x.lead hi:=by
  rcases Q with⟨h1,h2⟩|⟨h1,h2⟩<;>rw[h1,h2]
  ·exact ac
  ·exact Gn ac
 obtain⟨lh,D⟩:=I.fst.chain hi G;have gS:=I.ld lo M;have gg:=I.idem lo M;have kS:=I.ld hi G;have kk:=I.idem hi G;generalize hG:x.lead lo=g at*;generalize hK:x.lead hi=k at*;have ab:(x.lead a=g/\x.lead b=k)\/(x.lead a=k/\x.lead b=g):=by
  rcases Q with⟨h1,h2⟩|⟨h1,h2⟩
  ·left;rw[<-h1,<-h2];exact⟨hG,hK⟩
  ·right;rw[<-h1,<-h2];exact⟨hK,hG⟩
 have L:∀p∈x.S,Q7 x g k p=if x.lead p=g then k else x.lead p:=λp d=>I.Qqn gS gg d;have eJ:Yi wd pt x a b r lo hi cl=V2 wd pt {x with links:=x.links++[(a,b,r)],Y1:=Qa3 x.Y1 a b x.links.length,up:=Xp x.up hi cl} g k:=by unfold Yi;rw[hG,hK]
 rw[eJ];have nC:¬Cn x.links a b:=λc=>ac ((I.conn a aS b bS).mpr c);have Y:∀p∈x.S,∀q∈x.S,x.lead p=x.lead q->Q7 x g k p=Q7 x g k q:=λp d q j e=>by rw[L p d,L q j,e]
 have LS:∀p∈x.S,Q7 x g k p∈x.S:=λp d=>by
  rw[L p d];split
  ·exact kS
  ·exact I.ld p d
 have Lk:Q7 x g k k=k:=by rw[L k kS,kk,Gg (Gn s)]
 have Li:∀p∈x.S,Q7 x g k (Q7 x g k p)=Q7 x g k p:=λp d=>by
  by_cases h:x.lead p=g
  ·rw[L p d,Gk h,Lk]
  ·rw[L p d,Gg h,L _ (I.ld p d),I.idem p d,Gg h]
 have Mp:∀p∈x.S,∀q∈x.S,(pt p).map x.lead=(pt q).map x.lead->(pt p).map (Q7 x g k)=(pt q).map (Q7 x g k):=λp d q j e=>by rw[Qb4]at e⊢;exact⟨e.1,λi u v F K=>Y u (I.pt_ p d u (List.mem_of_getElem? F)) v (I.pt_ q j v (List.mem_of_getElem? K)) (e.2 i u v F K)⟩
 have TS:∀ky u,(scan (ρ:=ρ) (Zk wd pt (Q7 x g k)) (x.Xg g) x.tab []).1 ky=Ga u->u∈x.S/\wd u=ky.1/\(∀q∈ky.2,q∈x.S)/\(pt u).map (Q7 x g k)=ky.2.map (Q7 x g k):=λky u h=>by
  rcases Qcr h with h|⟨h1,h2⟩
  ·obtain⟨k1,k2,k3,k4⟩:=I.tabS ky u h;refine⟨k1,k2,k3,?_⟩;rw[Qb4]at k4⊢;exact⟨k4.1,λi u' v F K=>Y u' (I.pt_ u k1 u' (List.mem_of_getElem? F)) v (k3 v (List.mem_of_getElem? K)) (k4.2 i u' v F K)⟩
  ·have uS:=I.Qiu g gS u h1;subst h2;refine⟨uS,Xb,λq j=>?_,?_⟩
   ·obtain⟨q',B,rfl⟩:=List.mem_map.mp j;exact LS q' (I.pt_ u uS q' B)
   ·show(pt u).map (Q7 x g k)=((pt u).map (Q7 x g k)).map (Q7 x g k);rw[List.map_map];refine List.map_congr_left λq j=>?_;exact(Li q (I.pt_ u uS q j)).symm
 have dis:∀z∈lh,z∉cl:=λz hz T=>by
  obtain⟨m1,Z,O⟩:=D.Oo hz;obtain⟨m2,c2,J⟩:=W.Oo T;have:Zx lh=Zx cl:=by rw[<-O,<-J,Z.uniq c2]
  exact s ((I.root lo hi cl lh M G W D).mpr this.symm|>λe=>by rw[hG,hK]at e;exact e)
 have hh:Ch (Xp x.up hi cl) hi lh:=D.Qdw dis;have R:∀p∈x.S,∀lp,Ch x.up p lp->∃l,Ch (Xp x.up hi cl) p l/\(x.lead p=g->Zx l=Zx lh)/\(x.lead p≠g->Zx l=Zx lp):=λp d lp w=>by
  by_cases h:∃z∈lp,z∈cl
  ·obtain⟨l,h1,h2⟩:=Qr4 W.nodup hh w h;refine⟨l,h1,λ_=>h2,λA=>?_⟩;exfalso;obtain⟨z,hz,T⟩:=h;obtain⟨m1,Z,O⟩:=w.Oo hz;obtain⟨m2,c2,J⟩:=W.Oo T;have:Zx lp=Zx cl:=by rw[<-O,<-J,Z.uniq c2]
   exact A (by rw[<-hG];exact(I.root p lo lp cl d M w W).mpr this)
  ·have h1:Ch (Xp x.up hi cl) p lp:=w.Qdw λz hz T=>h ⟨z,hz,T⟩;refine⟨lp,h1,λe=>?_,λ_=>rfl⟩;exfalso;have:=(I.root p lo lp cl d M w W).mp (by rw[hG];exact e);have m1:Zx lp∈lp:=by have:=w.ne;unfold Zx;rw[List.getLastD_eq_getLast?,List.getLast?_eq_some_getLast this];exact List.getLast_mem this
   have m2:Zx cl∈cl:=by have:=W.ne;unfold Zx;rw[List.getLastD_eq_getLast?,List.getLast?_eq_some_getLast this];exact List.getLast_mem this
   exact h ⟨_,m1,by rw[this];exact m2⟩
 have C1:∀p∈x.S,∀q∈x.S,(Q7 x g k p=Q7 x g k q↔Cn (x.links++[(a,b,r)]) p q):=λp d q j=>by
  have mono:∀{u v:Nat},Cn x.links u v->Cn (x.links++[(a,b,r)]) u v:=λc=>c.mono λy hy=>List.mem_append_left _ hy;have lk:Cn (x.links++[(a,b,r)]) a b:=.link (r:=r) (by simp);have gk:∀u∈x.S,∀v∈x.S,x.lead u=g->x.lead v=k->Cn (x.links++[(a,b,r)]) u v:=λu F v K O J=>by
   rcases ab with⟨h1,h2⟩|⟨h1,h2⟩
   ·exact .trans (mono ((I.conn u F a aS).mp (O.trans h1.symm))) (.trans lk (mono ((I.conn b bS v K).mp (h2.trans J.symm))))
   ·exact .trans (mono ((I.conn u F b bS).mp (O.trans h2.symm))) (.trans (.symm lk) (mono ((I.conn a aS v K).mp (h1.trans J.symm))))
  constructor
  ·intro e;rw[L p d,L q j]at e;by_cases h1:x.lead p=g<;>by_cases h2:x.lead q=g
   ·exact mono ((I.conn p d q j).mp (h1.trans h2.symm))
   ·rw[Gk h1,Gg h2]at e;exact gk p d q j h1 e.symm
   ·rw[Gg h1,Gk h2]at e;exact .symm (gk q j p d h2 e)
   ·rw[Gg h1,Gg h2]at e;exact mono ((I.conn p d q j).mp e)
  ·intro c;have ae:Q7 x g k a=Q7 x g k b:=by
    rw[L a aS,L b bS];rcases ab with⟨h1,h2⟩|⟨h1,h2⟩
    ·rw[Gk h1,Gg (by rw[h2];exact Gn s),h2]
    ·rw[Gk h2,Gg (by rw[h1];exact Gn s),h1]
   rcases Qul c with c|⟨Z,c2⟩|⟨Z,c2⟩
   ·exact Y p d q j ((I.conn p d q j).mpr c)
   ·exact(Y p d a aS ((I.conn p d a aS).mpr Z)).trans (ae.trans (Y b bS q j ((I.conn b bS q j).mpr c2)))
   ·exact(Y p d b bS ((I.conn p d b bS).mpr Z)).trans (ae.symm.trans (Y a aS q j ((I.conn a aS q j).mpr c2)))
 have tk:∀{n:Nat},n<=x.links.length->(x.links++[(a,b,r)]).take n=x.links.take n:=λh=>List.take_append_of_le_length h;have gl:∀{n:Nat}{y},(x.links++[(a,b,r)])[n]?=Ga y->(n<x.links.length/\x.links[n]?=Ga y)\/(n=x.links.length/\y=(a,b,r)):=λ{n y}h=>by
  rcases Tb n x.links.length with A|A
  ·rw[List.getElem?_append_left A]at h;exact .inl ⟨A,h⟩
  ·rw[List.getElem?_append_right A]at h;have:n - x.links.length=0:=by have:=(List.getElem?_eq_some_iff.mp h).1;simp at this;omega
   rw[this]at h;simp at h;exact .inr ⟨by omega,h.symm⟩
 have P:∀p q,Xp x.up hi cl p=Ga q->x.up p=Ga q\/(p=lo/\q=hi)\/x.up q=Ga p:=λp q h=>by
  rcases Qdj W.nodup h with h|⟨C,e,J⟩|⟨H,U,e⟩
  ·exact .inl h
  ·obtain⟨ag,e3⟩:=W.head;rw[e]at e3;cases e3;exact .inr (.inl ⟨Xb,J⟩)
  ·exact .inr (.inr (W.Qef e))
 refine⟨⟨I.nd,I.pt_,LS,Li,λl X e p=>?_,λl X e=>?_,λl X p d=>?_,λp d q j=>?_,TS,λp d=>?_,λH U C h=>?_,⟨λp q h=>?_,λp q n h=>?_,λn p q C h=>?_,λn p q C h=>?_,λp d=>?_,λp q h=>?_⟩,λn H U C h=>?_,C1,λp q l m d j h1 h2=>?_⟩,λp d=>L p d⟩
 ·
  have e:Q7 x g k l=l:=e;have lg:x.lead l≠g:=λz=>by rw[L l X,Gk z]at e;rw[<-e,kk]at z;exact s z.symm
  have ll:x.lead l=l:=by rw[L l X,Gg lg]at e;exact e
  show p∈(if l=k then x.mem k++x.mem g else x.mem l)↔p∈x.S/\Q7 x g k p=l;by_cases E:l=k
  ·rw[Gk E,List.mem_append,I.Qbm k kS kk,I.Qbm g gS gg];constructor
   ·rintro(⟨h1,h2⟩|⟨h1,h2⟩)
    ·exact⟨h1,by rw[L p h1,h2,Gg (Gn s),E]⟩
    ·exact⟨h1,by rw[L p h1,Gk h2,E]⟩
   ·rintro⟨h1,h2⟩;rw[L p h1]at h2;by_cases V:x.lead p=g
    ·exact .inr ⟨h1,V⟩
    ·rw[Gg V]at h2;exact .inl ⟨h1,h2.trans E⟩
  ·rw[Gg E,I.Qbm l X ll];constructor
   ·rintro⟨h1,h2⟩;exact⟨h1,by rw[L p h1,Gg (by rw[h2,<-ll];exact lg),h2]⟩
   ·rintro⟨h1,h2⟩;rw[L p h1]at h2;by_cases V:x.lead p=g
    ·rw[Gk V]at h2;exact absurd h2.symm E
    ·rw[Gg V]at h2;exact⟨h1,h2⟩
 ·have e:Q7 x g k l=l:=e;have lg:x.lead l≠g:=λz=>by rw[L l X,Gk z]at e;rw[<-e,kk]at z;exact s z.symm
  have ll:x.lead l=l:=by rw[L l X,Gg lg]at e;exact e
  show(if l=k then x.mem k++x.mem g else x.mem l).Nodup;by_cases E:l=k
  ·rw[Gk E,List.nodup_append];refine⟨I.Qjr k kS kk,I.Qjr g gS gg,λu F v K z=>?_⟩;subst z;have h1:=((I.Qbm k kS kk u).mp F).2;have h2:=((I.Qbm g gS gg u).mp K).2;exact s (h2.symm.trans h1)
  ·rw[Gg E];exact I.Qjr l X ll
 ·have d:p∈(if l=k then x.Xg k++x.Xg g else x.Xg l):=d;by_cases E:l=k
  ·rw[Gk E]at d;rcases List.mem_append.mp d with h|h
   ·exact I.Qiu k kS p h
   ·exact I.Qiu g gS p h
  ·rw[Gg E]at d;exact I.Qiu l X p d
 ·show p∈(if Q7 x g k q=k then x.Xg k++x.Xg g else x.Xg (Q7 x g k q));have o:=I.Qtx p d q j;have qS:=I.pt_ p d q j;by_cases h:x.lead q=g
  ·rw[L q qS,Gk h,Gk rfl];rw[h]at o;exact List.mem_append_right _ o
  ·rw[L q qS,Gg h];by_cases E:x.lead q=k
   ·rw[Gk E];rw[E]at o;exact List.mem_append_left _ o
   ·rw[Gg E];exact o
 ·
  show∃u,(scan (ρ:=ρ) (Zk wd pt (Q7 x g k)) (x.Xg g) x.tab []).1 (Zk wd pt (Q7 x g k) p)=Ga u/\Cj x.S (Q7 x g k) (pend++(scan (Zk wd pt (Q7 x g k)) (x.Xg g) x.tab []).2) u p;by_cases h:∃q∈pt p,x.lead q=g
  ·obtain⟨q,j,e⟩:=h;have F:=I.Qtx p d q j;rw[e]at F;obtain⟨v,h1,h2⟩:=Qdt (ρ:=ρ) (ky:=Zk wd pt (Q7 x g k)) (t:=x.tab) (f:=[]) F;refine⟨v,h1,?_⟩;rcases h2 with rfl|h2
   ·exact .lead d d rfl
   ·exact .symm (.wait (r:=Ge) (List.mem_append_right _ h2))
  ·obtain⟨u,h1,h2⟩:=I.Qso p d;have ek:Zk wd pt (Q7 x g k) p=Zk wd pt x.lead p:=by unfold Zk;refine SU rfl (List.map_congr_left λq j=>?_);rw[L q (I.pt_ p d q j),Gg λz=>h ⟨q,j,z⟩]
   refine⟨u,by rw[ek];exact Ur h1,h2.map (λp d q j e=>.lead d j (Y p d q j e)) λp q C m=>?_⟩;rcases List.mem_append.mp m with m|m
   ·exact .wait (List.mem_append_left _ m)
   ·simp at m;obtain⟨rfl,rfl,rfl⟩:=m;exact .lead aS bS ((C1 _ aS _ bS).mpr (.link (r:=C) (by simp)))
 ·
  rcases List.mem_append.mp h with h|h
  ·obtain⟨h1,h2,V⟩:=I.pnd H U C (List.mem_append_left _ h);exact⟨h1,h2,λe=>⟨(V e).1,Mp H h1 U h2 (V e).2⟩⟩
  ·rcases Vu (show(H,U,C)∈(scan (Zk wd pt (Q7 x g k)) (x.Xg g) x.tab []).2 from h)with h|⟨h1,h2,V⟩
   ·simp at h
   ·have ad:=I.Qiu g gS H h2;obtain⟨k1,k2,k3,k4⟩:=TS _ _ V;refine⟨ad,k1,λ_=>⟨k2.symm,?_⟩⟩;show(pt H).map (Q7 x g k)=(pt U).map (Q7 x g k);rw[k4];show _=((pt H).map (Q7 x g k)).map (Q7 x g k);rw[List.map_map];exact List.map_congr_left λq j=>(Li q (I.pt_ H ad q j)).symm
 ·
  show∃n,Qa3 x.Y1 a b x.links.length p q=Ga n;unfold Qa3;by_cases A:(p=a/\q=b)\/(p=b/\q=a)
  ·exact⟨_,Gk A⟩
  ·rw[Gg A];rcases P p q h with h|⟨O,J⟩|h
   ·exact I.fst.Qef p q h
   ·exfalso;apply A;rcases Q with⟨h1,h2⟩|⟨h1,h2⟩
    ·exact .inl ⟨O.trans h1,J.trans h2⟩
    ·exact .inr ⟨O.trans h1,J.trans h2⟩
   ·obtain⟨n,A⟩:=I.fst.Qef q p h;exact⟨n,I.fst.Qck A⟩
 ·have h:Qa3 x.Y1 a b x.links.length p q=Ga n:=h;unfold Qa3 at h;show∃C,(x.links++[(a,b,r)])[n]?=Ga (p,q,C)\/(x.links++[(a,b,r)])[n]?=Ga (q,p,C);by_cases A:(p=a/\q=b)\/(p=b/\q=a)
  ·rw[Gk A]at h;cases h;refine⟨r,?_⟩;rcases A with⟨rfl,rfl⟩|⟨rfl,rfl⟩
   ·left;simp
   ·right;simp
  ·rw[Gg A]at h;obtain⟨C,h|h⟩:=I.fst.Qgm p q n h
   ·exact⟨C,.inl (by rw[List.getElem?_append_left (List.getElem?_eq_some_iff.mp h).1];exact h)⟩
   ·exact⟨C,.inr (by rw[List.getElem?_append_left (List.getElem?_eq_some_iff.mp h).1];exact h)⟩
 ·show Qa3 x.Y1 a b x.links.length p q=Ga n/\Qa3 x.Y1 a b x.links.length q p=Ga n;rcases gl h with⟨A,h'⟩|⟨A,h⟩
  ·have no:¬((p=a/\q=b)\/(p=b/\q=a)):=by
    rintro(⟨rfl,rfl⟩|⟨rfl,rfl⟩)
    ·exact nC (.link (List.mem_of_getElem? h'))
    ·exact nC (.symm (.link (List.mem_of_getElem? h')))
   have af:¬((q=a/\p=b)\/(q=b/\p=a)):=λz=>no (z.elim (λ⟨y1,y2⟩=>.inr ⟨y2,y1⟩) λ⟨y1,y2⟩=>.inl ⟨y2,y1⟩);unfold Qa3;rw[Gg no,Gg af];exact I.fst.all n p q C h'
  ·simp only[TH]at h;obtain⟨rfl,rfl,rfl⟩:=h;subst A;unfold Qa3;exact⟨Gk (.inl ⟨Xb,Xb⟩),Gk (.inr ⟨Xb,Xb⟩)⟩
 ·show¬Cn ((x.links++[(a,b,r)]).take n) p q;rcases gl h with⟨A,h⟩|⟨A,h⟩
  ·rw[tk (by omega)];exact I.fst.sep n p q C h
  ·simp only[TH]at h;obtain⟨rfl,rfl,rfl⟩:=h;rw[tk (by omega),A,List.take_length];exact nC
 ·obtain⟨lp,w⟩:=I.fst.chain p d;obtain⟨l,h1,_⟩:=R p d lp w;exact⟨l,h1⟩
 ·rcases P p q h with h|⟨O,J⟩|h
  ·exact I.fst.inS p q h
  ·rw[O,J];exact⟨M,G⟩
  ·exact(I.fst.inS q p h).symm
 ·show H∈x.S/\U∈x.S/\(C=Ge->wd H=wd U/\Two (Cn ((x.links++[(a,b,r)]).take n)) (pt H) (pt U));rcases gl h with⟨A,h⟩|⟨A,h⟩
  ·rw[tk (by omega)];exact I.lnk n H U C h
  ·simp only[TH]at h;obtain⟨rfl,rfl,rfl⟩:=h;rw[tk (by omega),A,List.take_length];refine⟨aS,bS,λe=>⟨(N e).1,?_⟩⟩;have t:=Qb4.mp (N e).2;exact⟨t.1,λi u v F K=>(I.conn u (I.pt_ _ aS u (List.mem_of_getElem? F)) v (I.pt_ _ bS v (List.mem_of_getElem? K))).mp (t.2 i u v F K)⟩
 ·show Q7 x g k p=Q7 x g k q↔Zx l=Zx m;obtain⟨lp,w⟩:=I.fst.chain p d;obtain⟨lq,aa⟩:=I.fst.chain q j;obtain⟨l',p1,p2,p3⟩:=R p d lp w;obtain⟨m',q1,q2,q3⟩:=R q j lq aa;have el:=Ch.uniq (show Ch (Xp x.up hi cl) p l from h1) p1;have em:=Ch.uniq (show Ch (Xp x.up hi cl) q m from h2) q1;subst el em;have rp:=I.root p hi lp lh d G w D;have rq:=I.root q hi lq lh j G aa D;rw[hK]at rp rq;rw[L p d,L q j];by_cases o:x.lead p=g<;>by_cases B:x.lead q=g
  ·rw[Gk o,Gk B,p2 o,q2 B];exact⟨λ_=>rfl,λ_=>rfl⟩
  ·rw[Gk o,Gg B,p2 o,q3 B];exact⟨λe=>(rq.mp e.symm).symm,λe=>(rq.mpr e.symm).symm⟩
  ·rw[Gg o,Gk B,p3 o,q2 B];exact rp
  ·rw[Gg o,Gg B,p3 o,q3 B];exact I.root p q lp lq d j w aa
end
variable{W ρ:Type}[DecidableEq W]
section
variable{wd:Nat->W}{pt:Nat->List Nat}{x:Nst W ρ}{pend pend':List (Nat×Nat×Option ρ)}
theorem X8.Qml(I:X8 wd pt x pend)(h1:∀p q r,(p,q,r)∈pend->Cj x.S x.lead pend' p q)(h2:∀a b r,(a,b,r)∈pend'->a∈x.S/\b∈x.S/\(r=Ge->wd a=wd b/\(pt a).map x.lead=(pt b).map x.lead)):X8 wd pt x pend':=
 ⟨I.nd,I.pt_,I.ld,I.idem,I.Qbm,I.Qjr,I.Qiu,I.Qtx,I.tabS,λp d=>by obtain⟨u,e,c⟩:=I.Qso p d;exact⟨u,e,c.map (λp d q f e=>.lead d f e) h1⟩,h2,I.fst,I.lnk,I.conn,I.root⟩
theorem X8.drop{r:Option ρ}(I:X8 wd pt x (pend++[(a,b,r)]))(e:x.lead a=x.lead b):X8 wd pt x pend:=by
 obtain⟨aS,bS,_⟩:=I.pnd a b r (by simp);refine I.Qml (λp q c m=>?_) λd f c m=>I.pnd d f c (List.mem_append_left _ m);rcases List.mem_append.mp m with m|m
 ·exact .wait m
 ·simp at m;obtain⟨rfl,rfl,rfl⟩:=m;exact .lead aS bS e
theorem X8.cong(I:X8 wd pt x [])(a:p∈x.S)(b:q∈x.S)(e:Zk wd pt x.lead p=Zk wd pt x.lead q):x.lead p=x.lead q:=by obtain⟨u,h1,h2⟩:=I.Qso p a;obtain⟨v,c,d⟩:=I.Qso q b;rw[e,c]at h1;cases h1;exact h2.nil.symm.trans d.nil
structure Ec(wd:Nat->W)(pt:Nat->List Nat)(S:List Nat)(E:Nat->Nat->Prop):Prop where
 refl:∀p,E p p
 symm:∀p q,E p q->E q p
 trans:∀p q r,E p q->E q r->E p r
 cong:∀p∈S,∀q∈S,wd p=wd q->Two E (pt p) (pt q)->E p q
def Snd(E:Nat->Nat->Prop)(x:Nst W ρ)(pend:List (Nat×Nat×Option ρ)):Prop:=(∀p∈x.S,∀q∈x.S,x.lead p=x.lead q->E p q)/\∀a b r,(a,b,r)∈pend->E a b
theorem Snd.join{E:Nat->Nat->Prop}{a b:Nat}{r:Option ρ}(H:Snd E x (pend++[(a,b,r)]))(X:Ec wd pt x.S E)(I:X8 wd pt x (pend++[(a,b,r)]))(A:x.lead a≠x.lead b){lo hi:Nat}{cl:List Nat}(c:(lo=a/\hi=b)\/(lo=b/\hi=a))(F:Ch x.up lo cl):
  Snd E (Yi wd pt x a b r lo hi cl).1 (pend++(Yi wd pt x a b r lo hi cl).2):=by
 obtain⟨J,L⟩:=I.join A c F;obtain⟨aS,bS,_⟩:=I.pnd a b r (by simp);have g:E a b:=H.2 a b r (by simp);have B:lo∈x.S:=by rcases c with⟨h,_⟩|⟨h,_⟩<;>rw[h]<;>assumption
 have z:hi∈x.S:=by rcases c with⟨_,h⟩|⟨_,h⟩<;>rw[h]<;>assumption
 have y:E lo hi:=by
  rcases c with⟨h1,h2⟩|⟨h1,h2⟩<;>rw[h1,h2]
  ·exact g
  ·exact X.symm _ _ g
 have C:∀u∈x.S,∀v∈x.S,x.lead u=x.lead lo->x.lead v=x.lead hi->E u v:=λu l v n s w=>X.trans _ _ _ (H.1 u l lo B s) (X.trans _ _ _ y (H.1 hi z v n w.symm));have S1:∀p∈x.S,∀q∈x.S,(Yi wd pt x a b r lo hi cl).1.lead p=(Yi wd pt x a b r lo hi cl).1.lead q->E p q:=λp j q k e=>by
  rw[L p j,L q k]at e;by_cases h1:x.lead p=x.lead lo<;>by_cases h2:x.lead q=x.lead lo
  ·exact H.1 p j q k (h1.trans h2.symm)
  ·rw[Gk h1,Gg h2]at e;exact C p j q k h1 e.symm
  ·rw[Gg h1,Gk h2]at e;exact X.symm _ _ (C q k p j h2 e)
  ·rw[Gg h1,Gg h2]at e;exact H.1 p j q k e
 refine⟨S1,λd f o m=>?_⟩;rcases List.mem_append.mp m with h|h
 ·exact H.2 d f o (List.mem_append_left _ h)
 ·obtain⟨h1,h2,D⟩:=J.pnd d f o m;have rn:o=Ge:=by
   rcases Vu (show(d,f,o)∈(scan _ _ _ []).2 from h)with h|⟨h1,_⟩
   ·simp at h
   ·exact h1
  obtain⟨s,w⟩:=D rn;have t:=Qb4.mp w;exact X.cong d h1 f h2 s ⟨t.1,λi u v l n=>S1 u (I.pt_ d h1 u (List.mem_of_getElem? l)) v (I.pt_ f h2 v (List.mem_of_getElem? n)) (t.2 i u v l n)⟩
theorem Qlf{r:Option ρ}{d e:Nat}{c:Option ρ}(h:(d,e,c)∈(Yi wd pt x a b r lo hi cl).2):c=Ge:=by
 rcases Vu (show(d,e,c)∈(scan _ _ _ []).2 from h)with h|⟨h1,_⟩
 ·simp at h
 ·exact h1
def cls(x:Nst W ρ):Nat:=x.S.countP λp=>decide (x.lead p=p)
def Vv(x:Nst W ρ):Nat:=(x.S.map λp=>if x.lead p=p then(x.Xg p).length else 0).sum
theorem Qdv{α:Type}{p q:α->Bool}:∀{l:List α},(∀x∈l,p x=Gf->q x=Gf)->l.countP p<=l.countP q
 |[],_=>by simp
 |x::r,h=>by
  have b:=Qdv (l:=r) (λy a=>h y (List.mem_cons_of_mem _ a));have h1:=h x List.mem_cons_self;rw[List.countP_cons,List.countP_cons];cases e:p x with
  |true=>rw[h1 e];simp;exact b
  |false=>simp;omega
theorem Qdm{α:Type}{p q:α->Bool}:∀{l:List α},(∀x∈l,p x=Gf->q x=Gf)->(∃x∈l,q x=Gf/\p x=Gp)->l.countP p<l.countP q
 |[],_,h=>by obtain⟨x,c,_⟩:=h;simp at c
 |x::r,h,⟨y,a,h1,h2⟩=>by
  rw[List.countP_cons,List.countP_cons];rcases List.mem_cons.mp a with rfl|a
  ·have:=Qdv (l:=r) (λy a=>h y (List.mem_cons_of_mem _ a));rw[h1,h2];simp;omega
  ·have d:=Qdm (l:=r) (λy a=>h y (List.mem_cons_of_mem _ a)) ⟨y,a,h1,h2⟩;have b:=h x List.mem_cons_self;cases e:p x with
   |true=>rw[b e];simp;exact d
   |false=>simp;omega
theorem Qrl{f a:Nat->Nat}:∀{S:List Nat},(∀p∈S,f p=a p)->(S.map f).sum=(S.map a).sum:=λh=>by rw[List.map_congr_left h]
theorem Qm9{f b:Nat->Nat}{g k:Nat}(d:g≠k):∀{S:List Nat},S.Nodup->g∈S->k∈S->b g+b k=f g+f k->(∀p∈S,p≠g->p≠k->b p=f p)->(S.map b).sum=(S.map f).sum
 |[],_,h,_,_,_=>by simp at h
 |x::r,nd,q,t,e,h=>by
  rw[List.nodup_cons]at nd;have one:∀{u v:Nat}{S:List Nat},S.Nodup->v∈S->u∉S->(∀p∈S,p≠u->p≠v->b p=f p)->(S.map b).sum+f v=(S.map f).sum+b v:=by
   intro u v S;induction S with
   |nil=>intro _ h;simp at h
   |cons z s w=>
    intro nd n m o;rw[List.nodup_cons]at nd;simp only[List.mem_cons,not_or]at m;simp only[List.map_cons,List.sum_cons];rcases List.mem_cons.mp n with rfl|n
    ·have:(s.map b).sum=(s.map f).sum:=Qrl λp a=>o p (List.mem_cons_of_mem _ a) (λz=>m.2 (z▸a)) (λz=>nd.1 (z▸a));omega
    ·have:=w nd.2 n m.2 λp a=>o p (List.mem_cons_of_mem _ a);have hz:=o z List.mem_cons_self (Gn m.1) (λy=>nd.1 (y▸n));omega
  simp only[List.map_cons,List.sum_cons];by_cases j:x=g
  ·subst j;have i:k∈r:=(List.mem_cons.mp t).resolve_left (Gn d);have:=one (u:=x) nd.2 i nd.1 λp a h1 h2=>h p (List.mem_cons_of_mem _ a) h1 h2;omega
  ·by_cases l:x=k
   ·subst l;have c:g∈r:=(List.mem_cons.mp q).resolve_left d;have:=one (u:=x) nd.2 c nd.1 λp a h1 h2=>h p (List.mem_cons_of_mem _ a) h2 h1;omega
   ·have c:g∈r:=(List.mem_cons.mp q).resolve_left (Gn j);have i:k∈r:=(List.mem_cons.mp t).resolve_left (Gn l);have:=Qm9 d nd.2 c i e λp a=>h p (List.mem_cons_of_mem _ a);have:=h x List.mem_cons_self j l;omega
theorem Je{f:Nat->Nat}:∀{S:List Nat}{p:Nat},p∈S->f p<=(S.map f).sum
 |x::r,p,h=>by
  simp only[List.map_cons,List.sum_cons];rcases List.mem_cons.mp h with rfl|h
  ·omega
  ·have:=Je (f:=f) h;omega
theorem X8.less{r:Option ρ}(I:X8 wd pt x (pend++[(a,b,r)]))(i:x.lead a≠x.lead b)(d:(lo=a/\hi=b)\/(lo=b/\hi=a))(y:Ch x.up lo cl):
  cls (Yi wd pt x a b r lo hi cl).1<cls x/\Vv (Yi wd pt x a b r lo hi cl).1=Vv x/\(Yi wd pt x a b r lo hi cl).2.length<=Vv x/\(Yi wd pt x a b r lo hi cl).1.links.length=x.links.length+1:=by
 obtain⟨J,L⟩:=I.join i d y;obtain⟨aS,bS,_⟩:=I.pnd a b r (by simp);have n:lo∈x.S:=by rcases d with⟨h,_⟩|⟨h,_⟩<;>rw[h]<;>assumption
 have m:hi∈x.S:=by rcases d with⟨_,h⟩|⟨_,h⟩<;>rw[h]<;>assumption
 have c:x.lead lo≠x.lead hi:=by
  rcases d with⟨h1,h2⟩|⟨h1,h2⟩<;>rw[h1,h2]
  ·exact i
  ·exact Gn i
 have k:=I.ld lo n;have q:=I.idem lo n;have u:=I.ld hi m;have s:=I.idem hi m;have g:∀p∈x.S,(Yi wd pt x a b r lo hi cl).1.lead p=p->x.lead p=p/\p≠x.lead lo:=λp j e=>by
  rw[L p j]at e;by_cases h:x.lead p=x.lead lo
  ·rw[Gk h]at e;rw[<-e,s]at h;exact absurd h.symm c
  ·rw[Gg h]at e;exact⟨e,λz=>h (by rw[e];exact z)⟩
 refine⟨Qdm (λp j e=>GQ (g p j (TC e)).1) ⟨x.lead lo,k,GQ q,Gx λz=>(g _ k z).2 Xb⟩,?_,?_,by simp[Yi,V2]⟩
 ·refine Qm9 c I.nd k u ?_ λp j h1 h2=>?_
  ·have v:¬(Yi wd pt x a b r lo hi cl).1.lead (x.lead lo)=x.lead lo:=λz=>(g _ k z).2 rfl;have w:(Yi wd pt x a b r lo hi cl).1.lead (x.lead hi)=x.lead hi:=by rw[L _ u,s,Gg (Gn c)]
   rw[Gg v,Gk w,Gk q,Gk s];have:(Yi wd pt x a b r lo hi cl).1.Xg (x.lead hi)=x.Xg (x.lead hi)++x.Xg (x.lead lo):=by simp[Yi,V2]
   rw[this,List.length_append];omega
  ·have:(Yi wd pt x a b r lo hi cl).1.Xg p=x.Xg p:=by simp[Yi,V2,h2]
   rw[this];by_cases e:x.lead p=p
   ·have o:(Yi wd pt x a b r lo hi cl).1.lead p=p:=by rw[L p j,Gg (by rw[e];exact h1),e]
    rw[Gk e,Gk o]
   ·have o:¬(Yi wd pt x a b r lo hi cl).1.lead p=p:=λz=>e (g p j z).1;rw[Gg e,Gg o]
 ·have h1:=scan_len (ρ:=ρ) (ky:=Zk wd pt (Q7 {x with links:=x.links++[(a,b,r)],Y1:=Qa3 x.Y1 a b x.links.length,up:=Xp x.up hi cl} (x.lead lo) (x.lead hi))) (l:=x.Xg (x.lead lo)) (t:=x.tab) (f:=[]);have h2:=Je (f:=λp=>if x.lead p=p then(x.Xg p).length else 0) k;simp only[q,Gk]at h2;refine TL h1 (by simpa[Vv]using h2)
end
variable{W ρ:Type}[DecidableEq W]
def Yt(pt:Nat->List Nat)(S:List Nat)(q:Nat):List Nat:=S.flatMap λp=>List.replicate ((pt p).count q) p
def Qbd(wd:Nat->W)(pt:Nat->List Nat)(S:List Nat)(k:W×List Nat):Option Nat:=S.find? λp=>decide (Zk wd pt id p=k)
def fresh(wd:Nat->W)(pt:Nat->List Nat)(S:List Nat):Nst W ρ:=⟨S,id,λp=>[p],Yt pt S,Qbd wd pt S,[],λ_ _=>Ge,λ_=>Ge⟩
theorem Qx6{α:Type}(c:Cn (α:=α) [] p q):p=q:=by
 induction c with
 |refl _=>rfl
 |symm _ a=>exact a.symm
 |trans _ _ i1 i2=>exact i1.trans i2
 |link m=>simp at m
theorem Qnf{wd:Nat->W}{pt:Nat->List Nat}(nd:S.Nodup)(cl:∀p∈S,∀q∈pt p,q∈S)(inj:∀p∈S,∀q∈S,wd p=wd q->pt p=pt q->p=q):X8 (ρ:=ρ) wd pt (fresh wd pt S) [] where
 nd:=nd
 pt_:=cl
 ld:=λp h=>h
 idem:=λ_ _=>rfl
 Qbm:=λl g _ p=>by show p∈[l]↔p∈S/\p=l;simp only[List.mem_singleton];exact⟨λe=>⟨e▸g,e⟩,λe=>e.2⟩
 Qjr:=λl _ _=>by simp[fresh]
 Qiu:=λl _ p a=>by obtain⟨u,i,h⟩:=List.mem_flatMap.mp a;rw[List.mem_replicate]at h;rw[h.2];exact i
 Qtx:=λp a q b=>List.mem_flatMap.mpr ⟨p,a,List.mem_replicate.mpr ⟨by have:=List.count_pos_iff.mpr b;show(pt p).count q≠0;omega,Xb⟩⟩
 tabS:=λk u h=>by
  have h:S.find? (λp=>decide (Zk wd pt id p=k))=Ga u:=h;have h1:=List.mem_of_find?_eq_some h;have h2:Zk wd pt id u=k:=TC (by simpa using List.find?_some h);subst h2;refine⟨h1,Xb,λq b=>?_,?_⟩
  ·simp only[Zk,List.map_id]at b;exact cl u h1 q b
  ·simp[Zk,fresh]
 Qso:=λp a=>by
  show∃u,S.find? (λq=>decide (Zk wd pt id q=Zk wd pt id p))=Ga u/\_;cases e:S.find? (λq=>decide (Zk wd pt id q=Zk wd pt id p))with
  |none=>have:=List.find?_eq_none.mp e p a;simp at this
  |some u=>have h1:=List.mem_of_find?_eq_some e;have h2:Zk wd pt id u=Zk wd pt id p:=TC (by simpa using List.find?_some e);simp only[Zk,List.map_id,TH]at h2;exact⟨u,Xb,.lead h1 a (inj u h1 p a h2.1 h2.2)⟩
 pnd:=λ_ _ _ h=>by simp at h
 fst:=⟨λ_ _ h=>by simp[fresh]at h,λ_ _ _ h=>by simp[fresh]at h,λ_ _ _ _ h=>by simp[fresh]at h,λ_ _ _ _ h=>by simp[fresh]at h,λp _=>⟨[p],.top Xb⟩,λ_ _ h=>by simp[fresh]at h⟩
 lnk:=λ_ _ _ _ h=>by simp[fresh]at h
 conn:=λp _ q _=>⟨λ(e:p=q)=>by subst e;exact .refl _,λc=>Qx6 c⟩
 root:=λp q l m _ _ h1 h2=>by have d:l=[p]:=h1.uniq (.top Xb);have f:m=[q]:=h2.uniq (.top Xb);subst d f;simp[Zx,fresh]
theorem Qsm(pt:Nat->List Nat)(S:List Nat)(p q:Nat):Yt pt (S++[p]) q=Yt pt S q++List.replicate ((pt p).count q) p:=by simp[Yt]
theorem Qst(wd:Nat->W)(pt:Nat->List Nat)(new:∀q∈S,Zk wd pt id q≠Zk wd pt id p)(k:W×List Nat):Qbd wd pt (S++[p]) k=if k=Zk wd pt id p then Ga p else Qbd wd pt S k:=by
 unfold Qbd;rw[List.find?_append];by_cases h:k=Zk wd pt id p
 ·rw[Gk h];have:S.find? (λp=>decide (Zk wd pt id p=k))=Ge:=List.find?_eq_none.mpr λq a=>by have:=new q a;simp[h,this]
  rw[this];simp[h]
 ·rw[Gg h];have:[p].find? (λp=>decide (Zk wd pt id p=k))=Ge:=by simp[Gn h]
  rw[this,Option.or_none]
end Nt
namespace Sb
open PySem PySem.Spec PyProof.Rows L2 Nt
variable{p:Nat}{S:List Nat}{f:Nat->V}{b:Gc}
def ki(p:Nat):Xh:=.inl (p:Int)
def dS(S:List Nat)(f:Nat->V):List (Xh×V):=S.map λp=>(ki p,f p)
theorem Jc{q:Nat}(h:ki p=ki q):p=q:=by unfold ki at h;injection h with h;omega
theorem Q0r(p:Nat):kV (ki p)=jv p:=rfl
theorem Qe2(h:p∈S):Yq (dS S f) (ki p)=Ga (f p):=by
 induction S with
 |nil=>simp at h
 |cons q r b=>
  by_cases e:q=p
  ·subst e;exact Xs (p:=(ki q,f q)) rfl
  ·have a:¬(ki q=ki p):=λz=>e (Jc z);show Yq ((ki q,f q)::dS r f) (ki p)=_;rw[Xk (p:=(ki q,f q)) a];exact b ((List.mem_cons.mp h).resolve_left λz=>e z.symm)
theorem Qku(h:p∉S):Yq (dS S f) (ki p)=Ge:=by
 induction S with
 |nil=>exact Qhf
 |cons q r b=>simp only[List.mem_cons,not_or]at h;have a:¬(ki q=ki p):=λz=>h.1 (Jc z).symm;show Yq ((ki q,f q)::dS r f) (ki p)=_;rw[Xk (p:=(ki q,f q)) a];exact b h.2
theorem Qlz:(Yq (dS S f) (ki p)).isSome=decide (p∈S):=by
 by_cases h:p∈S
 ·rw[Qe2 h,GQ h];rfl
 ·rw[Qku h,Gx h];rfl
theorem Ww(S:List Nat)(f:Nat->V):(dS S f).length=S.length:=by simp[dS]
theorem Qka{v:V}(h:p∈S):We (dS S f) (ki p) v=dS S (λq=>if q=p then v else f q):=by
 unfold We;have a:((dS S f).any λb=>decide (b.1=ki p))=Gf:=by rw[Uz,Qe2 h];rfl
 rw[Gk a];unfold dS;rw[List.map_map];refine List.map_congr_left λq _=>?_;show(if ki q=ki p then(ki q,v)else(ki q,f q))=(ki q,if q=p then v else f q);by_cases e:q=p
 ·subst e;rw[Gk Xb,Gk rfl]
 ·rw[Gg (λz=>e (Jc z)),Gg e]
theorem Qaa{v:V}(h:p∉S):We (dS S f) (ki p) v=dS (S++[p]) (λq=>if q=p then v else f q):=by rw[Qpm _ (Qku h)];unfold dS;rw[List.map_append,List.map_cons,List.map_nil];show _=_++[(ki p,if p=p then v else f p)];rw[Gk rfl];congr 1;refine List.map_congr_left λq a=>?_;show _=(ki q,if q=p then v else f q);rw[Gg (λz:q=p=>h (z▸a))]
theorem Wo{g:Nat->V}(h:∀p∈S,f p=g p):dS S f=dS S g:=List.map_congr_left λp a=>by rw[h p a]
inductive U2 where
 |told (n:Nat)
 |asked
def Qnm(H:Hp)(v:V):Option U2->Prop
 |none=>v=.non
 |some (.told n)=>∃c,v=.ref c/\H c=Ga (.tup [.str "told",jv n])
 |some .asked=>∃c,v=.ref c/\H c=Ga (.tup [.str "asked"])
theorem Qnm.Qk{H H':Hp}(e:Qp H H'){v:V}:∀{r:Option U2},Qnm H v r->Qnm H' v r
 |none,h=>h
 |some (.told n),⟨c,h1,h2⟩=>⟨c,h1,e _ _ h2⟩
 |some .asked,⟨c,h1,h2⟩=>⟨c,h1,e _ _ h2⟩
abbrev Lk:=Nat×Nat×Option U2
def R0(H:Hp)(v:V)(l:Lk):Prop:=∃c r,v=.ref c/\H c=Ga (.tup [jv l.1,jv l.2.1,r])/\Qnm H r l.2.2
theorem R0.Qk{H H':Hp}(e:Qp H H'){v:V}{l:Lk}(h:R0 H v l):R0 H' v l:=by obtain⟨c,r,h1,h2,a⟩:=h;exact⟨c,r,h1,e _ _ h2,a.Qk e⟩
abbrev Nn:=Nst Gy U2
def Yg(fs:List Fm)(p:Nat):Gy:=(fs.getD p (DY,[])).1
def Zl(fs:List Fm)(p:Nat):List Nat:=(fs.getD p (DY,[])).2
theorem Qfd{fs:List Fm}(h:p<fs.length):fs[p]?=Ga (Yg fs p,Zl fs p):=by unfold Yg Zl;rw[List.getD_eq_getElem?_getD,List.getElem?_eq_getElem h];rfl
structure Na where
 f:Gc
 l:Gc
 m:Gc
 u:Gc
 t:Gc
 k:Gc
 a:Gc
 v:Gc
 ml:Nat->Gc
 ul:Nat->Gc
def Yx(A:Na):List (Gy×V):=[("forms",.ref A.f),("leads",.ref A.l),("members",.ref A.m),("users",.ref A.u),("table",.ref A.t),("links",.ref A.k),("link_at",.ref A.a),("above",.ref A.v)]
def ov:Option Nat->V
 |none=>.non
 |some p=>jv p
structure Ap(A:Na)(S:List Nat):Prop where
 lm:A.l≠A.m
 lu:A.l≠A.u
 lv:A.l≠A.v
 mu:A.m≠A.u
 mv:A.m≠A.v
 uv:A.u≠A.v
 kf:A.k≠A.f
 mm:∀p∈S,∀q∈S,A.ml p=A.ml q->p=q
 uu:∀p∈S,∀q∈S,A.ul p=A.ul q->p=q
 mul:∀p∈S,∀q∈S,A.ml p≠A.ul q
 mkf:∀p∈S,A.ml p≠A.k/\A.ml p≠A.f
 ukf:∀p∈S,A.ul p≠A.k/\A.ul p≠A.f
structure Z3(P:Gj)(w:Gs)(C:Gc)(H:Hp)(n:Gc)(A:Na)(fs:List Fm)(tb:Nat)(x:Nn):Prop where
 ob:∃dx,H n=Ga (.ins C dx (Yx A))
 fo:∃ws,H A.f=Ga (.lst ws)/\Paired (R3 H) ws fs
 le:H A.l=Ga (.dK (dS x.S λp=>jv (x.lead p)))
 me:H A.m=Ga (.dK (dS x.S λp=>.ref (A.ml p)))
 us:H A.u=Ga (.dK (dS x.S λp=>.ref (A.ul p)))
 ta:∃kvs,DH P w H A.t kvs/\kvs.length<=tb/\∀k:Fm,Yf kvs (Yu k)=(x.tab k).map jv
 li:∃ls,H A.k=Ga (.lst ls)/\Paired (R0 H) ls x.links
 at_:∃kvs,H A.a=Ga (.dT kvs)/\kvs.length<=2*x.links.length/\∀i j:Nat,Yq kvs [ki i,ki j]=(x.Y1 i j).map jv
 ab:H A.v=Ga (.dK (dS x.S λp=>ov (x.up p)))
 ml:∀p∈x.S,H (A.ml p)=Ga (.lst ((x.mem p).map jv))
 ul:∀p∈x.S,H (A.ul p)=Ga (.lst ((x.Xg p).map jv))
 ap:Ap A x.S
def Own(A:Na)(S:List Nat)(b:Gc):Prop:=b=A.l\/b=A.m\/b=A.u\/b=A.t\/b=A.k\/b=A.a\/b=A.v\/∃p∈S,b=A.ml p\/b=A.ul p
structure R1(A:Na)(S:List Nat)(H H':Hp):Prop where
 keep:∀b o,H b=Ga o->¬Own A S b->H' b=Ga o
 there:∀b,H' b=Ge->H b=Ge
theorem R1.trans{A:Na}{H H1 H2:Hp}(x:R1 A S H H1)(y:R1 A S H1 H2):R1 A S H H2:=⟨λb o e h=>y.keep b o (x.keep b o e h) h,λb h=>x.there b (y.there b h)⟩
theorem R1.of{A:Na}{H H':Hp}(g:Qv H H'):R1 A S H H':=⟨λb o e _=>g b o e,λb h=>g.free h⟩
theorem R1.upd{A:Na}{S:List Nat}{H:Hp}{b:Gc}{o:HO}(h:Own A S b):R1 A S H (upd H b o):=⟨λc u e a=>by rw[Qg (show c≠b fromλz=>a (by rw[z];exact h))];exact e,λc a=>by
 by_cases e:c=b
 ·subst e;rw[Qb]at a;cases a
 ·rw[Qg e]at a;exact a⟩
section
variable{P:Gj}{w:Gs}{C:Gc}{H H':Hp}{n:Gc}{A:Na}{fs:List Fm}{tb:Nat}{x:Nn}
theorem Z3.own(X:Z3 P w C H n A fs tb x)(h:Own A x.S b):(∃kvs,H b=Ga (.dK kvs))\/(∃kvs,H b=Ga (.dT kvs))\/(∃o,H b=Ga (.ext o))\/∃xs,H b=Ga (.lst xs):=by
 obtain⟨kvs,D,_⟩:=X.ta;obtain⟨ls,L,_⟩:=X.li;obtain⟨c,T,_⟩:=X.at_;rcases h with rfl|rfl|rfl|rfl|rfl|rfl|rfl|⟨p,a,rfl|rfl⟩
 ·exact .inl ⟨_,X.le⟩
 ·exact .inl ⟨_,X.me⟩
 ·exact .inl ⟨_,X.us⟩
 ·exact .inr (.inr (.inl ⟨_,D.at_⟩))
 ·exact .inr (.inr (.inr ⟨_,L⟩))
 ·exact .inr (.inl ⟨_,T⟩)
 ·exact .inl ⟨_,X.ab⟩
 ·exact .inr (.inr (.inr ⟨_,X.ml p a⟩))
 ·exact .inr (.inr (.inr ⟨_,X.ul p a⟩))
theorem Z3.Qks(X:Z3 P w C H n A fs tb x){xs:List V}(h:H b=Ga (.tup xs)):¬Own A x.S b:=λz=>by rcases X.own z with⟨_,e⟩|⟨_,e⟩|⟨_,e⟩|⟨_,e⟩<;>rw[h]at e<;>cases e
theorem Z3.Qyc(X:Z3 P w C H n A fs tb x)(h:H b=Ge):¬Own A x.S b:=λz=>by rcases X.own z with⟨_,e⟩|⟨_,e⟩|⟨_,e⟩|⟨_,e⟩<;>rw[h]at e<;>cases e
theorem Z3.same(g:Qv H H')(X:Z3 P w C H n A fs tb x):Z3 P w C H' n A fs tb x:=by obtain⟨dx,l⟩:=X.ob;obtain⟨m,i,j⟩:=X.fo;obtain⟨kvs,D,e,f⟩:=X.ta;obtain⟨ls,l1,l2⟩:=X.li;obtain⟨k,c,d⟩:=X.at_;have b:=Qp.of g;exact⟨⟨dx,g _ _ l⟩,⟨m,g _ _ i,L2.Paired.Yb j λ_ _ h=>h.Qk b⟩,g _ _ X.le,g _ _ X.me,g _ _ X.us,⟨kvs,⟨g _ _ D.at_,Q6 b D.keys⟩,e,f⟩,⟨ls,g _ _ l1,L2.Paired.Yb l2 λ_ _ h=>h.Qk b⟩,⟨k,g _ _ c,d⟩,g _ _ X.ab,λp a=>g _ _ (X.ml p a),λp a=>g _ _ (X.ul p a),X.ap⟩
theorem Z3.keep(X:Z3 P w C H n A fs tb x)(a:∀b o,H b=Ga o->(Own A x.S b\/b=A.f\/b=n)->H' b=Ga o)(d:Qp H H'):Z3 P w C H' n A fs tb x:=by
 obtain⟨dx,q⟩:=X.ob;obtain⟨r,k,l⟩:=X.fo;obtain⟨kvs,D,i,j⟩:=X.ta;obtain⟨ls,l1,l2⟩:=X.li;obtain⟨m,e,g⟩:=X.at_;refine⟨⟨dx,a _ _ q (.inr (.inr Xb))⟩,⟨r,a _ _ k (.inr (.inl Xb)),L2.Paired.Yb l λ_ _ h=>h.Qk d⟩,a _ _ X.le (.inl (.inl Xb)),a _ _ X.me (.inl (.inr (.inl Xb))),a _ _ X.us (.inl (.inr (.inr (.inl Xb)))),⟨kvs,⟨a _ _ D.at_ (.inl (.inr (.inr (.inr (.inl Xb))))),Q6 d D.keys⟩,i,j⟩,
  ⟨ls,a _ _ l1 (.inl (.inr (.inr (.inr (.inr (.inl Xb)))))),L2.Paired.Yb l2 λ_ _ h=>h.Qk d⟩,⟨m,a _ _ e (.inl (.inr (.inr (.inr (.inr (.inr (.inl Xb))))))),g⟩,a _ _ X.ab (.inl (.inr (.inr (.inr (.inr (.inr (.inr (.inl Xb)))))))),λp c=>?_,λp c=>?_,X.ap⟩
 ·exact a _ _ (X.ml p c) (.inl (.inr (.inr (.inr (.inr (.inr (.inr (.inr ⟨p,c,.inl Xb⟩))))))))
 ·exact a _ _ (X.ul p c) (.inl (.inr (.inr (.inr (.inr (.inr (.inr (.inr ⟨p,c,.inr Xb⟩))))))))
theorem Z3.mono{a:Nat}(h:tb<=a)(X:Z3 P w C H n A fs tb x):Z3 P w C H n A fs a x:=by obtain⟨kvs,D,c,b⟩:=X.ta;exact⟨X.ob,X.fo,X.le,X.me,X.us,⟨kvs,D,by omega,b⟩,X.li,X.at_,X.ab,X.ml,X.ul,X.ap⟩
end
end Sb
namespace L2
open PySem PySem.Spec PyProof.Rows
variable{X:Cx}{σ:St}{H:Hp}
def Qqs(P:Gj)(w:Gs):V->List V->Hp->VK->Prop:=λx vs H Q=>∃d b a kvs k,x=.ref d/\vs=[.ref b,a]/\DH P w H d kvs/\Qad H b k/\kvs.length<Gh/\
 (∀v,Yf kvs k=Ga v->Q v H)/\(Yf kvs k=Ge->Q a (upd H d (Vh P w d (kvs++[(k,b,a)]))))
theorem Qki(M:X.A.units+64<Dk):MtR X "dict.setdefault" (Qqs X.prog X.w):=by
 intro pins s σ H x vs v us Q I K rv h;obtain⟨d,b,f,kvs,k,rfl,rfl,D,r,hz,E,G⟩:=h;cases(show v=Value.ref d from K);obtain⟨L,l,rfl,J,j⟩:=vals2 rv;cases(show L=Value.ref b from J);obtain⟨z,hd,xs,rel,g⟩:=Qg9 I D.at_ D.keys;have C:kvs.length=xs.length:=Paired.length rel;refine EB F.slot_dict_setdefault g.typeIs F.entry_dict_setdefault (F.args_dict_setdefault_3 _ _ _) (Wp (Vd X.prog X.w) d b hd l) ⟨by first|(show X.A.units+1+10<Dk;omega)|(show X.A.units+1+1+10<Dk;omega),k,xs,r.is I,g,by omega,λp u=>?_,λt h' e B=>?_⟩
 ·have a:=rel.val k;rw[u]at a;cases q:Yf kvs k with
  |none=>rw[q]at a;exact(show False from a).elim
  |some y=>rw[q]at a;exact⟨y,H,I.tok _,a,E y q⟩
 ·have a:=rel.val k;rw[t]at a;cases q:Yf kvs k with
  |some y=>rw[q]at a;exact(show False from a).elim
  |none=>obtain⟨ob,es,ep,i,h2,m,n,_,o⟩:=e;have c:KX (kvs++[(k,b,f)]) (xs++[(k,b,l)]):=Paired.snoc rel ⟨Xb,Xb,j⟩;refine⟨f,_,Jb (ob:=Vh X.prog X.w d (kvs++[(k,b,f)])) I (by rw[D.at_];exact Ti) B ⟨ob,i⟩ (Qk1 ⟨by rw[List.length_append,List.length_singleton];omega,hd,_,c,ob,es,ep,i,h2,m,n,o⟩),j,G q⟩
section
variable{X:Cx}{o e:TJ}{es:List TJ}{to:TE}{t:TA}{name:Gy}{apos cpos:E1}{id:String}{r:V->List V->Hp->VK->Prop}
theorem Qij{pins:List (Gc×DL)}{s:Gi}{d:Gc}{kvs:List KE}(I:Inv X pins σ H s)(e:H d=Ga (Vh X.prog X.w d kvs)):
  s.TypeIs (.ref d) "dict"/\∀a,Value.ref d=.ref a->∃ob,s.heap.get? a=Ga ob/\ob.dict=Ge:=by
 obtain⟨z,y,xs,r,o,es,ep,h1,h2,b,c,f⟩:=Qap I e;exact⟨⟨o,h1,h2.1⟩,λa e=>by cases e;exact⟨o,h1,h2.2.1⟩⟩
def Q2s(P:Gj)(w:Gs)(r:V->List V->Hp->VK->Prop)(to:TE)(t:TA):TE:=λσ H Q=>to σ H λx H1=>(∃d kvs,x=.ref d/\H1 d=Ga (Vh P w d kvs))/\t σ H1 λxs H2=>r x xs H2 Q
theorem Qyb(slot:Slot "dict" name id)(g:typeOf (.builtin id)=pure (.type "method_descriptor"))(n:MtR X id r)(p:PE X o to)(m:PA X (e::es) t)
  (b:attributeBase o name X.env (eval o X.env)=eval o X.env:=by rfl)
  (f:((Du cpos (GX (e::es) X.env)).all (λx=>!x.1)&&(backToKw cpos (keywordEach [] X.env)).all (λx=>x.1.isSome)
   &&decide ((e::es).length+([]:List SV).length+(if([]:List SV).isEmpty then 0 else 1)<30))=Gf:=by rfl)
  (c:(apos.endLine==cpos.line)=Gf:=by rfl)(q:GX (e::es) X.env=(Gp,eval e X.env)::GX es X.env:=by rfl)(a:(Du cpos (GX es X.env)).any (·.1)=Gp:=by rfl):
  PE X (.Call (.Attribute o name apos) (e::es) [] cpos) (Q2s X.prog X.w r to t):=by
 intro pins s σ H Q I h;refine E8 b f c rfl (Yl (p pins s σ H _ I h) λv s1⟨x,H1,i,z,ty,u⟩=>?_);obtain⟨d,kvs,rfl,l⟩:=ty;cases(show v=Value.ref d from z);obtain⟨h1,h2⟩:=Qij i l;refine⟨"dict",id,PySem.F.plainAttrs_dict,slot,g,h1,h2,?_⟩;have j:=m cpos pins s1 σ H1 _ i u;rw[q]at j⊢;refine Dw (by show(Gp||(Du cpos (GX es X.env)).any (·.1))=Gp;rw[a]<;>rfl) (Em ?_);exact Yl j λus s2⟨vs,H2,k,A,y⟩=>n pins s2 σ H2 (.ref d) vs _ us Q k rfl A y
end
theorem Qcf{c:TT}{tb:TS}{D:Ends}(Pv:Nat->St->Hp->Prop)(f:∃m,Pv m σ H)
  (g:∀m σ H,Pv m σ H->c σ H λb H1=>if b=Gf then tb {D with nx:=λa H'=>∃d,d<m/\Pv d a H',ct:=λa H'=>∃d,d<m/\Pv d a H',bk:=D.nx} σ H1 else D.nx σ H1)
  (mono:∀σ H Q e,(∀b H1,Q b H1->e b H1)->c σ H Q->c σ H e):Qqu c tb D σ H:=by
 refine⟨Pv,f,λm σ H p=>mono σ H _ _ (λb H1 q=>?_) (g m σ H p)⟩;cases b with
 |true=>exact⟨_,λa H' h=>h,q⟩
 |false=>exact q
theorem Inv.turns{pins:List (Gc×DL)}{σ:List (Option V)}{s:Gi}{h':Heap}{t':Nat}{fp:List Gc}(I:Inv X pins σ H s)(k:∀b o,b∉fp->s.heap.get? b=Ga o->h'.get? b=Ga o)(f:∀b∈fp,Qay X pins H b):
  Inv X pins σ H {s with heap:=h',toks:=t'}:=by
 have d:∀b u,H b=Ga u->b∉fp:=λb u e z=>by rw[(f b z).1]at e;cases e
 refine I.step (g':=s.gens) (d':=s.drawn) (ch:=fp) (λb hb=>?_) (λb o _ _ a e _=>k b o a e) (λb o _ _ a e _=>⟨o.slots,k b o a e⟩) (λ_ _ _ _ n=>n)
  (λb o a e=>⟨o,k b o a e⟩) (λ_ _ e=>e) (λ_ _ _ e=>e) (λb ps e=>⟨#[],by rw[e];simp⟩) (λm l=>?_) (λb u e=>?_) I.bare
 ·obtain⟨t,g,w,h,i,j⟩:=f b hb;exact⟨h,g,i,j⟩
 ·obtain⟨o,es,ep,p,r⟩:=l;exact⟨o,es,ep,k _ o (λz=>(f _ z).2.1 Xb) p,r⟩
 ·refine(I.Zu b u e).Qi7 (λc v a q=>k c v ?_ q) (λ_ q=>q) λ_ _ q=>q;rcases a with z|z
  ·rw[z];exact d b u e
  ·exact d c _ z
def ItE(K:PySem.W.Frag)(a:Gc):It:=
 ⟨λi H=>∃xs x,Zb K H a xs/\xs[i]?=Ga x,λi H v H'=>∃c x,v=.ref c/\H c=Ge/\(∀xs,Zb K H a xs->xs[i]?=Ga x)/\H'=upd H c (.tup [.int (i:Int),x]),λi H=>∃xs,Zb K H a xs/\xs.length<=i⟩
theorem Qoz{P:Gj}{w:Gs}{K:PySem.W.Frag}{l:List TJ}{k:Nat}{pos:E1}(a e it:Gc)(r:e≠it):Qgt P w K (.Tuple l k pos) (ItE K a) [e,it] e (λi h=>(∃c,IsEnum h e it i c)/\h.IsListIter it a i) where
 mem:=by simp
 obj:=λi h st b hb=>by
  obtain⟨⟨c,f⟩,o,S,M,hd⟩:=st;rcases List.mem_cons.mp hb with rfl|hb
  ·exact⟨_,f,λv z=>nomatch z⟩
  ·have:b=it:=by simpa using hb
   subst this;exact⟨o,S,λv z=>by rw[hd]at z;cases z⟩
 keep:=λi h h' st k=>by obtain⟨⟨c,f⟩,d⟩:=st;exact⟨⟨c,k e (by simp) _ f⟩,d.at λo x=>k it (by simp) o x⟩
 item:=by
  intro X J hw G M i pins s σ H E I B st O;subst J hw G;obtain⟨⟨c,f⟩,d⟩:=st;obtain⟨xs,x,C,D⟩:=O;obtain⟨its,rv,p,hz⟩:=I.list C;obtain⟨u,hu,ru⟩:=rv.get D;refine wpAny_pyNext_enum_item f d p.isList (x:=u) (by simpa using hu) r λh' S A U hsz hk=>⟨_,Xb,?_⟩;refine wpAny_letOwnedTupleGo_enum S λm N j=>?_;have g:e<s.heap.objs.size:=Heap.lt_size f;have t:it<s.heap.objs.size:=by obtain⟨_,x,_⟩:=d;exact Heap.lt_size x
  have V:m.get? s.heap.objs.size=Ga {cls:=.type "tuple",data:=.seq #[.int i s.toks,u]}:=(j.2 _ (Tk g)).trans U;have R:H s.heap.objs.size=Ge:=I.Zu.fresh (Gm _);have Y:Inv X pins σ (upd H s.heap.objs.size (.tup [.int (i:Int),x])) {s with heap:=s.heap.push {cls:=.type "tuple",data:=.seq #[.int i s.toks,u]},toks:=s.toks}:=
   I.laid (a:=s.heap.objs.size) (o:=.tup [.int (i:Int),x]) (t':=s.toks) (λ_ _ q=>Heap.get?_push_of_some _ q) (Gm _) ⟨by show 2<=Gh;decide,[.int i s.toks,u],.cons ⟨_,Xb⟩ (.cons ru .nil),_,Heap.get?_push_size _ Xb,Xb,_,Xb⟩
  have T:∀b∈[e,it],Qay X pins (upd H s.heap.objs.size (.tup [.int (i:Int),x])) b:=λb hb=>by
   have Q:b<s.heap.objs.size:=by
    rcases List.mem_cons.mp hb with rfl|hb
    ·exact g
    ·have:b=it:=by simpa using hb
     subst this;exact t
   refine⟨?_,(B b hb).2⟩;rw[Qg (GV Q)];exact(B b hb).1
  have Z:=Y.turns (h':=m) (t':=s.toks+1) (fp:=[e,it]) (λb o hb F=>?_) T
  ·refine⟨.ref s.heap.objs.size,_,Z,Xb,⟨_,x,Xb,R,λys hy=>by rw[I.Qcg hy C];exact D,Xb⟩,⟨⟨u,by simpa using N⟩,A.at λo y=>(j.2 it r.symm).trans y⟩,λb hb=>(T b hb).1⟩
  ·have n:b≠e:=λz=>hb (by simp[z]);have L:b≠it:=λz=>hb (by simp[z]);refine(j.2 b n).trans ?_;rcases Heap.get?_push_cases (show(s.heap.push {cls:=.type "tuple",data:=.seq #[.int i s.toks,u]}).get? b=Ga o from F)with⟨rfl,rfl⟩|e0
   ·exact U
   ·exact hk b o n L e0
 done:=by intro X J hw G M i pins s σ H E I B st O;subst J hw G;obtain⟨⟨c,f⟩,d⟩:=st;obtain⟨xs,C,hn⟩:=O;obtain⟨its,rv,p,hz⟩:=I.list C;have hl:=rv.length;refine wpAny_pyNext_enum_end (I.ok.hd M) f d p.isList (T1 (by rw[List.size_toArray];omega)) λh' D=>⟨Xb,?_⟩;exact I.turns (t':=s.toks) (fp:=[e,it]) (λb o hb F=>D b o (λz=>hb (by simp[z])) F) B
 self:=λ_ _ _ _ _ st h=>by obtain⟨⟨c,f⟩,_⟩:=st;exact S0 f h
def Qz7(K:PySem.W.Frag)(ta:TA):TI:=λσ H R=>ta σ H λvs H1=>∃a xs,vs=[.ref a]/\Zb K H1 a xs/\R (ItE K a) H1
theorem Qlt{d:List TJ}{k:Nat}{tpos:E1}{a:TJ}{ta:TA}{p pos:E1}(r:Gl X "enumerate")(v:X.mg "enumerate"=Ge)(n:PA X [a] ta)(x:GX [a] X.env=[(Gp,eval a X.env)]:=by rfl):PI X (.Tuple d k tpos) (.Call (.Name "enumerate" p) [a] [] pos) (Qz7 X.K ta):=by
 intro pins s σ H R I h;refine FK (Vq I r v boot_enumerate (T9 (Yl (n pos pins s σ H _ I h) λus s1⟨vs,H1,g,z,y⟩=>?_) x Xb));obtain⟨b,xs,e,w,q⟩:=y;subst e;obtain⟨u,rfl,A⟩:=vals1 z;cases(show u=Value.ref b from A);obtain⟨its,rv,pt,hz⟩:=g.list w;refine call_enumerate_list pt.isList λh' l j hsz t=>?_;have m:Inv X pins σ H1 {s1 with heap:=h',toks:=s1.toks}:=g.kept λb o e=>t b o e;refine S0 l ⟨s1.heap.objs.size+1,[s1.heap.objs.size+1,s1.heap.objs.size],_,_,H1,Xb,m,Qoz b (s1.heap.objs.size+1) s1.heap.objs.size (Lo _),⟨⟨_,l⟩,j⟩,λc i=>?_,q⟩;have f:s1.heap.objs.size<=c:=by
  rcases List.mem_cons.mp i with e|i
  ·rw[e];exact D9 _
  ·have:c=s1.heap.objs.size:=by simpa using i
   rw[this];exact Gm _
 exact g.Qi0 f (g.Zu.fresh f)
theorem Qhn{K:PySem.W.Frag}{a:Gc}{xs:List V}{g:TG}{tb:TS}{D:Ends}(Pv:Nat->St->Hp->Prop)(j:Pv 0 σ H)
  (k:∀i σ H,i<=xs.length->Pv i σ H->Zb K H a xs)
  (n:∀i x c σ H,xs[i]?=Ga x->Pv i σ H->H c=Ge->g (.ref c) σ (upd H c (.tup [.int (i:Int),x])) λd H2=>tb {D with nx:=Pv (i+1),ct:=Pv (i+1),bk:=D.nx} d H2)
  (hd:∀σ H,Pv xs.length σ H->D.nx σ H):
  ∃W:Nat->Nat->St->Hp->Prop,(∃m,W 0 m σ H)/\∀i m σ H,W i m σ H->((ItE K a).stop i H/\D.nx σ H)\/((ItE K a).go i H/\∃N:St->Hp->Prop,(∀b H',N b H'->∃h,h<m/\W (i+1) h b H')/\∀x H',(ItE K a).yld i H x H'->g x σ H' λd H2=>tb {D with nx:=N,ct:=N,bk:=D.nx} d H2):=by
 refine⟨λi m σ H=>m=xs.length - i/\i<=xs.length/\Pv i σ H,⟨_,Xb,Gv _,j⟩,?_⟩;rintro i m σ H ⟨rfl,hi,pv⟩;have q:=k i σ H hi pv;by_cases f:i<xs.length
 ·refine .inr ⟨⟨xs,xs[i],q,by simp[f]⟩,Pv (i+1),λb H' p=>⟨xs.length - (i+1),by omega,Xb,f,p⟩,λv H' y=>?_⟩;obtain⟨c,x,rfl,l,o,rfl⟩:=y;exact n i x c σ H (o xs q) pv l
 ·have e:i=xs.length:=by omega
  subst e;exact .inl ⟨⟨xs,q,Gm _⟩,hd σ H pv⟩
end L2
namespace K07
open PySem L2 Sb Nt
variable{f C:Gc}{fd:Td}
structure V5(K:PySem.W.Frag)(mg:Gy->Option Value)(C:Gc):Prop where
 cl:Cls K C
 Qdh:Yr K C "forms"
 Wt:Yr K C "leads"
 members:Yr K C "members"
 Qfp:Yr K C "users"
 table:Yr K C "table"
 links:Yr K C "links"
 Qb1:Yr K C "link_at"
 above:Yr K C "above"
 mgC:mg "Net"=Ga (.ref C)
theorem Um(A:Na):(Yx A).lookup ("forms":Gy)=Ga (.ref A.f):=by rfl
theorem Ym(A:Na):(Yx A).lookup ("leads":Gy)=Ga (.ref A.l):=by rfl
theorem W3(A:Na):(Yx A).lookup ("members":Gy)=Ga (.ref A.m):=by rfl
theorem Ie(A:Na):(Yx A).lookup ("users":Gy)=Ga (.ref A.u):=by rfl
theorem Qi4(A:Na):(Yx A).lookup ("table":Gy)=Ga (.ref A.t):=by rfl
theorem Uu(A:Na):(Yx A).lookup ("links":Gy)=Ga (.ref A.k):=by rfl
theorem Qar(A:Na):(Yx A).lookup ("link_at":Gy)=Ga (.ref A.a):=by rfl
theorem Oz(A:Na):(Yx A).lookup ("above":Gy)=Ga (.ref A.v):=by rfl
theorem Qaw(A:Na):(Yx A).lookup ("take_in":Gy)=Ge:=by rfl
theorem Qc3(A:Na):(Yx A).lookup ("key_of":Gy)=Ge:=by rfl
theorem Qc5(A:Na):(Yx A).lookup ("equal":Gy)=Ge:=by rfl
theorem Qiy(A:Na):(Yx A).lookup ("merge":Gy)=Ge:=by rfl
theorem Qf4(A:Na):(Yx A).lookup ("merge_link":Gy)=Ge:=by rfl
theorem Ql8(A:Na):(Yx A).lookup ("hang":Gy)=Ge:=by rfl
theorem Qbk(A:Na):(Yx A).lookup ("give_over":Gy)=Ge:=by rfl
theorem Qla(A:Na):(Yx A).lookup ("way":Gy)=Ge:=by rfl
theorem Qg6(A:Na):(Yx A).lookup ("way_up":Gy)=Ge:=by rfl
theorem Qmb(A:Na):(Yx A).lookup ("rows":Gy)=Ge:=by rfl
theorem Xl{H:Hp}{a:Gc}{S:List Nat}{f:Nat->V}{p:Nat}(h:H a=Ga (.dK (dS S f)))(b:p∈S):Wd H a (jv p) (Ga (f p)):=by have:=Wd.k (k:=ki p) h;rw[Qe2 b,Q0r]at this;exact this
theorem Qfy{i j:Nat}:decide (jv i=jv j)=decide (i=j):=by
 by_cases h:i=j
 ·subst h;simp
 ·rw[Gx h,Gx λz=>h (Qxd z)]
def Qb2(P:Gj)(w:Gs)(C:Gc):Sp:=λvs H Q _=>∃(n:Gc)(A:Na)(fs:List Fm)(tb:Nat)(x:Nn)(p q:Nat),vs=[.ref n,jv p,jv q]/\Z3 P w C H n A fs tb x/\p∈x.S/\q∈x.S/\Q (.bl (decide (x.lead p=x.lead q))) H
def Qbz(P:Gj)(w:Gs)(C:Gc):Sp:=λvs H Q _=>∃(n:Gc)(A:Na)(fs:List Fm)(tb:Nat)(x:Nn)(p:Nat),vs=[.ref n,jv p]/\Z3 P w C H n A fs tb x/\p<fs.length/\(∀q∈Zl fs p,q∈x.S)/\(Zl fs p).length<=1000000/\
 ∀(c:Gc)(H':Hp),Qv H H'->H c=Ge->R3 H' (.ref c) (Zk (Yg fs) (Zl fs) x.lead p)->Q (.ref c) H'
def Qlc(P:Gj)(w:Gs)(C:Gc):Sp:=λvs H Q _=>∃(n:Gc)(A:Na)(fs:List Fm)(tb:Nat)(x:Nn)(lo hi:Nat)(cl:List Nat),vs=[.ref n,jv lo,jv hi]/\Z3 P w C H n A fs tb x/\Ch x.up lo cl/\(∀p∈cl,p∈x.S)/\x.S.length<=1000000/\
 ∀(H':Hp),Z3 P w C H' n A fs tb {x with up:=Xp x.up hi cl}->(∀b o,H b=Ga o->b≠A.v->H' b=Ga o)->(∀b,H' b=Ge->H b=Ge)->Q .non H'
def Qm2(P:Gj)(w:Gs)(C:Gc):Sp:=λvs H Q _=>∃(n:Gc)(A:Na)(fs:List Fm)(tb:Nat)(x:Nn)(p:Nat)(l:List Nat),vs=[.ref n,jv p]/\Z3 P w C H n A fs tb x/\Ch x.up p l/\(∀q∈l,q∈x.S)/\l.length<=1000000/\
 ∀(r:Gc)(H':Hp),Qv H H'->H r=Ge->H' r=Ga (.lst (l.map jv))->Q (.ref r) H'
section
variable{P:Gj}{w:Gs}{K:PySem.W.Frag}{mg:Gy->Option Value}{base:Heap}
theorem Qvv:Qy ["self","one","other"] ["self","one","other"] (Ql Qf6):=by eq_refl
theorem Qqf(F:Va K "equal" "Net.equal" Qf6 f fd)(T:V5 K mg C):Qt P w K mg base Ya 1 f fd ["self","one","other"] (Qb2 P w C):=by
 refine F.ok Qvv (λvs H Q E h=>?_) (λcdv A outer s H vs Q E e h=>?_)
 ·obtain⟨n,A,fs,tb,x,p,q,rfl,_⟩:=h;rfl
 obtain⟨n,A,fs,tb,x,p,q,rfl,X,c,d,g⟩:=h;have a:=Ut e;refine⟨_,Qh (Qx (Qvx Wu (Zt a (Qm (pv 0) rfl) (pv 1) (λ_ _=>rfl)) (Zt a (Qm (pv 0) rfl) (pv 2) (λ_ _=>rfl)) (Za _))),?_⟩;obtain⟨dx,b⟩:=X.ob;refine⟨_,Xb,n,C,dx,_,_,Xb,b,T.cl,T.Wt,Ym _,_,Xb,A.l,_,Xb,Xl X.le c,_,Xb,n,C,dx,_,_,Xb,b,T.cl,T.Wt,Ym _,_,Xb,A.l,_,Xb,Xl X.le d,Xb,?_⟩;rw[Qfy];exact g
theorem Qb5:Qy ["self","place","form"] ["self","place"] (Ql Rr):=by eq_refl
theorem Qz1:(["part","self"]:List Gy).Nodup:=by decide+kernel
theorem Qpt(F:Va K "key_of" "Net.key_of" Rr f fd)(T:V5 K mg C)(B:Ik mg):Qt P w K mg base Ya 1 f fd ["self","place"] (Qbz P w C):=by
 refine F.ok Qb5 (λvs H Q E h=>?_) (λcdv A outer s H vs Q E hr h=>?_)
 ·obtain⟨n,A,fs,tb,x,p,rfl,_⟩:=h;rfl
 obtain⟨n,A,fs,tb,x,p,rfl,X,J,v,hl,g⟩:=h;have hu:=Ut hr;have nd:=Qb5.nd;refine⟨_,Qd (Qs 2 nd (Qn Ze (Qm (pv 0) rfl) (pv 1)))
  (Qh (Qx (Q8 (Qa (Qn Q3 (pv 2) Qj) (Qa (Xt X5 rfl B.tuple Tz (Qa
   (Ub (te:=Qh8 (Qts K (Vp 1) "leads") (Vp 0)) (own:=["part"]) (fv:=[(0,"self")]) rfl (S:=(by eq_refl:Wc (Ql Rr) _)) (.cons rfl (TZ Xb) rfl .nil) (Ue (Qn Q3 (pv 2) Qj))
    (λ_ _ _ _ _=>Xc (i:=0) Qz1 rfl (TZ Xb) (DO Xb)) (λ_ _ _ _ _=>X7) (λ_ _ _ _ _=>Zt hu (Qm (pv 1) rfl) (pv 0) (λ_ _=>rfl))) Qe)) Qe))))),?_⟩
 obtain⟨dx,M⟩:=X.ob;obtain⟨O,Y,I⟩:=X.fo;have hw:p<O.length:=by rw[Paired.length I];exact J
 obtain⟨y,L,c,e,W,h1,h2⟩:=Qw I (List.getElem?_eq_getElem hw);rw[Qfd J]at L;cases L;have U:atI [V.str (Yg fs p),V.ref e] (1:Int)=Ga (.ref e):=Qz (j:=1) rfl;refine⟨_,Xb,n,C,dx,_,_,Xb,M,T.cl,T.Qdh,Um _,_,Xb,A.f,O,_,_,Xb,Xb,Zb.of Y,Qz (List.getElem?_eq_getElem hw),?_⟩;rw[W];refine⟨_,Xb,c,_,_,_,Xb,Xb,Z4.of h1,Rv _ _,_,Xb,c,_,_,_,Xb,Xb,Z4.of h1,U,e,Xb,⟨_,Z4.of h2⟩,λr t=>?_⟩;have s3:=Qf t (.lst []);refine Uq (K:=K) (a:=e) (xs:=(Zl fs p).map jv) (small (by rw[List.length_map];omega)) (λi ys σ H2=>(∃R,σ=[R,Ga (.ref n)])/\Qv H H2/\ys=((Zl fs p).take i).map λq=>jv (x.lead q))
  ⟨⟨_,Xb⟩,s3,by simp⟩ (λi ys σ H2 _ h=>Z4.of (h.2.1 _ _ h2)) ?_ ?_
 ·rintro i y ys σ H2 hi z ⟨⟨R,rfl⟩,d,rfl⟩ u;rw[List.getElem?_map]at hi;cases eq:(Zl fs p)[i]? with
  |none=>rw[eq]at hi;cases hi
  |some q=>
   rw[eq]at hi;cases hi;refine⟨_,Xb,n,C,dx,_,_,Xb,d _ _ M,T.cl,T.Wt,Ym _,_,Xb,A.l,_,Xb,Xl (d _ _ X.le) (v q (List.mem_of_getElem? eq)),u,⟨_,Xb⟩,λb o G=>?_,?_⟩
   ·rw[Qg (Qc G t)];exact d _ _ G
   ·rw[List.take_add_one,eq,List.map_append];rfl
 ·rintro ys σ H2 z ⟨_,d,rfl⟩ u;rw[List.length_map,List.take_length]at u;refine⟨r,_,Xb,.inl ⟨Zb.of u,λm Z=>?_⟩⟩;have s4:=Qf Z (.tup ((Zl fs p).map λq=>jv (x.lead q)));refine⟨by show 2<=Gh;decide,λD k=>?_⟩;have N:=Qf k (.tup [.str (Yg fs p),.ref m]);refine g D _ ((d.trans s4).trans N) (d.free (s4.free k)) ⟨D,m,Xb,Qb,?_⟩;rw[N _ _ Qb];simp only[Zk,List.map_map];rfl
theorem Qm5:Qy ["self","place","found","stop"] ["self","place"] (Ql Qg1):=by eq_refl
theorem Qft{o:Option Nat}:decide (ov o=V.non)= !o.isSome:=by
 cases o with
 |none=>rfl
 |some p=>rfl
theorem Ql5{up:Nat->Option Nat}{p:Nat}{l:List Nat}(h:Ch up p l){i:Nat}(hi:i<l.length):up l[i]=l[i+1]?:=by
 induction h generalizing i with
 |@top p e=>
  have:i=0:=by simpa using hi
  subst this;simpa using e
 |@step p q l e k b=>
  cases i with
  |zero=>obtain⟨r,a⟩:=k.head;subst a;simpa using e
  |succ j=>simp only[List.length_cons]at hi;simpa using b (i:=j) (by omega)
theorem Qpq(F:Va K "way_up" "Net.way_up" Qg1 f fd)(T:V5 K mg C):Qt P w K mg base Ya 1 f fd ["self","place"] (Qm2 P w C):=by
 refine F.ok Qm5 (λvs H Q E h=>?_) (λcdv A outer s H vs Q E J h=>?_)
 ·obtain⟨n,A,fs,tb,x,p,l,rfl,_⟩:=h;rfl
 obtain⟨n,A,fs,tb,x,p,l,rfl,X,o,I,q,g⟩:=h;have L:=Ut J;have nd:=Qm5.nd;refine⟨_,Qd (Qs 2 nd (Zj Qe))
  (Qd (Qs 3 nd (pv 1))
  (Qd (Wi Gq (Qu O3 (pv 3) Ji (Za _))
   (Qd (Zc (Xn PySem.F.plainAttrs_list PySem.F.slot_list_append PySem.F.type_list_append Zq (pv 2) (Qa (pv 3) Qe)))
   (Qh (Qs 3 nd (Zt L (Qm (pv 0) rfl) (pv 3) (λ_ _=>rfl))))))
  (Qh (Qx (pv 2))))),?_⟩
 obtain⟨dx,M⟩:=X.ob;refine⟨Gv _,λr b=>⟨_,Xb,?_⟩⟩;have R:=Qf b (.lst []);obtain⟨O,B⟩:=o.head;have D:l[0]?=Ga p:=by rw[B];rfl
 refine Qcf (λm σ H2=>∃i,m=l.length+1 - i/\i<=l.length/\σ=[Ga (.ref n),Ga (jv p),Ga (.ref r),Ga (ov l[i]?)]/\H2=upd H r (.lst ((l.take i).map jv)))
  ⟨_,0,Xb,Gv _,by rw[D];rfl,by simp⟩ ?_ (λσ H Q N G=>λh=>by obtain⟨v,c,t,u,y,z⟩:=h;exact⟨v,c,t,u,y,G _ _ z⟩)
 rintro m σ H2 ⟨i,rfl,hi,rfl,rfl⟩;refine⟨_,Xb,Xb,_,Xb,?_⟩;rw[Qft];rcases Tb i l.length with a|j
 ·have c:l[i]?=Ga l[i]:=List.getElem?_eq_getElem a;have d:l[i]∈l:=List.getElem_mem a;rw[c];refine Xf ?_;refine⟨_,Xb,.inl ⟨Xb,_,Zb.of Qb⟩,_,Xb,r,_,_,Xb,Xb,Qb,by rw[List.length_map,List.length_take,Gu];omega,?_⟩;have e:Qv H (upd (upd H r (.lst ((l.take i).map jv))) r (.lst ((l.take i).map jv++[jv l[i]]))):=by rw[Vk];exact Qf b _
  refine⟨_,Xb,n,C,dx,_,_,Xb,e _ _ M,T.cl,T.above,Oz _,_,Xb,A.v,_,Xb,Xl (e _ _ X.ab) (I _ d),_,by omega,i+1,Xb,a,?_,?_⟩
  ·rw[Ql5 o a];rfl
  ·rw[Vk,List.take_add_one,c,List.map_append];rfl
 ·have c:l[i]?=Ge:=List.getElem?_eq_none j;have k:i=l.length:=by omega
  subst k;rw[c];refine Zz ?_;rw[List.take_length];exact⟨_,Xb,g r _ (Qf b _) b Qb⟩
theorem Qq2:Qy ["self","low","high","over","place","old_over"] ["self","low","high"] (Ql Qmj):=by eq_refl
theorem Qty(F:Va K "hang" "Net.hang" Qmj f fd)(T:V5 K mg C):Qt P w K mg base Ya 1 f fd ["self","low","high"] (Qlc P w C):=by
 refine F.ok Qq2 (λvs H Q E h=>?_) (λcdv A outer s H vs Q E hr h=>?_)
 ·obtain⟨n,A,fs,tb,x,lo,hi,cl,rfl,_⟩:=h;rfl
 obtain⟨n,A,fs,tb,x,lo,hi,cl,rfl,X,G,I,W,g⟩:=h;have Y:=Ut hr;have nd:=Qq2.nd;refine⟨_,Qd (Qs 3 nd (pv 2))
  (Qd (Qs 4 nd (pv 1))
  (Qh (Wi Gq (Qu O3 (pv 4) Ji (Za _))
   (Qd (Qs 5 nd (Zt Y (Qm (pv 0) rfl) (pv 4) (λ_ _=>rfl)))
   (Qd (Wl Y (Qm (pv 0) rfl) (pv 4) (pv 3) rfl)
   (Qd (Qs 3 nd (pv 4))
   (Qh (Qs 4 nd (pv 5))))))))),?_⟩
 obtain⟨dx,L⟩:=X.ob;obtain⟨aa,d⟩:=G.head;refine⟨_,Xb,_,Xb,?_⟩;have Z:n≠A.v:=Zw L X.ab (by intro z;cases z);refine Qcf (λm σ H2=>∃(u:Nat->Option Nat)(over:Nat)(Ws:List Nat)(x5:Option V),m=Ws.length/\(∀q∈Ws,u q=x.up q)/\(∀c r,Ws=c::r->Ch x.up c Ws)/\Ws.Nodup/\(∀q∈Ws,q∈x.S)/\Xp u over Ws=Xp x.up hi cl/\σ=[Ga (.ref n),Ga (jv lo),Ga (jv hi),Ga (jv over),Ga (ov Ws.head?),x5]/\H2=upd H A.v (.dK (dS x.S λp=>ov (u p))))
  ⟨_,x.up,hi,cl,Ge,Xb,λ_ _=>rfl,λc r e=>?_,G.nodup,I,Xb,?_,?_⟩ ?_ (λσ H Q Q' hQ=>λh=>by obtain⟨v,e1,B,e3,e4,e5⟩:=h;exact⟨v,e1,B,e3,e4,hQ _ _ e5⟩)
 ·rw[d]at e;cases e;exact G
 ·rw[d];rfl
 ·funext b
  by_cases hb:b=A.v
  ·subst hb;rw[Qb];exact X.ab
  ·rw[Qg hb]
 rintro m σ H2 ⟨u,over,Ws,x5,rfl,l,t,nd2,hS,J,rfl,rfl⟩;refine⟨_,Xb,Xb,_,Xb,?_⟩;rw[Qft];cases Ws with
 |nil=>
  refine Zz ?_;have e:Xp u over []=u:=rfl;rw[e]at J;refine g _ ?_ (λb o eb hb=>by rw[Qg hb];exact eb) (λb hb=>?_)
  ·rw[<-J];have M:Qp H (upd H A.v (.dK (dS x.S λp=>ov (u p)))):=Zh λxs e=>by rw[X.ab]at e;cases e
   obtain⟨ws,R,f2⟩:=X.fo;obtain⟨kvs,D,d2,d3⟩:=X.ta;obtain⟨ls,l1,l2⟩:=X.li;obtain⟨kv,N,a2⟩:=X.at_;refine⟨⟨dx,by rw[Qg Z];exact L⟩,⟨ws,by rw[Qg (Zw R X.ab (by intro z;cases z))];exact R,L2.Paired.Yb f2 λ_ _ h=>h.Qk M⟩,by rw[Qg X.ap.lv];exact X.le,by rw[Qg X.ap.mv];exact X.me,by rw[Qg X.ap.uv];exact X.us,
    ⟨kvs,⟨by rw[Qg (Zw D.at_ X.ab (by intro z;cases z))];exact D.at_,Q6 M D.keys⟩,d2,d3⟩,⟨ls,by rw[Qg (Zw l1 X.ab (by intro z;cases z))];exact l1,L2.Paired.Yb l2 λ_ _ h=>h.Qk M⟩,⟨kv,by rw[Qg (Zw N X.ab (by intro z;cases z))];exact N,a2⟩,Qb,
    λp j=>by rw[Qg (Zw (X.ml p j) X.ab (by intro z;cases z))];exact X.ml p j,λp j=>by rw[Qg (Zw (X.ul p j) X.ab (by intro z;cases z))];exact X.ul p j,X.ap⟩
  ·by_cases e:b=A.v
   ·subst e;rw[Qb]at hb;cases hb
   ·rw[Qg e]at hb;exact hb
 |cons c r=>
  refine Xf ?_;have O:=hS c (by simp);have o2:(upd H A.v (.dK (dS x.S λp=>ov (u p)))) n=Ga (.ins C dx (Yx A)):=by rw[Qg Z];exact L
  have uc:u c=r.head?:=by rw[l c (by simp)];have:=Ql5 (t c r Xb) (i:=0) (by simp);simp only[List.getElem_cons_zero]at this;rw[this];cases r<;>rfl
  rw[List.nodup_cons]at nd2;have U:=Ra.k (k:=ki c) (v:=jv over) (@Qb H A.v (.dK (dS x.S λp=>ov (u p)))) (by rw[Ww,Gu];omega);rw[Vk,Qka O]at U;refine⟨_,Xb,n,C,dx,_,_,Xb,o2,T.cl,T.above,Oz _,_,Xb,A.v,_,Xb,Xl Qb O,_,Xb,_,Xb,n,C,dx,_,_,Xb,o2,T.cl,T.above,Oz _,_,Xb,A.v,_,Xb,U,_,Xb,_,Xb,r.length,by simp,Qcy u c over,c,r,Ga (ov (u c)),Xb,λq y=>?_,λc2 r2 B=>?_,nd2.2,λq y=>hS q (by simp[y]),J,?_,?_⟩
  ·unfold Qcy;rw[Gg (λz:q=c=>nd2.1 (z▸y))];exact l q (by simp[y])
  ·have:=t c r rfl;subst B;exact this.suffix (a:=[c]) rfl
  ·rw[uc];rfl
  ·congr 2;refine Wo λq _=>?_;unfold Qcy;by_cases e:q=c
   ·rw[Gk e,Gk e];rfl
   ·rw[Gg e,Gg e]
end
end K07
namespace Sb
open PySem PySem.Spec PyProof.Rows L2 Nt
theorem Ye{H:Hp}{a b:Gc}{o u:HO}(h:H a=Ga o)(k:H b=Ga u)(d:∀z:o=u,False):a≠b:=λz=>by subst z;rw[h]at k;exact d (Tc k)
section
variable{P:Gj}{w:Gs}{C:Gc}{H:Hp}{n:Gc}{A:Na}{fs:List Fm}{tb:Nat}{x:Nn}
theorem Z3.Qt0(X:Z3 P w C H n A fs tb x)(ld:Nat->Nat):Z3 P w C (upd H A.l (.dK (dS x.S λp=>jv (ld p)))) n A fs tb {x with lead:=ld}:=by
 obtain⟨dx,g⟩:=X.ob;obtain⟨r,f,m⟩:=X.fo;obtain⟨kvs,D,j,k⟩:=X.ta;obtain⟨ls,l1,l2⟩:=X.li;obtain⟨q,d,i⟩:=X.at_;have c:Qp H (upd H A.l (.dK (dS x.S λp=>jv (ld p)))):=Zh λxs e=>by rw[X.le]at e;cases e
 have u:∀{b o},H b=Ga o->b≠A.l->(upd H A.l (.dK (dS x.S λp=>jv (ld p)))) b=Ga o:=λe h=>by rw[Qg h];exact e
 exact⟨⟨dx,u g (Ye g X.le nofun)⟩,⟨r,u f (Ye f X.le nofun),L2.Paired.Yb m λ_ _ h=>h.Qk c⟩,Qb,u X.me (Gn X.ap.lm),u X.us (Gn X.ap.lu),⟨kvs,⟨u D.at_ (Ye D.at_ X.le nofun),Q6 c D.keys⟩,j,k⟩,
  ⟨ls,u l1 (Ye l1 X.le nofun),L2.Paired.Yb l2 λ_ _ h=>h.Qk c⟩,⟨q,u d (Ye d X.le nofun),i⟩,u X.ab (Gn X.ap.lv),λp a=>u (X.ml p a) (Ye (X.ml p a) X.le nofun),λp a=>u (X.ul p a) (Ye (X.ul p a) X.le nofun),X.ap⟩
theorem Z3.Qxu(X:Z3 P w C H n A fs tb x){k:Nat}(a:k∈x.S)(l:List Nat):Z3 P w C (upd H (A.ml k) (.lst (l.map jv))) n A fs tb {x with mem:=λp=>if p=k then l else x.mem p}:=by
 obtain⟨dx,g⟩:=X.ob;obtain⟨v,r,s⟩:=X.fo;obtain⟨kvs,D,j,q⟩:=X.ta;obtain⟨ls,l1,l2⟩:=X.li;obtain⟨t,f,i⟩:=X.at_;have m:=X.ml k a;have d:Qp H (upd H (A.ml k) (.lst (l.map jv))):=Zh λxs e=>by rw[m]at e;cases e
 have u:∀{b o},H b=Ga o->b≠A.ml k->(upd H (A.ml k) (.lst (l.map jv))) b=Ga o:=λe h=>by rw[Qg h];exact e
 refine⟨⟨dx,u g (Ye g m nofun)⟩,⟨v,u r (Gn (X.ap.mkf k a).2),L2.Paired.Yb s λ_ _ h=>h.Qk d⟩,u X.le (Ye X.le m nofun),u X.me (Ye X.me m nofun),u X.us (Ye X.us m nofun),⟨kvs,⟨u D.at_ (Ye D.at_ m nofun),Q6 d D.keys⟩,j,q⟩,
  ⟨ls,u l1 (Gn (X.ap.mkf k a).1),L2.Paired.Yb l2 λ_ _ h=>h.Qk d⟩,⟨t,u f (Ye f m nofun),i⟩,u X.ab (Ye X.ab m nofun),λp c=>?_,λp c=>u (X.ul p c) (Gn (X.ap.mul k a p c)),X.ap⟩
 by_cases e:p=k
 ·subst e;show _=Ga (HO.lst ((if p=p then l else x.mem p).map jv));rw[Qb,Gk rfl]
 ·show _=Ga (HO.lst ((if p=k then l else x.mem p).map jv));rw[Gg e];exact u (X.ml p c) (λz=>e (X.ap.mm p c k a z))
theorem Z3.Qp2(X:Z3 P w C H n A fs tb x){k:Nat}(a:k∈x.S)(l:List Nat):Z3 P w C (upd H (A.ul k) (.lst (l.map jv))) n A fs tb {x with Xg:=λp=>if p=k then l else x.Xg p}:=by
 obtain⟨dx,g⟩:=X.ob;obtain⟨v,r,s⟩:=X.fo;obtain⟨kvs,D,j,q⟩:=X.ta;obtain⟨ls,l1,l2⟩:=X.li;obtain⟨t,f,i⟩:=X.at_;have m:=X.ul k a;have d:Qp H (upd H (A.ul k) (.lst (l.map jv))):=Zh λxs e=>by rw[m]at e;cases e
 have u:∀{b o},H b=Ga o->b≠A.ul k->(upd H (A.ul k) (.lst (l.map jv))) b=Ga o:=λe h=>by rw[Qg h];exact e
 refine⟨⟨dx,u g (Ye g m nofun)⟩,⟨v,u r (Gn (X.ap.ukf k a).2),L2.Paired.Yb s λ_ _ h=>h.Qk d⟩,u X.le (Ye X.le m nofun),u X.me (Ye X.me m nofun),u X.us (Ye X.us m nofun),⟨kvs,⟨u D.at_ (Ye D.at_ m nofun),Q6 d D.keys⟩,j,q⟩,
  ⟨ls,u l1 (Gn (X.ap.ukf k a).1),L2.Paired.Yb l2 λ_ _ h=>h.Qk d⟩,⟨t,u f (Ye f m nofun),i⟩,u X.ab (Ye X.ab m nofun),λp c=>u (X.ml p c) (X.ap.mul p c k a),λp c=>?_,X.ap⟩
 by_cases e:p=k
 ·subst e;show _=Ga (HO.lst ((if p=p then l else x.Xg p).map jv));rw[Qb,Gk rfl]
 ·show _=Ga (HO.lst ((if p=k then l else x.Xg p).map jv));rw[Gg e];exact u (X.ul p c) (λz=>e (X.ap.uu p c k a z))
theorem Z3.Qp8(X:Z3 P w C H n A fs tb x){kvs kvs':List KE}(D:DH P w H A.t kvs)(q:kvs'.length<=tb+1)(i:W4 H kvs'){t':Fm->Option Nat}(r:∀k:Fm,Yf kvs' (Yu k)=(t' k).map jv):Z3 P w C (upd H A.t (Vh P w A.t kvs')) n A fs (tb+1) {x with tab:=t'}:=by
 obtain⟨dx,g⟩:=X.ob;obtain⟨v,f,l⟩:=X.fo;obtain⟨ls,l1,l2⟩:=X.li;obtain⟨s,d,j⟩:=X.at_;have m:=D.at_;have c:Qp H (upd H A.t (Vh P w A.t kvs')):=Zh λxs e=>by rw[m]at e;cases e
 have u:∀{b o},H b=Ga o->b≠A.t->(upd H A.t (Vh P w A.t kvs')) b=Ga o:=λe h=>by rw[Qg h];exact e
 exact⟨⟨dx,u g (Ye g m nofun)⟩,⟨v,u f (Ye f m nofun),L2.Paired.Yb l λ_ _ h=>h.Qk c⟩,u X.le (Ye X.le m nofun),u X.me (Ye X.me m nofun),u X.us (Ye X.us m nofun),⟨kvs',⟨Qb,Q6 c i⟩,q,r⟩,
  ⟨ls,u l1 (Ye l1 m nofun),L2.Paired.Yb l2 λ_ _ h=>h.Qk c⟩,⟨s,u d (Ye d m nofun),j⟩,u X.ab (Ye X.ab m nofun),λp a=>u (X.ml p a) (Ye (X.ml p a) m nofun),λp a=>u (X.ul p a) (Ye (X.ul p a) m nofun),X.ap⟩
theorem Z3.Qu4(X:Z3 P w C H n A fs tb x){kv2:List (List Xh×V)}{ls':List V}{lks:List Lk}{lat':Nat->Nat->Option Nat}(h1:kv2.length<=2*lks.length)(h2:∀i j:Nat,Yq kv2 [ki i,ki j]=(lat' i j).map jv)(s:Paired (R0 H) ls' lks):
  Z3 P w C (upd (upd H A.a (.dT kv2)) A.k (.lst ls')) n A fs tb {x with links:=lks,Y1:=lat'}:=by
 obtain⟨dx,f⟩:=X.ob;obtain⟨t,l,r⟩:=X.fo;obtain⟨kvs,D,m,q⟩:=X.ta;obtain⟨ls,l1,l2⟩:=X.li;obtain⟨y,c,v⟩:=X.at_;have g:Qp H (upd (upd H A.a (.dT kv2)) A.k (.lst ls')):=λb xs e=>by rw[Qg (Ye e l1 nofun),Qg (Ye e c nofun)];exact e
 have u:∀{b o},H b=Ga o->b≠A.k->b≠A.a->(upd (upd H A.a (.dT kv2)) A.k (.lst ls')) b=Ga o:=λe h h'=>by rw[Qg h,Qg h'];exact e
 refine⟨⟨dx,u f (Ye f l1 nofun) (Ye f c nofun)⟩,⟨t,u l (Gn X.ap.kf) (Ye l c nofun),L2.Paired.Yb r λ_ _ h=>h.Qk g⟩,u X.le (Ye X.le l1 nofun) (Ye X.le c nofun),u X.me (Ye X.me l1 nofun) (Ye X.me c nofun),u X.us (Ye X.us l1 nofun) (Ye X.us c nofun),
  ⟨kvs,⟨u D.at_ (Ye D.at_ l1 nofun) (Ye D.at_ c nofun),Q6 g D.keys⟩,m,q⟩,⟨ls',Qb,L2.Paired.Yb s λ_ _ h=>h.Qk g⟩,⟨kv2,?_,h1,h2⟩,u X.ab (Ye X.ab l1 nofun) (Ye X.ab c nofun),λp d=>u (X.ml p d) (X.ap.mkf p d).1 (Ye (X.ml p d) c nofun),λp d=>u (X.ul p d) (X.ap.ukf p d).1 (Ye (X.ul p d) c nofun),X.ap⟩
 rw[Qg (Ye c l1 nofun),Qb]
end
end Sb
namespace K07
open PySem L2 Sb Nt
structure Qeg(fs:List Fm)(S:List Nat):Prop where
 str:∀p,TW (Yg fs p)=Gf
 lt:∀p∈S,p<fs.length
 pts:∀p∈S,∀q∈Zl fs p,q∈S
 few:∀p,(Zl fs p).length<=100000
def Qkl(P:Gj)(w:Gs)(C:Gc):Sp:=λvs H Q _=>∃(n:Gc)(A:Na)(fs:List Fm)(tb:Nat)(x:Nn)(g k:Nat),vs=[.ref n,jv g,jv k]/\Z3 P w C H n A fs tb x/\Qeg fs x.S/\g∈x.S/\k∈x.S/\g≠k/\(∀p∈x.mem g,p∈x.S)/\(∀p∈x.Xg g,p∈x.S)/\
 x.S.length<=100000/\(x.mem k).length+(x.mem g).length<=100000/\(x.Xg k).length+(x.Xg g).length<=100000/\tb+(x.Xg g).length<=1000000/\
 ∀(r:Gc)(es:List V)(H':Hp),Z3 P w C H' n A fs (tb+(x.Xg g).length) (V2 (Yg fs) (Zl fs) x g k).1->R1 A x.S H H'->H r=Ge->H' r=Ga (.lst es)->Paired (R0 H') es (V2 (Yg fs) (Zl fs) x g k).2->Q (.ref r) H'
section
variable{P:Gj}{w:Gs}{K:PySem.W.Frag}{mg:Gy->Option Value}{base:Heap}
theorem Qq1:Qy ["self","gone","kept","place","found","user","twin"] ["self","gone","kept"] (Ql Iq):=by eq_refl
theorem Qnr{ky:Nat->Gy×List Nat}{l:List Nat}{t:Gy×List Nat->Option Nat}{i u:Nat}(h:l[i]?=Ga u):scan (ρ:=U2) ky (l.take (i+1)) t []=(match(scan (ρ:=U2) ky (l.take i) t []).1 (ky u)with
  |some v=>((scan (ρ:=U2) ky (l.take i) t []).1,if v=u then(scan (ρ:=U2) ky (l.take i) t []).2 else(scan (ρ:=U2) ky (l.take i) t []).2++[(u,v,Ge)])
  |none=>((λk=>if k=ky u then Ga u else(scan (ρ:=U2) ky (l.take i) t []).1 k),(scan (ρ:=U2) ky (l.take i) t []).2)):=by
 have gen:∀(a:List Nat)(t:Gy×List Nat->Option Nat)(f:List (Nat×Nat×Option U2)),scan (ρ:=U2) ky (a++[u]) t f=(match(scan (ρ:=U2) ky a t f).1 (ky u)with
  |some v=>((scan (ρ:=U2) ky a t f).1,if v=u then(scan (ρ:=U2) ky a t f).2 else(scan (ρ:=U2) ky a t f).2++[(u,v,Ge)])
  |none=>((λk=>if k=ky u then Ga u else(scan (ρ:=U2) ky a t f).1 k),(scan (ρ:=U2) ky a t f).2)):=by
  intro a;induction a with
  |nil=>intro t f;simp only[List.nil_append,scan];all_goals (cases t (ky u)<;>rfl)
  |cons z a b=>
   intro t f;simp only[List.cons_append,scan];cases t (ky z)with
   |some v=>exact b _ _
   |none=>exact b _ _
 rw[List.take_add_one,h];exact gen _ _ _
theorem Qtr{f fK C:Gc}{fd ag:Td}(F:Va K "give_over" "Net.give_over" Iq f fd)(T:V5 K mg C)(mK:Yc K C "key_of" fK)(GK:Qt P w K mg base Ya 1 fK ag ["self","place"] (Qbz P w C))(bK:Binds K ag ["self","place"] []):
  Qt P w K mg base Ya 2 f fd ["self","gone","kept"] (Qkl P w C):=by
 refine F.ok Qq1 (λvs H Q E h=>?_) (λcdv A outer s H vs Q E hr h=>?_)
 ·obtain⟨n,A,fs,tb,x,g,k,rfl,_⟩:=h;rfl
 obtain⟨n,A,fs,tb,x,g,k,rfl,X,fok,I,J,ar,mS,uS,hS,hm,aA,az,q⟩:=h;have hu:=Ut hr;have ai:=hr.units;have av:Yd 1 _:=hr.mono (by omega);have nd:=Qq1.nd;refine⟨_,Qd (Z6 Gq rfl (Yn (Zt hu (Qm (pv 0) rfl) (pv 1) (λ_ _=>rfl))) (Z2 3 nd)
   (Qh (Wl hu (Qm (pv 0) rfl) (pv 3) (pv 2) rfl)))
  (Qd (Zc (Xn PySem.F.plainAttrs_list PySem.F.slot_list_extend PySem.F.type_list_extend Qa2 (Zt hu (Qm (pv 0) rfl) (pv 2) (λ_ _=>rfl)) (Qa (Zt hu (Qm (pv 0) rfl) (pv 1) (λ_ _=>rfl)) Qe)))
  (Qd (Zc (Xn PySem.F.plainAttrs_list PySem.F.slot_list_extend PySem.F.type_list_extend Qa2 (Zt hu (Qm (pv 0) rfl) (pv 2) (λ_ _=>rfl)) (Qa (Zt hu (Qm (pv 0) rfl) (pv 1) (λ_ _=>rfl)) Qe)))
  (Qd (Qs 4 nd (Zj Qe))
  (Qd (Z6 Gq rfl (Yn (Zt hu (Qm (pv 0) rfl) (pv 1) (λ_ _=>rfl))) (Z2 5 nd)
   (Qd (Qs 6 nd (Qyb PySem.F.slot_dict_setdefault PySem.F.type_dict_setdefault (Qki ai) (Qm (pv 0) rfl) (Qa (Zd (pv 0) T.cl mK GK av bK .nil Q4 (Qa (pv 5) Qe)) (Qa (pv 5) Qe))))
   (Qh (Zr (Qu Ih (pv 6) (pv 5) (Za _))
    (Qh (Zc (Xn PySem.F.plainAttrs_list PySem.F.slot_list_append PySem.F.type_list_append Zq (pv 4) (Qa (Q8 (Qa (pv 5) (Qa (pv 6) (Qa Ji Qe)))) Qe)))) Q9))))
  (Qh (Qx (pv 4))))))),?_⟩
 obtain⟨dx,o1⟩:=X.ob;have nl:n≠A.l:=Ye o1 X.le nofun;refine⟨_,Xb,n,C,dx,_,_,Xb,o1,T.cl,T.members,W3 _,_,Xb,A.m,_,Xb,Xl X.me I,A.ml g,Xb,⟨_,Zb.of (X.ml g I)⟩,Yz (K:=K) (a:=A.ml g) (xs:=(x.mem g).map jv)
  (λi σ H2=>(∃x3,σ=[Ga (.ref n),Ga (jv g),Ga (jv k),x3,Ge,Ge,Ge])/\H2=upd H A.l (.dK (dS x.S λp=>jv (if p∈(x.mem g).take i then k else x.lead p))))
  ⟨⟨_,Xb⟩,?_⟩ (λi σ H2 _⟨_,e⟩=>by rw[e];exact Zb.of (by rw[Qg (Ye (X.ml g I) X.le nofun)];exact X.ml g I)) ?_ ?_⟩
 ·funext b
  by_cases hb:b=A.l
  ·subst hb;rw[Qb,X.le];simp
  ·rw[Qg hb]
 ·rintro i y σ H2 hi ⟨⟨x3,rfl⟩,rfl⟩;rw[List.getElem?_map]at hi;cases eq:(x.mem g)[i]? with
  |none=>rw[eq]at hi;cases hi
  |some p=>
   rw[eq]at hi;cases hi;have pS:=mS p (List.mem_of_getElem? eq);have o2:(upd H A.l (.dK (dS x.S λp=>jv (if p∈(x.mem g).take i then k else x.lead p)))) n=Ga (.ins C dx (Yx A)):=by rw[Qg nl];exact o1
   have hk:=Ra.k (k:=ki p) (v:=jv k) (@Qb H A.l (.dK (dS x.S λp=>jv (if p∈(x.mem g).take i then k else x.lead p)))) (by rw[Ww,Gu];omega);rw[Vk,Qka pS]at hk;refine⟨_,Xb,_,Xb,n,C,dx,_,_,Xb,o2,T.cl,T.Wt,Ym _,_,Xb,A.l,_,Xb,hk,⟨_,Xb⟩,?_⟩;congr 2;refine Wo λr _=>?_;rw[List.take_add_one,eq];by_cases e:r=p
   ·subst e;rw[Gk Xb,Gk (by simp)]
   ·rw[Gg e];by_cases hm:r∈(x.mem g).take i
    ·rw[Gk hm,Gk (List.mem_append_left _ hm)]
    ·rw[Gg hm,Gg (by simp[hm,e])]
 rintro σ H2 ⟨⟨x3,rfl⟩,rfl⟩;rw[List.length_map,List.take_length];have O:=X.Qt0 (Q7 x g k);have eL:(dS x.S λp=>jv (if p∈x.mem g then k else x.lead p))=dS x.S λp=>jv (Q7 x g k p):=rfl;rw[eL];have F1:R1 A x.S H (upd H A.l (.dK (dS x.S λp=>jv (Q7 x g k p)))):=R1.upd (.inl Xb);generalize upd H A.l (.dK (dS x.S λp=>jv (Q7 x g k p)))=H1 at O F1⊢;obtain⟨ad,ak⟩:=O.ob;refine⟨_,Xb,n,C,ad,_,_,Xb,ak,T.cl,T.members,W3 _,_,Xb,A.m,_,Xb,Xl O.me J,.inl ⟨Xb,_,Zb.of (O.ml k J)⟩,_,Xb,n,C,ad,_,_,Xb,ak,T.cl,T.members,W3 _,_,Xb,A.m,_,Xb,Xl O.me I,A.ml k,A.ml g,_,_,Xb,Xb,O.ml k J,O.ml g I,small (by rw[List.length_map,List.length_map];show(x.mem k).length+(x.mem g).length<=_;omega),?_⟩;have R:=O.Qxu J (x.mem k++x.mem g);have F2:R1 A x.S H1 (upd H1 (A.ml k) (.lst ((x.mem k++x.mem g).map jv))):=R1.upd (.inr (.inr (.inr (.inr (.inr (.inr (.inr ⟨k,J,.inl Xb⟩)))))));have e2:((x.mem k).map jv++(x.mem g).map jv)=(x.mem k++x.mem g).map jv:=(List.map_append ..).symm;rw[e2];generalize upd H1 (A.ml k) (.lst ((x.mem k++x.mem g).map jv))=H2 at R F2⊢;obtain⟨ae,al⟩:=R.ob;refine⟨_,Xb,n,C,ae,_,_,Xb,al,T.cl,T.Qfp,Ie _,_,Xb,A.u,_,Xb,Xl R.us J,.inl ⟨Xb,_,Zb.of (R.ul k J)⟩,_,Xb,n,C,ae,_,_,Xb,al,T.cl,T.Qfp,Ie _,_,Xb,A.u,_,Xb,Xl R.us I,A.ul k,A.ul g,_,_,Xb,Xb,R.ul k J,R.ul g I,small (by rw[List.length_map,List.length_map];show(x.Xg k).length+(x.Xg g).length<=_;omega),?_⟩;have X3:=R.Qp2 J (x.Xg k++x.Xg g);have F3:R1 A x.S H2 (upd H2 (A.ul k) (.lst ((x.Xg k++x.Xg g).map jv))):=R1.upd (.inr (.inr (.inr (.inr (.inr (.inr (.inr ⟨k,J,.inr Xb⟩)))))));have e3:((x.Xg k).map jv++(x.Xg g).map jv)=(x.Xg k++x.Xg g).map jv:=(List.map_append ..).symm;rw[e3];generalize upd H2 (A.ul k) (.lst ((x.Xg k++x.Xg g).map jv))=H3 at X3 F3⊢;have ab:=(F1.trans F2).trans F3;refine⟨Gv _,λr ah=>?_⟩;have s4:=Qf ah (.lst []);have X4:=X3.same s4;obtain⟨ao,ax⟩:=X4.ob;have U:H r=Ge:=ab.there r ah;have ap:(λp=>if p=k then x.Xg k++x.Xg g else x.Xg p) g=x.Xg g:=Gg ar;have ug:∀{j:Hp}{t':Fm->Option Nat}{m:Nat},Z3 P w C j n A fs m {x with lead:=Q7 x g k,mem:=(λp=>if p=k then x.mem k++x.mem g else x.mem p),Xg:=(λp=>if p=k then x.Xg k++x.Xg g else x.Xg p),tab:=t'}->j (A.ul g)=Ga (.lst ((x.Xg g).map jv)):=λY=>by have:=Y.ul g I;rw[this];show Ga (HO.lst (((λp=>if p=k then x.Xg k++x.Xg g else x.Xg p) g).map jv))=_;rw[ap]
 refine⟨_,Xb,n,C,ao,_,_,Xb,ax,T.cl,T.Qfp,Ie _,_,Xb,A.u,_,Xb,Xl X4.us I,A.ul g,Xb,⟨_,Zb.of (ug X4)⟩,Yz (K:=K) (a:=A.ul g) (xs:=(x.Xg g).map jv)
  (λi σ j=>∃(x5 x6:Option V)(es:List V),σ=[Ga (.ref n),Ga (jv g),Ga (jv k),x3,Ga (.ref r),x5,x6]/\
   Z3 P w C j n A fs (tb+i) {x with lead:=Q7 x g k,mem:=(λp=>if p=k then x.mem k++x.mem g else x.mem p),Xg:=(λp=>if p=k then x.Xg k++x.Xg g else x.Xg p),tab:=(scan (ρ:=U2) (Zk (Yg fs) (Zl fs) (Q7 x g k)) ((x.Xg g).take i) x.tab []).1}/\
   R1 A x.S H j/\j r=Ga (.lst es)/\Paired (R0 j) es (scan (ρ:=U2) (Zk (Yg fs) (Zl fs) (Q7 x g k)) ((x.Xg g).take i) x.tab []).2)
  ⟨_,_,[],Xb,?_,ab.trans (R1.of s4),Qb,.nil⟩ (λi σ j _⟨_,_,_,_,Y,_⟩=>Zb.of (ug Y)) ?_ ?_⟩
 ·exact X4
 ·rintro i y σ j hi ⟨x5,x6,es,rfl,Y,F5,N,l5⟩;rw[List.getElem?_map]at hi;cases eq:(x.Xg g)[i]? with
  |none=>rw[eq]at hi;cases hi
  |some u=>
   rw[eq]at hi;cases hi;have an:=uS u (List.mem_of_getElem? eq);have il:i<(x.Xg g).length:=(List.getElem?_eq_some_iff.mp eq).1;obtain⟨af,am⟩:=Y.ob;obtain⟨kvs,D,d2,d3⟩:=Y.ta;have aB:es.length<=i:=by rw[Paired.length l5];have:=scan_len (ρ:=U2) (ky:=Zk (Yg fs) (Zl fs) (Q7 x g k)) (l:=(x.Xg g).take i) (t:=x.tab) (f:=[]);rw[List.length_take]at this;simp at this;omega
   refine⟨_,Xb,n,C,af,_,_,Xb,am,T.cl,T.table,Qi4 _,⟨A.t,kvs,Xb,D.at_⟩,_,Xb,n,af,_,Xb,am,Qc3 _,_,Xb,n,A,fs,_,_,u,Xb,Y,fok.lt u an,λq hq=>fok.pts u an q hq,by have:=fok.few u;omega,λc H6 B c6 aq=>⟨_,Xb,?_⟩⟩;have Y6:=Y.same B;obtain⟨d,D6,ay,ac⟩:=Y6.ta;have kc:=aq.key (fok.str u);have kk:Yf d (Yu (Zk (Yg fs) (Zl fs) (Q7 x g k) u))=((scan (ρ:=U2) (Zk (Yg fs) (Zl fs) (Q7 x g k)) ((x.Xg g).take i) x.tab []).1 (Zk (Yg fs) (Zl fs) (Q7 x g k) u)).map jv:=ac (Zk (Yg fs) (Zl fs) (Q7 x g k) u);have W:=Qnr (ky:=Zk (Yg fs) (Zl fs) (Q7 x g k)) (t:=x.tab) eq;have rO:¬Own A x.S r:=λz=>by rcases X.own z with⟨_,e⟩|⟨_,e⟩|⟨_,e⟩|⟨_,e⟩<;>rw[U]at e<;>cases e
   refine⟨A.t,c,jv u,d,_,Xb,Xb,D6,kc,by rw[Gu];omega,λv hv=>?_,λhn=>?_⟩
   ·
    rw[kk]at hv;cases ev:(scan (ρ:=U2) (Zk (Yg fs) (Zl fs) (Q7 x g k)) ((x.Xg g).take i) x.tab []).1 (Zk (Yg fs) (Zl fs) (Q7 x g k) u)with
    |none=>rw[ev]at hv;cases hv
    |some v0=>
     rw[ev]at hv;cases hv;rw[ev]at W;refine⟨_,Xb,_,Xb,Xb,_,Xb,?_⟩;rw[Qfy];by_cases M:v0=u
     ·rw[GQ M];refine Zz ⟨_,_,es,Xb,?_,F5.trans (R1.of B),B _ _ N,?_⟩
      ·rw[W];exact Y6.mono (by omega)
      ·rw[W];simp only[Gk M];exact L2.Paired.Yb l5 λ_ _ h=>h.Qk (Qp.of B)
     ·rw[Gx M];refine Xf ?_;refine⟨_,Xb,.inl ⟨Xb,_,Zb.of (B _ _ N)⟩,_,Xb,_,Xb,by show 3<=Gh;decide,λL Z=>?_⟩;have s7:=Qf Z (.tup [jv u,jv v0,.non]);refine⟨r,es,.ref L,Xb,Xb,s7 _ _ (B _ _ N),by rw[Gu];omega,?_⟩;have G:=B.trans s7;have Y7:=Y.same G;have aw:=G _ _ N;have aa:Qp j (upd (upd H6 L (.tup [jv u,jv v0,.non])) r (.lst (es++[.ref L]))):=λb xs e=>by rw[Qg (Ye e N nofun)];exact G _ _ e
      have aj:(upd (upd H6 L (.tup [jv u,jv v0,.non])) r (.lst (es++[.ref L]))) L=Ga (.tup [jv u,jv v0,.non]):=by rw[Qg (λz=>by rw[z,B _ _ N]at Z;cases Z),Qb]
      have Y8:Z3 P w C (upd (upd H6 L (.tup [jv u,jv v0,.non])) r (.lst (es++[.ref L]))) n A fs (tb+i) _:=Y7.keep (λb o e hb=>by
       rw[Qg λz=>?_]
       ·exact e
       ·subst z;rcases hb with hb|hb|hb
        ·exact rO hb
        ·obtain⟨ws,f1,_⟩:=X.fo;rw[hb,f1]at U;cases U
        ·rw[hb,o1]at U;cases U) (Zh λxs e=>by rw[aw]at e;cases e)
      refine⟨_,_,_,Xb,?_,⟨λb o e hb=>?_,λb hb=>?_⟩,Qb,?_⟩
      ·rw[W];exact Y8.mono (by omega)
      ·rw[Qg (Qc e U)];exact G _ _ (F5.keep b o e hb)
      ·by_cases e:b=r
       ·subst e;exact U
       ·rw[Qg e]at hb;exact F5.there b (G.free hb)
      ·rw[W];simp only[Gg M];exact Yh (L2.Paired.Yb l5 λ_ _ h=>h.Qk aa) (.cons ⟨L,.non,Xb,aj,Xb⟩ .nil)
   ·
    rw[kk]at hn;have ev:(scan (ρ:=U2) (Zk (Yg fs) (Zl fs) (Q7 x g k)) ((x.Xg g).take i) x.tab []).1 (Zk (Yg fs) (Zl fs) (Q7 x g k) u)=Ge:=by
     cases ev:(scan (ρ:=U2) (Zk (Yg fs) (Zl fs) (Q7 x g k)) ((x.Xg g).take i) x.tab []).1 (Zk (Yg fs) (Zl fs) (Q7 x g k) u)with
     |none=>rfl
     |some v0=>rw[ev]at hn;cases hn
    rw[ev]at W;refine⟨_,Xb,_,Xb,Xb,_,Xb,?_⟩;rw[Qfy,GQ rfl];have au:Yf d (Yu (Zk (Yg fs) (Zl fs) (Q7 x g k) u))=Ge:=by rw[kk];exact hn
    have Y8:=Y6.Qp8 (kvs':=d++[(Yu (Zk (Yg fs) (Zl fs) (Q7 x g k) u),c,jv u)]) D6 (by rw[List.length_append,List.length_singleton];omega) (λp hp=>by
     rcases List.mem_append.mp hp with hp|hp
     ·exact D6.keys p hp
     ·rw[List.mem_singleton]at hp;subst hp;exact kc) (t':=λk'=>if k'=Zk (Yg fs) (Zl fs) (Q7 x g k) u then Ga u else(scan (ρ:=U2) (Zk (Yg fs) (Zl fs) (Q7 x g k)) ((x.Xg g).take i) x.tab []).1 k') (λk'=>by
     rw[Qa0 _ _ _ _ _ au];by_cases e:k'=Zk (Yg fs) (Zl fs) (Q7 x g k) u
     ·rw[Gk (by rw[e]),Gk e];rfl
     ·rw[Gg (λz=>e (Uw z)),Gg e];exact ac k')
    have rt:r≠A.t:=λz=>rO (by rw[z];exact .inr (.inr (.inr (.inl Xb))));have aa:Qp j (upd H6 A.t (Vh P w A.t (d++[(Yu (Zk (Yg fs) (Zl fs) (Q7 x g k) u),c,jv u)]))):=λb xs e=>by rw[Qg (Ye (B _ _ e) D6.at_ nofun)];exact B _ _ e
    refine Zz ⟨_,_,es,Xb,?_,F5.trans ((R1.of B).trans (R1.upd (.inr (.inr (.inr (.inl Xb)))))),?_,?_⟩
    ·rw[W];exact Y8
    ·rw[Qg rt];exact B _ _ N
    ·rw[W];exact L2.Paired.Yb l5 λ_ _ h=>h.Qk aa
 ·rintro σ j ⟨x5,x6,es,rfl,Y,F5,N,l5⟩;rw[List.length_map,List.take_length]at Y l5;exact⟨_,Xb,q r es j Y F5 U N l5⟩
end
end K07
namespace Nt
theorem Xm{l S:List Nat}(nd:l.Nodup)(h:∀p∈l,p∈S):l.length<=S.length:=by
 induction l generalizing S with
 |nil=>simp
 |cons a r e=>rw[List.nodup_cons]at nd;have b:=h a (by simp);have:=e (S:=S.erase a) nd.2 λp c=>(List.mem_erase_of_ne (show p≠a fromλz=>nd.1 (by rw[<-z];exact c))).mpr (h p (by simp[c]));rw[List.length_erase_of_mem b]at this;have d:=List.length_pos_of_mem b;simp only[List.length_cons];omega
theorem Qdd{f:Nat->Nat}{g k:Nat}(a:g≠k):∀{S:List Nat},g∈S->k∈S->f g+f k<=(S.map f).sum
 |[],h,_=>by simp at h
 |x::r,d,e=>by
  simp only[List.map_cons,List.sum_cons];by_cases b:x=g
  ·subst b;have:=Je (f:=f) ((List.mem_cons.mp e).resolve_left (Gn a));omega
  ·by_cases c:x=k
   ·subst c;have:=Je (f:=f) ((List.mem_cons.mp d).resolve_left a);omega
   ·have:=Qdd (f:=f) a ((List.mem_cons.mp d).resolve_left (Gn b)) ((List.mem_cons.mp e).resolve_left (Gn c));omega
theorem Fst.chS{α:Type}{S:List Nat}{ls:List (Nat×Nat×α)}{Y1:Nat->Nat->Option Nat}{up:Nat->Option Nat}(F:Fst S ls Y1 up):∀{p:Nat}{l:List Nat},Ch up p l->p∈S->∀q∈l,q∈S
 |_,_,.top _,b,q,a=>by simp at a;subst a;exact b
 |_,_,.step e h,b,q,a=>by
  rcases List.mem_cons.mp a with rfl|a
  ·exact b
  ·exact F.chS h (F.inS _ _ e).2 q a
theorem Qq3{W ρ:Type}(x:Nst W ρ):cls x<=x.S.length:=List.countP_le_length
end Nt
namespace K07
open PySem L2 Sb Nt
variable{C:Gc}{fd:Td}
def Qa8(P:Gj)(w:Gs)(C:Gc):Sp:=λvs H Q _=>∃(n:Gc)(A:Na)(fs:List Fm)(tb:Nat)(x:Nn)(c:Gc)(a b:Nat)(r:Option U2)(pend:List Lk),vs=[.ref n,.ref c]/\Z3 P w C H n A fs tb x/\Qeg fs x.S/\R0 H (.ref c) (a,b,r)/\
 X8 (Yg fs) (Zl fs) x (pend++[(a,b,r)])/\x.lead a≠x.lead b/\x.S.length<=10000/\Vv x<=10000/\x.links.length<=100000/\tb+Vv x<=1000000/\
 ∀(lo hi:Nat)(cl:List Nat)(l:Gc)(es:List V)(H':Hp),((lo=a/\hi=b)\/(lo=b/\hi=a))->Ch x.up lo cl->Z3 P w C H' n A fs (tb+Vv x) (Yi (Yg fs) (Zl fs) x a b r lo hi cl).1->R1 A x.S H H'->H l=Ge->H' l=Ga (.lst es)->
  Paired (R0 H') es (Yi (Yg fs) (Zl fs) x a b r lo hi cl).2->Q (.ref l) H'
section
variable{P:Gj}{w:Gs}{K:PySem.W.Frag}{mg:Gy->Option Value}{base:Heap}
theorem Qbg:Qy ["self","link","one","other"] ["self","link"] (Ql Jp):=by eq_refl
theorem Qsh{H:Hp}{a b:Gc}{o u:HO}(h:a≠b):upd (upd H a o) b u=upd (upd H b u) a o:=by
 funext c
 by_cases h1:c=b
 ·subst h1;rw[Qb,Qg (Gn h),Qb]
 ·rw[Qg h1];by_cases h2:c=a
  ·subst h2;rw[Qb,Qb]
  ·rw[Qg h2,Qg h2,Qg h1]
theorem Re(x y:V)(vs:List V):atI (x::y::vs) (1:Int)=Ga y:=Qz (xs:=x::y::vs) (j:=1) rfl
theorem Qhe(x y z:V)(vs:List V):atI (x::y::z::vs) (2:Int)=Ga z:=Qz (xs:=x::y::z::vs) (j:=2) rfl
theorem Qgw{f fH fG:Gc}{ah ag:Td}(F:Va K "merge_link" "Net.merge_link" Jp f fd)(T:V5 K mg C)(B:Ik mg)(mH:Yc K C "hang" fH)(GH:Qt P w K mg base Ya 1 fH ah ["self","low","high"] (Qlc P w C))(bH:Binds K ah ["self","low","high"] [])
  (mG:Yc K C "give_over" fG)(GG:Qt P w K mg base Ya 2 fG ag ["self","gone","kept"] (Qkl P w C))(bG:Binds K ag ["self","gone","kept"] []):
  Qt P w K mg base Ya 3 f fd ["self","link"] (Qa8 P w C):=by
 refine F.ok Qbg (λvs H Q E h=>?_) (λcdv A outer s H vs Q E hr h=>?_)
 ·obtain⟨n,A,fs,tb,x,c,a,b,r,pend,rfl,_⟩:=h;rfl
 obtain⟨n,A,fs,tb,x,c,a,b,r,pend,rfl,X,fok,hc,I,al,hS,hT,hL,az,q⟩:=h;have L:=Ut hr;have am:Yd 1 _:=hr.mono (by omega);have an:Yd 2 _:=hr.mono (by omega);have nd:=Qbg.nd;refine⟨_,Qd (Qs 2 nd (Qn Q3 (pv 1) Qj))
  (Qd (Qs 3 nd (Qn Q3 (pv 1) Qj))
  (Qd (Wl L (Qm (pv 0) rfl) (Q8 (Qa (pv 2) (Qa (pv 3) Qe))) (Qo Zo rfl B.len PySem.boot_len (Qa (Qm (pv 0) rfl) Qe)) rfl)
  (Qd (Wl L (Qm (pv 0) rfl) (Q8 (Qa (pv 3) (Qa (pv 2) Qe))) (Qo Zo rfl B.len PySem.boot_len (Qa (Qm (pv 0) rfl) Qe)) rfl)
  (Qd (Zc (Xn PySem.F.plainAttrs_list PySem.F.slot_list_append PySem.F.type_list_append Zq (Qm (pv 0) rfl) (Qa (pv 1) Qe)))
  (Qd (Zr (Qu Qre (Qo Zo rfl B.len PySem.boot_len (Qa (Zt L (Qm (pv 0) rfl) (Zt L (Qm (pv 0) rfl) (pv 2) (λ_ _=>rfl)) (λ_ _=>rfl)) Qe)) (Qo Zo rfl B.len PySem.boot_len (Qa (Zt L (Qm (pv 0) rfl) (Zt L (Qm (pv 0) rfl) (pv 3) (λ_ _=>rfl)) (λ_ _=>rfl)) Qe)) (Za _))
   (Qd (Zc (Zd (pv 0) T.cl mH GH am bH .nil Q4 (Qa (pv 2) (Qa (pv 3) Qe))))
    (Qh (Qx (Zd (pv 0) T.cl mG GG an bG .nil Q4 (Qa (Zt L (Qm (pv 0) rfl) (pv 2) (λ_ _=>rfl)) (Qa (Zt L (Qm (pv 0) rfl) (pv 3) (λ_ _=>rfl)) Qe)))))) Q9)
  (Qd (Zc (Zd (pv 0) T.cl mH GH am bH .nil Q4 (Qa (pv 3) (Qa (pv 2) Qe))))
   (Qh (Qx (Zd (pv 0) T.cl mG GG an bG .nil Q4 (Qa (Zt L (Qm (pv 0) rfl) (pv 3) (λ_ _=>rfl)) (Qa (Zt L (Qm (pv 0) rfl) (pv 2) (λ_ _=>rfl)) Qe))))))))))),?_⟩
 obtain⟨dx,o1⟩:=X.ob;obtain⟨c',rv,ec,ai,ay⟩:=id hc;cases ec;obtain⟨ls,l1,l2⟩:=X.li;obtain⟨kv,a1,a2,a3⟩:=X.at_;have ll:ls.length=x.links.length:=Paired.length l2;obtain⟨aS,bS,_⟩:=I.pnd a b r (by simp);have lv:(V.int (ls.length:Int))=jv x.links.length:=by rw[ll];rfl
 refine⟨_,Xb,c,_,_,_,Xb,Xb,Z4.of ai,Rv _ _,_,Xb,c,_,_,_,Xb,Xb,Z4.of ai,Re _ _ _,?_⟩;refine⟨_,Xb,n,C,dx,_,_,Xb,o1,T.cl,T.links,Uu _,A.k,ls,Xb,.inl (Zb.of l1),?_⟩;rw[lv];refine⟨_,Xb,n,C,dx,_,_,Xb,o1,T.cl,T.Qb1,Qar _,_,Xb,_,Xb,by show 2<=Gh;decide,λc1 D=>?_⟩;have s1:=Qf D (.tup [jv a,jv b]);refine⟨A.a,_,Xb,Ra.t (k:=[ki a,ki b]) (s1 _ _ a1) Qb (by rw[Gu];omega),?_⟩;have aw:c1≠A.a:=λz=>by rw[z,a1]at D;cases D
 have nA:n≠A.a:=Ye o1 a1 nofun;have kA:A.k≠A.a:=Ye l1 a1 nofun;generalize R:We kv [ki a,ki b] (jv x.links.length)=G;have o2:(upd (upd H c1 (.tup [jv a,jv b])) A.a (.dT G)) n=Ga (.ins C dx (Yx A)):=by rw[Qg nA];exact s1 _ _ o1
 have au:(upd (upd H c1 (.tup [jv a,jv b])) A.a (.dT G)) A.k=Ga (.lst ls):=by rw[Qg kA];exact s1 _ _ l1
 refine⟨_,Xb,n,C,dx,_,_,Xb,o2,T.cl,T.links,Uu _,A.k,ls,Xb,.inl (Zb.of au),?_⟩;rw[lv];refine⟨_,Xb,n,C,dx,_,_,Xb,o2,T.cl,T.Qb1,Qar _,_,Xb,_,Xb,by show 2<=Gh;decide,λc2 u=>?_⟩;have s2:=Qf u (.tup [jv b,jv a]);have af:c2≠A.a:=λz=>by rw[z,Qb]at u;cases u
 have aA:G.length<=2*x.links.length+1:=by rw[<-R];have:=Xy kv [ki a,ki b] (jv x.links.length);omega
 refine⟨A.a,_,Xb,Ra.t (k:=[ki b,ki a]) (s2 _ _ Qb) Qb (by rw[Gu];omega),?_⟩;generalize U:We G [ki b,ki a] (jv x.links.length)=kv2;have av:kv2.length<=2*(x.links.length+1):=by rw[<-U];have:=Xy G [ki b,ki a] (jv x.links.length);omega
 rw[Qsh (a:=A.a) (b:=c2) (Gn af),Vk];have aj:(upd H c1 (.tup [jv a,jv b])) c2=Ge:=by rw[Qg af]at u;exact u
 have v:Qv H (upd (upd H c1 (.tup [jv a,jv b])) c2 (.tup [jv b,jv a])):=s1.trans (Qf aj _);generalize ax:upd (upd H c1 (.tup [jv a,jv b])) c2 (.tup [jv b,jv a])=Ha at v;have o3:(upd Ha A.a (.dT kv2)) n=Ga (.ins C dx (Yx A)):=by rw[Qg nA];exact v _ _ o1
 have l3:(upd Ha A.a (.dT kv2)) A.k=Ga (.lst ls):=by rw[Qg kA];exact v _ _ l1
 refine⟨_,Xb,n,C,dx,_,_,Xb,o3,T.cl,T.links,Uu _,.inl ⟨Xb,_,Zb.of l3⟩,_,Xb,A.k,ls,_,Xb,Xb,l3,by rw[Gu];omega,?_⟩;have Xa:=X.same v;have M:=Xa.Qu4 (kv2:=kv2) (ls':=ls++[.ref c]) (lks:=x.links++[(a,b,r)]) (lat':=Qa3 x.Y1 a b x.links.length) (by rw[List.length_append,List.length_singleton];exact av) (λi j=>by
  rw[<-U,Qch,<-R,Qch,a3];unfold Qa3;by_cases h1:(i=a/\j=b)\/(i=b/\j=a)
  ·rw[Gk h1];rcases h1 with⟨rfl,rfl⟩|⟨rfl,rfl⟩
   ·rw[Gk rfl];split<;>rfl
   ·rw[Gk rfl];rfl
  ·rw[Gg h1,Gg (λz=>h1 (by simp only[List.cons.injEq,LB]at z;exact .inr ⟨Jc z.1,Jc z.2⟩)),Gg (λz=>h1 (by simp only[List.cons.injEq,LB]at z;exact .inl ⟨Jc z.1,Jc z.2⟩))])
  (Yh (L2.Paired.Yb l2 λ_ _ h=>h.Qk (Qp.of v)) (.cons (hc.Qk (Qp.of v)) .nil))
 have Fb:R1 A x.S H (upd (upd Ha A.a (.dT kv2)) A.k (.lst (ls++[.ref c]))):=((R1.of v).trans (R1.upd (.inr (.inr (.inr (.inr (.inr (.inl Xb)))))))).trans (R1.upd (.inr (.inr (.inr (.inr (.inl Xb))))));generalize upd (upd Ha A.a (.dT kv2)) A.k (.lst (ls++[.ref c]))=Hb at M Fb;obtain⟨y,ob⟩:=M.ob;have ao:=I.ld a aS;have ap:=I.ld b bS;have go:∀lo hi,((lo=a/\hi=b)\/(lo=b/\hi=a))->Qlc P w C [.ref n,jv lo,jv hi] Hb (λ_ H1=>∃d,H1 n=Ga (.ins C d (Yx A))/\H1 A.l=Ga (.dK (dS x.S λp=>jv (x.lead p)))/\Qkl P w C [.ref n,jv (x.lead lo),jv (x.lead hi)] H1 Q E) E:=by
  intro lo hi N;have O:lo∈x.S:=by rcases N with⟨h,_⟩|⟨h,_⟩<;>rw[h]<;>assumption
  have ak:hi∈x.S:=by rcases N with⟨_,h⟩|⟨_,h⟩<;>rw[h]<;>assumption
  have W:x.lead lo≠x.lead hi:=by
   rcases N with⟨h1,h2⟩|⟨h1,h2⟩<;>rw[h1,h2]
   ·exact al
   ·exact Gn al
  have gS:=I.ld lo O;have gg:=I.idem lo O;have kS:=I.ld hi ak;have kk:=I.idem hi ak;obtain⟨cl,aa⟩:=I.fst.chain lo O;refine⟨n,A,fs,tb,_,lo,hi,cl,Xb,M,aa,I.fst.chS aa O,by show x.S.length<=_;omega,λH1 X1 k1 t1=>?_⟩;obtain⟨d,g⟩:=X1.ob;have F1:R1 A x.S Hb H1:=⟨λb o e hb=>k1 b o e (λz=>hb (z▸.inr (.inr (.inr (.inr (.inr (.inr (.inl Xb)))))))),t1⟩;have aB:=Xm (I.Qjr _ gS gg) λp hp=>((I.Qbm _ gS gg p).mp hp).1;have aC:=Xm (I.Qjr _ kS kk) λp hp=>((I.Qbm _ kS kk p).mp hp).1;have ae:=Qdd (f:=λp=>if x.lead p=p then(x.Xg p).length else 0) W gS kS;rw[Gk gg,Gk kk]at ae;have ae:(x.Xg (x.lead lo)).length+(x.Xg (x.lead hi)).length<=Vv x:=ae;refine⟨d,g,X1.le,n,A,fs,tb,_,x.lead lo,x.lead hi,Xb,X1,fok,gS,kS,W,λp hp=>((I.Qbm _ gS gg p).mp hp).1,λp hp=>I.Qiu _ gS p hp,by show x.S.length<=_;omega,?_,?_,?_,λl es H' Y FY lY rY pY=>?_⟩
  ·show(x.mem (x.lead hi)).length+(x.mem (x.lead lo)).length<=_;omega
  ·show(x.Xg (x.lead hi)).length+(x.Xg (x.lead lo)).length<=_;omega
  ·show tb+(x.Xg (x.lead lo)).length<=_;omega
  ·refine q lo hi cl l es H' N aa (Z3.mono ?_ Y) ((Fb.trans F1).trans FY) (Fb.there l (t1 l lY)) rY pY;show tb+(x.Xg (x.lead lo)).length<=_;omega
 have aq:=go a b (.inl ⟨Xb,Xb⟩);have ar:=go b a (.inr ⟨Xb,Xb⟩);refine⟨_,Xb,n,C,y,_,_,Xb,ob,T.cl,T.members,W3 _,_,Xb,n,C,y,_,_,Xb,ob,T.cl,T.Wt,Ym _,_,Xb,A.l,_,Xb,Xl M.le aS,A.m,_,Xb,Xl M.me ao,_,_,Xb,.inl (Zb.of (M.ml _ ao)),_,Xb,n,C,y,_,_,Xb,ob,T.cl,T.members,W3 _,_,Xb,n,C,y,_,_,Xb,ob,T.cl,T.Wt,Ym _,_,Xb,A.l,_,Xb,Xl M.le bS,A.m,_,Xb,Xl M.me ap,_,_,Xb,.inl (Zb.of (M.ml _ ap)),_,_,Xb,Xb,_,Xb,?_⟩;refine Jh (λ_=>?_) (λ_=>?_)
 ·obtain⟨n',A',fs',ad,x',ac,ab,Z,e1,e2,e3,e4,e5,e6⟩:=aq;refine⟨_,Xb,n,y,_,Xb,ob,Ql8 _,_,Xb,_,Xb,n',A',fs',ad,x',ac,ab,Z,e1,e2,e3,e4,e5,λH1 y1 y2 y3=>?_⟩;obtain⟨d,g,J,g1⟩:=e6 H1 y1 y2 y3;exact⟨_,Xb,n,d,_,Xb,g,Qbk _,_,Xb,n,C,d,_,_,Xb,g,T.cl,T.Wt,Ym _,_,Xb,A.l,_,Xb,Xl J aS,_,Xb,n,C,d,_,_,Xb,g,T.cl,T.Wt,Ym _,_,Xb,A.l,_,Xb,Xl J bS,g1⟩
 ·obtain⟨n',A',fs',ad,x',ac,ab,Z,e1,e2,e3,e4,e5,e6⟩:=ar;refine⟨_,Xb,n,y,_,Xb,ob,Ql8 _,_,Xb,_,Xb,n',A',fs',ad,x',ac,ab,Z,e1,e2,e3,e4,e5,λH1 y1 y2 y3=>?_⟩;obtain⟨d,g,J,g1⟩:=e6 H1 y1 y2 y3;exact⟨_,Xb,n,d,_,Xb,g,Qbk _,_,Xb,n,C,d,_,_,Xb,g,T.cl,T.Wt,Ym _,_,Xb,A.l,_,Xb,Xl J bS,_,Xb,n,C,d,_,_,Xb,g,T.cl,T.Wt,Ym _,_,Xb,A.l,_,Xb,Xl J aS,g1⟩
end
structure Mgd(fs:List Fm)(x x':Nn)(a b:Nat)(r:Option U2)(pend:List Lk):Prop where
 inv:X8 (Yg fs) (Zl fs) x' pend
 S:x'.S=x.S
 Vv:Vv x'=Vv x
 eq:Cj x.S x'.lead pend a b
 mono:∀p∈x.S,∀q∈x.S,x.lead p=x.lead q->x'.lead p=x'.lead q
 snd:∀E,Ec (Yg fs) (Zl fs) x.S E->Snd E x [(a,b,r)]->Snd E x' pend
 rsn:∀y∈x'.links,y∈x.links\/y=(a,b,r)\/y.2.2=Ge
 pnd:∀y∈pend,y=(a,b,r)\/y.2.2=Ge
 less:cls x'+x'.links.length<=cls x+x.links.length
 more:x.links.length<=x'.links.length
def Qgb(P:Gj)(w:Gs)(C:Gc):Sp:=λvs H Q _=>∃(n:Gc)(A:Na)(fs:List Fm)(tb:Nat)(x:Nn)(a b:Nat)(rv:V)(r:Option U2),vs=[.ref n,jv a,jv b,rv]/\Z3 P w C H n A fs tb x/\Qeg fs x.S/\Qnm H rv r/\r≠Ge/\a∈x.S/\b∈x.S/\
 X8 (Yg fs) (Zl fs) x []/\x.S.length<=10000/\Vv x<=10000/\cls x+x.links.length<=10000/\tb+cls x*Vv x<=900000/\
 ∀(c:Nn)(H':Hp),Z3 P w C H' n A fs (tb+(c.links.length - x.links.length)*Vv x) c->Mgd fs x c a b r []->R1 A x.S H H'->Q .non H'
theorem Mgd.start{fs:List Fm}{x:Nn}{a b:Nat}{r:Option U2}(I:X8 (Yg fs) (Zl fs) x [])(c:r≠Ge)(aS:a∈x.S)(bS:b∈x.S):Mgd fs x x a b r [(a,b,r)]:=
 ⟨I.Qml (λ_ _ _ h=>by simp at h) λd f g h=>by simp at h;obtain⟨rfl,rfl,rfl⟩:=h;exact⟨aS,bS,λe=>absurd e c⟩,Xb,Xb,.wait (r:=r) (by simp),λ_ _ _ _ e=>e,λE _ h=>h,λy h=>.inl h,λy h=>by simp at h;exact .inl h,Gm _,Gm _⟩
theorem Mgd.drop{fs:List Fm}{x c:Nn}{a b d f:Nat}{r g:Option U2}{pend:List Lk}(M:Mgd fs x c a b r (pend++[(d,f,g)]))(e:c.lead d=c.lead f):Mgd fs x c a b r pend:=by
 obtain⟨aS,bS,_⟩:=M.inv.pnd d f g (by simp);rw[M.S]at aS bS;refine⟨M.inv.drop e,M.S,M.Vv,M.eq.map (λp i q j e=>.lead i j e) (λp q l m=>?_),M.mono,λE X h=>⟨(M.snd E X h).1,λu v s m=>(M.snd E X h).2 u v s (List.mem_append_left _ m)⟩,M.rsn,λy k=>M.pnd y (List.mem_append_left _ k),M.less,M.more⟩;rcases List.mem_append.mp m with m|m
 ·exact .wait m
 ·simp at m;obtain⟨rfl,rfl,rfl⟩:=m;exact .lead aS bS e
theorem Mgd.join{fs:List Fm}{x c:Nn}{a b d f:Nat}{r j:Option U2}{pend:List Lk}(M:Mgd fs x c a b r (pend++[(d,f,j)]))(k:c.lead d≠c.lead f){lo hi:Nat}{cl:List Nat}(i:(lo=d/\hi=f)\/(lo=f/\hi=d))(t:Ch c.up lo cl):
  Mgd fs x (Yi (Yg fs) (Zl fs) c d f j lo hi cl).1 a b r (pend++(Yi (Yg fs) (Zl fs) c d f j lo hi cl).2):=by
 obtain⟨aS,bS,_⟩:=M.inv.pnd d f j (by simp);obtain⟨J,L⟩:=M.inv.join k i t;obtain⟨l1,l2,A,B⟩:=M.inv.less k i t;have w:∀p∈c.S,∀q∈c.S,c.lead p=c.lead q->(Yi (Yg fs) (Zl fs) c d f j lo hi cl).1.lead p=(Yi (Yg fs) (Zl fs) c d f j lo hi cl).1.lead q:=λp l q n e=>by rw[L p l,L q n,e]
 have o:(Yi (Yg fs) (Zl fs) c d f j lo hi cl).1.lead d=(Yi (Yg fs) (Zl fs) c d f j lo hi cl).1.lead f:=by
  rw[L d aS,L f bS];rcases i with⟨rfl,rfl⟩|⟨rfl,rfl⟩
  ·rw[Gk rfl];split<;>rfl
  ·rw[Gk rfl];split<;>rfl
 refine⟨J,M.S,l2.trans M.Vv,M.eq.map (λp l q n e=>.lead l n (w p (M.S▸l) q (M.S▸n) e)) (λp q z m=>?_),λp l q n e=>w p (M.S▸l) q (M.S▸n) (M.mono p l q n e),λE X h=>Snd.join (M.snd E X h) (by rw[M.S];exact X) M.inv k i t,λy g=>?_,λy g=>?_,?_,?_⟩
 ·rcases List.mem_append.mp m with m|m
  ·exact .wait (List.mem_append_left _ m)
  ·simp at m;obtain⟨rfl,rfl,rfl⟩:=m;exact .lead (M.S▸aS) (M.S▸bS) o
 ·have g:y∈c.links++[(d,f,j)]:=g;rcases List.mem_append.mp g with g|g
  ·exact M.rsn y g
  ·rw[List.mem_singleton]at g;subst g;exact .inr (M.pnd _ (by simp))
 ·rcases List.mem_append.mp g with g|g
  ·exact M.pnd y (List.mem_append_left _ g)
  ·obtain⟨u,v,s⟩:=y;exact .inr (Qlf g)
 ·have:=M.less;omega
 ·have:=M.more;omega
section
variable{P:Gj}{w:Gs}{K:PySem.W.Frag}{mg:Gy->Option Value}{base:Heap}
theorem Qmz:Qy ["self","one","other","reason","waiting","link"] ["self","one","other","reason"] (Ql Qgh):=by eq_refl
theorem Jr{α β:Type}{F:α->β->Prop}:∀{xs:List α}{ys:List β},Paired F xs ys->xs≠[]->∃x y,xs[xs.length - 1]?=Ga x/\ys=ys.dropLast++[y]/\F x y/\Paired F xs.dropLast ys.dropLast
 |_,_,.nil,h=>absurd rfl h
 |_,_,.cons h .nil,_=>⟨_,_,Xb,Xb,h,.nil⟩
 |_,_,.cons h (.cons k t),_=>by
  obtain⟨x,y,a,b,c,d⟩:=Jr (.cons k t) (by simp);refine⟨x,y,?_,?_,c,?_⟩
  ·simpa using a
  ·simp only[List.dropLast_cons_cons,List.cons_append];rw[<-b]
  ·simp only[List.dropLast_cons_cons];exact .cons h d
theorem Qr2{f fE fM:Gc}{ab ac:Td}(F:Va K "merge" "Net.merge" Qgh f fd)(T:V5 K mg C)(mE:Yc K C "equal" fE)(GE:Qt P w K mg base Ya 1 fE ab ["self","one","other"] (Qb2 P w C))(bE:Binds K ab ["self","one","other"] [])
  (mM:Yc K C "merge_link" fM)(GM:Qt P w K mg base Ya 3 fM ac ["self","link"] (Qa8 P w C))(bM:Binds K ac ["self","link"] []):
  Qt P w K mg base Ya 4 f fd ["self","one","other","reason"] (Qgb P w C):=by
 refine F.ok Qmz (λvs H Q E h=>?_) (λcdv A outer s H vs Q E hr h=>?_)
 ·obtain⟨n,A,fs,tb,x,a,b,rv,r,rfl,_⟩:=h;rfl
 obtain⟨n,A,fs,tb,x,a,b,rv,r,rfl,X,fok,ap,ao,aS,bS,I,hS,hT,aw,az,q⟩:=h;have am:Yd 1 _:=hr.mono (by omega);have an:Yd 3 _:=hr.mono (by omega);have nd:=Qmz.nd;refine⟨_,Qd (Qs 4 nd (Zj (Qa (Q8 (Qa (pv 1) (Qa (pv 2) (Qa (pv 3) Qe)))) Qe)))
  (Qh (Wi Gq (Qru (pv 4) (λ_=>rfl))
   (Qd (Qs 5 nd (Qa1 PySem.F.plainAttrs_list PySem.F.slot_list_pop PySem.F.type_list_pop Qaj (pv 4)))
   (Qh (Zr (Jn (Xz (Zd (pv 0) T.cl mE GE am bE .nil Q4 (Qa (Qn Q3 (pv 5) Qj) (Qa (Qn Q3 (pv 5) Qj) Qe)))))
    (Qh (Zc (Xn PySem.F.plainAttrs_list PySem.F.slot_list_extend PySem.F.type_list_extend Qa2 (pv 4) (Qa (Zd (pv 0) T.cl mM GM an bM .nil Q4 (Qa (pv 5) Qe)) Qe)))) Q9))))),?_⟩
 obtain⟨dx,o1⟩:=X.ob;refine⟨_,Xb,_,Xb,_,Xb,by show 3<=Gh;decide,λc hc=>?_⟩;have s1:=Qf hc (.tup [jv a,jv b,rv]);refine⟨by show 1<=Gh;decide,λi af=>?_⟩;have s2:=Qf af (.lst [.ref c]);have L:=s1.trans s2;have D:H i=Ge:=s1.free af;have wO:¬Own A x.S i:=X.Qyc D;have wf:i≠A.f:=λz=>by obtain⟨g,f1,_⟩:=X.fo;rw[z,f1]at D;cases D
 have wn:i≠n:=λz=>by rw[z,o1]at D;cases D
 dsimp only[Vj];refine Qcf (λm σ H2=>∃(x5:Option V)(g:List V)(d:Nn)(pend:List Lk),m=cls d*(Vv x+1)+pend.length/\σ=[Ga (.ref n),Ga (jv a),Ga (jv b),Ga rv,Ga (.ref i),x5]/\H2 i=Ga (.lst g)/\Paired (R0 H2) g pend/\
   Z3 P w C H2 n A fs (tb+(d.links.length - x.links.length)*Vv x) d/\Mgd fs x d a b r pend/\R1 A x.S H H2/\pend.length<=1+(cls x - cls d)*Vv x)
  ⟨_,Ge,[.ref c],x,[(a,b,r)],Xb,Xb,Qb,.cons ⟨c,rv,Xb,s2 _ _ Qb,ap.Qk (Qp.of L)⟩ .nil,(X.same L).mono (by omega),Mgd.start I ao aS bS,R1.of L,by simp⟩ ?_ (λσ H Q Q' hQ=>λh=>by obtain⟨v,e1,k,e2,e3⟩:=h;exact⟨v,e1,k,e2,hQ _ _ e3⟩)
 rintro m σ H2 ⟨x5,g,d,pend,rfl,rfl,w2,p2,Y,M,F2,pl⟩;refine⟨_,Xb,_,.inl ⟨g,Zb.of w2,Xb⟩,?_⟩;have au:=Paired.length p2;have av:=Qq3 x;cases hw:g with
 |nil=>refine Zz ?_;subst hw;cases p2;exact q d H2 Y M F2
 |cons z zs=>
  refine Xf ?_;have al:g≠[]:=by rw[hw];simp
  obtain⟨v,⟨u,y,J⟩,e1,e2,e3,e4⟩:=Jr p2 al;have t:pend.length=pend.dropLast.length+1:=by rw[e2];simp
  obtain⟨c5,aq,rfl,ad,aj⟩:=e3;refine⟨_,Xb,.inl ⟨Xb,_,Zb.of w2⟩,i,g,_,Xb,Xb,w2,e1,?_⟩;have B:Qp H2 (upd H2 i (.lst g.dropLast)):=Zh λxs e=>by rw[w2]at e;cases e
  have O:=M.S;have R:Z3 P w C (upd H2 i (.lst g.dropLast)) n A fs (tb+(d.links.length - x.links.length)*Vv x) d:=Y.keep (λj o e hb=>by
   rw[Qg λz=>?_]
   ·exact e
   ·subst z;rcases hb with hb|hb|hb
    ·rw[O]at hb;exact wO hb
    ·exact wf hb
    ·exact wn hb) B
  have F3:R1 A x.S H (upd H2 i (.lst g.dropLast)):=⟨λj o e hb=>by rw[Qg (Qc e D)];exact F2.keep j o e hb,λj hb=>by
   by_cases e:j=i
   ·subst e;exact D
   ·rw[Qg e]at hb;exact F2.there j hb⟩
  have w3:(upd H2 i (.lst g.dropLast)) i=Ga (.lst g.dropLast):=Qb;have p3:Paired (R0 (upd H2 i (.lst g.dropLast))) g.dropLast pend.dropLast:=L2.Paired.Yb e4 λ_ _ h=>h.Qk B;have l3:R0 (upd H2 i (.lst g.dropLast)) (.ref c5) (u,y,J):=R0.Qk B ⟨c5,aq,Xb,ad,aj⟩;have G:=B _ _ ad;generalize upd H2 i (.lst g.dropLast)=H3 at R F3 w3 p3 l3 G;rw[e2]at M;generalize pend.dropLast=pd at M p3 t;obtain⟨ah,ai,_⟩:=M.inv.pnd u y J (by simp);obtain⟨aa,o3⟩:=R.ob;refine⟨_,Xb,n,aa,_,Xb,o3,Qc5 _,_,Xb,c5,_,_,_,Xb,Xb,Z4.of G,Rv _ _,_,Xb,c5,_,_,_,Xb,Xb,Z4.of G,Re _ _ _,n,A,fs,_,d,u,y,Xb,R,ah,ai,_,Xb,?_⟩;by_cases p:d.lead u=d.lead y
  ·rw[GQ p];refine Zz ⟨_,?_,_,g.dropLast,d,pd,Xb,Xb,w3,p3,R,M.drop p,F3,by omega⟩;omega
  ·rw[Gx p];refine Xf ?_;have ak:d.links.length - x.links.length<=cls x:=by have:=M.less;omega
   have ar:(d.links.length - x.links.length)*Vv x<=cls x*Vv x:=DE _ ak;have U:=M.Vv;have aB:g.dropLast.length=pd.length:=Paired.length p3;have ax:pd.length+Vv x<=1000000:=by have:(cls x - cls d)*Vv x<=cls x*Vv x:=DE _ (Nat.sub_le _ _);omega
   refine⟨_,Xb,.inl ⟨Xb,_,Zb.of w3⟩,_,Xb,n,aa,_,Xb,o3,Qf4 _,_,Xb,n,A,fs,_,d,c5,u,y,J,pd,Xb,R,by rw[O];exact fok,l3,M.inv,p,by rw[O];exact hS,by rw[U];exact hT,by have:=M.less;omega,by rw[U];omega,λlo hi cl l es Z ae hc Y4 W hl r4 p4=>?_⟩;rw[O]at W;have w4:Z i=Ga (.lst g.dropLast):=W.keep _ _ w3 wO;have ay:l≠i:=λz=>by rw[z,w3]at hl;cases hl
   obtain⟨j1,j2,j3,j4⟩:=M.inv.less p ae hc;have aA:es.length<=Vv x:=by rw[Paired.length p4,<-U];exact j3
   refine⟨i,l,g.dropLast,es,Xb,Xb,w4,r4,small (by omega),?_⟩;have ag:Qp H3 Z:=λj xs e=>W.keep j _ e (by rw[<-O];exact R.Qks e);have N:Qp Z (upd Z i (.lst (g.dropLast++es))):=Zh λxs e=>by rw[w4]at e;cases e
   have Y5:Z3 P w C (upd Z i (.lst (g.dropLast++es))) n A fs _ _:=Y4.keep (λj o e hb=>by
    rw[Qg λz=>?_]
    ·exact e
    ·subst z;rcases hb with hb|hb|hb
     ·have hb:Own A d.S j:=hb;rw[O]at hb;exact wO hb
     ·exact wf hb
     ·exact wn hb) N
   have M5:=M.join p ae hc;refine⟨cls (Yi (Yg fs) (Zl fs) d u y J lo hi cl).1*(Vv x+1)+(pd++(Yi (Yg fs) (Zl fs) d u y J lo hi cl).2).length,?_,_,_,_,_,Xb,Xb,Qb,Yh (L2.Paired.Yb p3 λ_ _ h=>(h.Qk ag).Qk N) (L2.Paired.Yb p4 λ_ _ h=>h.Qk N),Y5.mono ?_,M5,⟨λj o e hb=>?_,λj hb=>?_⟩,?_⟩
   ·rw[List.length_append,t];have hj:cls (Yi (Yg fs) (Zl fs) d u y J lo hi cl).1+1<=cls d:=j1;have:=DE (Vv x+1) hj;rw[DM,Ls]at this;rw[U]at j3;omega
   ·rw[U,j4];have:=M.more;rw[show d.links.length+1 - x.links.length=(d.links.length - x.links.length)+1 by omega,DM,Ls];omega
   ·rw[Qg (Qc e D)];exact W.keep j o (F3.keep j o e hb) hb
   ·by_cases e:j=i
    ·subst e;exact D
    ·rw[Qg e]at hb;exact F3.there j (W.there j hb)
   ·rw[List.length_append];have h1:cls x - cls d+1<=cls x - cls (Yi (Yg fs) (Zl fs) d u y J lo hi cl).1:=by have:=M.less;have:=M.more;omega
    have:=DE (Vv x) h1;rw[DM,Ls]at this;rw[U]at j3;omega
end
def Qe0(P:Gj)(w:Gs)(C:Gc):Sp:=λvs H Q _=>∃(n dx f:Gc)(a:List V)(fs:List Fm),vs=[.ref n,.ref f]/\H n=Ga (.ins C dx [])/\H f=Ga (.lst a)/\Paired (R3 H) a fs/\
 ∀(A:Na)(H':Hp),A.f=f->Z3 P w C H' n A fs 0 (fresh (Yg fs) (Zl fs) [])->(∀b o,H b=Ga o->b≠n->H' b=Ga o)->(∀b,Own A [] b->H b=Ge)->Q .non H'
section
variable{P:Gj}{w:Gs}{K:PySem.W.Frag}{mg:Gy->Option Value}{base:Heap}
theorem Qnk:Qy ["self","forms"] ["self","forms"] (Ql Ot):=by eq_refl
theorem Qkj{f0:Gc}(F:Va K "__init__" "Net.__init__" Ot f0 fd)(T:V5 K mg C):Qt P w K mg base Ya 1 f0 fd ["self","forms"] (Qe0 P w C):=by
 refine F.ok Qnk (λvs H Q E h=>?_) (λcdv A outer s H vs Q E hr h=>?_)
 ·obtain⟨n,dx,f,ws,fs,rfl,_⟩:=h;rfl
 obtain⟨n,dx,f,ws,fs,rfl,hn,hf,ai,q⟩:=h;refine⟨_,Qd (Xe (pv 0) (pv 1) rfl) (Qd (Xe (pv 0) U1 Xb) (Qd (Xe (pv 0) U1 Xb) (Qd (Xe (pv 0) U1 Xb) (Qd (Xe (tv:=Qlb P w) (pv 0) Im Xb) (Qd (Xe (pv 0) (Zj Qe) rfl) (Qd (Xe (pv 0) Qdf Xb) (Qh (Xe (pv 0) U1 Xb)))))))),?_⟩;have st:∀{H0:Hp}{b a:Gc}{o oa:HO}{fs':List (Gy×V)},H0 b=Ga o->b≠n->H0 a=Ge->(upd (upd H0 a oa) n (.ins C dx fs')) b=Ga o:=λe hb ha=>by rw[Qg hb,Qg (Qc e ha)];exact e
 have sn:∀{H0:Hp}{a:Gc}{oa:HO}{fs':List (Gy×V)}{o:HO},H0 n=Ga o->H0 a=Ge->(upd (upd H0 a oa) n (.ins C dx fs')) a=Ga oa:=λe ha=>by rw[Qg (Gn (Qc e ha)),Qb]
 refine⟨_,Xb,_,Xb,n,C,dx,[],Xb,hn,T.cl,T.Qdh,by show 0<1000;decide,?_⟩;have fn:f≠n:=Ye hf hn nofun;have g0:∀b o,H b=Ga o->b≠n->(upd H n (.ins C dx (Yo "forms" (.ref f) []))) b=Ga o:=λb o e hb=>by rw[Qg hb];exact e
 have n0:(upd H n (.ins C dx (Yo "forms" (.ref f) []))) n=Ga (.ins C dx (Yo "forms" (.ref f) [])):=Qb;have t0:∀b,(upd H n (.ins C dx (Yo "forms" (.ref f) []))) b=Ge->H b=Ge:=λb hb=>by
  by_cases e:b=n
  ·subst e;rw[Qb]at hb;cases hb
  ·rw[Qg e]at hb;exact hb
 generalize upd H n (.ins C dx (Yo "forms" (.ref f) []))=H0 at g0 n0 t0;have tt:∀{H0:Hp}{a:Gc}{oa:HO}{fs':List (Gy×V)},(∀b,H0 b=Ge->H b=Ge)->∀b,(upd (upd H0 a oa) n (.ins C dx fs')) b=Ge->H b=Ge:=λh b hb=>by
  refine h b ?_;by_cases e:b=n
  ·subst e;rw[Qb]at hb;cases hb
  ·rw[Qg e]at hb
   rename_i H0 a oa fs'
   by_cases e2:b=a
   ·subst e2;rw[Qb]at hb;cases hb
   ·rw[Qg e2]at hb;exact hb
 intro c J;refine⟨_,Xb,n,C,dx,_,Xb,(by rw[Qg (Qc n0 J)];exact n0),T.cl,T.Wt,by show 1<1000;decide,?_⟩;have l1:=@sn H0 c (.dK []) (Yo "leads" (.ref c) (Yo "forms" (.ref f) [])) _ n0 J;have n1:=@Qb (upd H0 c (.dK [])) n (.ins C dx (Yo "leads" (.ref c) (Yo "forms" (.ref f) [])));have g1:∀b o,H b=Ga o->b≠n->_:=λb o e hb=>@st H0 b c o (.dK []) (Yo "leads" (.ref c) (Yo "forms" (.ref f) [])) (g0 b o e hb) hb J;have t1:=@tt H0 c (.dK []) (Yo "leads" (.ref c) (Yo "forms" (.ref f) [])) t0;have ln:c≠n:=Gn (Qc n0 J);have ae:=t0 _ J;generalize upd (upd H0 c (.dK [])) n (.ins C dx (Yo "leads" (.ref c) (Yo "forms" (.ref f) [])))=H1 at l1 n1 g1 t1⊢;intro g B;refine⟨_,Xb,n,C,dx,_,Xb,(by rw[Qg (Qc n1 B)];exact n1),T.cl,T.members,by show 2<1000;decide,?_⟩;generalize D:Yo "members" (.ref g) (Yo "leads" (.ref c) (Yo "forms" (.ref f) []))=X;have m2:=@sn H1 g (.dK []) X _ n1 B;have n2:=@Qb (upd H1 g (.dK [])) n (.ins C dx X);have g2:∀b o,H b=Ga o->b≠n->_:=λb o e hb=>@st H1 b g o (.dK []) X (g1 b o e hb) hb B;have t2:=@tt H1 g (.dK []) X t1;have mn:g≠n:=Gn (Qc n1 B);have af:=t1 _ B;have l2:=@st H1 c g _ (.dK []) X l1 ln B;have lm:c≠g:=Qc l1 B;generalize upd (upd H1 g (.dK [])) n (.ins C dx X)=H2 at m2 n2 g2 t2 l2⊢;intro l r;refine⟨_,Xb,n,C,dx,_,Xb,(by rw[Qg (Qc n2 r)];exact n2),T.cl,T.Qfp,by rw[<-D];show 3<1000;decide,?_⟩;generalize I:Yo "users" (.ref l) X=U;have u3:=@sn H2 l (.dK []) U _ n2 r;have n3:=@Qb (upd H2 l (.dK [])) n (.ins C dx U);have g3:∀b o,H b=Ga o->b≠n->_:=λb o e hb=>@st H2 b l o (.dK []) U (g2 b o e hb) hb r;have t3:=@tt H2 l (.dK []) U t2;have un:l≠n:=Gn (Qc n2 r);have ag:=t2 _ r;have l3:=@st H2 c l _ (.dK []) U l2 ln r;have m3:=@st H2 g l _ (.dK []) U m2 mn r;have lu:c≠l:=Qc l2 r;have mu:g≠l:=Qc m2 r;generalize upd (upd H2 l (.dK [])) n (.ins C dx U)=W at u3 n3 g3 t3 l3 m3⊢;intro at_ v;refine⟨_,Xb,n,C,dx,_,Xb,(by rw[Qg (Qc n3 v)];exact n3),T.cl,T.table,by rw[<-I,<-D];show 4<1000;decide,Gv _,?_⟩;generalize S:Yo "table" (.ref at_) U=N;have d4:=@sn W at_ (Vh P w at_ []) N _ n3 v;have n4:=@Qb (upd W at_ (Vh P w at_ [])) n (.ins C dx N);have g4:∀b o,H b=Ga o->b≠n->_:=λb o e hb=>@st W b at_ o (Vh P w at_ []) N (g3 b o e hb) hb v;have t4:=@tt W at_ (Vh P w at_ []) N t3;have dn:at_≠n:=Gn (Qc n3 v);have ab:=t3 _ v;have l4:=@st W c at_ _ (Vh P w at_ []) N l3 ln v;have m4:=@st W g at_ _ (Vh P w at_ []) N m3 mn v;have u4:=@st W l at_ _ (Vh P w at_ []) N u3 un v;generalize upd (upd W at_ (Vh P w at_ [])) n (.ins C dx N)=O at d4 n4 g4 t4 l4 m4 u4⊢;intro t m;refine⟨_,Xb,n,C,dx,_,Xb,(by rw[Qg (Qc n4 m)];exact n4),T.cl,T.links,by rw[<-S,<-I,<-D];show 5<1000;decide,?_⟩;generalize Z:Yo "links" (.ref t) N=L;have k5:=@sn O t (.lst []) L _ n4 m;have n5:=@Qb (upd O t (.lst [])) n (.ins C dx L);have g5:∀b o,H b=Ga o->b≠n->_:=λb o e hb=>@st O b t o (.lst []) L (g4 b o e hb) hb m;have t5:=@tt O t (.lst []) L t4;have kn:t≠n:=Gn (Qc n4 m);have Y:=t4 _ m;have l5:=@st O c t _ (.lst []) L l4 ln m;have m5:=@st O g t _ (.lst []) L m4 mn m;have u5:=@st O l t _ (.lst []) L u4 un m;have d5:=@st O at_ t _ (.lst []) L d4 dn m;generalize upd (upd O t (.lst [])) n (.ins C dx L)=M at k5 n5 g5 t5 l5 m5 u5 d5⊢;intro u d;refine⟨_,Xb,n,C,dx,_,Xb,(by rw[Qg (Qc n5 d)];exact n5),T.cl,T.Qb1,by rw[<-Z,<-S,<-I,<-D];show 6<1000;decide,?_⟩;generalize ac:Yo "link_at" (.ref u) L=G;have a6:=@sn M u (.dT []) G _ n5 d;have n6:=@Qb (upd M u (.dT [])) n (.ins C dx G);have g6:∀b o,H b=Ga o->b≠n->_:=λb o e hb=>@st M b u o (.dT []) G (g5 b o e hb) hb d;have t6:=@tt M u (.dT []) G t5;have an:u≠n:=Gn (Qc n5 d);have ad:=t5 _ d;have l6:=@st M c u _ (.dT []) G l5 ln d;have m6:=@st M g u _ (.dT []) G m5 mn d;have u6:=@st M l u _ (.dT []) G u5 un d;have d6:=@st M at_ u _ (.dT []) G d5 dn d;have k6:=@st M t u _ (.dT []) G k5 kn d;generalize upd (upd M u (.dT [])) n (.ins C dx G)=H6 at a6 n6 g6 t6 l6 m6 u6 d6 k6⊢;intro R x;refine⟨_,Xb,n,C,dx,_,Xb,(by rw[Qg (Qc n6 x)];exact n6),T.cl,T.above,by rw[<-ac,<-Z,<-S,<-I,<-D];show 7<1000;decide,?_⟩;have ah:Yo "above" (.ref R) G=Yx ⟨f,c,g,l,at_,t,u,R,λ_=>0,λ_=>0⟩:=by rw[<-ac,<-Z,<-S,<-I,<-D];rfl
 rw[ah];have v7:=@sn H6 R (.dK []) (Yx ⟨f,c,g,l,at_,t,u,R,λ_=>0,λ_=>0⟩) _ n6 x;have g7:∀b o,H b=Ga o->b≠n->_:=λb o e hb=>@st H6 b R o (.dK []) (Yx ⟨f,c,g,l,at_,t,u,R,λ_=>0,λ_=>0⟩) (g6 b o e hb) hb x;have s7:∀{b o},H6 b=Ga o->b≠n->_:=λ{b o}e hb=>@st H6 b R o (.dK []) (Yx ⟨f,c,g,l,at_,t,u,R,λ_=>0,λ_=>0⟩) e hb x;refine q ⟨f,c,g,l,at_,t,u,R,λ_=>0,λ_=>0⟩ _ rfl ⟨⟨dx,Qb⟩,⟨ws,g7 _ _ hf fn,L2.Paired.Yb ai λ_ _ h=>h.Qk λb xs e=>g7 b _ e (Ye e hn nofun)⟩,s7 l6 ln,s7 m6 mn,s7 u6 un,⟨[],⟨s7 d6 dn,(λp y=>nomatch y)⟩,Gm _,λk=>rfl⟩,⟨[],s7 k6 kn,.nil⟩,⟨[],s7 a6 an,Gm _,λi j=>rfl⟩,v7,(λp y=>nomatch y),(λp y=>nomatch y),
  ⟨lm,lu,Qc l6 x,mu,Qc m6 x,Qc u6 x,λz=>?_,(λp y=>nomatch y),(λp y=>nomatch y),(λp y=>nomatch y),(λp y=>nomatch y),(λp y=>nomatch y)⟩⟩ g7 (λb hb=>?_)
 ·have z:t=f:=z;rw[z,hf]at Y;cases Y
 ·rcases hb with rfl|rfl|rfl|rfl|rfl|rfl|rfl|⟨p,y,_⟩
  ·exact ae
  ·exact af
  ·exact ag
  ·exact ab
  ·exact Y
  ·exact ad
  ·exact t6 _ x
  ·exact nomatch y
end
end K07
namespace Nt
theorem Qe8{pt:Nat->List Nat}{M:Nat}(h:∀p,(pt p).length<=M):∀(S:List Nat)(q:Nat),(Yt pt S q).length<=S.length*M
 |[],q=>by simp[Yt]
 |p::S,q=>by have a:=Qe8 h S q;have h1:((pt p).count q)<=(pt p).length:=List.count_le_length;have h2:=h p;unfold Yt at a⊢;rw[List.flatMap_cons,List.length_append,List.length_replicate,List.length_cons,DM];omega
theorem Qkp{pt:Nat->List Nat}{S:List Nat}{p:Nat}(h:∀q∈S,p∉pt q):Yt pt S p=[]:=by unfold Yt;rw[List.flatMap_eq_nil_iff];intro q a;have:(pt q).count p=0:=List.count_eq_zero.mpr (h q a);rw[this];rfl
theorem Qbt{l:List Nat}{i u q:Nat}(h:l[i]?=Ga u):(l.take (i+1)).count q=(l.take i).count q+if u=q then 1 else 0:=by
 rw[List.take_add_one,h,List.count_append];congr 1;simp only[Option.toList];rw[List.count_singleton];by_cases e:u=q
 ·rw[Gk e];simp[e]
 ·rw[Gg e];simp[e]
end Nt
namespace K07
open PySem L2 Sb Nt
variable{A:Na}{S:List Nat}{H:Hp}{C:Gc}
structure Qx0(fs:List Fm)(rk:Nat->Nat):Prop where
 str:∀p,TW (Yg fs p)=Gf
 few:∀p,(Zl fs p).length<=100
 pts:∀p,p<fs.length->∀q∈Zl fs p,q<fs.length/\rk q<rk p
 inj:∀p q,p<fs.length->q<fs.length->Yg fs p=Yg fs q->Zl fs p=Zl fs q->p=q
 len:fs.length<=1000
structure Frs(P:Gj)(w:Gs)(C:Gc)(H:Hp)(n:Gc)(A:Na)(fs:List Fm)(S:List Nat):Prop where
 at_:Z3 P w C H n A fs S.length (fresh (Yg fs) (Zl fs) S)
 nd:S.Nodup
 cl:∀p∈S,∀q∈Zl fs p,q∈S
 lt:∀p∈S,p<fs.length
structure FrT(A:Na)(S:List Nat)(A':Na)(S':List Nat)(H H':Hp):Prop where
 keep:∀b o,H b=Ga o->¬Own A S b->H' b=Ga o
 own:∀b,Own A' S' b->Own A S b\/H b=Ge
 there:∀b,H' b=Ge->H b=Ge
theorem FrT.refl:FrT A S A S H H:=⟨λ_ _ e _=>e,λ_ h=>.inl h,λ_ h=>h⟩
theorem FrT.trans{a c:Na}{S1 S2:List Nat}{H1 H2:Hp}(x:FrT A S a S1 H H1)(y:FrT a S1 c S2 H1 H2):FrT A S c S2 H H2:=by
 refine⟨λb o e h=>y.keep b o (x.keep b o e h) λz=>?_,λb h=>?_,λb h=>x.there b (y.there b h)⟩
 ·rcases x.own b z with z|z
  ·exact h z
  ·rw[e]at z;cases z
 ·rcases y.own b h with h|h
  ·exact x.own b h
  ·exact .inr (x.there b h)
def na(A:Na)(ml ul:Nat->Gc):Na:={A with ml:=ml,ul:=ul}
def Qax(P:Gj)(w:Gs)(C:Gc)(k:Nat):Sp:=λvs H Q _=>∃(n:Gc)(A:Na)(fs:List Fm)(b:Nat->Nat)(S:List Nat)(p:Nat),vs=[.ref n,jv p]/\Frs P w C H n A fs S/\Qx0 fs b/\p<fs.length/\b p<k/\
 ∀(a:List Nat)(ml ul:Nat->Gc)(H':Hp),Frs P w C H' n (na A ml ul) fs a->(∀q∈S,q∈a)->p∈a->(∀q∈a,q∈S\/b q<=b p)->FrT A S (na A ml ul) a H H'->Q .non H'
section
variable{P:Gj}{w:Gs}{K:PySem.W.Frag}{mg:Gy->Option Value}{base:Heap}
theorem Qi8:Qy ["self","place","part"] ["self","place"] (Ql Oi):=by eq_refl
theorem Qvg{P:Gj}{w:Gs}{n:Gc}{fs:List Fm}{p:Nat}{m0 u0:Gc}(X:Z3 P w C H n A fs S.length (fresh (Yg fs) (Zl fs) S))(W:p∉S)(V:H m0=Ge)(Y:H u0=Ge)(j:m0≠u0)(t:Yt (Zl fs) S p=[]):
  Z3 P w C (upd (upd (upd (upd (upd (upd H A.l (.dK (dS (S++[p]) λq=>jv q))) m0 (.lst [jv p])) A.m (.dK (dS (S++[p]) λq=>.ref (if q=p then m0 else A.ml q)))) u0 (.lst [])) A.u (.dK (dS (S++[p]) λq=>.ref (if q=p then u0 else A.ul q)))) A.v (.dK (dS (S++[p]) λ_=>.non)))
   n (na A (λq=>if q=p then m0 else A.ml q) (λq=>if q=p then u0 else A.ul q)) fs S.length {fresh (Yg fs) (Zl fs) (S++[p])with Xg:=Yt (Zl fs) S,tab:=Qbd (Yg fs) (Zl fs) S}:=by
 obtain⟨dx,o1⟩:=X.ob;obtain⟨ws,x,R⟩:=X.fo;obtain⟨kvs,D,O,Q⟩:=X.ta;obtain⟨ls,l1,l2⟩:=X.li;obtain⟨Z,M,N⟩:=X.at_;have g:∀{b o},H b=Ga o->b≠m0:=λe=>Qc e V;have nu:∀{b o},H b=Ga o->b≠u0:=λe=>Qc e Y;have u:∀{b o},H b=Ga o->b≠A.l->b≠A.m->b≠A.u->b≠A.v->(upd (upd (upd (upd (upd (upd H A.l (.dK (dS (S++[p]) λq=>jv q))) m0 (.lst [jv p])) A.m (.dK (dS (S++[p]) λq=>.ref (if q=p then m0 else A.ml q)))) u0 (.lst [])) A.u (.dK (dS (S++[p]) λq=>.ref (if q=p then u0 else A.ul q)))) A.v (.dK (dS (S++[p]) λ_=>.non))) b=Ga o:=λe h1 h2 T U=>by rw[Qg U,Qg T,Qg (nu e),Qg h2,Qg (g e),Qg h1];exact e
 have no:∀{b o},H b=Ga o->(∀kvs,o≠.dK kvs)->b≠A.l/\b≠A.m/\b≠A.u/\b≠A.v:=λe h=>⟨Ye e X.le (h _),Ye e X.me (h _),Ye e X.us (h _),Ye e X.ab (h _)⟩;have i:∀{b o},H b=Ga o->(∀kvs,o≠.dK kvs)->_:=λ{b o}e h=>u e (no e h).1 (no e h).2.1 (no e h).2.2.1 (no e h).2.2.2;have G:Qp H _:=λb xs e=>i e (λ_ z=>nomatch z);have y:=g X.le;have E:=g X.me;have I:=g X.us;have K:=g X.ab;have B:=nu X.le;have F:=nu X.me;have J:=nu X.us;have L:=nu X.ab;have ne:∀q∈S,q≠p:=λq a z=>W (z▸a);refine⟨⟨dx,i o1 (λ_ z=>nomatch z)⟩,⟨ws,i x (λ_ z=>nomatch z),L2.Paired.Yb R λ_ _ h=>h.Qk G⟩,?_,?_,?_,⟨kvs,⟨i D.at_ (λ_ z=>nomatch z),Q6 G D.keys⟩,O,Q⟩,⟨ls,i l1 (λ_ z=>nomatch z),L2.Paired.Yb l2 λ_ _ h=>h.Qk G⟩,⟨Z,i M (λ_ z=>nomatch z),N⟩,Qb,λq a=>?_,λq a=>?_,⟨X.ap.lm,X.ap.lu,X.ap.lv,X.ap.mu,X.ap.mv,X.ap.uv,X.ap.kf,λq a r s=>?_,λq a r s=>?_,λq a r s=>?_,λq a=>?_,λq a=>?_⟩⟩
 ·show(upd _ A.v _) A.l=Ga (HO.dK (dS (S++[p]) λq=>jv q));rw[Qg X.ap.lv,Qg X.ap.lu,Qg B,Qg X.ap.lm,Qg y,Qb]
 ·show(upd _ A.v _) A.m=Ga (HO.dK (dS (S++[p]) λq=>.ref (if q=p then m0 else A.ml q)));rw[Qg X.ap.mv,Qg X.ap.mu,Qg F,Qb]
 ·show(upd _ A.v _) A.u=Ga (HO.dK (dS (S++[p]) λq=>.ref (if q=p then u0 else A.ul q)));rw[Qg X.ap.uv,Qb]
 ·show(upd _ A.v _) (if q=p then m0 else A.ml q)=Ga (.lst [jv q]);rcases List.mem_append.mp a with a|a
  ·rw[Gg (ne q a)];exact i (X.ml q a) (λ_ z=>nomatch z)
  ·have:q=p:=by simpa using a
   subst this;rw[Gk Xb,Qg (Gn K),Qg (Gn I),Qg j,Qg (Gn E),Qb]
 ·show(upd _ A.v _) (if q=p then u0 else A.ul q)=Ga (.lst ((Yt (Zl fs) S q).map jv));rcases List.mem_append.mp a with a|a
  ·rw[Gg (ne q a)];exact i (X.ul q a) (λ_ z=>nomatch z)
  ·have:q=p:=by simpa using a
   subst this;rw[Gk Xb,t,Qg (Gn L),Qg (Gn J),Qb];rfl
 ·show(if q=p then m0 else A.ml q)=(if r=p then m0 else A.ml r)->q=r;rcases List.mem_append.mp a with c|c<;>rcases List.mem_append.mp s with d|d
  ·rw[Gg (ne q c),Gg (ne r d)];exact X.ap.mm q c r d
  ·have:r=p:=by simpa using d
   subst this;rw[Gg (ne q c),Gk rfl];intro z;exact absurd z (g (X.ml q c))
  ·have:q=p:=by simpa using c
   subst this;rw[Gg (ne r d),Gk rfl];intro z;exact absurd z.symm (g (X.ml r d))
  ·intro _;have h1:q=p:=by simpa using c
   have h2:r=p:=by simpa using d
   rw[h1,h2]
 ·show(if q=p then u0 else A.ul q)=(if r=p then u0 else A.ul r)->q=r;rcases List.mem_append.mp a with c|c<;>rcases List.mem_append.mp s with d|d
  ·rw[Gg (ne q c),Gg (ne r d)];exact X.ap.uu q c r d
  ·have:r=p:=by simpa using d
   subst this;rw[Gg (ne q c),Gk rfl];intro z;exact absurd z (nu (X.ul q c))
  ·have:q=p:=by simpa using c
   subst this;rw[Gg (ne r d),Gk rfl];intro z;exact absurd z.symm (nu (X.ul r d))
  ·intro _;have h1:q=p:=by simpa using c
   have h2:r=p:=by simpa using d
   rw[h1,h2]
 ·show(if q=p then m0 else A.ml q)≠(if r=p then u0 else A.ul r);rcases List.mem_append.mp a with c|c<;>rcases List.mem_append.mp s with d|d
  ·rw[Gg (ne q c),Gg (ne r d)];exact X.ap.mul q c r d
  ·have:r=p:=by simpa using d
   subst this;rw[Gg (ne q c),Gk rfl];exact nu (X.ml q c)
  ·have:q=p:=by simpa using c
   subst this;rw[Gg (ne r d),Gk rfl];exact Gn (g (X.ul r d))
  ·have h1:q=p:=by simpa using c
   have h2:r=p:=by simpa using d
   rw[Gk h1,Gk h2];exact j
 ·show(if q=p then m0 else A.ml q)≠A.k/\(if q=p then m0 else A.ml q)≠A.f;rcases List.mem_append.mp a with a|a
  ·rw[Gg (ne q a)];exact X.ap.mkf q a
  ·have:q=p:=by simpa using a
   rw[Gk this];exact⟨Gn (g l1),Gn (g x)⟩
 ·show(if q=p then u0 else A.ul q)≠A.k/\(if q=p then u0 else A.ul q)≠A.f;rcases List.mem_append.mp a with a|a
  ·rw[Gg (ne q a)];exact X.ap.ukf q a
  ·have:q=p:=by simpa using a
   rw[Gk this];exact⟨Gn (nu l1),Gn (nu x)⟩
end
section
variable{P:Gj}{w:Gs}{K:PySem.W.Frag}{mg:Gy->Option Value}{base:Heap}
theorem Zy{b c:Gc}{o:HO}(h:upd H b o c=Ge):H c=Ge:=by
 by_cases e:c=b
 ·subst e;rw[Qb]at h;cases h
 ·rw[Qg e]at h;exact h
theorem Qi{b c:Gc}{o u:HO}(e:H c=Ga u)(h:c≠b):upd H b o c=Ga u:=by rw[Qg h];exact e
theorem Qvt{k:Nat}{f fK:Gc}{fd ag:Td}(F:Va K "take_in" "Net.take_in" Oi f fd)(T:V5 K mg C)(mT:Yc K C "take_in" f)(bT:Binds K fd ["self","place"] [])(G:Qt P w K mg base Ya (k+1) f fd ["self","place"] (Qax P w C k))
  (mK:Yc K C "key_of" fK)(GK:Qt P w K mg base Ya 1 fK ag ["self","place"] (Qbz P w C))(bK:Binds K ag ["self","place"] []):Qt P w K mg base Ya (k+2) f fd ["self","place"] (Qax P w C (k+1)):=by
 refine F.ok Qi8 (λvs H Q E h=>?_) (λcdv A outer s H vs Q E g h=>?_)
 ·obtain⟨n,A,fs,rk,S,p,rfl,_⟩:=h;rfl
 obtain⟨n,A,fs,rk,S,p,rfl,X,tk,hp,hk,q⟩:=h;have O:=Ut g;have aj:=g.units;have aB:Yd 1 _:=g.mono (by omega);have nd:=Qi8.nd;refine⟨_,Qd (Zr (Qae (Qjs O (pv 1) (Qm (pv 0) rfl))) (Qh Que) Q9)
  (Qd (Z6 Gq rfl (Ue (Qn Q3 (Qn Ze (Qm (pv 0) rfl) (pv 1)) Qj)) (Z2 2 nd)
   (Qh (Zc (Zd (pv 0) T.cl mT G g bT .nil Q4 (Qa (pv 2) Qe)))))
  (Qd (Wl O (Qm (pv 0) rfl) (pv 1) (pv 1) rfl)
  (Qd (Wl O (Qm (pv 0) rfl) (pv 1) (Zj (Qa (pv 1) Qe)) rfl)
  (Qd (Wl O (Qm (pv 0) rfl) (pv 1) (Zj Qe) rfl)
  (Qd (Wl O (Qm (pv 0) rfl) (pv 1) Ji Xb)
  (Qd (Z6 Gq rfl (Ue (Qn Q3 (Qn Ze (Qm (pv 0) rfl) (pv 1)) Qj)) (Z2 2 nd)
   (Qh (Zc (Xn PySem.F.plainAttrs_list PySem.F.slot_list_append PySem.F.type_list_append Zq (Zt O (Qm (pv 0) rfl) (pv 2) (λ_ _=>rfl)) (Qa (pv 1) Qe)))))
  (Qh (Rq (pv 1) (Qak (Qm (pv 0) rfl) (Zd (pv 0) T.cl mK GK aB bK .nil Q4 (Qa (pv 1) Qe)) (Qao aj)))))))))),?_⟩
 obtain⟨dx,o1⟩:=X.at_.ob;have aQ:S.length<=fs.length:=Xm (S:=List.range fs.length) X.nd (λr g=>List.mem_range.mpr (X.lt r g))|>λh=>by rw[List.length_range]at h;exact h
 have aU:=tk.len;have gl:Wd H A.l (jv p) (Yq (dS S λr=>jv r) (ki p)):=Wd.k (k:=ki p) X.at_.le;refine⟨_,Xb,_,Xb,n,C,dx,_,_,Xb,o1,T.cl,T.Wt,Ym _,A.l,_,Xb,gl,_,Xb,?_⟩;rw[Qlz];by_cases U:p∈S
 ·rw[GQ U];refine Xf ?_;exact q S A.ml A.ul H X (λ_ h=>h) U (λr h=>.inl h) FrT.refl
 rw[Gx U];refine Zz ?_;obtain⟨ws,f1,f2⟩:=X.at_.fo;have hw:p<ws.length:=by rw[Paired.length f2];exact hp
 obtain⟨y,hy,c,e,ec,h1,h2⟩:=Qw f2 (List.getElem?_eq_getElem hw);rw[Qfd hp]at hy;cases hy;have few:=tk.few p;refine⟨_,Xb,n,C,dx,_,_,Xb,o1,T.cl,T.Qdh,Um _,_,Xb,A.f,ws,_,_,Xb,Xb,Zb.of f1,Qz (List.getElem?_eq_getElem hw),c,_,_,_,ec,Xb,Z4.of h1,Re _ _ _,e,Xb,⟨_,Z4.of h2⟩,Qgr (K:=K) (a:=e) (xs:=(Zl fs p).map jv)
  (λi σ H2=>∃(x2:Option V)(S2:List Nat)(ml ul:Nat->Gc),σ=[Ga (.ref n),Ga (jv p),x2]/\Frs P w C H2 n (na A ml ul) fs S2/\(∀r∈S,r∈S2)/\(∀r∈(Zl fs p).take i,r∈S2)/\(∀r∈S2,r∈S\/rk r<rk p)/\FrT A S (na A ml ul) S2 H H2)
  ⟨_,S,A.ml,A.ul,Xb,X,λ_ h=>h,by simp,λr h=>.inl h,FrT.refl⟩ (λi σ H2 _⟨_,_,_,_,_,_,_,_,_,F2⟩=>Z4.of (F2.keep _ _ h2 (X.at_.Qks h2))) ?_ ?_⟩
 ·rintro i y σ H2 hi ⟨x2,S2,ml,ul,rfl,d,sub,done,Z,F2⟩;rw[List.getElem?_map]at hi;cases eq:(Zl fs p)[i]? with
  |none=>rw[eq]at hi;cases hi
  |some r=>
   rw[eq]at hi;cases hi;obtain⟨rl,rr⟩:=tk.pts p hp r (List.mem_of_getElem? eq);obtain⟨j,o2⟩:=d.at_.ob;refine⟨_,Xb,n,j,_,Xb,o2,Qaw _,_,Xb,n,na A ml ul,fs,rk,S2,r,Xb,d,tk,rl,by omega,λS3 aG aM H3 X3 aa r3 aJ F3=>?_⟩;refine⟨_,S3,aG,aM,Xb,X3,λt N=>aa t (sub t N),λt N=>?_,λt N=>?_,F2.trans F3⟩
   ·rw[List.take_add_one,eq]at N;rcases List.mem_append.mp N with N|N
    ·exact aa t (done t N)
    ·have:t=r:=by simpa using N
     rw[this];exact r3
   ·rcases aJ t N with h|h
    ·exact Z t h
    ·exact .inr (by omega)
 rintro σ H2 ⟨x2,S2,ml,ul,rfl,d,sub,done,Z,F2⟩;rw[List.length_map,List.take_length]at done;have x:p∉S2:=λz=>by
  rcases Z p z with h|h
  ·exact U h
  ·omega
 have aV:S2.length<=1000:=by have:=Xm (S:=List.range fs.length) d.nd (λr g=>List.mem_range.mpr (d.lt r g));rw[List.length_range]at this;omega
 have az:Yt (Zl fs) S2 p=[]:=Qkp λr g z=>x (d.cl r g p z);obtain⟨j,o2⟩:=d.at_.ob;have ay:(dS S2 λr=>jv r).length<Gh:=by rw[Ww,Gu];omega
 have aD:H2 A.l=Ga (.dK (dS S2 λr=>jv r)):=d.at_.le;have aE:H2 A.m=Ga (.dK (dS S2 λr=>.ref (ml r))):=d.at_.me;have aN:H2 A.u=Ga (.dK (dS S2 λr=>.ref (ul r))):=d.at_.us;have ao:H2 A.v=Ga (.dK (dS S2 λ_=>.non)):=d.at_.ab;have k1:=Ra.k (k:=ki p) (v:=jv p) aD ay;rw[Qaa x]at k1;have e1:(dS (S2++[p]) λr=>if r=p then jv p else jv r)=dS (S2++[p]) λr=>jv r:=Wo λr _=>by
  by_cases h:r=p
  ·rw[Gk h,h]
  ·rw[Gg h]
 rw[e1]at k1;refine⟨_,Xb,_,Xb,n,C,j,_,_,Xb,o2,T.cl,T.Wt,Ym _,_,Xb,A.l,_,Xb,k1,?_⟩;have nl:n≠A.l:=Ye o2 d.at_.le nofun;have o3:(upd H2 A.l (.dK (dS (S2++[p]) λr=>jv r))) n=Ga (.ins C j (Yx A)):=by rw[Qg nl];exact o2
 refine⟨_,Xb,by show 1<=Gh;decide,λm0 D=>?_⟩;have s3:=Qf D (.lst [jv p]);have ae:H2 m0=Ge:=by
  by_cases h:m0=A.l
  ·subst h;rw[Qb]at D;cases D
  ·rw[Qg h]at D;exact D
 have aF:(upd H2 A.l (.dK (dS (S2++[p]) λr=>jv r))) A.m=Ga (.dK (dS S2 λr=>.ref (ml r))):=Qi aE (Gn d.at_.ap.lm);have k2:=Ra.k (k:=ki p) (v:=.ref m0) (s3 _ _ aF) (by rw[Ww,Gu];omega);rw[Qaa x]at k2;have e2:(dS (S2++[p]) λr=>if r=p then V.ref m0 else .ref (ml r))=dS (S2++[p]) λr=>.ref (if r=p then m0 else ml r):=Wo λr _=>by split<;>rfl
 rw[e2]at k2;refine⟨_,Xb,n,C,j,_,_,Xb,s3 _ _ o3,T.cl,T.members,W3 _,_,Xb,A.m,_,Xb,k2,?_⟩;have aH:n≠A.m:=Ye o2 d.at_.me nofun;generalize ad:upd (upd (upd H2 A.l (.dK (dS (S2++[p]) λr=>jv r))) m0 (.lst [jv p])) A.m (.dK (dS (S2++[p]) λr=>.ref (if r=p then m0 else ml r)))=Hc;have cA:∀{b o},H2 b=Ga o->b≠A.l->b≠A.m->Hc b=Ga o:=λe h1 h2=>by rw[<-ad,Qg h2,Qg (Qc e ae),Qg h1];exact e
 have cN:∀{b},Hc b=Ge->H2 b=Ge/\b≠m0:=λ{b}h=>by
  rw[<-ad]at h;by_cases h1:b=A.m
  ·subst h1;rw[Qb]at h;cases h
  ·rw[Qg h1]at h;by_cases h2:b=m0
   ·subst h2;rw[Qb]at h;cases h
   ·rw[Qg h2]at h;by_cases h3:b=A.l
    ·subst h3;rw[Qb]at h;cases h
    ·rw[Qg h3]at h;exact⟨h,h2⟩
 have o4:=cA o2 nl aH;refine⟨Gv _,λu0 ai=>?_⟩;obtain⟨am,aK⟩:=cN ai;have s5:=Qf ai (.lst []);have aL:=cA aN (Gn d.at_.ap.lu) (Gn d.at_.ap.mu);have k3:=Ra.k (k:=ki p) (v:=.ref u0) (s5 _ _ aL) (by rw[Ww,Gu];omega);rw[Qaa x]at k3;have e3:(dS (S2++[p]) λr=>if r=p then V.ref u0 else .ref (ul r))=dS (S2++[p]) λr=>.ref (if r=p then u0 else ul r):=Wo λr _=>by split<;>rfl
 rw[e3]at k3;refine⟨_,Xb,n,C,j,_,_,Xb,s5 _ _ o4,T.cl,T.Qfp,Ie _,_,Xb,A.u,_,Xb,k3,?_⟩;have nu:n≠A.u:=Ye o2 d.at_.us nofun;have o5:(upd (upd Hc u0 (.lst [])) A.u (.dK (dS (S2++[p]) λr=>.ref (if r=p then u0 else ul r)))) n=Ga (.ins C j (Yx A)):=by rw[Qg nu];exact s5 _ _ o4
 have aO:(upd (upd Hc u0 (.lst [])) A.u (.dK (dS (S2++[p]) λr=>.ref (if r=p then u0 else ul r)))) A.v=Ga (.dK (dS S2 λ_=>.non)):=by exact Qi (s5 _ _ (cA ao (Gn d.at_.ap.lv) (Gn d.at_.ap.mv))) (Gn d.at_.ap.uv)
 have k4:=Ra.k (k:=ki p) (v:=.non) aO (by rw[Ww,Gu];omega);rw[Qaa x]at k4;have e4:(dS (S2++[p]) λr=>if r=p then V.non else .non)=dS (S2++[p]) λ_=>.non:=Wo λr _=>by split<;>rfl
 rw[e4]at k4;refine⟨_,Xb,n,C,j,_,_,Xb,o5,T.cl,T.above,Oz _,_,Xb,A.v,_,Xb,k4,?_⟩;have Y:=Qvg (m0:=m0) (u0:=u0) d.at_ x ae am (Gn aK) az;have FY:FrT (na A ml ul) S2 (na A (λr=>if r=p then m0 else ml r) (λr=>if r=p then u0 else ul r)) (S2++[p]) H2 (upd (upd (upd Hc u0 (.lst [])) A.u (.dK (dS (S2++[p]) λr=>.ref (if r=p then u0 else ul r)))) A.v (.dK (dS (S2++[p]) λ_=>.non))):=by
  refine⟨λb o e hb=>?_,λb hb=>?_,λb hb=>?_⟩
  ·rw[Qg (λz=>hb (by rw[z];exact .inr (.inr (.inr (.inr (.inr (.inr (.inl Xb)))))))),Qg (λz=>hb (by rw[z];exact .inr (.inr (.inl Xb))))];exact s5 _ _ (cA e (λz=>hb (by rw[z];exact .inl Xb)) (λz=>hb (by rw[z];exact .inr (.inl Xb))))
  ·rcases hb with h|h|h|h|h|h|h|⟨r,aA,h⟩
   ·exact .inl (.inl h)
   ·exact .inl (.inr (.inl h))
   ·exact .inl (.inr (.inr (.inl h)))
   ·exact .inl (.inr (.inr (.inr (.inl h))))
   ·exact .inl (.inr (.inr (.inr (.inr (.inl h)))))
   ·exact .inl (.inr (.inr (.inr (.inr (.inr (.inl h))))))
   ·exact .inl (.inr (.inr (.inr (.inr (.inr (.inr (.inl h)))))))
   ·have h:b=(if r=p then m0 else ml r)\/b=(if r=p then u0 else ul r):=h;by_cases I:r=p
    ·rw[Gk I,Gk I]at h;rcases h with h|h
     ·rw[h];exact .inr ae
     ·rw[h];exact .inr am
    ·rw[Gg I,Gg I]at h;have aC:r∈S2:=by
      rcases List.mem_append.mp aA with z|z
      ·exact z
      ·exact absurd (by simpa using z) I
     exact .inl (.inr (.inr (.inr (.inr (.inr (.inr (.inr ⟨r,aC,h⟩)))))))
  ·by_cases h1:b=A.v
   ·subst h1;rw[Qb]at hb;cases hb
   ·rw[Qg h1]at hb;by_cases h2:b=A.u
    ·subst h2;rw[Qb]at hb;cases hb
    ·rw[Qg h2]at hb;exact(cN (s5.free hb)).1
 have Y:Z3 P w C (upd (upd (upd Hc u0 (.lst [])) A.u (.dK (dS (S2++[p]) λr=>.ref (if r=p then u0 else ul r)))) A.v (.dK (dS (S2++[p]) λ_=>.non))) n (na A (λr=>if r=p then m0 else ml r) (λr=>if r=p then u0 else ul r)) fs S2.length {fresh (Yg fs) (Zl fs) (S2++[p])with Xg:=Yt (Zl fs) S2,tab:=Qbd (Yg fs) (Zl fs) S2}:=by rw[<-ad];exact Y
 generalize upd (upd (upd Hc u0 (.lst [])) A.u (.dK (dS (S2++[p]) λr=>.ref (if r=p then u0 else ul r)))) A.v (.dK (dS (S2++[p]) λ_=>.non))=H4 at Y FY⊢;generalize (λr=>if r=p then m0 else ml r)=L at Y FY;generalize (λr=>if r=p then u0 else ul r)=B at Y FY;have F4:=F2.trans FY;obtain⟨ar,aI⟩:=Y.ob;obtain⟨an,av,af⟩:=Y.fo;have ak:p<an.length:=by rw[Paired.length af];exact hp
 obtain⟨y4,al,c4,ac,au,ax,ah⟩:=Qw af (List.getElem?_eq_getElem ak);rw[Qfd hp]at al;cases al;refine⟨_,Xb,n,C,ar,_,_,Xb,aI,T.cl,T.Qdh,Um _,_,Xb,A.f,an,_,_,Xb,Xb,Zb.of av,Qz (List.getElem?_eq_getElem ak),c4,_,_,_,au,Xb,Z4.of ax,Re _ _ _,ac,Xb,⟨_,Z4.of ah⟩,Qgr (K:=K) (a:=ac) (xs:=(Zl fs p).map jv)
  (λi σ H5=>∃(x2:Option V),σ=[Ga (.ref n),Ga (jv p),x2]/\Z3 P w C H5 n (na A L B) fs S2.length {fresh (Yg fs) (Zl fs) (S2++[p])with Xg:=(λr=>Yt (Zl fs) S2 r++List.replicate (((Zl fs p).take i).count r) p),tab:=Qbd (Yg fs) (Zl fs) S2}/\FrT A S (na A L B) (S2++[p]) H H5/\H5 ac=Ga (.tup ((Zl fs p).map jv)))
  ⟨_,Xb,?_,F4,ah⟩ (λi σ H5 _⟨_,_,_,_,h⟩=>Z4.of h) ?_ ?_⟩
 ·have:(λr=>Yt (Zl fs) S2 r++List.replicate (((Zl fs p).take 0).count r) p)=Yt (Zl fs) S2:=by funext r;simp
  rw[this];exact Y
 ·rintro i y σ H5 hi ⟨x5,rfl,M,F5,h5⟩;rw[List.getElem?_map]at hi;cases eq:(Zl fs p)[i]? with
  |none=>rw[eq]at hi;cases hi
  |some r=>
   rw[eq]at hi;cases hi;have rS:r∈S2++[p]:=List.mem_append_left _ (done r (List.mem_of_getElem? eq));have ur:=M.ul r rS;obtain⟨R,W⟩:=M.ob;have aR:=Qe8 tk.few S2 r;have aP:((Zl fs p).take i).count r<=100:=TL List.count_le_length (by rw[List.length_take];omega);refine⟨_,Xb,n,C,R,_,_,Xb,W,T.cl,T.Qfp,Ie _,_,Xb,A.u,_,Xb,Xl M.us rS,.inl ⟨Xb,_,Zb.of ur⟩,_,Xb,_,_,_,Xb,Xb,ur,?_,?_⟩
   ·rw[List.length_map,Gu];show(Yt (Zl fs) S2 r++List.replicate (((Zl fs p).take i).count r) p).length<_;rw[List.length_append,List.length_replicate];omega
   ·have Y6:=M.Qp2 rS (Yt (Zl fs) S2 r++List.replicate (((Zl fs p).take i).count r) p++[p]);have eH:(HO.lst ((Yt (Zl fs) S2 r++List.replicate (((Zl fs p).take i).count r) p++[p]).map jv))=.lst ((Yt (Zl fs) S2 r++List.replicate (((Zl fs p).take i).count r) p).map jv++[jv p]):=by rw[List.map_append];rfl
    rw[eH]at Y6;have oR:Own (na A L B) (S2++[p]) (B r):=.inr (.inr (.inr (.inr (.inr (.inr (.inr ⟨r,rS,.inr Xb⟩))))));have eU:(λr'=>if r'=r then Yt (Zl fs) S2 r++List.replicate (((Zl fs p).take i).count r) p++[p]else Yt (Zl fs) S2 r'++List.replicate (((Zl fs p).take i).count r') p)=λr'=>Yt (Zl fs) S2 r'++List.replicate (((Zl fs p).take (i+1)).count r') p:=by
     funext r'
     rw[Qbt eq];by_cases h:r'=r
     ·rw[Gk h,Gk h.symm,h,List.replicate_succ',List.append_assoc]
     ·rw[Gg h,Gg (Gn h),SY]
    refine⟨_,Xb,?_,F5.trans ⟨λb o e hb=>?_,λb hb=>.inl hb,λb hb=>?_⟩,?_⟩
    ·rw[<-eU];exact Y6
    ·exact Qi e (λz=>hb (by rw[z];exact oR))
    ·exact Zy hb
    ·exact Qi h5 (Ye h5 ur nofun)
 rintro σ H5 ⟨x5,rfl,M,F5,h5⟩;rw[List.length_map,List.take_length]at M;have eU:(λr=>Yt (Zl fs) S2 r++List.replicate ((Zl fs p).count r) p)=Yt (Zl fs) (S2++[p]):=by
  funext r
  rw[Qsm]
 rw[eU]at M;obtain⟨R,W⟩:=M.ob;have pin:∀r∈Zl fs p,r∈S2++[p]:=λr g=>List.mem_append_left _ (done r g);refine⟨_,Xb,_,Xb,n,C,R,_,_,Xb,W,T.cl,T.table,Qi4 _,_,Xb,n,R,_,Xb,W,Qc3 _,_,Xb,n,na A L B,fs,_,_,p,Xb,M,hp,pin,by omega,λc6 H6 g6 aS aw=>?_⟩;have Y6:=M.same g6;obtain⟨J,D6,aT,aq⟩:=Y6.ta;have kc:=aw.key (tk.str p);refine⟨A.t,c6,_,J,Xb,Xb,D6,kc,by rw[Gu];omega,?_⟩;have new:∀r∈S2,Zk (Yg fs) (Zl fs) id r≠Zk (Yg fs) (Zl fs) id p:=λr g z=>by simp only[Zk,List.map_id,TH]at z;exact x (tk.inj r p (d.lt r g) hp z.1 z.2▸g)
 have Y7:=Y6.Qp8 (kvs':=Wr J (Yu (Zk (Yg fs) (Zl fs) id p)) c6 (jv p)) D6 (by have:=Oc J (Yu (Zk (Yg fs) (Zl fs) id p)) c6 (jv p);omega) (D6.keys.put kc) (t':=Qbd (Yg fs) (Zl fs) (S2++[p])) (λk'=>by
  rw[Us,Qst _ _ new];by_cases h:k'=Zk (Yg fs) (Zl fs) id p
  ·rw[Gk (by rw[h]),Gk h];rfl
  ·rw[Gg (λz=>h (Uw z)),Gg h];exact aq k')
 refine q (S2++[p]) L B _ ⟨?_,?_,λr g=>?_,λr g=>?_⟩ (λr g=>List.mem_append_left _ (sub r g)) (by simp) (λr g=>?_) (F5.trans ⟨λb o e hb=>?_,λb hb=>.inl ?_,λb hb=>?_⟩)
 ·rw[List.length_append,List.length_singleton];exact Y7
 ·rw[List.nodup_append];refine⟨d.nd,by simp,λr g u O=>?_⟩;have:u=p:=by simpa using O
  rw[this];exactλz=>x (z▸g)
 ·rcases List.mem_append.mp g with h|h
  ·exactλu O=>List.mem_append_left _ (d.cl r h u O)
  ·have:r=p:=by simpa using h
   subst this;exact pin
 ·rcases List.mem_append.mp g with h|h
  ·exact d.lt r h
  ·have:r=p:=by simpa using h
   subst this;exact hp
 ·rcases List.mem_append.mp g with h|h
  ·rcases Z r h with h|h
   ·exact .inl h
   ·exact .inr (by omega)
  ·have:r=p:=by simpa using h
   subst this;exact .inr (Gm _)
 ·exact Qi (g6 _ _ e) (λz=>hb (by rw[z];exact .inr (.inr (.inr (.inl Xb)))))
 ·exact hb
 ·exact g6.free (Zy hb)
theorem Q0x{f:Gc}{fd:Td}:Qt P w K mg base Ya 1 f fd ["self","place"] (Qax P w C 0):=by
 have no:∀vs H Q E,¬Qax P w C 0 vs H Q E:=λvs H Q E h=>by obtain⟨n,A,fs,a,S,p,_,_,_,_,h1,_⟩:=h;omega
 exact⟨λvs H Q E h=>absurd h (no vs H Q E),λA outer s H args us vs Q E _ _ _ _ h=>absurd h (no vs H Q E)⟩
theorem Qjb{f e C:Gc}{fd a:Td}(F:Va K "take_in" "Net.take_in" Oi f fd)(T:V5 K mg C)(h:Yc K C "take_in" f)(d:Binds K fd ["self","place"] [])
  (g:Yc K C "key_of" e)(b:Qt P w K mg base Ya 1 e a ["self","place"] (Qbz P w C))(c:Binds K a ["self","place"] []):∀k:Nat,Qt P w K mg base Ya (k+1) f fd ["self","place"] (Qax P w C k)
 |0=>Q0x
 |k+1=>Qvt F T h d (Qjb F T h d g b c k) g b c
end
end K07
namespace Nt
theorem O4{l:List Nat}:∀{S:List Nat},S.Nodup->(S.map λq=>l.count q).sum<=l.length
 |[],_=>by simp
 |q::S,nd=>by
  rw[List.nodup_cons]at nd;have c:=O4 (l:=l.filter (λz=>z !=q)) nd.2;have e:(S.map λr=>(l.filter (λz=>z !=q)).count r)=S.map λr=>l.count r:=List.map_congr_left λr b=>by rw[List.count_filter];simp only[bne_iff_ne,ne_eq];intro z;exact nd.1 (z▸b)
  rw[e]at c;have h2:(l.filter (λz=>z !=q)).length+l.count q=l.length:=by
   have:=List.length_eq_countP_add_countP (λz=>z !=q) (l:=l);rw[<-List.countP_eq_length_filter];have d:l.countP (λa=>¬(a !=q)=Gf)=l.count q:=by unfold List.count;refine List.countP_congr λx _=>?_;simp
   omega
  simp only[List.map_cons,List.sum_cons];omega
theorem Qbb{f g:Nat->Nat}:∀S:List Nat,(S.map λq=>f q+g q).sum=(S.map f).sum+(S.map g).sum
 |[]=>rfl
 |q::S=>by simp only[List.map_cons,List.sum_cons,Qbb S];omega
theorem Qnv{W ρ:Type}[DecidableEq W]{wd:Nat->W}{pt:Nat->List Nat}{S:List Nat}{M:Nat}(nd:S.Nodup)(h:∀p,(pt p).length<=M):Vv (fresh (ρ:=ρ) wd pt S)<=S.length*M:=by
 have gen:∀T:List Nat,(S.map λq=>(Yt pt T q).length).sum<=T.length*M:=by
  intro T;induction T with
  |nil=>
   have:(S.map λq=>(Yt pt [] q).length)=S.map λ_=>0:=List.map_congr_left λq _=>by simp[Yt]
   rw[this];clear this nd;have z:∀S:List Nat,(S.map λ_=>0).sum=0:=by
    intro S;induction S with
    |nil=>rfl
    |cons a S b=>simpa using b
   rw[z];omega
  |cons p T b=>
   have e:(S.map λq=>(Yt pt (p::T) q).length)=S.map λq=>(pt p).count q+(Yt pt T q).length:=List.map_congr_left λq _=>by simp only[Yt,List.flatMap_cons,List.length_append,List.length_replicate]
   rw[e,Qbb];have h1:=O4 (l:=pt p) nd;have h2:=h p;rw[List.length_cons,DM];omega
 unfold Vv;refine TL (SO ?_) (gen S);congr 1;refine List.map_congr_left λq _=>?_;rw[Gk (show(fresh (ρ:=ρ) wd pt S).lead q=q from rfl)];rfl
end Nt
namespace K07
open PySem L2 Sb Nt
variable{C:Gc}
abbrev En:=Gy×Nat×Nat
abbrev sme(p q:Nat):En:=(("same":Gy),p,q)
abbrev unl(p q:Nat):En:=(("unlike":Gy),p,q)
def Qct(H:Hp)(v:V)(e:En):Prop:=∃c,v=.ref c/\H c=Ga (.tup [.str e.1,jv e.2.1,jv e.2.2])
theorem Qct.Qk{H H':Hp}{v:V}{e:En}(t:Qp H H')(h:Qct H v e):Qct H' v e:=by obtain⟨c,h1,h2⟩:=h;exact⟨c,h1,t _ _ h2⟩
structure Nok(P:Gj)(w:Gs)(C:Gc)(H0 H:Hp)(n:Gc)(A:Na)(fs:List Fm)(tb:Nat)(x:Nn):Prop where
 at_:Z3 P w C H n A fs tb x
 inv:X8 (Yg fs) (Zl fs) x []
 fok:Qeg fs x.S
 new:∀b,Own A x.S b->H0 b=Ge
 nn:H0 n=Ge
 O9:Qv H0 H
 len:x.S.length<=60
 tt:Vv x<=6000
 cl:cls x+x.links.length<=x.S.length
 tbb:tb<=x.S.length+x.links.length*Vv x
structure Tup(fs:List Fm)(x:Nn)(ens:List En)(i:Nat):Prop where
 ins:∀e∈ens,e.2.1∈x.S/\e.2.2∈x.S
 eq:∀(j p q:Nat),j<i->ens[j]?=Ga (sme p q)->x.lead p=x.lead q
 snd:∀E,Ec (Yg fs) (Zl fs) x.S E->(∀(j p q:Nat),j<i->ens[j]?=Ga (sme p q)->E p q)->∀p∈x.S,∀q∈x.S,x.lead p=x.lead q->E p q
 rsn:∀y∈x.links,y.2.2=Ge\/∃(j p q:Nat),y=(p,q,Ga (.told j))/\ens[j]?=Ga (sme p q)
def Qfx(P:Gj)(w:Gs)(C:Gc):Sp:=λvs H Q _=>∃(f t:Gc)(c es:List V)(fs:List Fm)(a:List En)(b:Nat->Nat),vs=[.ref f,.ref t]/\H f=Ga (.lst c)/\Paired (R3 H) c fs/\H t=Ga (.lst es)/\Paired (Qct H) es a/\Qx0 fs b/\fs.length<=60/\(∀p,b p<59)/\
 (∀e∈a,e.2.1<fs.length/\e.2.2<fs.length)/\a.length<=1000/\
 ∀(n:Gc)(A:Na)(tb:Nat)(x:Nn)(H':Hp),Nok P w C H H' n A fs tb x->A.f=f->Tup fs x a a.length->Q (.ref n) H'
theorem Nok.merged{P:Gj}{w:Gs}{H0 H H':Hp}{n:Gc}{A:Na}{fs:List Fm}{tb:Nat}{x d:Nn}{a b:Nat}{r:Option U2}(N:Nok P w C H0 H n A fs tb x)(Y:Z3 P w C H' n A fs (tb+(d.links.length - x.links.length)*Vv x) d)(M:Mgd fs x d a b r [])(F:R1 A x.S H H'):Nok P w C H0 H' n A fs (tb+(d.links.length - x.links.length)*Vv x) d:=by
 have e:=M.S;refine⟨Y,M.inv,by rw[e];exact N.fok,by rw[e];exact N.new,N.nn,λc o f=>F.keep c o (N.O9 c o f) (λz=>by rw[N.new c z]at f;cases f),by rw[e];exact N.len,by rw[M.Vv];exact N.tt,by rw[e];have:=N.cl;have:=M.less;omega,?_⟩;rw[e,M.Vv];have h1:=N.tbb;have h2:=M.more;have:d.links.length*Vv x=x.links.length*Vv x+(d.links.length - x.links.length)*Vv x:=by rw[<-DM];congr 1;omega
 omega
theorem Tup.step{fs:List Fm}{x g:Nn}{d:List En}{i a b:Nat}(U:Tup fs x d i)(e:d[i]?=Ga (sme a b))(M:Mgd fs x g a b (Ga (.told i)) []):Tup fs g d (i+1):=by
 have f:=M.S;obtain⟨aS,bS⟩:=U.ins _ (List.mem_of_getElem? e);refine⟨by rw[f];exact U.ins,λj p q l c=>?_,λE X h=>?_,λy n=>?_⟩
 ·rcases Tb j i with h|h
  ·obtain⟨o,r⟩:=U.ins _ (List.mem_of_getElem? c);exact M.mono p o q r (U.eq j p q h c)
  ·have:j=i:=by omega
   subst this;rw[e]at c;cases c;exact M.eq.nil
 ·rw[f]at X;have k:=U.snd E X λj p q l=>h j p q (by omega);have:=M.snd E X ⟨k,λu v s m=>by simp at m;obtain⟨rfl,rfl,rfl⟩:=m;exact h i u v (by omega) e⟩
  exact this.1
 ·rcases M.rsn y n with h|h|h
  ·exact U.rsn y h
  ·exact .inr ⟨i,a,b,h,e⟩
  ·exact .inl h
theorem Tup.skip{fs:List Fm}{x:Nn}{c:List En}{i:Nat}{k:Gy}{a b:Nat}(U:Tup fs x c i)(e:c[i]?=Ga (k,a,b))(g:k≠"same"):Tup fs x c (i+1):=by
 refine⟨U.ins,λj p q f d=>?_,λE X h=>U.snd E X λj p q f=>h j p q (by omega),U.rsn⟩;rcases Tb j i with h|h
 ·exact U.eq j p q h d
 ·have:j=i:=by omega
  subst this;rw[e]at d;cases d;exact absurd rfl g
def Qx9(x:Nn)(a:List En):Option Nat->Prop
 |none=>∀(j p q:Nat),a[j]?=Ga (unl p q)->x.lead p≠x.lead q
 |some i=>(∃p q,a[i]?=Ga (unl p q)/\x.lead p=x.lead q)/\∀(j p q:Nat),j<i->a[j]?=Ga (unl p q)->x.lead p≠x.lead q
def Qgk(P:Gj)(w:Gs)(C:Gc):Sp:=λvs H Q _=>∃(n t:Gc)(A:Na)(fs:List Fm)(tb:Nat)(x:Nn)(es:List V)(a:List En),vs=[.ref n,.ref t]/\Z3 P w C H n A fs tb x/\H t=Ga (.lst es)/\Paired (Qct H) es a/\(∀e∈a,e.2.1∈x.S/\e.2.2∈x.S)/\
 ∀(o:Option Nat)(H':Hp),Qv H H'->Qx9 x a o->Q (ov o) H'
section
variable{P:Gj}{w:Gs}{K:PySem.W.Frag}{mg:Gy->Option Value}{base:Heap}
theorem Qmq:Qy ["net","entries","number","entry"] ["net","entries"] (Ql Qgu):=by eq_refl
theorem Xj{a b:Gy}:decide (V.str a=V.str b)=(a==b):=by rw[D1];simp
theorem Qsd{f S:Gc}{fd o:Td}(F:Va K "least_clash" "least_clash" Qgu f fd)(T:V5 K mg C)(B:Ik mg)(Z:Yc K C "equal" S)(GE:Qt P w K mg base Ya 1 S o ["self","one","other"] (Qb2 P w C))(V:Binds K o ["self","one","other"] []):
  Qt P w K mg base Ya 2 f fd ["net","entries"] (Qgk P w C):=by
 refine F.ok Qmq (λvs H Q E h=>?_) (λcdv A outer s H vs Q E Y h=>?_)
 ·obtain⟨n,t,A,fs,tb,x,es,m,rfl,_⟩:=h;rfl
 obtain⟨n,t,A,fs,tb,x,es,m,rfl,X,U,v,J,q⟩:=h;have M:Yd 1 _:=Y.mono (by omega);have nd:=Qmq.nd;refine⟨_,Qd (Z6 Gq rfl (Qlt rfl B.enumerate (Qa (pv 1) Qe)) (Vf rfl (Zm (Z2 2 nd) (Zm (Z2 3 nd) Wb)))
   (Qh (Zr (PW.pt (Rk (Qu Wu (Qn Q3 (pv 3) Qj) Q5 (Za _)) (I9 (Xz (Zd (pv 0) T.cl Z GE M V .nil Q4 (Qa (Qn Q3 (pv 3) Qj) (Qa (Qn Q3 (pv 3) Qj) Qe)))))))
    (Qh (Qx (pv 2))) Q9)))
  (Qh (Qx Ji)),?_⟩
 refine⟨_,Xb,t,es,Xb,Zb.of U,Qhn (K:=K) (a:=t) (xs:=es) (λi σ H2=>(∃N O,σ=[Ga (.ref n),Ga (.ref t),N,O])/\Qv H H2/\∀(j p r:Nat),j<i->m[j]?=Ga (unl p r)->x.lead p≠x.lead r)
  ⟨⟨_,_,Xb⟩,λ_ _ h=>h,λ_ _ _ h=>by omega⟩ (λi σ H2 _⟨_,g,_⟩=>Zb.of (g _ _ U)) ?_ ?_⟩
 ·rintro i y c σ H2 hi ⟨⟨N,O,rfl⟩,g,no⟩ W;obtain⟨⟨k,a,b⟩,D,z,rfl,I⟩:=Qw v hi;have s3:=Qf W (.tup [.int (i:Int),.ref z]);have u:=g.trans s3;obtain⟨aS,bS⟩:=J _ (List.mem_of_getElem? D);have l:=u _ _ I;refine⟨c,_,Xb,Z4.of Qb,Xb,_,_,Xb,_,_,Xb,Xb,?_⟩;refine⟨_,Xb,z,_,_,_,Xb,Xb,Z4.of l,Rv _ _,Xb,_,Xb,?_⟩;rw[Xj];by_cases L:k="unlike"
  ·subst L;rw[DZ];refine Xf ?_;have R:=X.same u;obtain⟨dx,o1⟩:=R.ob;refine⟨_,Xb,n,dx,_,Xb,o1,Qc5 _,_,Xb,z,_,_,_,Xb,Xb,Z4.of l,Re _ _ _,_,Xb,z,_,_,_,Xb,Xb,Z4.of l,Qhe _ _ _ _,n,A,fs,tb,x,a,b,Xb,R,aS,bS,_,Xb,?_⟩;by_cases e:x.lead a=x.lead b
   ·rw[GQ e];refine Xf ⟨_,Xb,q (Ga i) _ u ⟨⟨a,b,D,e⟩,no⟩⟩
   ·rw[Gx e];refine Zz ⟨⟨_,_,Xb⟩,u,λj p r G d=>?_⟩;rcases Tb j i with h|h
    ·exact no j p r h d
    ·have:j=i:=by omega
     subst this;rw[D]at d;cases d;exact e
  ·have:(k==("unlike":Gy))=Gp:=by simpa using L
   rw[this];refine Zz ?_;refine Zz ⟨⟨_,_,Xb⟩,u,λj p r G d=>?_⟩;rcases Tb j i with h|h
   ·exact no j p r h d
   ·have:j=i:=by omega
    subst this;rw[D]at d;cases d;exact absurd rfl L
 ·rintro σ H2 ⟨⟨N,O,rfl⟩,g,no⟩;refine q Ge H2 g λj p r G=>no j p r ?_ G;rw[Paired.length v];exact(List.getElem?_eq_some_iff.mp G).1
theorem Qme:Qy ["forms","told","net","kind","one","other","number","entry"] ["forms","told"] (Ql Qgp):=by eq_refl
theorem Qro{f fI fT fM:Gc}{fd Y aa Z:Td}(F:Va K "net_of" "net_of" Qgp f fd)(T:V5 K mg C)(B:Ik mg)(ag:Mk K C fI)(GI:Qt P w K mg base Ya 1 fI Y ["self","forms"] (Qe0 P w C))(bI:Binds K Y ["self","forms"] [])
  (mT:Yc K C "take_in" fT)(GT:Qt P w K mg base Ya 60 fT aa ["self","place"] (Qax P w C 59))(bT:Binds K aa ["self","place"] [])(mM:Yc K C "merge" fM)(GM:Qt P w K mg base Ya 4 fM Z ["self","one","other","reason"] (Qgb P w C))(bM:Binds K Z ["self","one","other","reason"] []):
  Qt P w K mg base Ya 61 f fd ["forms","told"] (Qfx P w C):=by
 refine F.ok Qme (λvs H Q E h=>?_) (λcdv A outer s H vs Q E v h=>?_)
 ·obtain⟨f,t,ws,es,fs,l,rk,rfl,_⟩:=h;rfl
 obtain⟨f,t,ws,es,fs,l,rk,rfl,hf,ar,ht,L,tk,aC,ac,ao,aB,q⟩:=h;have ap:Yd 2 _:=v.mono (by omega);have aq:Yd 4 _:=v.mono (by omega);have nd:=Qme.nd;refine⟨_,Qd (Qs 2 nd (Qms ag GI ap rfl T.mgC bI .nil Q4 (Qa (pv 0) Qe)))
  (Qd (Z6 Gq rfl (Yn (pv 1)) (Vf rfl (Zm (Z2 3 nd) (Zm (Z2 4 nd) (Zm (Z2 5 nd) Wb))))
   (Qd (Zc (Zd (pv 2) T.cl mT GT v bT .nil Q4 (Qa (pv 4) Qe)))
   (Qh (Zc (Zd (pv 2) T.cl mT GT v bT .nil Q4 (Qa (pv 5) Qe))))))
  (Qd (Z6 Gq rfl (Qlt rfl B.enumerate (Qa (pv 1) Qe)) (Vf rfl (Zm (Z2 6 nd) (Zm (Z2 7 nd) Wb)))
   (Qh (Zr (Qu Wu (Qn Q3 (pv 7) Qj) Q5 (Za _))
    (Qh (Zc (Zd (pv 2) T.cl mM GM aq bM .nil Q4 (Qa (Qn Q3 (pv 7) Qj) (Qa (Qn Q3 (pv 7) Qj) (Qa (Q8 (Qa Q5 (Qa (pv 6) Qe))) Qe)))))) Q9)))
  (Qh (Qx (pv 2))))),?_⟩
 refine⟨_,Xb,λn dx hn an aD=>?_⟩;have s0:Qv H (upd (upd H dx (.own n)) n (.ins C dx [])):=λc o e=>by rw[Qg (Qc e hn),Qg (Qc e an)];exact e
 refine⟨n,dx,f,ws,fs,Xb,Qb,s0 _ _ hf,L2.Paired.Yb ar λ_ _ h=>h.Qk (Qp.of s0),λA H1 fA X1 k1 w1=>⟨Xb,?_⟩⟩;have s1:Qv H H1:=λc o e=>k1 c o (s0 c o e) (Qc e hn);have n1:∀b,Own A [] b->H b=Ge:=λb hb=>s0.free (w1 b hb);have ad:es.length=l.length:=Paired.length L;refine⟨_,Xb,t,Xb,⟨_,Zb.of (s1 _ _ ht)⟩,Yz (K:=K) (a:=t) (xs:=es) (λi σ H2=>∃(x3 x4 x5:Option V)(S:List Nat)(ml ul:Nat->Gc),σ=[Ga (.ref f),Ga (.ref t),Ga (.ref n),x3,x4,x5,Ge,Ge]/\Frs P w C H2 n (na A ml ul) fs S/\Qv H H2/\(∀b,Own (na A ml ul) S b->H b=Ge)/\∀e∈l.take i,e.2.1∈S/\e.2.2∈S)
  ⟨_,_,_,[],A.ml,A.ul,Xb,⟨X1,List.nodup_nil,(λp R=>nomatch R),(λp R=>nomatch R)⟩,s1,n1,by simp⟩ (λi σ H2 _⟨_,_,_,_,_,_,_,_,g,_⟩=>Zb.of (g _ _ ht)) ?_ ?_⟩
 ·rintro i y σ H2 hi ⟨x3,x4,x5,S,ml,ul,rfl,d,M,n2,W⟩;obtain⟨⟨k,a,b⟩,O,D,rfl,J⟩:=Qw L hi;obtain⟨al,bl⟩:=ao _ (List.mem_of_getElem? O);obtain⟨ah,o2⟩:=d.at_.ob;refine⟨D,_,Xb,Z4.of (M _ _ J),Xb,_,_,Xb,_,_,Xb,_,_,Xb,Xb,?_⟩;refine⟨_,Xb,n,ah,_,Xb,o2,Qaw _,_,Xb,n,na A ml ul,fs,rk,S,a,Xb,d,tk,al,ac a,λS3 ae af u X3 G a3 _ F3=>?_⟩;have g3:Qv H u:=λc o e=>F3.keep c o (M c o e) (λz=>by rw[n2 c z]at e;cases e);have n3:∀b,Own (na A ae af) S3 b->H b=Ge:=λb hb=>(F3.own b hb).elim (n2 b) (λz=>M.free z);obtain⟨ai,o3⟩:=X3.at_.ob;refine⟨_,Xb,n,ai,_,Xb,o3,Qaw _,_,Xb,n,na A ae af,fs,rk,S3,b,Xb,X3,tk,bl,ac b,λS4 au av H4 X4 m b4 _ F4=>?_⟩;have g4:Qv H H4:=λc o e=>F4.keep c o (g3 c o e) (λz=>by rw[n3 c z]at e;cases e);refine⟨_,_,_,S4,au,av,Xb,X4,g4,λb hb=>(F4.own b hb).elim (n3 b) (λz=>g3.free z),λe ab=>?_⟩;rw[List.take_add_one,O]at ab;rcases List.mem_append.mp ab with h|h
  ·exact⟨m _ (G _ (W e h).1),m _ (G _ (W e h).2)⟩
  ·have:e=(k,a,b):=by simpa using h
   subst this;exact⟨m _ a3,b4⟩
 rintro σ H2 ⟨x3,x4,x5,S,ml,ul,rfl,d,M,n2,W⟩;rw[ad,List.take_length]at W;have aw:S.length<=fs.length:=Xm (S:=List.range fs.length) d.nd (λr v=>List.mem_range.mpr (d.lt r v))|>λh=>by rw[List.length_range]at h;exact h
 have ni:X8 (ρ:=U2) (Yg fs) (Zl fs) (fresh (Yg fs) (Zl fs) S) []:=Qnf d.nd d.cl λp R r v e1 e2=>tk.inj p r (d.lt p R) (d.lt r v) e1 e2;have N0:Nok P w C H H2 n (na A ml ul) fs S.length (fresh (Yg fs) (Zl fs) S):=⟨d.at_,ni,⟨tk.str,d.lt,d.cl,λp=>by have:=tk.few p;omega⟩,n2,hn,M,by show S.length<=60;omega,TL (Qnv d.nd tk.few) (by omega),Qq3 _,by show S.length<=S.length+0*_;omega⟩;have U0:Tup fs (fresh (Yg fs) (Zl fs) S) l 0:=⟨W,λj p r hj=>by omega,λE X _ p R r v e=>by have e:p=r:=e;subst e;exact X.refl p,λy hy=>nomatch hy⟩
 refine⟨_,Xb,t,es,Xb,Zb.of (M _ _ ht),Qhn (K:=K) (a:=t) (xs:=es) (λi σ u=>∃(x6 x7:Option V)(tb:Nat)(x:Nn),σ=[Ga (.ref f),Ga (.ref t),Ga (.ref n),x3,x4,x5,x6,x7]/\Nok P w C H u n (na A ml ul) fs tb x/\Tup fs x l i)
  ⟨_,_,_,_,Xb,N0,U0⟩ (λi σ u _⟨_,_,_,_,_,N,_⟩=>Zb.of (N.O9 _ _ ht)) ?_ ?_⟩
 ·rintro i y c σ u hi ⟨x6,x7,tb,x,rfl,N,U⟩ hc;obtain⟨⟨k,a,b⟩,O,D,rfl,J⟩:=Qw L hi;have s4:=Qf hc (.tup [.int (i:Int),.ref D]);have g4:=N.O9.trans s4;have I:=g4 _ _ J;obtain⟨aS,bS⟩:=U.ins _ (List.mem_of_getElem? O);have N4:Nok P w C H (upd u c (.tup [.int (i:Int),.ref D])) n (na A ml ul) fs tb x:=⟨N.at_.same s4,N.inv,N.fok,N.new,N.nn,g4,N.len,N.tt,N.cl,N.tbb⟩;refine⟨c,_,Xb,Z4.of Qb,Xb,_,_,Xb,_,_,Xb,Xb,?_⟩;refine⟨_,Xb,D,_,_,_,Xb,Xb,Z4.of I,Rv _ _,Xb,_,Xb,?_⟩;rw[Xj];by_cases hk:k="same"
  ·subst hk;rw[DZ];refine Xf ?_;obtain⟨aj,o4⟩:=N4.at_.ob;refine⟨_,Xb,n,aj,_,Xb,o4,Qiy _,_,Xb,D,_,_,_,Xb,Xb,Z4.of I,Re _ _ _,_,Xb,D,_,_,_,Xb,Xb,Z4.of I,Qhe _ _ _ _,_,Xb,by show 2<=Gh;decide,λc5 am=>?_⟩;have s5:=Qf am (.tup [.str "told",.int (i:Int)]);have g5:=g4.trans s5;have N5:Nok P w C H (upd (upd u c (.tup [.int (i:Int),.ref D])) c5 (.tup [.str "told",.int (i:Int)])) n (na A ml ul) fs tb x:=⟨N4.at_.same s5,N.inv,N.fok,N.new,N.nn,g5,N.len,N.tt,N.cl,N.tbb⟩;have ax:=N.len;have ak:=N.tt;have ay:=N.cl;have az:=N.tbb;have aA:x.links.length*Vv x+cls x*Vv x<=60*6000:=by rw[<-DM];exact LC (by omega) ak
   refine⟨n,na A ml ul,fs,tb,x,a,b,.ref c5,Ga (.told i),Xb,N5.at_,N.fok,⟨c5,Xb,Qb⟩,by simp,aS,bS,N.inv,by omega,by omega,by omega,by omega,λx' H6 Y6 M6 F6=>?_⟩;exact⟨_,_,_,x',Xb,N5.merged Y6 M6 F6,U.step O M6⟩
  ·have:(k==("same":Gy))=Gp:=by simpa using hk
   rw[this];exact Zz ⟨_,_,tb,x,Xb,N4,U.skip O hk⟩
 ·rintro σ u ⟨x6,x7,tb,x,rfl,N,U⟩;rw[ad]at U;exact⟨_,Xb,q n (na A ml ul) tb x u N fA U⟩
end
end K07
namespace L2
open PySem PySem.Spec PyProof.Rows
def Qq4:V->List V->Hp->VK->Prop:=λx vs H Q=>∃d k a kvs,x=.ref d/\vs=[kV k,a]/\H d=Ga (.dK kvs)/\kvs.length<Gh/\
 (∀v,Yq kvs k=Ga v->Q v H)/\(Yq kvs k=Ge->Q a (upd H d (.dK (We kvs k a))))
theorem Qlj{X:Cx}:MtR X "dict.setdefault" Qq4:=by
 intro pins s σ H x vs v us Q I r rv h;obtain⟨d,k,c,kvs,rfl,rfl,e,hz,n,o⟩:=h;cases(show v=Value.ref d from r);obtain⟨A,t,rfl,p,g⟩:=vals2 rv;obtain⟨z,hd,u,rel,f⟩:=Qhu I.Zu e;refine EB F.slot_dict_setdefault f.typeIs F.entry_dict_setdefault (F.args_dict_setdefault_3 _ _ _) (kt_meets_setdefault (Z9 X.prog X.w) d (Qa4 p) hd t) ⟨u,f,by rw[<-rel.length];exact z,λw hw=>?_,λl h' b m=>?_⟩
 ·have a:=rel.val k;rw[hw]at a;cases q:Yq kvs k with
  |none=>rw[q]at a;exact(show False from a).elim
  |some y=>rw[q]at a;exact⟨y,H,I.tok _,a,n y q⟩
 ·have a:=rel.val k;rw[l]at a;cases q:Yq kvs k with
  |some y=>rw[q]at a;exact(show False from a).elim
  |none=>
   have i:∃q,h'.get? d=Ga q:=let⟨q,_,_,hq,_⟩:=b;⟨q,hq⟩;have j:(We kvs k c).length<=Gh:=by have:=Xy kvs k c;omega
   exact⟨c,_,Jb I (by rw[e];exact Ti) m i (Qk0 j hd (rel.put k g) b),g,o q⟩
end L2
namespace PySem
variable{Q:Value->Gi->Prop}{it:Gc}{xs:Array Value}{i:Nat}{x:Value}
structure Qm7(prog:Gj)(w:Gs)(A:Tv)(I S:Gc)(fp:List Gc)(n:Nat)(St:Nat->Heap->List Value->Prop)(Out:Heap->List Value->Prop):Prop where
 item:∀(i:Nat)(s:Gi)(acc:List Value)(Q:Option Value->Gi->Prop)(E:Value->Gi->Prop),i<n->St i s.heap acc->(∀v h' tk,St (i+1) h' (acc++[v])->(∀b o,b∉fp->s.heap.get? b=Ga o->h'.get? b=Ga o)->Q (Ga v) {s with heap:=h',toks:=tk})->wpAny (GJ prog w) A (pyNext (.ref I)) Q E s
 done:∀(s:Gi)(acc:List Value)(Q:Option Value->Gi->Prop)(E:Value->Gi->Prop),St n s.heap acc->(∀h' tk,Out h' acc->(∀b o,b∉fp->s.heap.get? b=Ga o->h'.get? b=Ga o)->Q Ge {s with heap:=h',toks:=tk})->wpAny (GJ prog w) A (pyNext (.ref I)) Q E s
 keep:∀(i:Nat)(h h':Heap)(acc:List Value),St i h acc->(∀b o,b≠S->h.get? b=Ga o->h'.get? b=Ga o)->S<h'.objs.size->St i h' acc
section
variable{prog:Gj}{w:Gs}{A:Tv}{E:Value->Gi->Prop}{s:Gi}{R:LX->Gi->Prop}{I S:Gc}{fp:List Gc}{n:Nat}{St:Nat->Heap->List Value->Prop}{Out:Heap->List Value->Prop}
theorem Qqe(G:Qm7 prog w A.in1 I S fp n St Out)(m:S∉fp)(z:n<=Gh)(res:Value){h₁:Heap}
  (t:∀h' tk acc c,(∀b o,b≠S->b∉fp->h₁.get? b=Ga o->h'.get? b=Ga o)->h'.get? S=Ga {cls:=.type "list",dict:=Ge,data:=.seq acc c,slots:=#[]}->acc.size=n->Out h' acc.toList->R (.ok (.ret res)) {s with heap:=h',toks:=tk}):
  ∀(k i:Nat)(h:Heap)(tk c:Nat)(acc:Array Value),n - i=k->i<=n->St i h acc.toList->(∀b o,b≠S->b∉fp->h₁.get? b=Ga o->h.get? b=Ga o)->acc.size=i->
   h.get? S=Ga {cls:=.type "list",dict:=Ge,data:=.seq acc c,slots:=#[]}->codeAny (GJ prog w) A (.builtin "list.extend.loop" ⟨[.ref S,.ref I,res],[]⟩) R {s with heap:=h,toks:=tk}:=by
 intro k;induction k with
 |zero=>
  intro i h tk c acc u hi j a f hS;have q:i=n:=by omega
  subst q;refine Lv PySem.F.entry_extend_loop ?_;rw[Sq PySem.F.plain_extend_loop _];show wpAny _ A.in1 (pyNext (.ref I)>>=_) _ _ _;refine Gb (G.done {s with heap:=h,toks:=tk} acc.toList _ _ j λh' l x r=>?_);exact Gd (t h' l acc c (λb o h1 h2 e=>r b o h2 (a b o h1 h2 e)) (r S _ m hS) f x)
 |succ k y=>
  intro i h tk c acc u hi j a f hS;refine Lv PySem.F.entry_extend_loop ?_;rw[Sq PySem.F.plain_extend_loop _];show wpAny _ A.in1 (pyNext (.ref I)>>=_) _ _ _;refine Gb (G.item i {s with heap:=h,toks:=tk} acc.toList _ _ (by omega) j λv h' l p g=>?_);dsimp only at g⊢;have d:=g S _ m hS;have up:∀b o,b≠S->h'.get? b=Ga o->(h'.update S (DU (·.push v))).get? b=Ga o:=λb o hb e=>(Heap.get?_update_other _ _ (Gn hb)).trans e;show wpAny _ A.in1 (updateSeq S (·.push v)>>=_) _ _ _;refine Gb ?_;refine Ev d rfl (Gd ⟨SA PySem.F.plain_extend_loop _,y (i+1) _ l _ (acc.push v) (by omega) (by omega) (G.keep _ _ _ _ (by rw[Array.toList_push];exact p) up (Heap.lt_size (Heap.get?_update_self _ d Xb)))
   (λb o h1 h2 e=>up b o h1 (g b o h2 (a b o h1 h2 e))) (by rw[Lw,f]) (Heap.get?_update_self _ d Xb)⟩) (by omega) (by show(acc.push v).size<=Gh+1;rw[Lw];omega)
theorem Qiw{T:String}{hb:Bool}(G:Qm7 prog w A.in1.in1 I s.heap.objs.size fp n St Out)(u:∀b∈fp,b<s.heap.objs.size)(C:I<s.heap.objs.size)(M:n<=Gh)(v:∀h2:Heap,(∀b o,s.heap.get? b=Ga o->h2.get? b=Ga o)->s.heap.objs.size<h2.objs.size->St 0 h2 [])
  (H:∀h acc,St 0 h acc->LR {s with heap:=h} (.ref I) T)(P:(Value.type T==Value.type "list")=Gp)(R:(Value.type T==Value.type "tuple")=Gp)
  (self:∀(A:Tv)(E:Value->Gi->Prop)(h:Heap)(Q:Value->Gi->Prop),St 0 h []->Q (.ref I) {s with heap:=h}->wpAny (GJ prog w) A (pyIter (.ref I)) Q E {s with heap:=h})
  (hint:∀(A:Tv)(E:Value->Gi->Prop)(h:Heap)(Q:Bool->Gi->Prop),St 0 h []->Q hb {s with heap:=h}->wpAny (GJ prog w) A (Builtin.List.listLengthHint (.ref I)) Q E {s with heap:=h})
  (D:∀h' tk acc c,(∀b o,b∉fp->s.heap.get? b=Ga o->h'.get? b=Ga o)->h'.get? s.heap.objs.size=Ga {cls:=.type "list",dict:=Ge,data:=.seq acc c,slots:=#[]}->acc.size=n->Out h' acc.toList->Q (.ref s.heap.objs.size) {s with heap:=h',toks:=tk}):
  wpAny (GJ prog w) A (call (.type "list") [.ref I]) Q E s:=by
 have t:s.heap.objs.size∉fp:=λL=>Dx _ (u _ L);have q:s.heap.objs.size≠I:=Tk C;refine callType_codes (Q₁:=λobj i=>obj=.ref s.heap.objs.size/\i={s with heap:=s.heap.push {cls:=.type "list",data:=.seq #[]}}) PySem.F.called_list (PySem.F.typeCall_list_1 _) PySem.F.entry_list_init
  (code_list_new _ ⟨Xb,Xb⟩) λobj i h₁=>?_
 obtain⟨rfl,rfl⟩:=h₁;have hS:(s.heap.push {cls:=.type "list",data:=.seq #[]}).get? s.heap.objs.size=Ga {cls:=.type "list",data:=.seq #[]}:=Heap.get?_push_size _ rfl;refine⟨⟨_,hS,Xb⟩,PySem.F.args_list_init_2 _ _,?_⟩;show wpAny _ _ (do let x<-Builtin.List.listItems (.ref s.heap.objs.size);Builtin.List.listUpdate (.ref s.heap.objs.size) (λ_=>#[]);letGo x.toList.reverse;Builtin.List.listExtendWith (.ref s.heap.objs.size) (.ref I) .none) _ _ _;refine Gb ?_;unfold Builtin.List.listItems;refine Gb (TY hS rfl (Gd ?_));show wpAny _ _ (updateSeq s.heap.objs.size (λ_=>#[])>>=λ_=>letGo (#[]:Array Value).toList.reverse>>=λ_=>Builtin.List.listExtendWith (.ref s.heap.objs.size) (.ref I) .none) _ _ _;refine Gb (Ev hS rfl ?_);have a:=Heap.get?_update_self (DU (λ_=>(#[]:Array Value))) hS rfl;refine Gb (EL ?_);generalize k:(s.heap.push {cls:=.type "list",data:=.seq #[]}).update s.heap.objs.size (DU (λ_=>(#[]:Array Value)))=h2 at a;have z:∀b o,s.heap.get? b=Ga o->h2.get? b=Ga o:=λb o e=>by rw[<-k];exact(Heap.get?_update_other _ _ (Gn (GV (Heap.lt_size e)))).trans (Heap.get?_push_of_some _ e)
 have g:St 0 h2 []:=v h2 z (Heap.lt_size a);clear k;unfold Builtin.List.listExtendWith;refine Gb (LZ (T:=T) (H _ _ g) ?_);have h1:Builtin.List.listSameRef (.ref s.heap.objs.size) (.ref I)=Gp:=by simp[Builtin.List.listSameRef,q]
 simp only[h1,P,R,LK,Tw,T6];refine Gb (self _ _ h2 _ g ?_);refine Gb (TR (hint _ _ h2 _ g ?_));have fin:∀(j:Heap)(c:Nat),St 0 j []->(∀b o,b≠s.heap.objs.size->h2.get? b=Ga o->j.get? b=Ga o)->j.get? s.heap.objs.size=Ga {cls:=.type "list",dict:=Ge,data:=.seq #[] c,slots:=#[]}->
   codeAny (GJ prog w) A.in1 (.builtin "list.extend.loop" ⟨[.ref s.heap.objs.size,.ref I,.none],[]⟩) (wants (λr l=>r=Value.none/\Q (Value.ref s.heap.objs.size) l) E) {s with heap:=j,toks:=s.toks}:=by
  intro j c y O p;refine Qqe (A:=A.in1) (s:=s) (h₁:=s.heap) G t M .none (λh' tk acc c J m K N=>⟨Xb,D h' tk acc c (λb o hb e=>J b o (GV (Heap.lt_size e)) hb e) m K N⟩) n 0 j s.toks c #[] (by omega) (Gv _) y (λb o hb _ e=>O b o hb (z b o e)) rfl p
 refine Ew (λ_=>?_) (λ_=>Gd ⟨SA PySem.F.plain_extend_loop _,fin h2 _ g (λb o _ e=>e) a⟩);refine Gb (Eg ?_);refine Gb ?_;show wpAny _ _ (updateSeq s.heap.objs.size (·.push .none)>>=λ_=>updateSeq s.heap.objs.size (·.pop)) _ _ _;refine Gb (Ev a rfl ?_);have d:=Heap.get?_update_self (DU (·.push Value.none)) a rfl;refine Ev (hz:=by seq_fits) d rfl ?_;have f:=Heap.get?_update_self (DU (·.pop)) d rfl;have B:∀b o,b≠s.heap.objs.size->h2.get? b=Ga o->((h2.update s.heap.objs.size (DU (·.push Value.none))).update s.heap.objs.size (DU (·.pop))).get? b=Ga o:=λb o hb e=>(Heap.get?_update_other _ _ (Gn hb)).trans ((Heap.get?_update_other _ _ (Gn hb)).trans e)
 exact Gd ⟨SA PySem.F.plain_extend_loop _,fin _ _ (G.keep _ _ _ _ g B (Heap.lt_size f)) B f⟩
end
structure Nxt(prog:Gj)(w:Gs)(it l:Gc)(xs:Array Value)(St:Nat->Heap->Prop):Prop where
 item:∀(A:Tv)(E:Value->Gi->Prop)(s:Gi)(i:Nat)(x:Value)(Q:Value->Gi->Prop),St i s.heap->xs[i]?=Ga x->(∀h',St (i+1) h'->Heap.SameBut it s.heap h'->Q x {s with heap:=h'})->wpAny (GJ prog w) A (Builtin.SmallTypes.nextOf (.ref it)) Q E s
 fin:∀(A:Tv)(E:Value->Gi->Prop)(s:Gi)(i:Nat)(Q:Value->Gi->Prop),A.handled=Ge->St i s.heap->xs[i]?=Ge->(∀h' e,Heap.ExtBut it s.heap h'->(∃o,h'.get? e=Ga o/\o.cls=.type "StopIteration")->E (.ref e) {s with heap:=h'})->wpAny (GJ prog w) A (Builtin.SmallTypes.nextOf (.ref it)) Q E s
 keep:∀(i:Nat)(h h':Heap),St i h->(∀b,b=it\/b=l->∀o,h.get? b=Ga o->h'.get? b=Ga o)->St i h'
 there:∀(i:Nat)(h:Heap),St i h->it<h.objs.size/\l<h.objs.size
theorem Qin{prog:Gj}{w:Gs}{l:Gc}(b:l≠it):Nxt prog w it l xs (λi h=>h.IsListIter it l i/\h.IsList l xs) where
 item:=λA E s i x Q st c g=>wpAny_nextOf_list_item st.1 st.2 c λh' a d=>g h' ⟨a,st.2.extBut d.extBut b⟩ d
 fin:=λA E s i Q j st c f=>wpAny_nextOf_list_end j st.1 st.2 c f
 keep:=λi h h' st k=>⟨st.1.at λo e=>k it (.inl Xb) o e,st.2.at λo e=>k l (.inr Xb) o e⟩
 there:=λi h st=>⟨let⟨_,e,_⟩:=st.1;Heap.lt_size e,let⟨_,e,_⟩:=st.2;Heap.lt_size e⟩
section
variable{prog:Gj}{w:Gs}{A:Tv}{E:Value->Gi->Prop}{s:Gi}
theorem Uo{t:Gc}{a:Array Value}(b:s.heap.IsTupleIter it t i)(h:s.heap.IsTuple t a)(j:a[i]?=Ga x)
  (f:∀h',h'.IsTupleIter it t (i+1)->Heap.SameBut it s.heap h'->Q x {s with heap:=h'}):wpAny (GJ prog w) A (Builtin.SmallTypes.nextOf (.ref it)) Q E s:=by
 obtain⟨o,c,g,hd⟩:=id b;obtain⟨l,e,_,k,d⟩:=h;unfold Builtin.SmallTypes.nextOf;refine Gb (Tx (name:=De "__next__") b.typeIs F.slot_tuple_iterator_next
  (Tn F.slot_tuple_iterator_next b.typeIs F.entry_tuple_iterator_next ?_ (F.args_tuple_iterator_next_1 _)))
 show wpAny _ _ (field (.ref it) 0>>=_) _ _ s;refine Gb (Tt c hd (x:=.ref t) rfl ?_);show wpAny _ _ (if(Value.ref t==Value.none)=Gf then _ else _) _ _ s;rw[Gg (show¬((Value.ref t==Value.none)=Gf)from Gw)];show wpAny _ _ (field (.ref it) 1>>=_) _ _ s;refine Gb (Tt c hd (x:=.int i 0) rfl ?_);show wpAny _ _ (seqItems? (.ref t)>>=_) _ _ s;refine Gb (TY e d ?_);simp only[Dc,j];refine Gb (DW c hd (by simp) (Gd ⟨x,Xb,Gd (f _ ?_ (Heap.SameBut.update ..))⟩));exact⟨_,Heap.get?_update_self _ c (Ee (DA hd _)),(EN ..).trans g,by rw[DA hd];simp[rawInt]⟩
theorem Jg{t:Gc}{b:Array Value}(h:A.handled=Ge)(c:s.heap.IsTupleIter it t i)(k:s.heap.IsTuple t b)(l:b[i]?=Ge)
  (j:∀h' e,Heap.ExtBut it s.heap h'->(∃o,h'.get? e=Ga o/\o.cls=.type "StopIteration")->E (.ref e) {s with heap:=h'}):wpAny (GJ prog w) A (Builtin.SmallTypes.nextOf (.ref it)) Q E s:=by
 obtain⟨o,f,n,hd⟩:=id c;obtain⟨q,g,_,p,d⟩:=k;unfold Builtin.SmallTypes.nextOf;refine Gb (Tx (name:=De "__next__") c.typeIs F.slot_tuple_iterator_next
  (Tn F.slot_tuple_iterator_next c.typeIs F.entry_tuple_iterator_next ?_ (F.args_tuple_iterator_next_1 _)))
 show wpAny _ _ (field (.ref it) 0>>=_) _ _ s;refine Gb (Tt f hd (x:=.ref t) rfl ?_);show wpAny _ _ (if(Value.ref t==Value.none)=Gf then _ else _) _ _ s;rw[Gg (show¬((Value.ref t==Value.none)=Gf)from Gw)];show wpAny _ _ (field (.ref it) 1>>=_) _ _ s;refine Gb (Tt f hd (x:=.int i 0) rfl ?_);show wpAny _ _ (seqItems? (.ref t)>>=_) _ _ s;refine Gb (TY g d ?_);simp only[Dc,l];refine Gb (Eg (Gb (DW f hd (by simp) ?_)));show wpAny _ _ (newExc (.type "StopIteration") []>>=_) _ _ _;refine Gb ?_;simp only[newExc,newTuple];refine Gb (To ?_ (by size_fits));refine Gb (m:=firstArgMember _ _) (Lp (a:=Value.none) (by first|rfl|(simp only[firstArgMember];rfl)) ?_);refine To ?_ (by size_fits);simp only[raiseNew];refine Gb (Sy ?_);first|rw[show A.in1.handled=Ge from h]|rw[h]
 refine Gb (Gd (Lq ?_));exact j _ _ (((Heap.SameBut.update ..).extBut.push _).push _) ⟨_,Heap.get?_push_size _ Xb,Xb⟩
end
theorem Qmr{prog:Gj}{w:Gs}{l:Gc}(b:l≠it):Nxt prog w it l xs (λi h=>h.IsTupleIter it l i/\h.IsTuple l xs) where
 item:=λA E s i x Q st c g=>Uo st.1 st.2 c λh' a d=>g h' ⟨a,st.2.extBut d.extBut b⟩ d
 fin:=λA E s i Q j st c f=>Jg j st.1 st.2 c f
 keep:=λi h h' st k=>⟨let⟨o,ho,r⟩:=st.1;⟨o,k it (.inl Xb) o ho,r⟩,let⟨o,ho,r⟩:=st.2;⟨o,k l (.inr Xb) o ho,r⟩⟩
 there:=λi h st=>⟨let⟨_,e,_⟩:=st.1;Heap.lt_size e,let⟨_,e,_⟩:=st.2;Heap.lt_size e⟩
abbrev Ip(h:Heap)(z TI TO a:Gc)(f:Bool):Prop:=h.get? z=Ga {cls:=.type "zip",dict:=Ge,data:=.fields #[rawInt a,.bool f,.bool Gp,.ref TI,.ref TO],slots:=#[]}
section
variable{prog:Gj}{w:Gs}{A:Tv}{E:Value->Gi->Prop}{s:Gi}{z TI TO i1 i2 l1 l2:Gc}{k:Nat}{xs ys:Array Value}{S1 S2:Nat->Heap->Prop}
theorem Qjq{y a b:Value}(D:LD z TI TO i1 i2 l1 l2)(W:Nxt prog w i1 l1 xs S1)(X:Nxt prog w i2 l2 ys S2)
  (hz:Sc s.heap z TI TO .none)(aa:Dm s.heap TI (.ref i1) (.ref i2))(ab:Dm s.heap TO a b)(h1:S1 k s.heap)(h2:S2 k s.heap)(hx:xs[k]?=Ga x)(hy:ys[k]?=Ga y)
  (hQ:∀h',Ip h' z TI TO s.heap.objs.size Gp->Dm h' TO x y->S1 (k+1) h'->S2 (k+1) h'->Dm h' s.heap.objs.size x y->
   (∀c o,c≠z->c≠TO->c≠i1->c≠i2->s.heap.get? c=Ga o->h'.get? c=Ga o)->Q (.ref s.heap.objs.size) {s with heap:=h'}):
  wpAny (GJ prog w) A (Builtin.«zip.__next__» ⟨[.ref z],[]⟩) (λfin s'=>∃v,fin=.done (.ret v)/\Q v s') E s:=by
 show wpAny _ _ (field (.ref z) 2>>=_) _ _ _;refine Gb (Tt hz rfl (x:=.bool Gp) rfl ?_);show wpAny _ _ (field (.ref z) 3>>=_) _ _ _;refine Gb (Tt hz rfl (x:=.ref TI) rfl ?_);refine Gb (TY aa rfl ?_);show wpAny _ _ (Builtin.SmallTypes.ownedTupleIsFree (.ref z)>>=_) _ _ _;refine Gb ?_;unfold Builtin.SmallTypes.ownedTupleIsFree;refine Gb (Tt hz rfl (x:=.none) rfl (Gd ?_));simp only[E7];refine Gb (Eg ?_);refine Gb (Tt hz rfl (x:=.ref TO) rfl ?_);refine Gb (Di hz (by simp) λh₁ q C=>?_);replace q:Sc h₁ z TI TO .ellipsis:=q;have Y:∀c o,c≠z->s.heap.get? c=Ga o->h₁.get? c=Ga o:=λc o h e=>C.extBut _ _ h e;refine Gb ?_;simp only[List.zipIdx_cons,List.zipIdx_nil,List.forIn_cons,List.forIn_nil];refine Gb (Gb (EU ?_));show wpAny _ _ (Builtin.SmallTypes.nextOf (.ref i1)>>=_) _ _ _;refine Gb (W.item _ _ _ k x _ (W.keep k _ h₁ h1 λc N o e=>Y c o (by rcases N with rfl|rfl;exact D.i1z;exact D.l1z) e) hx λT L n=>Gd ?_);have t:Dm T TO a b:=n.extBut _ _ D.TOi1 (Y _ _ D.TOz ab);refine Gb (TY t rfl ?_);refine Gb (Es t λI m j=>?_);replace m:Dm I TO x b:=m;refine Gb (EL (Gd ?_));have Z:∀c o,c≠z->c≠i1->c≠TO->s.heap.get? c=Ga o->I.get? c=Ga o:=λc o J R S e=>j.extBut _ _ S (n.extBut _ _ R (Y c o J e));refine Gb (Gb (EU ?_));show wpAny _ _ (Builtin.SmallTypes.nextOf (.ref i2)>>=_) _ _ _;refine Gb (X.item _ _ _ k y _ (X.keep k _ I h2 λc N o e=>by
  rcases N with rfl|rfl
  ·exact Z _ o D.i2z D.i12.symm D.TOi2.symm e
  ·exact Z _ o D.l2z D.l2i1 D.l2TO e) hy λU M g=>Gd ?_)
 have u:Dm U TO x b:=g.extBut _ _ D.TOi2 m;refine Gb (TY u rfl ?_);refine Gb (Es u λd i f=>?_);replace i:Dm d TO x y:=i;refine Gb (EL (Gd (Gd ?_)));refine Gb (TY i rfl ?_);refine Gb (LF ?_);have hsz:d.objs.size=s.heap.objs.size:=by rw[f.1,g.1,j.1,n.1,C.1]
 have H:Sc d z TI TO .ellipsis:=f.extBut _ _ D.TOz.symm (g.extBut _ _ D.i2z.symm (j.extBut _ _ D.TOz.symm (n.extBut _ _ D.i1z.symm q)));have O:∀c o,c≠z->c≠TO->c≠i1->c≠i2->s.heap.get? c=Ga o->d.get? c=Ga o:=λc o J R S c4 e=>f.extBut _ _ R (g.extBut _ _ c4 (Z c o J S R e));have K:z<d.objs.size:=Heap.lt_size H;show wpAny _ _ (Builtin.SmallTypes.ownedTupleHandOut (.ref z) (.ref d.objs.size)>>=_) _ _ _;refine Gb ?_;unfold Builtin.SmallTypes.ownedTupleHandOut;have P:Sc (d.push {cls:=.type "tuple",data:=.seq #[x,y]}) z TI TO .ellipsis:=Heap.get?_push_of_some _ H;refine Gb (Di P (by simp) λV r F=>?_);replace r:Sc V z TI TO (rawInt d.objs.size):=r;refine Di r (by simp) λl p G=>?_;replace p:Sc l z TI TO (rawInt d.objs.size):=p;have up:∀c o,c≠z->d.get? c=Ga o->l.get? c=Ga o:=λc o J e=>G.extBut _ _ J (F.extBut _ _ J (Heap.get?_push_of_some _ e));have B:Dm l d.objs.size x y:=G.extBut _ _ (Tk K) (F.extBut _ _ (Tk K) (Heap.get?_push_size _ Xb));rw[hsz]at p B;refine Gd ⟨_,Xb,?_⟩;show Q (.ref d.objs.size) _;rw[hsz];have a1:S1 (k+1) l:=W.keep _ _ _ L λc N o e=>by
  rcases N with rfl|rfl
  ·exact up _ o D.i1z (f.extBut _ _ D.TOi1.symm (g.extBut _ _ D.i12 (j.extBut _ _ D.TOi1.symm e)))
  ·exact up _ o D.l1z (f.extBut _ _ D.l1TO (g.extBut _ _ D.l1i2 (j.extBut _ _ D.l1TO e)))
 have a2:S2 (k+1) l:=X.keep _ _ _ M λc N o e=>by
  rcases N with rfl|rfl
  ·exact up _ o D.i2z (f.extBut _ _ D.TOi2.symm e)
  ·exact up _ o D.l2z (f.extBut _ _ D.l2TO e)
 exact hQ l p (up _ _ D.TOz i) a1 a2 B λc o J R S c4 e=>up c o J (O c o J R S c4 e)
theorem Qeq{a:Gc}{f:Bool}{h:DL}{Q:Bool->Gi->Prop}(hz:Ip s.heap z TI TO a f)(g:s.heap.get? a=Ga h)(e:∀h',Ip h' z TI TO a Gf->Heap.SameBut z s.heap h'->Q Gp {s with heap:=h'}):
  wpAny (GJ prog w) A (Builtin.SmallTypes.ownedTupleIsFree (.ref z)) Q E s:=by
 unfold Builtin.SmallTypes.ownedTupleIsFree;refine Gb (Tt hz rfl (x:=rawInt a) rfl ?_);show wpAny _ _ (loadIfAlive ((a:Int).toNat)>>=_) _ _ _;rw[Dc];refine Gb (PySem.W.kdx_alive g ?_);simp only[Option.isNone_some,Tw,T6];refine Gb (Tt hz rfl (x:=.bool f) rfl ?_);cases f with
 |true=>rw[Gg (show¬((Value.bool Gf !=Value.bool Gf)=Gf)from Gw)];exact Gd (e _ hz (Heap.SameBut.refl _ _))
 |false=>rw[Gk (show(Value.bool Gp !=Value.bool Gf)=Gf from rfl)];exact Gb (Di hz (by simp) λd b c=>Gd (e d b c))
end
section
variable{prog:Gj}{w:Gs}{A:Tv}{E:Value->Gi->Prop}{s:Gi}{z TI TO i1 i2 l1 l2:Gc}{k:Nat}{xs ys:Array Value}{S1 S2:Nat->Heap->Prop}
theorem Qqk{y:Value}{a:Gc}{f:Bool}{M:DL}(D:LD z TI TO i1 i2 l1 l2)(r:Nxt prog w i1 l1 xs S1)(t:Nxt prog w i2 l2 ys S2)
  (hz:Ip s.heap z TI TO a f)(J:s.heap.get? a=Ga M)(F:Dm s.heap TI (.ref i1) (.ref i2))(h1:S1 k s.heap)(h2:S2 k s.heap)(K:xs[k]?=Ga x)(L:ys[k]?=Ga y)
  (I:∀h',Ip h' z TI TO a Gf->S1 (k+1) h'->S2 (k+1) h'->Dm h' s.heap.objs.size x y->
   (∀c o,c≠z->c≠i1->c≠i2->s.heap.get? c=Ga o->h'.get? c=Ga o)->Q (.ref s.heap.objs.size) {s with heap:=h'}):
  wpAny (GJ prog w) A (Builtin.«zip.__next__» ⟨[.ref z],[]⟩) (λfin s'=>∃v,fin=.done (.ret v)/\Q v s') E s:=by
 show wpAny _ _ (field (.ref z) 2>>=_) _ _ _;refine Gb (Tt hz rfl (x:=.bool Gp) rfl ?_);show wpAny _ _ (field (.ref z) 3>>=_) _ _ _;refine Gb (Tt hz rfl (x:=.ref TI) rfl ?_);refine Gb (TY F rfl ?_);show wpAny _ _ (Builtin.SmallTypes.ownedTupleIsFree (.ref z)>>=_) _ _ _;refine Gb (Qeq hz J λh₁ n i=>?_);have G:∀c o,c≠z->s.heap.get? c=Ga o->h₁.get? c=Ga o:=λc o h e=>i.extBut _ _ h e;simp only[Tw,T6];refine Gb ?_;rw[<-D4];simp only[List.forIn_cons,List.forIn_nil];refine Gb (Gb (TR ?_));show wpAny _ _ (Builtin.SmallTypes.nextOf (.ref i1)>>=_) _ _ _;refine Gb (r.item _ _ _ k x _ (r.keep k _ h₁ h1 λc p o e=>G c o (by rcases p with rfl|rfl;exact D.i1z;exact D.l1z) e) K λj l d=>Gd (Gd ?_));have u:∀c o,c≠z->c≠i1->s.heap.get? c=Ga o->j.get? c=Ga o:=λc o B C e=>d.extBut _ _ C (G c o B e);refine Gb (Gb (TR ?_));show wpAny _ _ (Builtin.SmallTypes.nextOf (.ref i2)>>=_) _ _ _;refine Gb (t.item _ _ _ k y _ (t.keep k _ j h2 λc p o e=>by
  rcases p with rfl|rfl
  ·exact u _ o D.i2z D.i12.symm e
  ·exact u _ o D.l2z D.l2i1 e) L λg m b=>Gd (Gd (Gd ?_)))
 refine Gb (LF (hsz:=by show 2<=Gh;decide) ?_);have hsz:g.objs.size=s.heap.objs.size:=by rw[b.1,d.1,i.1]
 refine Gd ⟨_,Xb,?_⟩;show Q (.ref g.objs.size) _;rw[hsz];have q:∀c o,g.get? c=Ga o->(g.push {cls:=.type "tuple",data:=.seq #[x,y]}).get? c=Ga o:=λc o e=>Heap.get?_push_of_some _ e;refine I _ (q _ _ (b.extBut _ _ D.i2z.symm (d.extBut _ _ D.i1z.symm n))) (r.keep _ _ _ l λc p o e=>q _ _ ?_) (t.keep _ _ _ m λc p o e=>q _ _ e) (by rw[<-hsz];exact Heap.get?_push_size _ Xb) λc o B C H e=>q _ _ (b.extBut _ _ H (u c o B C e));rcases p with rfl|rfl
 ·exact b.extBut _ _ D.i12 e
 ·exact b.extBut _ _ D.l1i2 e
theorem Qrz{a b:Value}{Q:Fin->Gi->Prop}(U:A.handled=Ge)(D:LD z TI TO i1 i2 l1 l2)(L:Nxt prog w i1 l1 xs S1)(R:Nxt prog w i2 l2 ys S2)
  (hz:Sc s.heap z TI TO .none\/∃c f oa,Ip s.heap z TI TO c f/\s.heap.get? c=Ga oa)(N:Dm s.heap TI (.ref i1) (.ref i2))(Y:Dm s.heap TO a b)(h1:S1 k s.heap)(h2:S2 k s.heap)(G:xs[k]?=Ge\/ys[k]?=Ge)
  (S:∀h' e,(∀c o,c≠z->c≠TO->c≠i1->c≠i2->s.heap.get? c=Ga o->h'.get? c=Ga o)->(∃o,h'.get? e=Ga o/\o.cls=.type "StopIteration")->E (.ref e) {s with heap:=h'}):
  wpAny (GJ prog w) A (Builtin.«zip.__next__» ⟨[.ref z],[]⟩) Q E s:=by
 rcases hz with hz|⟨ca,f,oa,hz,ha⟩
 ·show wpAny _ _ (field (.ref z) 2>>=_) _ _ _;refine Gb (Tt hz rfl (x:=.bool Gp) rfl ?_);show wpAny _ _ (field (.ref z) 3>>=_) _ _ _;refine Gb (Tt hz rfl (x:=.ref TI) rfl ?_);refine Gb (TY N rfl ?_);show wpAny _ _ (Builtin.SmallTypes.ownedTupleIsFree (.ref z)>>=_) _ _ _;refine Gb ?_;unfold Builtin.SmallTypes.ownedTupleIsFree;refine Gb (Tt hz rfl (x:=.none) rfl (Gd ?_));simp only[E7];refine Gb (Eg ?_);refine Gb (Tt hz rfl (x:=.ref TO) rfl ?_);refine Gb (Di hz (by simp) λh₁ j n=>?_);replace j:Sc h₁ z TI TO .ellipsis:=j;have F:∀c o,c≠z->s.heap.get? c=Ga o->h₁.get? c=Ga o:=λc o h e=>n.extBut _ _ h e;refine Gb ?_;simp only[List.zipIdx_cons,List.zipIdx_nil,List.forIn_cons,List.forIn_nil];refine Gb (Gb (EU ?_));show wpAny _ _ (Builtin.SmallTypes.nextOf (.ref i1)>>=_) _ _ _;have B:=L.keep k _ h₁ h1 λc I o e=>F c o (by rcases I with rfl|rfl;exact D.i1z;exact D.l1z) e;cases hx:xs[k]? with
  |none=>
   refine Gb (L.fin _ _ _ k _ U B hx λi e d J=>?_);obtain⟨oe,m,r⟩:=J;have v:Sc i z TI TO .ellipsis:=d _ _ D.i1z.symm j;have K:e≠z:=λx=>by subst x;rw[v]at m;cases m;simp at r
   refine Di v (by simp) λl _ g=>S l e (λc o q _ C _ x=>g.extBut _ _ q (d _ _ C (F _ _ q x))) ⟨oe,g.extBut _ _ K m,r⟩
  |some x=>
   have Z:ys[k]?=Ge:=by rcases G with h|h;rw[hx]at h;cases h;exact h
   refine Gb (L.item _ _ _ k x _ B hx λi H d=>Gd ?_);have p:Dm i TO a b:=d.extBut _ _ D.TOi1 (F _ _ D.TOz Y);refine Gb (TY p rfl ?_);refine Gb (Es p λl T g=>?_);refine Gb (EL (Gd ?_));have W:∀c o,c≠z->c≠i1->c≠TO->s.heap.get? c=Ga o->l.get? c=Ga o:=λc o q M C e=>g.extBut _ _ C (d.extBut _ _ M (F c o q e));refine Gb (Gb (EU ?_));show wpAny _ _ (Builtin.SmallTypes.nextOf (.ref i2)>>=_) _ _ _;refine Gb (R.fin _ _ _ k _ U (R.keep k _ l h2 λc I o e=>by
    rcases I with rfl|rfl
    ·exact W _ o D.i2z D.i12.symm D.TOi2.symm e
    ·exact W _ o D.l2z D.l2i1 D.l2TO e) Z λO e t J=>?_)
   obtain⟨oe,m,r⟩:=J;have y:Sc O z TI TO .ellipsis:=t _ _ D.i2z.symm (g.extBut _ _ D.TOz.symm (d.extBut _ _ D.i1z.symm j));have K:e≠z:=λx=>by subst x;rw[y]at m;cases m;simp at r
   refine Di y (by simp) λP _ u=>S P e (λc o q M C X x=>u.extBut _ _ q (t _ _ X (W c o q C M x))) ⟨oe,u.extBut _ _ K m,r⟩
 ·show wpAny _ _ (field (.ref z) 2>>=_) _ _ _;refine Gb (Tt hz rfl (x:=.bool Gp) rfl ?_);show wpAny _ _ (field (.ref z) 3>>=_) _ _ _;refine Gb (Tt hz rfl (x:=.ref TI) rfl ?_);refine Gb (TY N rfl ?_);show wpAny _ _ (Builtin.SmallTypes.ownedTupleIsFree (.ref z)>>=_) _ _ _;refine Gb (Qeq hz ha λh₁ j n=>?_);have F:∀c o,c≠z->s.heap.get? c=Ga o->h₁.get? c=Ga o:=λc o h e=>n.extBut _ _ h e;simp only[Tw,T6];refine Gb ?_;rw[<-D4];simp only[List.forIn_cons,List.forIn_nil];refine Gb (Gb (TR ?_));show wpAny _ _ (Builtin.SmallTypes.nextOf (.ref i1)>>=_) _ _ _;have B:=L.keep k _ h₁ h1 λc I o e=>F c o (by rcases I with rfl|rfl;exact D.i1z;exact D.l1z) e;cases hx:xs[k]? with
  |none=>exact Gb (L.fin _ _ _ k _ U B hx λi e d J=>S i e (λc o q _ C _ x=>d _ _ C (F _ _ q x)) J)
  |some x=>
   have Z:ys[k]?=Ge:=by rcases G with h|h;rw[hx]at h;cases h;exact h
   refine Gb (L.item _ _ _ k x _ B hx λi H d=>Gd (Gd ?_));have V:∀c o,c≠z->c≠i1->s.heap.get? c=Ga o->i.get? c=Ga o:=λc o q M e=>d.extBut _ _ M (F c o q e);refine Gb (Gb (TR ?_));show wpAny _ _ (Builtin.SmallTypes.nextOf (.ref i2)>>=_) _ _ _;exact Gb (R.fin _ _ _ k _ U (R.keep k _ i h2 λc I o e=>by
    rcases I with rfl|rfl
    ·exact V _ o D.i2z D.i12.symm e
    ·exact V _ o D.l2z D.l2i1 e) Z λl e g J=>S l e (λc o q _ C X x=>g _ _ X (V c o q C x)) J)
structure ZSt(S1 S2:Nat->Heap->Prop)(xs ys:Array Value)(z TI TO i1 i2 S:Gc)(i:Nat)(h:Heap)(acc:List Value):Prop where
 zip:(i=0/\Sc h z TI TO .none)\/∃c f oa,Ip h z TI TO c f/\h.get? c=Ga oa/\c≠S/\c≠z/\c≠TO/\c≠i1/\c≠i2
 ti:Dm h TI (.ref i1) (.ref i2)
 to:∃a b,Dm h TO a b
 s1:S1 i h
 s2:S2 i h
 len:acc.length=i
 sl:S<h.objs.size
 out:∀(j:Nat)v,acc[j]?=Ga v->∃c x y,v=.ref c/\xs[j]?=Ga x/\ys[j]?=Ga y/\Dm h c x y/\c≠S/\c≠z/\c≠TO/\c≠i1/\c≠i2/\z<c
theorem Qdl{Q:Option Value->Gi->Prop}{R:Value->Gi->Prop}(c:s.TypeIs (.ref z) "zip")(h:wpAny (GJ prog w) A.in1 (Builtin.«zip.__next__» ⟨[.ref z],[]⟩) (λfin s'=>∃v,fin=.done (.ret v)/\Q (Ga v) s') (λe s'=>∃o,(∃a,e=.ref a/\s'.heap.get? a=Ga o/\o.cls=.type "StopIteration")/\Q Ge s') s):wpAny (GJ prog w) A (pyNext (.ref z)) Q E s:=by
 unfold pyNext;refine Gb (Ej (Tx (name:=De "__next__") c F.slot_zip_next
  (Tn F.slot_zip_next c F.entry_zip_next (Dh h (λfin s'⟨v,e,q⟩=>⟨v,e,Gd q⟩) λe s'⟨o,⟨a,ea,f,d⟩,q⟩=>?_) (F.args_zip_next_1 _))))
 subst ea;exact Gb (D0 (T:="StopIteration") (b:=Gf) ⟨o,f,d⟩ Sm (Gd q))
theorem ZSt.type{S:Gc}{h:Heap}{acc:List Value}(x:ZSt S1 S2 xs ys z TI TO i1 i2 S i h acc):LR {s with heap:=h} (.ref z) "zip":=by
 rcases x.zip with⟨_,e⟩|⟨c,f,a,e,_⟩
 ·exact⟨_,e,Xb⟩
 ·exact⟨_,e,Xb⟩
theorem Qvo{S:Gc}(hh:A.handled=Ge)(D:LD z TI TO i1 i2 l1 l2)(B:Nxt prog w i1 l1 xs S1)(C:Nxt prog w i2 l2 ys S2)(hS:S≠z/\S≠TI/\S≠TO/\S≠i1/\S≠i2/\S≠l1/\S≠l2):
  Qm7 prog w A z S [z,TO,i1,i2] (min xs.size ys.size) (ZSt S1 S2 xs ys z TI TO i1 i2 S)
   (λh acc=>∀(j:Nat)v,acc[j]?=Ga v->∃c x y,v=.ref c/\xs[j]?=Ga x/\ys[j]?=Ga y/\Dm h c x y/\c≠S/\z<c):=by
 have nf:∀{c:Gc},c≠z->c≠TO->c≠i1->c≠i2->c∉[z,TO,i1,i2]:=λa b c d h=>by simp at h;rcases h with h|h|h|h<;>contradiction
 have fn:∀{c:Gc},c∉[z,TO,i1,i2]->c≠z/\c≠TO/\c≠i1/\c≠i2:=λh=>by simp at h;exact h
 refine⟨λi s acc Q E hi st Z=>?_,λs acc Q E st Z=>?_,λi h h' acc st k n=>?_⟩
 ·have hx:xs[i]?=Ga xs[i]:=GY (by omega);have hy:ys[i]?=Ga ys[i]:=GY (by omega);obtain⟨ta,tb,g⟩:=st.to;have n:=st.sl;refine Qdl (R:=λ_ _=>True) st.type ?_;have fin:∀h',(∃c f p,Ip h' z TI TO c f/\h'.get? c=Ga p/\c≠S/\c≠z/\c≠TO/\c≠i1/\c≠i2)->(∃a b,Dm h' TO a b)->S1 (i+1) h'->S2 (i+1) h'->Dm h' s.heap.objs.size xs[i] ys[i]->(∀c o,c≠z->c≠TO->c≠i1->c≠i2->s.heap.get? c=Ga o->h'.get? c=Ga o)->Q (Ga (.ref s.heap.objs.size)) {s with heap:=h',toks:=s.toks}:=by
   intro h' aa N G H t l;have W:z<s.heap.objs.size:=by rcases st.zip with⟨_,e⟩|⟨c,f,p,e,_⟩<;>exact Heap.lt_size e
   have u:TO<s.heap.objs.size:=Heap.lt_size g;have ab:i1≠s.heap.objs.size:=GV (B.there _ _ st.s1).1;have ac:i2≠s.heap.objs.size:=GV (C.there _ _ st.s2).1;refine Z _ h' s.toks ⟨.inr aa,l _ _ D.TIz D.TITO D.TIi1 D.TIi2 st.ti,N,G,H,by simp[st.len],L6 n (Heap.lt_size t),λj v m=>?_⟩ λb o hb e=>l b o (fn hb).1 (fn hb).2.1 (fn hb).2.2.1 (fn hb).2.2.2 e;rcases Tb j acc.length with h|h
   ·rw[List.getElem?_append_left h]at m;obtain⟨c,x,y,J,K,L,M,F,P,T,U,V,I⟩:=st.out j v m;exact⟨c,x,y,J,K,L,l _ _ P T U V M,F,P,T,U,V,I⟩
   ·rw[List.getElem?_append_right h]at m;have h0:j - acc.length=0:=by have:=(List.getElem?_eq_some_iff.mp m).1;simp at this;omega
    rw[h0]at m;simp at m;subst m;have:j=i:=by have:=st.len;omega
    subst this;exact⟨_,_,_,Xb,hx,hy,t,Tk n,Tk W,Tk u,Gn ab,Gn ac,W⟩
  have W:z<s.heap.objs.size:=by rcases st.zip with⟨_,e⟩|⟨c,f,p,e,_⟩<;>exact Heap.lt_size e
  have u:TO<s.heap.objs.size:=Heap.lt_size g;rcases st.zip with⟨_,hz⟩|⟨c,f,p,hz,q,O,c2,c3,c4,c5⟩
  ·exact Qjq D B C hz st.ti g st.s1 st.s2 hx hy λh' X Y G H t l=>fin h' ⟨_,_,_,X,t,Tk n,Tk W,Tk u,Tk (B.there _ _ st.s1).1,Tk (C.there _ _ st.s2).1⟩ ⟨_,_,Y⟩ G H t l
  ·exact Qqk D B C hz q st.ti st.s1 st.s2 hx hy λh' X G H t l=>fin h' ⟨c,Gf,p,X,l _ _ c2 c4 c5 q,O,c2,c3,c4,c5⟩ ⟨_,_,l _ _ D.TOz D.TOi1 D.TOi2 g⟩ G H t λb o b1 _ b3 b4 e=>l b o b1 b3 b4 e
 ·obtain⟨ta,tb,g⟩:=st.to;refine Qdl (R:=λ_ _=>True) st.type (Qrz (k:=min xs.size ys.size) hh D B C ?_ st.ti g st.s1 st.s2 ?_ λh' e l he=>?_)
  ·rcases st.zip with⟨_,hz⟩|⟨c,f,p,hz,q,_⟩
   ·exact .inl hz
   ·exact .inr ⟨c,f,p,hz,q⟩
  ·rcases Nat.le_total xs.size ys.size with h|h
   ·exact .inl (T1 (by omega))
   ·exact .inr (T1 (by omega))
  ·obtain⟨o,ho,q⟩:=he;refine⟨o,⟨e,Xb,ho,q⟩,Z h' s.toks (λj v m=>?_) λb o hb e=>l b o (fn hb).1 (fn hb).2.1 (fn hb).2.2.1 (fn hb).2.2.2 e⟩;obtain⟨c,x,y,J,K,L,M,F,P,T,U,V,I⟩:=st.out j v m;exact⟨c,x,y,J,K,L,l _ _ P T U V M,F,I⟩
 ·obtain⟨ta,tb,g⟩:=st.to;refine⟨?_,k _ _ (Gn hS.2.1) st.ti,⟨ta,tb,k _ _ (Gn hS.2.2.1) g⟩,B.keep _ _ _ st.s1 λb hb o e=>k b o ?_ e,C.keep _ _ _ st.s2 λb hb o e=>k b o ?_ e,st.len,n,λj v m=>?_⟩
  ·rcases st.zip with⟨I,hz⟩|⟨c,f,p,hz,q,O,r⟩
   ·exact .inl ⟨I,k _ _ (Gn hS.1) hz⟩
   ·exact .inr ⟨c,f,p,k _ _ (Gn hS.1) hz,k _ _ O q,O,r⟩
  ·rcases hb with rfl|rfl
   ·exact Gn hS.2.2.2.1
   ·exact Gn hS.2.2.2.2.2.1
  ·rcases hb with rfl|rfl
   ·exact Gn hS.2.2.2.2.1
   ·exact Gn hS.2.2.2.2.2.2
  ·obtain⟨c,x,y,J,K,L,M,F,r⟩:=st.out j v m;exact⟨c,x,y,J,K,L,k _ _ F M,F,r⟩
end
theorem Qlk:typeLookup (.type "zip") "__len__"=pure Ge:=by rw[Ey,DS];kernel_rfl
theorem Qja:typeLookup (.type "zip") "__length_hint__"=pure Ge:=by rw[Ey,DS];kernel_rfl
section
variable{prog:Gj}{w:Gs}{A:Tv}{E:Value->Gi->Prop}{s:Gi}
theorem Qs4{z:Gc}{Q:Bool->Gi->Prop}(a:s.TypeIs (.ref z) "zip")(h:Q Gf s):wpAny (GJ prog w) A (Builtin.List.listLengthHint (.ref z)) Q E s:=by unfold Builtin.List.listLengthHint;refine Gb (Dq a Qlk ?_);show wpAny _ A (specialOf (Value.ref z) (De "__length_hint__")>>=_) _ _ _;refine Gb (Dq a Qja ?_);exact Gd h
end
abbrev Qm8(h:Heap)(l1:Gc):Heap:=h.push {cls:=.type "tuple_iterator",data:=.fields #[.ref l1,.int 0 0]}
abbrev Ql6(h:Heap)(l1 l2:Gc):Heap:=(Qm8 h l1).push {cls:=.type "tuple_iterator",data:=.fields #[.ref l2,.int 0 0]}
abbrev Qmo(h:Heap)(l1 l2:Gc):Heap:=(Ql6 h l1 l2).push {cls:=.type "tuple",data:=.seq #[.ref h.objs.size,.ref (Qm8 h l1).objs.size]}
abbrev Qm1(h:Heap)(l1 l2:Gc):Heap:=(Qmo h l1 l2).push {cls:=.type "tuple",data:=.seq #[.none,.none]}
abbrev Qcq(h:Heap)(l1 l2:Gc):Heap:=(Qm1 h l1 l2).push {cls:=.type "zip",data:=.fields #[.none,.bool Gp,.bool Gp,.ref (Ql6 h l1 l2).objs.size,.ref (Qmo h l1 l2).objs.size]}
theorem Qdb(l1 l2:Gc)(xs ys:Array Value):
  Meets (Builtin.«zip.__new__» ⟨[.type "zip",.ref l1,.ref l2],[]⟩) (λ_ R s=>s.heap.IsTuple l1 xs/\s.heap.IsTuple l2 ys/\
   R (.ok (.ret (.ref (Qm1 s.heap l1 l2).objs.size))) {s with heap:=Qcq s.heap l1 l2}):=
 .of_wp λprog w A R s h=>by
  obtain⟨f,g,d,tk,os⟩:=s;obtain⟨c,e,h⟩:=h;have i:=sub_zip;have a:Heap.IsTuple (Fn ⟨f,g,d,tk,os⟩) l1 xs:=c;have b:Heap.IsTuple (Fn ⟨f.push {cls:=.type "tuple_iterator",data:=.fields #[.ref l1,.int 0 0]},g,d,tk,os⟩) l2 ys:=Heap.IsTuple.push e _;wp_walk using ED a,ED b
  exact⟨_,Xb,h⟩
section
variable{prog:Gj}{w:Gs}{A:Tv}{E:Value->Gi->Prop}{s:Gi}
theorem Qhg{l1 l2:Gc}{ys:Array Value}(b:s.heap.IsTuple l1 xs)(d:s.heap.IsTuple l2 ys)
  (h:∀h',Sc h' (s.heap.objs.size+4) (s.heap.objs.size+2) (s.heap.objs.size+3) .none->Dm h' (s.heap.objs.size+2) (.ref s.heap.objs.size) (.ref (s.heap.objs.size+1))->
   Dm h' (s.heap.objs.size+3) .none .none->h'.IsTupleIter s.heap.objs.size l1 0->h'.IsTupleIter (s.heap.objs.size+1) l2 0->h'.objs.size=s.heap.objs.size+5->
   (∀c o,s.heap.get? c=Ga o->h'.get? c=Ga o)->Q (.ref (s.heap.objs.size+4)) {s with heap:=h'}):
  wpAny (GJ prog w) A (call (.type "zip") [.ref l1,.ref l2]) Q E s:=by
 refine callType_new F.called_zip (by decide) (F.typeCall_zip_2 _ _) (F.newCall_zip_2 _ _) (λobj=>F.args_object_init_3 obj _ _) F.entry_zip_new
  (Qdb l1 l2 xs ys) ⟨b,d,?_⟩
 have e:(Qm8 s.heap l1).objs.size=s.heap.objs.size+1:=Heap.size_push ..;have f:(Ql6 s.heap l1 l2).objs.size=s.heap.objs.size+2:=by rw[Heap.size_push,e]
 have g:(Qmo s.heap l1 l2).objs.size=s.heap.objs.size+3:=by rw[Heap.size_push,f]
 have i:(Qm1 s.heap l1 l2).objs.size=s.heap.objs.size+4:=by rw[Heap.size_push,g]
 have n:(Qcq s.heap l1 l2).objs.size=s.heap.objs.size+5:=by rw[Heap.size_push,i]
 have a:(Qcq s.heap l1 l2).get? (Qm1 s.heap l1 l2).objs.size=Ga _:=Heap.get?_push_size _ rfl;have l:(Qcq s.heap l1 l2).get? (Qmo s.heap l1 l2).objs.size=Ga _:=Heap.get?_push_of_some _ (Heap.get?_push_size _ Xb);have k:(Qcq s.heap l1 l2).get? (Ql6 s.heap l1 l2).objs.size=Ga _:=Heap.get?_push_of_some _ (Heap.get?_push_of_some _ (Heap.get?_push_size _ Xb));have j:(Qcq s.heap l1 l2).get? (Qm8 s.heap l1).objs.size=Ga _:=Heap.get?_push_of_some _ (Heap.get?_push_of_some _ (Heap.get?_push_of_some _ (Heap.get?_push_size _ Xb)));have m:(Qcq s.heap l1 l2).get? s.heap.objs.size=Ga _:=Heap.get?_push_of_some _ (Heap.get?_push_of_some _ (Heap.get?_push_of_some _ (Heap.get?_push_of_some _ (Heap.get?_push_size _ Xb))));show _/\_;rw[f,g,i]at a;rw[e,f]at k;rw[g]at l;rw[e]at j;rw[i];exact⟨⟨_,a,Xb⟩,h _ a k l ⟨_,m,Xb,Xb⟩ ⟨_,j,Xb,Xb⟩ n λc o x=>Heap.get?_push_of_some _ (Heap.get?_push_of_some _ (Heap.get?_push_of_some _ (Heap.get?_push_of_some _ (Heap.get?_push_of_some _ x))))⟩
theorem Qg8{S1 S2:Nat->Heap->Prop}{l1 l2:Gc}{ys:Array Value}{n0:Nat}(M:A.handled=Ge)(q:Nxt prog w n0 l1 xs S1)(r:Nxt prog w (n0+1) l2 ys S2)(h1:l1<n0)(h2:l2<n0)(hsz:s.heap.objs.size=n0+5)
  (hz:Sc s.heap (n0+4) (n0+2) (n0+3) .none)(g:Dm s.heap (n0+2) (.ref n0) (.ref (n0+1)))(i:Dm s.heap (n0+3) .none .none)(m:S1 0 s.heap)(p:S2 0 s.heap)(P:min xs.size ys.size<=Gh)
  (L:∀h' tk acc c,(∀b o,b<n0->s.heap.get? b=Ga o->h'.get? b=Ga o)->h'.get? (n0+5)=Ga {cls:=.type "list",dict:=Ge,data:=.seq acc c,slots:=#[]}->acc.size=min xs.size ys.size->
   (∀(j:Nat)v,acc.toList[j]?=Ga v->∃c x y,v=.ref c/\xs[j]?=Ga x/\ys[j]?=Ga y/\Dm h' c x y/\c≠n0+5/\n0<=c)->Q (.ref (n0+5)) {s with heap:=h',toks:=tk}):
  wpAny (GJ prog w) A (call (.type "list") [.ref (n0+4)]) Q E s:=by
 have D:=LG (n:=n0) h1 h2;have G:=Qvo (A:=A.in1.in1) (S:=s.heap.objs.size) M D q r ⟨by rw[hsz];exact Tk (Dy _),by rw[hsz];exact Tk (by show n0+2<n0+5;exact DK (by decide) _),by rw[hsz];exact Tk (by show n0+3<n0+5;exact DK (by decide) _),by rw[hsz];exact Tk (EY (by decide)),by rw[hsz];exact Tk (by show n0+1<n0+5;exact DK (by decide) _),by rw[hsz];exact Tk (Ta h1 (T3 _ _)),by rw[hsz];exact Tk (Ta h2 (T3 _ _))⟩;refine Qiw (T:="zip") (hb:=Gf) G (λb hb=>?_) (by rw[hsz];exact Dy _) P (λK a l=>⟨.inl ⟨Xb,a _ _ hz⟩,a _ _ g,⟨_,_,a _ _ i⟩,q.keep _ _ _ m λb _ o e=>a b o e,r.keep _ _ _ p λb _ o e=>a b o e,Xb,l,λj v k=>by simp at k⟩) (λh acc st=>st.type) (by decide) (by decide) (λA E h Q st d=>?_) (λA E h Q st d=>Qs4 st.type d) (λh' tk acc c N hS O t=>?_)
 ·simp only[List.mem_cons,List.not_mem_nil,Ep]at hb;rw[hsz];rcases hb with h|h|h|h<;>rw[h]
  ·exact Dy _
  ·exact DK (by decide) _
  ·exact EY (by decide)
  ·exact DK (by decide) _
 ·rcases st.zip with⟨_,e⟩|⟨c,f,R,e,_⟩
  ·exact wpAny_pyIter_zip e d
  ·refine EM (s:={s with heap:=h}) ⟨_,e,Xb⟩ F.slot_zip_iter (Tn F.slot_zip_iter ⟨_,e,Xb⟩ F.entry_zip_iter ?_ (F.args_zip_iter_1 _));show wpAny _ _ (ret (.ref (n0+4))) _ _ _;exact Gd ⟨_,Xb,"zip",_,⟨_,e,Xb⟩,F.slot_zip_next.lookup,d⟩
 ·rw[hsz]at hS t⊢;refine L h' tk acc c (λb o hb e=>N b o (λz=>?_) e) hS O λj v k=>?_
  ·simp only[List.mem_cons,List.not_mem_nil,Ep]at z;rcases z with h|h|h|h<;>rw[h]at hb
   ·exact absurd hb (SK.mpr (T3 _ _))
   ·exact absurd hb (SK.mpr (T3 _ _))
   ·exact absurd hb (Dx _)
   ·exact absurd hb (SK.mpr (T3 _ _))
  ·obtain⟨c,x,y,u,B,C,H,I,J⟩:=t j v k;exact⟨c,x,y,u,B,C,H,I,E2 (D2 (T3 _ _) J)⟩
end
end PySem
namespace L2
open PySem PySem.Spec PyProof.Rows
theorem Inv.Qxj{X:Cx}{pins:List (Gc×DL)}{σ:List (Option V)}{H H':Hp}{s:Gi}{h':Heap}{t':Nat}(I:Inv X pins σ H s)(k:∀b u,s.heap.get? b=Ga u->h'.get? b=Ga u)(a:∀b,b<s.heap.objs.size->H' b=H b)
  (new:∀b o,s.heap.objs.size<=b->H' b=Ga o->Z0 X.prog X.w H' h' b o):Inv X pins σ H' {s with heap:=h',toks:=t'}:=by
 have d:∀b o,H b=Ga o->H' b=Ga o:=λb o e=>by rw[a b (I.Zu b o e).lt];exact e
 refine I.un ⟨λb u q _ _ _=>k b u q,λb u q _ _ _=>⟨u.slots,k b u q⟩,λb u q n _=>by rw[a b (Heap.lt_size q)];exact n,λb u q _=>⟨u,k b u q⟩,λb xs e=>d b _ e,λb o u e=>d b _ e,λb ps e=>⟨#[],by rw[d b _ e];simp⟩⟩ λb o e=>?_;by_cases hb:b<s.heap.objs.size
 ·rw[a b hb]at e;exact(I.Zu b o e).Qi7 (λc u _ q=>k c u q) (λc q=>d c _ q) λc xs q=>d c _ q
 ·exact new b o (Ll hb) e
def PrV(H:Hp)(v:V)(p:V×V):Prop:=∃c,v=.ref c/\H c=Ga (.tup [p.1,p.2])
def Q18(K:PySem.W.Frag):List V->Hp->VK->Prop:=λvs H Q=>∃p q xs ys,vs=[.ref p,.ref q]/\((Zb K H p xs/\Zb K H q ys)\/(Z4 K H p xs/\Z4 K H q ys))/\
 ∀(r:Gc)(es:List V)(H':Hp),Qv H H'->H r=Ge->H' r=Ga (.lst es)->Paired (PrV H') es (xs.zip ys)->Q (.ref r) H'
open Classical in
noncomputable def Qej(H:Hp)(r:Gc)(es:List V)(xs ys:List V):Hp:=λb=>if b=r then Ga (.lst es)else if h:∃p:V×V,∃j:Nat,es[j]?=Ga (.ref b)/\xs[j]?=Ga p.1/\ys[j]?=Ga p.2 then Ga (.tup [(Eh h).1,(Eh h).2])else H b
section
variable{X:Cx}{pins:List (Gc×DL)}{σ:St}{H:Hp}{s:Gi}
theorem Qna{h':Heap}{tk c:Nat}{n0:Nat}{acc:Array Value}{xs ys:List V}{us R:List Value}(I:Inv X pins σ H s)(i:s.heap.objs.size=n0)(T:Zs xs us)(U:Zs ys R)(hk:∀b o,b<n0->s.heap.get? b=Ga o->h'.get? b=Ga o)
  (hS:h'.get? (n0+5)=Ga {cls:=.type "list",dict:=Ge,data:=.seq acc c,slots:=#[]})(C:acc.size=min us.length R.length)(hz:xs.length<=Gh)
  (J:∀(j:Nat)v,acc.toList[j]?=Ga v->∃c x y,v=.ref c/\us[j]?=Ga x/\R[j]?=Ga y/\Dm h' c x y/\c≠n0+5/\n0<=c):
  ∃es H',Inv X pins σ H' {s with heap:=h',toks:=tk}/\Qv H H'/\H (n0+5)=Ge/\H' (n0+5)=Ga (.lst es)/\Paired (PrV H') es (xs.zip ys):=by
 have lx:=T.length;have ly:=U.length;have ex:∀j:Nat,j<acc.size->∃c,acc.toList[j]?=Ga (Value.ref c):=λj A=>by
  have e:acc.toList[j]?=Ga acc[j]:=by rw[TV,GY A]
  obtain⟨c,x,y,a,_⟩:=J j _ e;exact⟨c,by rw[e,a]⟩
 let es:List V:=(List.range acc.size).map λj=>match acc.toList[j]? with|some (Value.ref c)=>V.ref c|_=>V.non
 have f:∀(j:Nat)c,acc.toList[j]?=Ga (Value.ref c)->es[j]?=Ga (V.ref c):=λj c e=>by
  have A:j<acc.size:=by rw[<-Ts];exact(List.getElem?_eq_some_iff.mp e).1
  show((List.range acc.size).map _)[j]?=_;rw[List.getElem?_map,List.getElem?_range A,TQ];simp only[e]
 have w:∀(j:Nat)b,es[j]?=Ga (V.ref b)->acc.toList[j]?=Ga (Value.ref b):=λj b e=>by
  have A:j<acc.size:=by have:=(List.getElem?_eq_some_iff.mp e).1;simpa[es]using this
  obtain⟨c,F⟩:=ex j A;rw[f j c F]at e;cases e;exact F
 have g:es.length=acc.size:=by simp[es]
 have M:acc.size=(xs.zip ys).length:=by rw[List.length_zip,C,lx,ly]
 have key:∀b(p:V×V)(j:Nat),es[j]?=Ga (.ref b)->xs[j]?=Ga p.1->ys[j]?=Ga p.2->∃u v,RelV p.1 u/\RelV p.2 v/\Dm h' b u v/\b≠n0+5/\n0<=b:=λb p j a d q=>by obtain⟨c,x,y,Y,Z,f3,f4,f5,f6⟩:=J j _ (w j b a);cases Y;obtain⟨u,S,ru⟩:=T.get d;obtain⟨v,B,rv⟩:=U.get q;rw[Z]at S;cases S;rw[f3]at B;cases B;exact⟨x,y,ru,rv,f4,f5,f6⟩
 have D:∀b(p:V×V)(j:Nat),es[j]?=Ga (.ref b)->xs[j]?=Ga p.1->ys[j]?=Ga p.2->Qej H (n0+5) es xs ys b=Ga (.tup [p.1,p.2]):=λb p j a d q=>by obtain⟨u,v,N,P,n,hb,_⟩:=key b p j a d q;have z:∃p:V×V,∃j:Nat,es[j]?=Ga (.ref b)/\xs[j]?=Ga p.1/\ys[j]?=Ga p.2:=⟨p,j,a,d,q⟩;unfold Qej;rw[Gg hb,dif_pos z];obtain⟨j',g1,g2,g3⟩:=Sf z;obtain⟨u',W,O,Q,K,_⟩:=key b (Eh z) j' g1 g2 g3;have:({cls:=.type "tuple",data:=.seq #[u,v]}:DL)={cls:=.type "tuple",data:=.seq #[u',W]}:=Tc (n.symm.trans K);injection this with _ _ hd;injection hd with hd;injection hd with hd;injection hd with h1 h2;injection h2 with h2;subst h1 h2;rw[N.inj O,P.inj Q]
 have t:∀b,b<n0->Qej H (n0+5) es xs ys b=H b:=λb hb=>by unfold Qej;rw[Gg (GV (Ta hb (T3 _ _))),dif_neg];rintro⟨p,j,a,d,q⟩;obtain⟨_,_,_,_,_,_,h⟩:=key b p j a d q;exact absurd hb (SK.mpr h)
 have k:∀b,n0<=b->H b=Ge:=λb hb=>I.Zu.fresh (by rw[i];exact hb);refine⟨es,Qej H (n0+5) es xs ys,?_,λb o e=>?_,k _ (T3 _ _),by unfold Qej;rw[Gk rfl],?_⟩
 ·refine I.Qxj (λb u e=>hk b u (by rw[<-i];exact Heap.lt_size e) e) (λb hb=>t b (by rw[<-i];exact hb)) λb o hb e=>?_;by_cases h1:b=n0+5
  ·subst h1;have:o=.lst es:=by unfold Qej at e;rw[Gk rfl]at e;exact(Tc e).symm
   subst this;refine⟨by rw[g,M,List.length_zip];omega,acc.toList,c,?_,by rw[DD];exact hS⟩;have all:∀(l:List Value)(m:List V),l.length=m.length->(∀j:Nat,∀v,l[j]?=Ga v->∃c,v=.ref c/\m[j]?=Ga (V.ref c))->Zs m l:=by
    intro l;induction l with
    |nil=>intro m G _;cases m with
     |nil=>exact .nil
     |cons _ _=>simp at G
    |cons v l L=>intro m G E;cases m with
     |nil=>simp at G
     |cons x m=>obtain⟨r,a,d⟩:=E 0 v rfl;simp at d;subst a d;exact .cons rfl (L m (by simpa using G) λj v B=>by have:=E (j+1) v (by simpa using B);simpa using this)
   refine all acc.toList es (by rw[g,Ts]) λj v B=>?_;obtain⟨r,x,y,a,_⟩:=J j v B;subst a;exact⟨r,Xb,f j r B⟩
  ·by_cases h2:∃p:V×V,∃j:Nat,es[j]?=Ga (.ref b)/\xs[j]?=Ga p.1/\ys[j]?=Ga p.2
   ·obtain⟨p,j,a,d,q⟩:=h2;rw[D b p j a d q]at e;cases e;obtain⟨u,v,N,P,n,_⟩:=key b p j a d q;exact⟨by show 2<=Gh;decide,[u,v],.cons N (.cons P .nil),_,n,Xb,_,Xb⟩
   ·exfalso;unfold Qej at e;rw[Gg h1,dif_neg h2,k b (by rw[<-i];exact hb)]at e;cases e
 ·rw[t b (by rw[<-i];exact(I.Zu b o e).lt)];exact e
 ·have all:∀(m:List V)(l:List (V×V)),m.length=l.length->(∀(j:Nat)p,l[j]?=Ga p->∃v,m[j]?=Ga v/\PrV (Qej H (n0+5) es xs ys) v p)->Paired (PrV (Qej H (n0+5) es xs ys)) m l:=by
   intro m;induction m with
   |nil=>intro l C _;cases l with
    |nil=>exact .nil
    |cons _ _=>simp at C
   |cons v m L=>intro l C E;cases l with
    |nil=>simp at C
    |cons p l=>obtain⟨W,a,d⟩:=E 0 p rfl;simp at a;subst a;exact .cons d (L l (by simpa using C) λj p n=>by have:=E (j+1) p (by simpa using n);simpa using this)
  refine all es (xs.zip ys) (by rw[g,M]) λj p n=>?_;rw[List.getElem?_zip_eq_some]at n;have A:j<acc.size:=by have h1:=(List.getElem?_eq_some_iff.mp n.1).1;have h2:=(List.getElem?_eq_some_iff.mp n.2).1;rw[M,List.length_zip];omega
  obtain⟨r,F⟩:=ex j A;have:=f j r F;exact⟨.ref r,this,r,Xb,D r p j this n.1 n.2⟩
end
section
variable{X:Cx}{a b:TJ}{ta:TA}{p1 p2 pos1 pos2:E1}
theorem Qcz(hc:X.calm=Gf)(E:Gl X "list")(J:X.mg "list"=Ge)(F:Gl X "zip")(L:X.mg "zip"=Ge)(ha:PA X [a,b] ta)
  (z:GX [FI (.Name "zip" p2) [a,b] [] pos2] X.env=(Gp,eval (.Call (.Name "zip" p2) [a,b] [] pos2) X.env)::GX [] X.env:=by rfl)(D:GX [a,b] X.env=(Gp,eval a X.env)::GX [b] X.env:=by rfl)
  (P:(Du pos1 (GX ([]:List TJ) X.env)).any (·.1)=Gp:=by rfl)(R:(Du pos2 (GX [b] X.env)).any (·.1)=Gp:=by rfl):
  PE X (.Call (.Name "list" p1) [.Call (.Name "zip" p2) [a,b] [] pos2] [] pos1) (tCB (Q18 X.K) ta):=by
 intro pins s σ H Q I h;refine TX (Vq I E J boot_list ?_);refine callWith_type1 ?_ z P;rw[z];show wpAny _ _ (spliced ((Gp,eval (.Call (.Name "zip" p2) [a,b] [] pos2) X.env)::Du pos1 (GX ([]:List TJ) X.env))) _ _ s;refine DN ?_;refine TX (Vq I F L boot_zip ?_);refine callWith_type1 (Yl (ha pos2 pins s σ H _ I h) λus s1⟨vs,H1,i,r1,q1⟩=>?_) D R;obtain⟨p,q,xs,ys,rfl,hq,Z⟩:=q1;obtain⟨u,v,rfl,ru,rv⟩:=vals2 r1;cases(show u=Value.ref p from ru);cases(show v=Value.ref q from rv);have Y:=i.ok.hd hc;rcases hq with⟨h1,h2⟩|⟨h1,h2⟩
 ·obtain⟨us,A,d,U⟩:=i.list h1;obtain⟨ws,W,f,V⟩:=i.list h2;have x:p<s1.heap.objs.size:=by obtain⟨_,e,_⟩:=d.isList;exact Heap.lt_size e
  have y:q<s1.heap.objs.size:=by obtain⟨_,e,_⟩:=f.isList;exact Heap.lt_size e
  have lx:=A.length;refine call_zip_2 d.isList f.isList λh' hz k l m n hsz t=>DT ?_;refine Qg8 (s:={s1 with heap:=h'}) (n0:=s1.heap.objs.size) Y (Qin (GV x)) (Qin (GV (Ta y (T3 _ _)))) x y hsz hz k l ⟨m,Heap.IsList.at d.isList (λo e=>t _ o e)⟩ ⟨n,Heap.IsList.at f.isList (λo e=>t _ o e)⟩ (by rw[List.size_toArray,List.size_toArray];omega) λC tk acc c w hS G N=>?_;obtain⟨es,H',B,g,M,S,O⟩:=Qna (tk:=tk) i rfl A W (λb o hb e=>w b o hb (t b o e)) hS (by simpa using G) (by omega) (λj v T=>by simpa using N j v T);exact⟨.ref (s1.heap.objs.size+5),H',B,Xb,Z _ es H' g M S O⟩
 ·obtain⟨us,A,d,U⟩:=i.tuple h1;obtain⟨ws,W,f,V⟩:=i.tuple h2;have d:s1.heap.IsTuple p us.toArray:=d;have f:s1.heap.IsTuple q ws.toArray:=f;have x:p<s1.heap.objs.size:=by obtain⟨_,e,_⟩:=d;exact Heap.lt_size e
  have y:q<s1.heap.objs.size:=by obtain⟨_,e,_⟩:=f;exact Heap.lt_size e
  have lx:=A.length;refine Qhg d f λh' hz k l m n hsz t=>DT ?_;refine Qg8 (s:={s1 with heap:=h'}) (n0:=s1.heap.objs.size) Y (Qmr (GV x)) (Qmr (GV (Ta y (T3 _ _)))) x y hsz hz k l ⟨m,let⟨o,e,r⟩:=d;⟨o,t _ o e,r⟩⟩ ⟨n,let⟨o,e,r⟩:=f;⟨o,t _ o e,r⟩⟩ (by rw[List.size_toArray,List.size_toArray];omega) λC tk acc c w hS G N=>?_;obtain⟨es,H',B,g,M,S,O⟩:=Qna (tk:=tk) i rfl A W (λb o hb e=>w b o hb (t b o e)) hS (by simpa using G) (by omega) (λj v T=>by simpa using N j v T);exact⟨.ref (s1.heap.objs.size+5),H',B,Xb,Z _ es H' g M S O⟩
end
end L2
namespace PySem
theorem Qj6:typeLookup (.type "list_reverseiterator") "__len__"=pure Ge:=by rw[Ey,DS];kernel_rfl
theorem Qii:typeLookup (.type "list_reverseiterator") "__length_hint__"=pure (Ga (.builtin "list_reverseiterator.__length_hint__")):=by rw[Ey,DS];kernel_rfl
section
variable{prog:Gj}{w:Gs}{A:Tv}{E:Value->Gi->Prop}{s:Gi}
theorem Qrj{z:Gc}{Q:Bool->Gi->Prop}(d:s.TypeIs (.ref z) "list_reverseiterator")(h:Q Gp s):wpAny (GJ prog w) A (Builtin.List.listLengthHint (.ref z)) Q E s:=by
 unfold Builtin.List.listLengthHint;refine Gb (Dq d Qj6 ?_);show wpAny _ A (specialOf (Value.ref z) (De "__length_hint__")>>=_) _ _ _;refine Gb (Dq d Qii ?_);generalize c:("list_reverseiterator.__length_hint__":String)=e
 wp_delta
 rw[show splitId e=Ga ("list_reverseiterator","__length_hint__")from by subst c;decide+kernel];subst c;refine Gb (D0 (T:="list_reverseiterator") (b:=Gf) d (by rw[isSubtype_type];kernel_rfl) ?_);refine Ew (λa=>absurd a (by decide)) (λ_=>?_);refine Ew (λ_=>?_) (λa=>absurd (by decide+kernel) a);refine Ew (λa=>absurd a (by decide+kernel)) (λ_=>?_);exact Gd h
structure Q25(xs:Array Value)(it l S:Gc)(i:Nat)(h:Heap)(acc:List Value):Prop where
 rv:h.IsRevIter it l ((xs.size:Int) - 1 - (i:Int))
 ls:h.IsList l xs
 acc:acc=xs.toList.reverse.take i
theorem Qvj{xs:Array Value}{it l S:Gc}(p:A.handled=Ge)(hS:S≠it/\S≠l)(d:l≠it):Qm7 prog w A it S [it] xs.size (Q25 xs it l S) (λ_ acc=>acc=xs.toList.reverse):=by
 refine⟨λi s acc Q E hi st c=>?_,λs acc Q E st c=>?_,λi h h' acc st k _=>?_⟩
 ·have g:xs[xs.size - 1 - i]?=Ga xs[xs.size - 1 - i]:=GY (by omega);have e:(xs.size:Int) - 1 - (i:Int)=((xs.size - 1 - i:Nat):Int):=by omega
  have a:=st.rv;rw[e]at a;refine Sg a st.ls g λh' f j=>?_;have q:xs.toList.reverse[i]?=Ga xs[xs.size - 1 - i]:=by rw[List.getElem?_reverse (by rw[Ts];exact hi),Ts,TV];exact g
  refine c _ h' s.toks ⟨?_,st.ls.extBut j.extBut d,?_⟩ λb o hb e=>j.extBut b o (λz=>hb (by simp[z])) e
  ·have m:((xs.size - 1 - i:Nat):Int) - 1=(xs.size:Int) - 1 - ((i+1:Nat):Int):=by omega
   rw[<-m];exact f
  ·rw[st.acc,List.take_add_one,q];rfl
 ·have a:=st.rv;rw[show(xs.size:Int) - 1 - (xs.size:Int)= -1 by omega]at a;refine So p a λh' n=>c h' s.toks ?_ λb o hb e=>n b o (λz=>hb (by simp[z])) e;rw[st.acc,<-Ts,<-List.length_reverse,List.take_length]
 ·exact⟨st.rv.at λo e=>k it o (Gn hS.1) e,st.ls.at λo e=>k l o (Gn hS.2) e,st.acc⟩
end
end PySem
namespace L2
open PySem PySem.Spec PyProof.Rows
def Qz4(K:PySem.W.Frag):List V->Hp->VK->Prop:=λvs H Q=>∃p xs,vs=[.ref p]/\Zb K H p xs/\∀r,H r=Ge->Q (.ref r) (upd H r (.lst xs.reverse))
theorem Qib:∀{xs:List V}{us:List Value},Zs xs us->Zs xs.reverse us.reverse
 |_,_,.nil=>.nil
 |_,_,.cons h t=>by rw[List.reverse_cons,List.reverse_cons];exact(Qib t).append (.cons h .nil)
theorem Qj8{X:Cx}{a:TJ}{ta:TA}{p1 p2 pos1 pos2:E1}(f:X.calm=Gf)(r:Gl X "list")(v:X.mg "list"=Ge)(t:Gl X "reversed")(x:X.mg "reversed"=Ge)(J:PA X [a] ta)
  (g:GX [FI (.Name "reversed" p2) [a] [] pos2] X.env=(Gp,eval (.Call (.Name "reversed" p2) [a] [] pos2) X.env)::GX [] X.env:=by rfl)(p:GX [a] X.env=(Gp,eval a X.env)::GX [] X.env:=by rfl)
  (y:(Du pos1 (GX ([]:List TJ) X.env)).any (·.1)=Gp:=by rfl)(B:(Du pos2 (GX ([]:List TJ) X.env)).any (·.1)=Gp:=by rfl):
  PE X (.Call (.Name "list" p1) [.Call (.Name "reversed" p2) [a] [] pos2] [] pos1) (tCB (Qz4 X.K) ta):=by
 intro pins s σ H Q I h;refine TX (Vq I r v boot_list ?_);refine callWith_type1 ?_ g y;rw[g];show wpAny _ _ (spliced ((Gp,eval (.Call (.Name "reversed" p2) [a] [] pos2) X.env)::Du pos1 (GX ([]:List TJ) X.env))) _ _ s;refine DN ?_;refine TX (Vq I t x LP ?_);refine callWith_type1 (Yl (J pos2 pins s σ H _ I h) λus s1⟨vs,H1,k,O,N⟩=>?_) p B;obtain⟨b,xs,rfl,j,q⟩:=N;obtain⟨u,rfl,P⟩:=vals1 O;cases(show u=Value.ref b from P);obtain⟨its,rv,pt,hz⟩:=k.list j;have R:=rv.length;have C:b<s1.heap.objs.size:=by obtain⟨_,e,_⟩:=pt.isList;exact Heap.lt_size e
 refine SJ pt.isList (DT ?_);have hsz:(s1.heap.push (revObj b ((its.toArray.size:Int) - 1))).objs.size=s1.heap.objs.size+1:=Heap.size_push ..;have m:(s1.heap.push (revObj b ((its.toArray.size:Int) - 1))).objs.size≠s1.heap.objs.size:=by rw[hsz];exact Lo _
 have n:(s1.heap.push (revObj b ((its.toArray.size:Int) - 1))).objs.size≠b:=by rw[hsz];exact Tk (S9 C)
 refine Qiw (s:={s1 with heap:=s1.heap.push (revObj b ((its.toArray.size:Int) - 1))}) (T:="list_reverseiterator") (hb:=Gp) (Qvj (xs:=its.toArray) (l:=b) (k.ok.hd f) ⟨m,n⟩ (GV C)) (λc f=>?_) (by show s1.heap.objs.size<(s1.heap.push _).objs.size;rw[hsz];exact Dy _) (by rw[List.size_toArray];omega)
  (λh2 D _=>⟨?_,pt.isList.at λo e=>D _ o (Heap.get?_push_of_some _ e),by simp⟩) (λh acc st=>let⟨o,i,f,_⟩:=st.rv;⟨o,i,f⟩) (by decide) (by decide) (λA E h Q st j=>Er (s:={s1 with heap:=h}) st.rv j) (λA E h Q st j=>Qrj (s:={s1 with heap:=h}) (let⟨o,i,f,_⟩:=st.rv;⟨o,i,f⟩) j) (λh' tk acc c L hS M i=>?_)
 ·have e:c=s1.heap.objs.size:=by simpa using f
  rw[e];show s1.heap.objs.size<(s1.heap.push _).objs.size;rw[hsz];exact Dy _
 ·have G:(its.toArray.size:Int) - 1 - ((0:Nat):Int)=(its.toArray.size:Int) - 1:=by omega
  rw[G];exact⟨_,D _ _ (Heap.get?_push_size _ Xb),Xb,Xb⟩
 ·have hS:h'.get? (s1.heap.push (revObj b ((its.toArray.size:Int) - 1))).objs.size=Ga {cls:=.type "list",dict:=Ge,data:=.seq acc c,slots:=#[]}:=hS;have d:s1.heap.objs.size<=(s1.heap.push (revObj b ((its.toArray.size:Int) - 1))).objs.size:=by rw[hsz];exact D9 _
  have F:Inv X pins σ (upd H1 (s1.heap.push (revObj b ((its.toArray.size:Int) - 1))).objs.size (.lst xs.reverse)) {s1 with heap:=h',toks:=tk}:=
   k.laid (t':=tk) (λc o e=>L c o (λz=>by
    have:c=s1.heap.objs.size:=by simpa using z
    exact absurd (Heap.lt_size e) (by rw[this];exact Dx _)) (Heap.get?_push_of_some _ e)) d
    (show Z0 X.prog X.w _ h' _ (.lst _)from⟨by rw[List.length_reverse];omega,acc.toList,c,by rw[i];exact Qib rv,by rw[DD];exact hS⟩)
  exact⟨.ref (s1.heap.push (revObj b ((its.toArray.size:Int) - 1))).objs.size,_,F,Xb,q _ (k.Zu.fresh d)⟩
end L2
namespace Nt
inductive Qah:Nat->List (Nat×Nat)->Nat->Prop
 |nil (p:Nat):Qah p [] p
 |cons {p q z:Nat} {r:List (Nat×Nat)}:Qah q r z->Qah p ((p,q)::r) z
theorem Qh7:∀{l:List Nat}{p z:Nat},l.head?=Ga p->l.getLast?=Ga z->Qah p (l.zip (l.drop 1)) z
 |[],_,_,h,_=>by simp at h
 |[x],p,z,h1,h2=>by simp at h1 h2;subst h1 h2;exact .nil _
 |x::y::r,p,z,h1,h2=>by simp at h1;subst h1;have a:=Qh7 (l:=y::r) (p:=y) (z:=z) rfl (by rw[List.getLast?_cons_cons]at h2;exact h2);simp only[List.drop_succ_cons,List.drop_zero,List.zip_cons_cons]at a⊢;exact .cons a
theorem Ch.last{up:Nat->Option Nat}{p:Nat}{l:List Nat}(h:Ch up p l):∃a,l=a++[Zx l]:=by have b:=h.ne;refine⟨l.dropLast,?_⟩;unfold Zx;rw[List.getLastD_eq_getLast?,List.getLast?_eq_some_getLast b];exact(List.dropLast_concat_getLast b).symm
def Qaf(up:Nat->Option Nat)(one a:Nat)(st:List (Nat×Nat)):Prop:=∃(l1 l2 P Q s:List Nat)(m:Nat),Ch up one l1/\Ch up a l2/\l1=P++m::s/\l2=Q++m::s/\(P=[]\/Q=[]\/P.getLast?≠Q.getLast?)/\st=(P++m::Q.reverse).zip ((P++m::Q.reverse).drop 1)
theorem Qpz{P b s s':List Nat}{m d:Nat}(h:P++m::s=b++d::s')(c:s.length<s'.length):∃u,P=b++d::u/\s'=u++m::s:=by
 rcases List.append_eq_append_iff.mp h with⟨a,h1,h2⟩|⟨a,h1,h2⟩
 ·have:=congrArg List.length h2;simp at this;cases a with
  |nil=>simp at h2;rw[h2.2]at c;omega
  |cons y a=>simp at this;omega
 ·cases a with
  |nil=>simp at h2;rw[h2.2]at c;omega
  |cons y a=>simp only[List.cons_append,List.cons.injEq]at h2;exact⟨a,by rw[h1,h2.1],h2.2⟩
theorem Qaf.uniq{up:Nat->Option Nat}{one c:Nat}{st g:List (Nat×Nat)}(a:Qaf up one c st)(b:Qaf up one c g):st=g:=by
 obtain⟨l1,l2,P,Q,s,m,w,x,y,A,ne,rfl⟩:=a;obtain⟨B,C,h,i,s',f,j,k,l,n,q,rfl⟩:=b;have E:=w.uniq j;have F:=x.uniq k;subst E F;have o:P++m::s=h++f::s':=by rw[<-y,l]
 have p:Q++m::s=i++f::s':=by rw[<-A,n]
 have d:∀{P Q h i s s':List Nat}{m f:Nat},P++m::s=h++f::s'->Q++m::s=i++f::s'->(P=[]\/Q=[]\/P.getLast?≠Q.getLast?)->¬s.length<s'.length:=λh1 h2 ne e=>by
  obtain⟨u,p1,p2⟩:=Qpz h1 e;obtain⟨v,r,D⟩:=Qpz h2 e;have:u=v:=by have:=p2.symm.trans D;exact List.append_cancel_right this
  subst this;rcases ne with z|z|z
  ·rw[p1]at z;simp at z
  ·rw[r]at z;simp at z
  ·rw[p1,r,List.getLast?_append,List.getLast?_append,List.getLast?_eq_some_getLast (List.cons_ne_nil _ _)]at z;exact z rfl
 have e:s.length=s'.length:=by have h1:=d o p ne;have h2:=d o.symm p.symm q;omega
 obtain⟨G,t⟩:=List.append_inj' o (by simp[e]);obtain⟨H,_⟩:=List.append_inj' p (by simp[e]);simp only[List.cons.injEq]at t;rw[G,H,t.1]
structure Way(x:Nst W ρ)(one other:Nat)(st:List (Nat×Nat)):Prop where
 path:Qah one st other
 lk:∀p q,(p,q)∈st->∃k,x.Y1 p q=Ga k/\∀n,Cn (x.links.take n) one other->k<n
 len:st.length<=2*x.S.length
 rel:Qaf x.up one other st
end Nt
namespace K07
open PySem L2 Sb Nt
def Qux(H:Hp)(v:V)(p:Nat×Nat):Prop:=∃c,v=.ref c/\H c=Ga (.tup [jv p.1,jv p.2])
def Qsx(P:Gj)(w:Gs)(C:Gc):Sp:=λvs H Q _=>∃(n:Gc)(A:Na)(fs:List Fm)(tb:Nat)(x:Nn)(one a:Nat),vs=[.ref n,jv one,jv a]/\Z3 P w C H n A fs tb x/\X8 (Yg fs) (Zl fs) x []/\one∈x.S/\a∈x.S/\x.lead one=x.lead a/\x.S.length<=1000/\
 ∀(r:Gc)(es:List V)(st:List (Nat×Nat))(H':Hp),Qv H H'->H r=Ge->H' r=Ga (.lst es)->Paired (Qux H') es st->Way x one a st->Q (.ref r) H'
theorem Qwj(P:List Nat)(a m:Nat):atI ((P++[a,m]).map jv) (-2:Int)=Ga (jv a):=by
 unfold atI ixN;rw[Gg (by decide),Gk (by simp;omega)];have e:((-2:Int)+(((P++[a,m]).map jv).length:Int)).toNat=P.length:=by simp;omega
 rw[e];simp
theorem Qxg(Q:List Nat)(m:Nat):V4 ((Q++[m]).map jv) Ge (Ga (-1:Int))=Q.map jv:=by
 unfold V4;rw[HT.Jz];have e:HT.Wh ((Q++[m]).map jv).length ((Q++[m]).map jv).length (Ga (-1:Int))=Q.length:=by show(if(-1:Int)<0 then((-1:Int)+(((Q++[m]).map jv).length:Int)).toNat else min (-1:Int).toNat ((Q++[m]).map jv).length)=_;rw[Gk (by decide)];simp;omega
 rw[e];simp
theorem Qz8(l:List V):V4 l (Ga 1) Ge=l.drop 1:=by
 cases l with
 |nil=>rfl
 |cons x r=>rw[Qf9];rfl
theorem Qd1{H:Hp}:∀{es:List V}{l m:List Nat},Paired (PrV H) es ((l.map jv).zip (m.map jv))->Paired (Qux H) es (l.zip m)
 |_,[],m,h=>by simp at h;cases h;simp;exact .nil
 |_,x::l,[],h=>by simp at h;cases h;simp;exact .nil
 |_,x::l,y::m,h=>by
  simp only[List.map_cons,List.zip_cons_cons]at h⊢;cases h with
  |cons h t=>exact .cons h (Qd1 t)
section
variable{P:Gj}{w:Gs}{K:PySem.W.Frag}{mg:Gy->Option Value}{base:Heap}
theorem Qwf:Qy ["self","one","other","climb","descent","stops"] ["self","one","other"] (Ql Qv1):=by eq_refl
set_option hygiene false
local macro_rules
 |`(tactic|infer_instance)=>`(tactic|(
 refine⟨_,Xb,_,Xb,_,Xb,_,Xb,⟨rd,_,Xb,Zb.of ed,λr1 hr1'=>?_⟩⟩
 rw[Qxg]
 have z1:=Qi (o:=.lst (_root_.List.map jv Qq)) ec (Qc ec hr1')
 refine⟨r1,_,Xb,Zb.of Qb,λr2 hr2'=>?_⟩
 have z2:=Qi (o:=.lst (_root_.List.map jv Qq).reverse) z1 (Qc z1 hr2')
 refine⟨rc,r2,_,_,Xb,Xb,z2,Qb,small (by rw[List.length_reverse,List.length_map,List.length_map,List.length_append];simp only[List.length_cons,List.length_nil];omega),λr3 hr3'=>?_⟩
 have ecat:List.map jv (Pp++[mm])++(List.map jv Qq).reverse=(Pp++mm::Qq.reverse).map jv:=by simp
 rw[ecat]
 dsimp only[Vj]
 refine⟨_,Xb,_,Xb,⟨_,Xb,⟨r3,_,Xb,Zb.of Qb,λr4 hr4'=>?_⟩⟩⟩
 rw[Qz8]
 have n34:r3≠r4:=Qc Qb hr4'
 have s5:Qv H3 (upd (upd (upd (upd H3 r1 (.lst (List.map jv Qq))) r2 (.lst (List.map jv Qq).reverse)) r3 (.lst ((Pp++mm::Qq.reverse).map jv))) r4 (.lst (((Pp++mm::Qq.reverse).map jv).drop 1))):=((Qf hr1' _).trans (Qf hr2' _)).trans ((Qf hr3' _).trans (Qf hr4' _))
 refine⟨r3,r4,_,_,Xb,.inl ⟨Zb.of (Qi Qb n34),Zb.of Qb⟩,λr es H' sm r0 hr' pr=>?_⟩
 rw[<-List.map_drop]at pr
 exact q r es _ H' (g3.trans (s5.trans sm)) (g3.free (s5.free r0)) hr' (Qd1 pr) ⟨Qh7 hone hoth,λp q' hm=>I.fst.way h1 h2 k1 k2 hne p q' hm,by rw[List.length_zip,List.length_append,List.length_cons,List.length_reverse];omega,_,_,_,_,_,_,h1,h2,k1,k2,hne,Xb⟩))
set_option hygiene true
theorem Qw2{f fU C:Gc}{fd L:Td}(F:Va K "way" "Net.way" Qv1 f fd)(T:V5 K mg C)(B:Ik mg)(mU:Yc K C "way_up" fU)(GU:Qt P w K mg base Ya 1 fU L ["self","place"] (Qm2 P w C))(bU:Binds K L ["self","place"] []):
  Qt P w K mg base Ya 2 f fd ["self","one","other"] (Qsx P w C):=by
 refine F.ok Qwf (λvs H Q E h=>?_) (λcdv A outer s H vs Q E g h=>?_)
 ·obtain⟨n,A,fs,tb,x,one,d,rfl,_⟩:=h;rfl
 obtain⟨n,A,fs,tb,x,one,d,rfl,X,I,oS,tS,he,hS,q⟩:=h;have R:Yd 1 _:=g.mono (by omega);have nd:=Qwf.nd;refine⟨_,Qd (Qs 3 nd (Zd (pv 0) T.cl mU GU R bU .nil Q4 (Qa (pv 1) Qe)))
  (Qd (Qs 4 nd (Zd (pv 0) T.cl mU GU R bU .nil Q4 (Qa (pv 2) Qe)))
  (Qd (Wi Gq (PW.pt (Rk (Qu Qwx (Qo Zo rfl B.len PySem.boot_len (Qa (pv 3) Qe)) Qj (Za _)) (Rk (Qu Qwx (Qo Zo rfl B.len PySem.boot_len (Qa (pv 4) Qe)) Qj (Za _))
    (I9 (Qu Wu (Qn Ze (pv 3) (Ou U7 Qj)) (Qn Ze (pv 4) (Ou U7 Qj)) (Za _))))))
   (Qd (Zc (Qa1 PySem.F.plainAttrs_list PySem.F.slot_list_pop PySem.F.type_list_pop Qaj (pv 3)))
   (Qh (Zc (Qa1 PySem.F.plainAttrs_list PySem.F.slot_list_pop PySem.F.type_list_pop Qaj (pv 4))))))
  (Qd (Qs 5 nd (Zf Vy (pv 3) (Qj8 rfl rfl B.list rfl B.reversed (Qa (Yp Jf (pv 4) Xw (Y2 (Ou U7 Qj))) Qe))))
  (Qh (Qx (Qcz rfl rfl B.list rfl B.zip (Qa (pv 5) (Qa (Yp Jf (pv 5) (Y2 Qj) Xw) Qe)))))))),?_⟩
 obtain⟨l1,h1⟩:=I.fst.chain one oS;obtain⟨l2,h2⟩:=I.fst.chain d tS;have sub1:=I.fst.chS h1 oS;have y:=I.fst.chS h2 tS;have af:=Xm h1.nodup sub1;have ag:=Xm h2.nodup y;obtain⟨dx,o1⟩:=X.ob;refine⟨_,Xb,n,dx,_,Xb,o1,Qg6 _,_,Xb,n,A,fs,tb,x,one,l1,Xb,X,h1,sub1,by omega,λrc H1 W c1 e1=>?_⟩;refine⟨_,Xb,n,dx,_,Xb,W _ _ o1,Qg6 _,_,Xb,n,A,fs,tb,x,d,l2,Xb,X.same W,h2,y,by omega,λrd H2 g2 d2 e2=>?_⟩;have ad:=W.trans g2;have ae:H rd=Ge:=W.free d2;have V:rc≠rd:=Qc e1 d2;have er:Zx l1=Zx l2:=(I.root one d l1 l2 oS tS h1 h2).mp he;obtain⟨P0,f1⟩:=h1.last;obtain⟨Q0,f2⟩:=h2.last;dsimp only[Vj];refine⟨λm σ H3=>∃(Pp Qq Y:List Nat)(mm:Nat),m=Pp.length/\l1=Pp++mm::Y/\l2=Qq++mm::Y/\σ=[Ga (.ref n),Ga (jv one),Ga (jv d),Ga (.ref rc),Ga (.ref rd),Ge]/\Qv H H3/\H3 rc=Ga (.lst ((Pp++[mm]).map jv))/\H3 rd=Ga (.lst ((Qq++[mm]).map jv)),
  ⟨_,P0,Q0,[],Zx l1,Xb,f1,by rw[er];exact f2,Xb,ad,by rw[<-f1];exact g2 _ _ e1,by rw[er,<-f2];exact e2⟩,?_⟩
 rintro m σ H3 ⟨Pp,Qq,Y,mm,rfl,k1,k2,rfl,g3,ec,ed⟩;have lc:((Pp++[mm]).map jv).length=Pp.length+1:=by simp
 have ld:((Qq++[mm]).map jv).length=Qq.length+1:=by simp
 have lP:Pp.length+1<=l1.length:=by rw[k1];simp
 have lQ:Qq.length+1<=l2.length:=by rw[k2];simp
 have hone:(Pp++mm::Qq.reverse).head?=Ga one:=by
  obtain⟨r,g⟩:=h1.head;rw[k1]at g;cases Pp with
  |nil=>simp at g⊢;exact g.1
  |cons a Pp=>simp at g⊢;exact g.1
 have hoth:(Pp++mm::Qq.reverse).getLast?=Ga d:=by
  obtain⟨r,g⟩:=h2.head;rw[k2]at g;rw[List.getLast?_append];have:(mm::Qq.reverse).getLast?=Ga d:=by
   cases Qq with
   |nil=>simp at g⊢;exact g.1
   |cons a Qq=>simp at g;rw[List.reverse_cons,<-List.cons_append,List.getLast?_concat,g.1]
  rw[this];rfl
 refine⟨_,Xb,rc,_,Xb,.inl (Zb.of ec),_,_,Xb,Xb,_,Xb,?_⟩;rw[lc];by_cases N:Pp=[]
 ·have hne:Pp=[]\/Qq=[]\/Pp.getLast?≠Qq.getLast?:=.inl N;rw[Gx (by rw[N];decide)];refine Zz (Zz ?_);infer_instance
 rw[GQ (by have:0<Pp.length:=List.length_pos_iff.mpr N;omega)];refine Xf ⟨_,Xb,rd,_,Xb,.inl (Zb.of ed),_,_,Xb,Xb,_,Xb,?_⟩;rw[ld];by_cases O:Qq=[]
 ·have hne:Pp=[]\/Qq=[]\/Pp.getLast?≠Qq.getLast?:=.inr (.inl O);rw[Gx (by rw[O];decide)];refine Zz (Zz ?_);infer_instance
 rw[GQ (by have:0<Qq.length:=List.length_pos_iff.mpr O;omega)];obtain⟨l,a,eP⟩:∃l a,Pp=l++[a]:=⟨Pp.dropLast,Pp.getLast N,(List.dropLast_concat_getLast N).symm⟩;obtain⟨u,b,eQ⟩:∃u b,Qq=u++[b]:=⟨Qq.dropLast,Qq.getLast O,(List.dropLast_concat_getLast O).symm⟩;have ab:H3 rc=Ga (.lst ((l++[a,mm]).map jv)):=by rw[ec,eP];simp
 have ac:H3 rd=Ga (.lst ((u++[b,mm]).map jv)):=by rw[ed,eQ];simp
 refine Xf ⟨_,Xb,⟨_,Xb,rc,_,_,_,Xb,Xb,Zb.of ab,Qwj _ _ _,_,Xb,⟨_,Xb,rd,_,_,_,Xb,Xb,Zb.of ac,Qwj _ _ _,Xb,_,Xb,?_⟩⟩⟩;rw[Qfy];by_cases G:a=b
 ·subst G;subst eP eQ;rw[GQ rfl];refine Xf ⟨_,λ_ _ h=>h,?_⟩;have S:((l++[a]++[mm]).map jv)[((l++[a]++[mm]).map jv).length - 1]?=Ga (jv mm):=by simp
  have U:((u++[a]++[mm]).map jv)[((u++[a]++[mm]).map jv).length - 1]?=Ga (jv mm):=by simp
  have Z:((l++[a]++[mm]).map jv).dropLast=(l++[a]).map jv:=by rw[List.map_append (l₂:=[mm])];simp
  have aa:((u++[a]++[mm]).map jv).dropLast=(u++[a]).map jv:=by rw[List.map_append (l₂:=[mm])];simp
  refine⟨_,Xb,.inl ⟨Xb,_,Zb.of ec⟩,rc,_,_,Xb,Xb,ec,S,?_⟩;rw[Z];have J:(upd H3 rc (.lst ((l++[a]).map jv))) rd=Ga (.lst ((u++[a]++[mm]).map jv)):=by rw[Qg (Gn V)];exact ed
  refine⟨_,Xb,.inl ⟨Xb,_,Zb.of J⟩,rd,_,_,Xb,Xb,J,U,?_⟩;rw[aa];refine⟨l.length,by simp,l,u,mm::Y,a,Xb,by rw[k1];simp,by rw[k2];simp,Xb,λc o e=>?_,?_,Qb⟩
  ·rw[Qg (Qc e ae),Qg (Qc e c1)];exact g3 c o e
  ·rw[Qg V,Qb]
 ·have hne:Pp=[]\/Qq=[]\/Pp.getLast?≠Qq.getLast?:=.inr (.inr (by rw[eP,eQ,List.getLast?_concat,List.getLast?_concat];intro z;exact G (Tc z)));rw[Gx G];refine Zz ?_;infer_instance
end
end K07
namespace PySem
section
variable{prog:Gj}{w:Gs}{A:Tv}{E:Value->Gi->Prop}{s:Gi}{d v:Gc}{es:Array DR}{ep:Nat}
theorem Qo5{Q:Value->Gi->Prop}(f:s.heap.IsValuesView v d)(j:s.heap.Jv d es ep)
  (h:Q (.ref s.heap.objs.size) {s with heap:=s.heap.push {cls:=.type "dict_valueiterator",data:=.fields #[.ref d,.int 0 0,.int es.size 0,.int ep 0]}}):
  wpAny (GJ prog w) A (pyIter (.ref v)) Q E s:=by
 obtain⟨ov,e,i,c⟩:=id f;obtain⟨o,g,k,a⟩:=id j;refine EM f.typeIs F.slot_dict_values_iter (Tn F.slot_dict_values_iter f.typeIs F.entry_dict_values_iter ?_ (F.args_dict_values_iter_1 _));unfold Builtin.«dict_values.__iter__»;refine Gb (Gd ?_);refine Gb ?_;unfold Builtin.Dict_items.dictOf;refine Gb (Tt e c (x:=.ref d) rfl (Gd ?_));refine Gb ?_;unfold Builtin.Dict_items.newIterator;refine Gb (Df g a ?_);refine Gb (DQ g a ?_);have b:Builtin.Dict_items.ownsTuple "dict_valueiterator"=Gp:=by decide
 simp only[b,Tw,T6];refine To (Gd ⟨_,Xb,"dict_valueiterator",_,⟨_,Heap.get?_push_size _ Xb,Xb⟩,F.slot_dict_valueiterator_next.lookup,?_⟩);simpa[rawInt]using h
theorem Qnp{it:Gc}{i:Nat}{e:DR}{Q:Option Value->Gi->Prop}(a:s.heap.IsValIter it d i es.size ep)(r:s.heap.Jv d es ep)(k:es[i]?=Ga e)
  (m:∀h',h'.IsValIter it d (i+1) es.size ep->Heap.SameBut it s.heap h'->Q (Ga e.val) {s with heap:=h'}):
  wpAny (GJ prog w) A (pyNext (.ref it)) Q E s:=by
 obtain⟨o,l,n,hd⟩:=id a;obtain⟨od,g,p,f⟩:=id r;unfold pyNext;refine Gb (Ej (Tx (name:=De "__next__") a.typeIs F.slot_dict_valueiterator_next
  (Tn F.slot_dict_valueiterator_next a.typeIs F.entry_dict_valueiterator_next ?_ (F.args_dict_valueiterator_next_1 _))))
 refine Gb (Gd ?_);refine Gb ?_;refine Gb ?_;first|refine Gb (Do a.typeIs (Gd ?_))|refine Gb (DI a.typeIs (Gd ?_))
 refine Gb (EF l hd ?_);have j:Builtin.Dict_items.ownsTuple "dict_valueiterator"=Gp:=by decide
 simp only[j,Tw,T6];show wpAny _ _ (if(Value.ref d==Value.none)=Gf then _ else _) _ _ s;rw[Gg (show¬((Value.ref d==Value.none)=Gf)from Gw)];refine Gb (Gd ?_);refine Gb (Df g f ?_);rw[Gg (by simp)];refine Gb (Gd ?_);refine Gb (DQ g f ?_);rw[Gg (by simp)];refine Gd ?_;have c:i<es.size:=by
  rcases Tb i es.size with h|h
  ·exact h
  ·rw[T1 h]at k;cases k
 have q:es[i]=e:=by rw[GY c]at k;exact Tc k
 simp only[show¬((i:Int)<0)from by omega,T6,Dc,GY c];refine Gb ?_;first|refine Gb (Do a.typeIs (Gd ?_))|refine Gb (DI a.typeIs (Gd ?_))
 refine Gb (Ef a.typeIs ?_);show wpAny _ _ (setField (.ref it) 1 (rawInt ((i:Int)+1))>>=_) _ _ s;refine Gb (DW l hd (by simp) ?_);have b:(s.heap.update it (Ek (·.setIfInBounds 1 (rawInt ((i:Int)+1))))).IsValIter it d (i+1) es.size ep:=
  ⟨_,Heap.get?_update_self _ l (Ee (DA hd _)),(EN ..).trans n,by rw[DA hd];simp[rawInt]⟩
 refine Gb (TR ?_);refine Gb (Ef (s:={s with heap:=s.heap.update it (Ek (·.setIfInBounds 1 (rawInt ((i:Int)+1))))}) b.typeIs ?_);refine Gb (Ef (s:={s with heap:=s.heap.update it (Ek (·.setIfInBounds 1 (rawInt ((i:Int)+1))))}) b.typeIs ?_);show wpAny _ _ (pure es[i].val) _ _ _;rw[q];exact Gd (Gd ⟨_,Xb,Gd (m _ b (Heap.SameBut.update ..))⟩)
theorem Qrx{it:Gc}{i:Nat}{Q:Option Value->Gi->Prop}(n:A.handled=Ge)(c:s.heap.IsValIter it d i es.size ep)(p:s.heap.Jv d es ep)(h:es.size<=i)
  (k:∀h',Heap.ExtBut it s.heap h'->Q Ge {s with heap:=h'}):wpAny (GJ prog w) A (pyNext (.ref it)) Q E s:=by
 obtain⟨o,j,q,hd⟩:=id c;obtain⟨od,f,l,e⟩:=id p;unfold pyNext;refine Gb (Ej (Tx (name:=De "__next__") c.typeIs F.slot_dict_valueiterator_next
  (Tn F.slot_dict_valueiterator_next c.typeIs F.entry_dict_valueiterator_next ?_ (F.args_dict_valueiterator_next_1 _))))
 refine Gb (Gd ?_);refine Gb ?_;refine Gb ?_;first|refine Gb (Do c.typeIs (Gd ?_))|refine Gb (DI c.typeIs (Gd ?_))
 refine Gb (EF j hd ?_);have g:Builtin.Dict_items.ownsTuple "dict_valueiterator"=Gp:=by decide
 simp only[g,Tw,T6];show wpAny _ _ (if(Value.ref d==Value.none)=Gf then _ else _) _ _ s;rw[Gg (show¬((Value.ref d==Value.none)=Gf)from Gw)];refine Gb (Gd ?_);refine Gb (Df f e ?_);rw[Gg (by simp)];refine Gb (Gd ?_);refine Gb (DQ f e ?_);rw[Gg (by simp)];refine Gd ?_;simp only[show¬((i:Int)<0)from by omega,T6,Dc,T1 h];refine Gb ?_;first|refine Gb (Do c.typeIs (Gd ?_))|refine Gb (DI c.typeIs (Gd ?_))
 show wpAny _ _ (setField (.ref it) 0 .none>>=_) _ _ s;refine Gb (DW j hd (by simp) ?_);show wpAny _ _ (newExc (.type "StopIteration") []>>=_) _ _ _;refine Gb ?_;simp only[newExc,newTuple];refine Gb (To ?_ (by size_fits));refine Gb (m:=firstArgMember _ _) (Lp (a:=Value.none) (by first|rfl|(simp only[firstArgMember];rfl)) ?_);refine To ?_ (by size_fits);simp only[raiseNew];refine Gb (Sy ?_);rw[show A.in1.handled=Ge from n];refine Gb (Gd (Lq ?_));refine Gb (D0 (T:="StopIteration") (b:=Gf) ⟨_,Heap.get?_push_size _ Xb,Xb⟩ Sm ?_);exact Gd (k _ (((Heap.SameBut.update ..).extBut.push _).push _))
theorem Walks.Qus(m:A.handled=Ge)(I d:Gc)(j:d≠I)(es:Array DR)(ep:Nat):
  Walks prog w A I [I,d] [I] es.size (λi v=>∃e,es[i]?=Ga e/\v=e.val) (λi h=>h.IsValIter I d i es.size ep/\h.Jv d es ep) where
 sub:=λb hb=>by simp at hb;simp[hb]
 frame:=λ_ _ _ st k=>⟨st.1.at λo e=>k I (by simp) o e,st.2.at λo e=>k d (by simp) o e⟩
 item:=λi s Q E hi st a=>by have l:es[i]?=Ga es[i]:=GY hi;refine Qnp st.1 st.2 l λh' c f=>?_;exact a _ h' s.toks ⟨_,l,Xb⟩ ⟨c,st.2.at λo e=>(f.2 d j).trans e⟩ λb o hb e=>f.extBut b o (λh=>hb (by simp[h])) e
 done:=λs Q E st a=>Qrx m st.1 st.2 (Gm _) λh' g=>a h' s.toks λb o hb e=>g b o (λh=>hb (by simp[h])) e
 self:=λ_ _ _ _ st a=>wpAny_pyIter_valiter st.1 a
theorem Qrh:PySem.W.KdlSrc prog w "dict_values" v d es.size (λi x=>∃e,es[i]?=Ga e/\x=e.val) (λh=>h.IsValuesView v d/\h.Jv d es ep) where
 type:=λ_ a=>a.1.typeIs
 there:=λ_ a=>⟨let⟨_,ho,_⟩:=a.1;Heap.lt_size ho,a.2.lt⟩
 keep:=λ_ _ a c=>⟨let⟨o,ho,x⟩:=a.1;⟨o,c v (.inl Xb) o ho,x⟩,a.2.at λo e=>c d (.inr Xb) o e⟩
 notList:=by decide
 notTuple:=by decide
 hint:=λ_ _ _ _ a b=>PySem.W.kdl_hint_values a.1.typeIs b
 iter:=λ_ _ f a=>⟨_,_,(λ_ _ b=>Qo5 a.1 a.2 b),Walks.Qus f _ d (GV a.2.lt) es ep,⟨⟨_,Heap.get?_push_size _ Xb,Xb,Xb⟩,a.2.at λo e=>Heap.get?_push_of_some _ e⟩⟩
end
end PySem
namespace L2
open PySem PySem.Spec PyProof.Rows
variable{P:Gj}{w:Gs}{H:Hp}{X:Cx}{σ:St}{a:Gc}{kvs:List (Xh×V)}{tg:TJ}
def vvw(v d:Gc):HO:=.ext λh=>h.IsValuesView v d
theorem Qyj{h:Heap}{v d:Gc}(x:h.IsValuesView v d):Z0 P w H h v (vvw v d):=by
 refine⟨x,?_,?_⟩
 ·obtain⟨o,a,_⟩:=x;exact⟨o,a⟩
 ·rintro h1 h2 ⟨o,a,r⟩ k;exact⟨o,k o a,r⟩
section
variable{X:Cx}{o:TJ}{to:TE}{name:Gy}{apos cpos:E1}{id:String}{r:V->List V->Hp->VK->Prop}
def Qzn(P:Gj)(w:Gs)(r:V->List V->Hp->VK->Prop)(to:TE):TE:=λσ H Q=>to σ H λx H1=>(∃d kvs,x=.ref d/\H1 d=Ga (Vh P w d kvs))/\r x [] H1 Q
theorem Qt6(slot:Slot "dict" name id)(c:typeOf (.builtin id)=pure (.type "method_descriptor"))(g:MtR X id r)(i:PE X o to)
  (a:attributeBase o name X.env (eval o X.env)=eval o X.env:=by rfl)(b:(apos.endLine==cpos.line)=Gf:=by rfl):PE X (.Call (.Attribute o name apos) [] [] cpos) (Qzn X.prog X.w r to):=by
 intro pins s σ H Q I h;refine EW a b (Yl (i pins s σ H _ I h) λv s1⟨x,H1,e,k,ty,j⟩=>?_);obtain⟨d,kvs,rfl,f⟩:=ty;cases(show v=Value.ref d from k);obtain⟨h1,h2⟩:=Qij e f;exact⟨"dict",id,PySem.F.plainAttrs_dict,slot,c,h1,h2,Dw rfl (PySem.evalArgs_none (g pins s1 σ H1 (.ref d) [] _ [] Q e rfl .nil j))⟩
def Q1e(P:Gj)(w:Gs):V->List V->Hp->VK->Prop:=λx vs H Q=>∃d kvs,x=.ref d/\vs=[]/\DH P w H d kvs/\∀v,H v=Ge->Q (.ref v) (upd H v (vvw v d))
theorem Qvq:MtR X "dict.values" (Q1e X.prog X.w):=by intro pins s σ H x vs v us Q I c rv h;obtain⟨d,kvs,rfl,rfl,D,q⟩:=h;cases(show v=Value.ref d from c);cases rv;obtain⟨z,hd,ys,rel,o,es,ep,h1,h2,e,f,nodup⟩:=Qap I D.at_;have b:s.TypeIs (.ref d) "dict":=⟨o,h1,h2.1⟩;refine Tn PySem.F.slot_dict_values b PySem.F.entry_dict_values ?_ (PySem.F.args_dict_values_1 _);refine Gb ?_;unfold Builtin.Dict.noArgs;refine Gb (Ed b ?_);show wpAny _ _ (pure d) _ _ s;refine Gd ?_;show wpAny _ _ (Builtin.Dict.showsAll d>>=_) _ _ s;unfold Builtin.Dict.showsAll;rw[Gg (by rw[hd];exact Gw)];refine Gb (Gd ?_);refine Gb (To (Gd ⟨_,Xb,?_⟩));exact⟨.ref s.heap.objs.size,_,I.laid (a:=s.heap.objs.size) (o:=vvw s.heap.objs.size d) (t':=s.toks) (λ_ _ q=>Heap.get?_push_of_some _ q) (Gm _) (Qyj ⟨_,Heap.get?_push_size _ Xb,Xb,Xb⟩),Xb,q _ (I.Zu.fresh (Gm _))⟩
theorem Qeb(B:X.calm=Gf):Vn X (.type "list") (λxs H Q=>∃v d kvs,xs=[.ref v]/\H v=Ga (vvw v d)/\DH X.prog X.w H d kvs/\∀l,H l=Ge->Q (.ref l) (upd H l (.lst (kvs.map λp=>p.2.2)))):=by
 intro pins s σ H xs us Q I r h;obtain⟨v,d,kvs,rfl,k,D,q⟩:=h;obtain⟨u,rfl,G⟩:=vals1 r;cases(show u=Value.ref v from G);obtain⟨z,hd,ys,rel,o,es,ep,h1,h2,A,m,nodup⟩:=Qap I D.at_;have n:s.heap.IsValuesView v d:=(I.Zu v _ k).1;have e:es.size=kvs.length:=by rw[Paired.length rel,<-List.length_map (f:=entryOfKey (Vd X.prog X.w)),<-m,Ts]
 refine PySem.W.kdl_call (Qrh (es:=es) (ep:=ep)) (I.ok.hd B) ⟨n,o,h1,h2,A⟩ (by rw[e];exact z) λh' tk a y kp hS b=>?_;have g:(kvs.map λp=>p.2.2).length<=Gh:=by rw[List.length_map];exact z
 have k:Zs (kvs.map λp=>p.2.2) a.toList:=by
  have j:es.toList.map (·.val)=ys.map λq=>q.2.2:=by rw[m,List.map_map];rfl
  have c:a.toList=es.toList.map (·.val):=by
   refine List.ext_getElem? λi=>?_;by_cases hi:i<a.size
   ·obtain⟨en,C,k⟩:=b.2 i a[i] (GY hi);rw[TV,GY hi,List.getElem?_map,TV,C,k];rfl
   ·have hsz:=b.1;rw[List.getElem?_eq_none (by simp;omega),List.getElem?_eq_none (by simp;omega)]
  rw[c,j];clear q z m j c g e b D nodup;induction rel with
  |nil=>exact .nil
  |@cons p q ps J E t F=>rw[List.map_cons,List.map_cons];exact .cons E.2.2 F
 have x:Inv X pins σ (upd H s.heap.objs.size (.lst (kvs.map λp=>p.2.2))) {s with heap:=h',toks:=tk}:=
  I.laid (t':=tk) kp (Gm _) (show Z0 X.prog X.w _ h' _ (.lst _)from⟨g,a.toList,y,k,by rw[DD];exact hS⟩)
 exact⟨.ref s.heap.objs.size,_,x,Xb,q _ (I.Zu.fresh (Gm _))⟩
end
def Pln:HO->Prop
 |.dK _=>True
 |.frz _ (.dK _)=>True
 |_=>False
theorem Inv.swap{pins:List (Gc×DL)}{s:Gi}{u d:HO}(I:Inv X pins σ H s)(e:H a=Ga u)(f:Pln u)(k:Pln d)(hz:∀o v,X.H₀ a≠Ga (.frz o v))(new:Z0 X.prog X.w (upd H a d) s.heap a d):Inv X pins σ (upd H a d) s:=by
 have nn:∀b,H b=Ge->b≠a:=λb hb z=>by rw[z,e]at hb;cases hb
 have tp:∀b xs,H b=Ga (.tup xs)->b≠a:=λb xs hb z=>by rw[z,e]at hb;cases hb;exact f
 have r:∀b y,H b=Ga (.own y)->b≠a:=λb xs hb z=>by rw[z,e]at hb;cases hb;exact f
 have tb:∀b ps,H b=Ga (.tbl ps)->b≠a:=λb xs hb z=>by rw[z,e]at hb;cases hb;exact f
 refine⟨I.ok,I.os,I.bare,⟨I.base.keep,I.base.slot,λb o i n l=>?_,I.base.there,λb xs h=>?_,λb o v h=>?_,λb ps h=>?_⟩,I.loc,I.cell,?_,λx c h=>?_,λp h=>?_,λb o h=>?_,I.len⟩
 ·have:=I.base.free b o i n l;rw[Qg (nn b this)];exact this
 ·have:=I.base.Qk b xs h;rw[Qg (tp b xs this)];exact this
 ·have ne:b≠a:=λz=>hz o v (z▸h);rw[Qg ne];exact I.base.Ow b o v h
 ·obtain⟨m,g⟩:=I.base.Qbo b ps h;exact⟨m,by rw[Qg (tb _ _ g)];exact g⟩
 ·rw[Qg (nn _ I.free)];exact I.free
 ·rw[Qg (nn _ (I.Jt x c h))];exact I.Jt x c h
 ·obtain⟨h1,h2,j⟩:=I.pin p h;exact⟨h1,by rw[Qg (nn _ h2)];exact h2,j⟩
 ·by_cases hb:b=a
  ·subst hb;rw[Qb]at h;cases h;exact new
  ·rw[Qg hb]at h;exact(I.Zu b o h).Qi7 (λc v _ q=>q) (λc q=>by rw[Qg (r c b q)];exact q) λc xs q=>by rw[Qg (tp c xs q)];exact q
def fz(o:DL)(kvs:List (Xh×V)):HO:=.frz o (.dK kvs)
theorem Qvs{H':Hp}{h:Heap}(x:Z0 P w H h a (.dK kvs)):Z0 P w H' h a (.dK kvs):=x
def ItF(a:Gc)(o:DL)(kvs:List (Xh×V)):It:=⟨λi H=>i<kvs.length/\H a=Ga (fz o kvs),λi H x H'=>H'=H/\∃p,kvs[i]?=Ga p/\x=kV p.1,λi H=>kvs.length<=i/\H a=Ga (fz o kvs)⟩
theorem Qye{k:Xh}{u:Value}(h:Qd8 k u=Gf):RelV (kV k) u:=by
 rcases Ys h with⟨i,t,rfl,rfl⟩|⟨x,t,rfl,rfl⟩
 ·exact⟨t,Xb⟩
 ·exact⟨t,Xb⟩
theorem Qyw{vs:List (Xh×Value)}(r:KV kvs vs){i:Nat}{p:Xh×V}(h:kvs[i]?=Ga p):∃u,vs[i]?=Ga (p.1,u):=by
 unfold KV at r;induction r generalizing i with
 |nil=>simp at h
 |@cons a b f bs d t e=>
  cases i with
  |zero=>simp at h;subst h;obtain⟨g,c⟩:=b;exact⟨c,by simp[d.1]⟩
  |succ i=>simp only[List.getElem?_cons_succ]at h⊢;exact e h
theorem Qop{K:PySem.W.Frag}(a it:Gc)(o:DL)(kvs:List (Xh×V))(es:Array DR)(ep:Nat)(p:o.data=.dict es ep):Qgt P w K tg (ItF a o kvs) [it] it (λi h=>h.IsKeyIter it a i kvs.length ep) where
 mem:=by simp
 obj:=λi h st b hb=>by
  have e:b=it:=by simpa using hb
  subst e;obtain⟨o,e,c,d⟩:=st;exact⟨o,e,λv z=>by rw[d]at z;cases z⟩
 keep:=λi h h' st k=>st.at λo e=>k it (by simp) o e
 item:=by
  intro X F hw D M i pins s σ H E I n st G;subst F hw D;obtain⟨hi,J⟩:=G;obtain⟨h1,z,hd,vs,rel,q⟩:=I.Zu a _ J;obtain⟨r,o',t,g,j,f,L⟩:=q.dictAt;rw[h1]at g;cases g;rw[p]at f;cases f;have N:kvs[i]?=Ga kvs[i]:=List.getElem?_eq_getElem hi;obtain⟨u,hu⟩:=Qyw rel N;obtain⟨x,y,U,A,B,C⟩:=n it (by simp);have m:s.heap.IsKeyIter it a i vs.length ep:=by rw[<-rel.length];exact st
  refine wpAny_pyNext_dict_item (knd:=Z9 X.prog X.w) m ⟨o,es,h1,j,p,L⟩ hu λkey h' Y l sb=>?_;have O:Inv X pins σ H {s with heap:=h'}:=I.turned (t':=s.toks) (λb o hb e=>(sb.2 b hb).trans e) x y A B C;rw[<-rel.length]at l;obtain⟨o2,S,Q,R⟩:=id l;exact⟨key,Xb,Qfk (s:={s with heap:=h'}) S Q R (by decide) ⟨kV kvs[i].1,H,O,Qye Y,⟨Xb,_,N,Xb⟩,l,λb hb=>(n b hb).1⟩⟩
 done:=by
  intro X F hw D M i pins s σ H E I n st G;subst F hw D;obtain⟨hi,J⟩:=G;obtain⟨h1,z,hd,vs,rel,q⟩:=I.Zu a _ J;obtain⟨r,o',t,g,j,f,L⟩:=q.dictAt;rw[h1]at g;cases g;rw[p]at f;cases f;obtain⟨x,y,U,A,B,C⟩:=n it (by simp);have Z:kvs.length=vs.length:=rel.length;have m:s.heap.IsKeyIter it a i vs.length ep:=by rw[<-Z];exact st
  exact wpAny_pyNext_dict_end (knd:=Z9 X.prog X.w) (I.ok.hd M) m ⟨o,es,h1,j,p,L⟩ (List.getElem?_eq_none (by omega)) λh' T=>⟨Xb,I.turned (t':=s.toks) (λb o hb e=>T b o hb e) x y A B C⟩
 self:=λ_ _ _ _ _ st h=>Sn st h
def Q1a(te:TE):TI:=λσ H R=>te σ H λx H1=>∃a kvs,x=.ref a/\((H1 a=Ga (.dK kvs)/\∀o,R (ItF a o kvs) (upd H1 a (fz o kvs))))
def Qzt(t:TS):TS:=λD σ H=>∃a kvs,H a=Ga (.dK kvs)/\t {nx:=(λb H'=>∃o,H' a=Ga (fz o kvs)/\D.nx b (upd H' a (.dK kvs))),rt:=(λv H'=>∃o,H' a=Ga (fz o kvs)/\D.rt v (upd H' a (.dK kvs))),bk:=(λb H'=>∃o,H' a=Ga (fz o kvs)/\D.bk b (upd H' a (.dK kvs))),ct:=(λb H'=>∃o,H' a=Ga (fz o kvs)/\D.ct b (upd H' a (.dK kvs)))} σ H
section
variable{X:Cx}{tg:TJ}
theorem Inv.Qz3{pins:List (Gc×DL)}{s:Gi}(I:Inv X pins σ H s)(e:H a=Ga (.dK kvs)):∀o v,X.H₀ a≠Ga (.frz o v):=λo v z=>by rw[I.base.Ow a o v z]at e;cases e
theorem Ql2{e:TJ}{te:TE}(l:PE X e te):PI X tg e (Q1a te):=by
 intro pins s σ H R I h;refine Yl (l pins s σ H _ I h) λv s1⟨x,H1,d,n,m⟩=>?_;obtain⟨a,kvs,e,g,q⟩:=m;subst e;cases n;obtain⟨z,hd,vs,rel,i⟩:=Qhu d.Zu g;obtain⟨ep,o,es,j,k,c,r⟩:=i.dictAt;refine wpAny_pyIter_dict (knd:=Z9 X.prog X.w) hd ⟨o,es,j,k,c,r⟩ ?_;have f:Inv X pins σ (upd H1 a (fz o kvs)) s1:=d.swap g trivial trivial (d.Qz3 g) ⟨j,z,hd,vs,rel,i⟩;refine⟨s1.heap.objs.size,[s1.heap.objs.size],_,_,_,Xb,f.kept (t':=s1.toks) λb o e=>Heap.get?_push_of_some _ e,Qop a _ o kvs es ep c,?_,λb hb=>?_,q o⟩
 ·rw[rel.length];exact⟨_,Heap.get?_push_size _ Xb,Xb,Xb⟩
 ·have e:b=s1.heap.objs.size:=by simpa using hb
  subst e;exact f.Qi0 (Gm _) (f.Zu.fresh (Gm _))
theorem Qmh{st:T4}{t:TS}(h:PS X st t):PS X st (Qzt t):=by
 intro pins s σ H D I i;obtain⟨a,kvs,e,q⟩:=i;have j:=I.Qz3 e;have un:∀{b:St}{H':Hp}{s':Gi}{o:DL},Inv X pins b H' s'->H' a=Ga (fz o kvs)->Inv X pins b (upd H' a (.dK kvs)) s':=λc d=>c.swap d trivial trivial j (by obtain⟨_,r⟩:=c.Zu a _ d;exact Qvs r)
 refine Yl (h pins s σ H _ I q) λf s' r=>?_;cases f with
 |next=>obtain⟨b,H',c,o,d,g⟩:=r;exact⟨b,_,un c d,g⟩
 |cont=>obtain⟨b,H',c,o,d,g⟩:=r;exact⟨b,_,un c d,g⟩
 |brk=>obtain⟨b,H',c,o,d,g⟩:=r;exact⟨b,_,un c d,g⟩
 |ret v=>obtain⟨x,b,H',c,k,o,d,g⟩:=r;exact⟨x,b,_,un c d,k,g⟩
end
theorem Qi3{o:DL}{g:TG}{tb:TS}{D:Ends}(Pv:Nat->St->Hp->Prop)(j:Pv 0 σ H)(k:∀i σ H,i<=kvs.length->Pv i σ H->H a=Ga (fz o kvs))
  (l:∀i p σ H,kvs[i]?=Ga p->Pv i σ H->g (kV p.1) σ H λc H2=>tb {D with nx:=Pv (i+1),ct:=Pv (i+1),bk:=D.nx} c H2)(hd:∀σ H,Pv kvs.length σ H->D.nx σ H):
  ∃W:Nat->Nat->St->Hp->Prop,(∃m,W 0 m σ H)/\∀i m σ H,W i m σ H->
   ((ItF a o kvs).stop i H/\D.nx σ H)\/((ItF a o kvs).go i H/\∃N:St->Hp->Prop,(∀b H',N b H'->∃f,f<m/\W (i+1) f b H')/\∀x H',(ItF a o kvs).yld i H x H'->g x σ H' λc H2=>tb {D with nx:=N,ct:=N,bk:=D.nx} c H2):=by
 refine⟨λi m σ H=>m=kvs.length - i/\i<=kvs.length/\Pv i σ H,⟨kvs.length,by simp,Gv _,j⟩,?_⟩;rintro i m σ H ⟨rfl,hi,p⟩;have q:=k i σ H hi p;by_cases d:i<kvs.length
 ·refine .inr ⟨⟨d,q⟩,Pv (i+1),λb H' r=>⟨kvs.length - (i+1),by omega,Xb,d,r⟩,λx H' y=>?_⟩;obtain⟨e,y,n,h⟩:=y;subst e h;exact l i y σ _ n p
 ·have e:i=kvs.length:=by omega
  subst e;exact .inl ⟨⟨Gm _,q⟩,hd σ H p⟩
def Itd(lo:Int)(n:Nat):It:=⟨λi _=>i<n,λi H x H'=>H'=H/\x=.int (lo - i),λi _=>n<=i⟩
theorem Qoi{K:PySem.W.Frag}(it:Gc)(lo:Int)(n:Nat):Qgt P w K tg (Itd lo n) [it] it (λi h=>Sj h it (lo+(i:Nat)*(-1)) ((n:Int) - (i:Nat)) (-1)) where
 mem:=by simp
 obj:=λi h st b hb=>by
  have e:b=it:=by simpa using hb
  subst e;exact⟨_,st,λv z=>by have C:Fg _=FE v:=z;cases C⟩
 keep:=λi h h' st k=>k it (by simp) _ st
 item:=by intro X p hw m q i pins s σ H E I c st r;subst p hw m;obtain⟨d,f,y,g,j,l⟩:=c it (by simp);have W:=Walks.range (prog:=X.prog) (w:=X.w) (I.ok.hd q) it lo (-1) n;refine W.item i s _ _ r st λv h' tk A a B=>?_;obtain⟨t,rfl⟩:=A;have u:Inv X pins σ H {s with heap:=h',toks:=tk}:=I.turned (λb o hb e=>B b o (by simpa using hb) e) d f g j l;refine⟨_,Xb,Qfk (s:={s with heap:=h',toks:=tk}) (n:="range_iterator") a rfl rfl (by decide) ⟨.int (lo - i),H,u,⟨t,?_⟩,⟨Xb,Xb⟩,a,λb hb=>(c b hb).1⟩⟩;congr 1;omega
 done:=by intro X p hw m q i pins s σ H E I c st r;subst p hw m;obtain⟨d,f,y,g,j,l⟩:=c it (by simp);exact E3 (I.ok.hd q) st (by have:n<=i:=r;omega) λh' x=>⟨Xb,I.turned (t':=s.toks) (λb o hb e=>x b o hb e) d f g j l⟩
 self:=λ_ _ _ _ _ st h=>E4 st h
theorem rangeSize_down(n:Nat):Builtin.Range.rangeSize ((n:Int) - 1) (-1) (-1)=n:=by unfold Builtin.Range.rangeSize;simp only[show¬((-1:Int)>0) by decide,T6,show -(-1:Int)=1 by decide,LY];split<;>omega
theorem small_down{n:Nat}(h:n<=1000000):Builtin.Range.small ((n:Int) - 1) (-1) (-1)=Gf:=by unfold Builtin.Range.small;rw[rangeSize_down];simp only[Builtin.Range.rangeFitsLong,GO,Bool.or_eq_true,EO,EE,show¬((-1:Int)>0) by decide,T6];omega
def Q03(ta:TA):TI:=λσ H R=>ta σ H λvs H1=>∃n:Nat,vs=[.int ((n:Int) - 1),.int (-1),.int (-1)]/\n<=1000000/\R (Itd ((n:Int) - 1) n) H1
theorem Qu6{a b c:TJ}{ta:TA}{p pos:E1}(v:Gl X "range")(w:X.mg "range"=Ge)(u:PA X [a,b,c] ta)(y:GX [a,b,c] X.env=[(Gp,eval a X.env),(Gp,eval b X.env),(Gp,eval c X.env)]:=by rfl)(f:GX [b,c] X.env=[(Gp,eval b X.env),(Gp,eval c X.env)]:=by rfl):
  PI X tg (.Call (.Name "range" p) [a,b,c] [] pos) (Q03 ta):=by
 intro pins s σ H R I h;refine FK (Vq I v w Ft (T9 (Yl (u pos pins s σ H _ I h) λus s1⟨vs,H1,k,B,z⟩=>?_) (by rw[y,f]) (by rw[f];rfl)));obtain⟨n,e,x,q⟩:=z;subst e;cases B with
 |cons r g=>
  cases g with
  |cons A g=>
   cases g with
   |cons j g=>
    cases g;obtain⟨t,rfl⟩:=r;obtain⟨t',rfl⟩:=A;obtain⟨d,rfl⟩:=j;refine call_range_3 (by decide) ?_ (.inl (E5 (by omega)));refine SE (Fh ..) (small_down x) ?_;have i:Inv X pins σ H1 {s1 with heap:=s1.heap.push {cls:=.type "range",data:=.fields #[.int ((n:Int) - 1) t,.int (-1) t',.int (-1) d]},toks:=s1.toks}:=k.kept λb o e=>Heap.get?_push_of_some _ e;refine⟨(s1.heap.push {cls:=.type "range",data:=.fields #[.int ((n:Int) - 1) t,.int (-1) t',.int (-1) d]}).objs.size,[(s1.heap.push {cls:=.type "range",data:=.fields #[.int ((n:Int) - 1) t,.int (-1) t',.int (-1) d]}).objs.size],_,_,H1,Xb,
     i.kept (t':=s1.toks) λb o e=>Heap.get?_push_of_some _ e,Qoi _ ((n:Int) - 1) n,?_,λb hb=>?_,q⟩
    ·have l:((n:Int) - 1)+((0:Nat):Int)*(-1)=(n:Int) - 1:=by simp
     have m:(n:Int) - ((0:Nat):Int)=Builtin.Range.rangeSize ((n:Int) - 1) (-1) (-1):=by rw[rangeSize_down];simp
     show Sj _ _ (((n:Int) - 1)+((0:Nat):Int)*(-1)) ((n:Int) - ((0:Nat):Int)) (-1);rw[l,m];exact Heap.get?_push_size _ rfl
    ·have e:b=(s1.heap.push {cls:=.type "range",data:=.fields #[.int ((n:Int) - 1) t,.int (-1) t',.int (-1) d]}).objs.size:=by simpa using hb
     subst e;exact i.Qi0 (Gm _) (i.Zu.fresh (Gm _))
theorem Qpi{lo:Int}{n:Nat}{g:TG}{tb:TS}{D:Ends}(Pv:Nat->St->Hp->Prop)(f:Pv 0 σ H)
  (h:∀i σ H,i<n->Pv i σ H->g (.int (lo - i)) σ H λc H2=>tb {D with nx:=Pv (i+1),ct:=Pv (i+1),bk:=D.nx} c H2)(hd:∀σ H,Pv n σ H->D.nx σ H):
  ∃W:Nat->Nat->St->Hp->Prop,(∃m,W 0 m σ H)/\∀i m σ H,W i m σ H->
   ((Itd lo n).stop i H/\D.nx σ H)\/((Itd lo n).go i H/\∃N:St->Hp->Prop,(∀b H',N b H'->∃d,d<m/\W (i+1) d b H')/\∀x H',(Itd lo n).yld i H x H'->g x σ H' λc H2=>tb {D with nx:=N,ct:=N,bk:=D.nx} c H2):=by
 refine⟨λi m σ H=>m=n - i/\i<=n/\Pv i σ H,⟨n,by simp,Gv _,f⟩,?_⟩;rintro i m σ H ⟨rfl,hi,p⟩;by_cases a:i<n
 ·refine .inr ⟨a,Pv (i+1),λb H' j=>⟨n - (i+1),by omega,Xb,a,j⟩,λx H' y=>?_⟩;obtain⟨e,y⟩:=y;subst e y;exact h i σ _ a p
 ·have e:i=n:=by omega
  subst e;exact .inl ⟨Gm _,hd σ H p⟩
def Qui:List V->Hp->VK->Prop:=λvs H Q=>∃d kvs a,vs=[.ref d]/\H d=Ga (.dK kvs)/\kvs.map (·.1)=a.map Ez/\kvs.length<64/\∀(r:Gc)(ns:List Int),H r=Ge->ns.Perm a->ns.Pairwise (·<=·)->Q (.ref r) (upd H r (.lst (ns.map V.int)))
theorem Qly{P:Gj}{w:Gs}{h:Heap}:∀{kvs:List (Xh×V)}{vs:List (Xh×Value)}{b:List Int}{acc:List Value},KV kvs vs->kvs.map (·.1)=b.map Ez->acc.length=vs.length->(∀(i:Nat)(u:Value),acc[i]?=Ga u->∃k x,vs[i]?=Ga (k,x)/\(Z9 P w).is k u=Gf)->Sa acc b
 |[],[],[],[],_,_,_,_=>.nil
 |[],[],[],_::_,_,_,a,_=>by simp at a
 |[],[],_::_,_,_,e,_,_=>by simp at e
 |p::kvs,q::vs,[],_,_,e,_,_=>by simp at e
 |p::kvs,q::vs,k::b,[],_,_,a,_=>by simp at a
 |p::kvs,q::vs,k::b,u::acc,.cons r t,e,a,c=>by
  simp only[List.map_cons,List.cons.injEq]at e;obtain⟨j,x,d,f⟩:=c 0 u rfl;simp at d;have:j=Ez k:=by rw[<-e.1,r.1,d]
  subst this;obtain⟨t',rfl⟩:=Value.isInt_shape (k:=k) (v:=u) f;exact .cons _ _ (Qly (P:=P) (w:=w) (h:=h) t e.2 (by simpa using a) λi u g=>c (i+1) u g)
theorem Qn6{acc:List Value}{a:List Int}(h:Sa acc a):Zs (a.map V.int) acc:=by
 induction h with
 |nil=>exact .nil
 |cons n t r b=>exact .cons ⟨_,Xb⟩ b
theorem Qji(K:X.calm=Gf):Vn X (.builtin "sorted") Qui:=by
 intro pins s σ H xs us Q I r h;obtain⟨d,kvs,B,rfl,N,y,M,q⟩:=h;obtain⟨u,rfl,R⟩:=vals1 r;cases(show u=Value.ref d from R);obtain⟨z,hd,vs,rel,G⟩:=Qhu I.Zu N;obtain⟨ep,l⟩:=G.dictAt;have c:kvs.length=vs.length:=rel.length;refine EI kind_sorted plain_sorted entry_sorted (args_sorted1 _) ?_;unfold Builtin.«sorted»;refine Gb (m:=checkCount "sorted" 1 1 _) (Gd ?_);refine Gb (PySem.W.kdu_collect (A:=X.A.in1) (PySem.W.kdl_dict (knd:=Z9 X.prog X.w) (kvs:=vs) (ep:=ep) hd) (I.ok.hd K) l (by rw[<-c];exact z) λh' tk acc p f=>?_);have g:acc.toList.length=vs.length:=by rw[Ts];exact f.1
 have J:Sa acc.toList B:=Qly (P:=X.prog) (w:=X.w) (h:=h') rel y g λi u O=>f.2 i u (by rw[<-TV];exact O);have v:Inv X pins σ H {s with heap:=h',toks:=tk}:=I.kept p;refine Gb (wpAny_newList ?_ (by rw[g,<-c];exact z));have n:(h'.push {cls:=.type "list",data:=.seq acc.toList.toArray}).get? h'.objs.size=Ga (seqObj "list" acc.toList.toArray 0):=Heap.get?_push_size _ rfl;refine Gb (TR ?_);refine Tn PySem.F.slot_list_sort ⟨_,n,Xb⟩ PySem.F.entry_list_sort ?_ (PySem.F.args_list_sort_1 _);refine list_sort_tree n J (by rw[g,<-c];exact M) λout j D x E=>?_;refine⟨_,Xb,?_⟩;refine Gd ⟨_,Xb,?_⟩;obtain⟨e,L⟩:=sortedHeap_at (out:=out) n;have keep:∀b o,h'.get? b=Ga o->(sortedHeap (h'.push {cls:=.type "list",data:=.seq acc.toList.toArray}) h'.objs.size acc.toList out).get? b=Ga o:=λb o k=>by rw[sortedHeap_old (GV (Heap.lt_size k)) (by rw[size_push'];exact S9 (Heap.lt_size k))];exact Heap.get?_push_of_some _ k
 have t:j.length<=Gh:=by
  rw[x.length_eq];have:B.length=kvs.length:=by have:=congrArg List.length y;simpa using this.symm
  rw[this];exact z
 have C:=v.laid (a:=h'.objs.size) (o:=.lst (j.map V.int)) (t':=tk) keep (Gm _) ⟨by rw[List.length_map];exact t,out.toList,e,Qn6 D,by rw[DD];exact L⟩;exact⟨.ref h'.objs.size,_,C,Xb,q _ _ (v.Zu.fresh (Gm _)) x E⟩
end L2
namespace K07
open PySem L2 Sb Nt
variable{X:Gc->Prop}{H H' H1 H0:Hp}{v:V}{k a b p q tb m j:Nat}{fs:List Fm}{x:Nn}{N:Nat->Nat->Option Nat}{u t:Th}{S ts U:List Th}{f C r n L d D fW fB M fR fL f0 fI fN CP CB fC fA:Gc}{fd fdW fdB fdR fdL fdI fdN:Td}{A:Na}{lks:List Lk}{xs ys:List V}{P:Gj}{w:Gs}{ens:List En}{tl:Tl}{α:Type}{ds:List TF}{K:PySem.W.Frag}
def Qik(C:Gc):Sp:=λvs H Q _=>∃(n:Gc)(A:Na)(fs:List Fm)(x:Nn)(p:Nat),vs=[.ref n,jv p]/\(∃dx,H n=Ga (.ins C dx (Yx A)))/\(∃a,H A.f=Ga (.lst a)/\Paired (R3 H) a fs)/\Rd H A.l (.dK (dS x.S λp=>jv (x.lead p)))/\p<fs.length/\(∀q∈Zl fs p,q∈x.S)/\(Zl fs p).length<=1000000/\
 ∀(c:Gc)(H':Hp),Qv H H'->H c=Ge->R3 H' (.ref c) (Zk (Yg fs) (Zl fs) x.lead p)->Q (.ref c) H'
abbrev Row:=Gy×List Nat×Nat
def J1(H:Hp)(X:Gc->Prop)(v:V)(r:Row):Prop:=∃c l,v=.ref c/\H c=Ga (.tup [.str r.1,.ref l,jv r.2.2])/\H l=Ga (.lst (r.2.1.map jv))/\¬X l
theorem J1.kp(tp:∀{c:Gc}{ys:List V},H c=Ga (.tup ys)->H' c=Ga (.tup ys))(lp:∀{c:Gc}{ys:List V},H c=Ga (.lst ys)->¬X c->H' c=Ga (.lst ys)){r:Row}(h:J1 H X v r):J1 H' X v r:=by obtain⟨c,l,h1,h2,b,a⟩:=h;exact⟨c,l,h1,tp h2,lp b a,a⟩
theorem J1.ex{Y:Gc->Prop}(d:∀c ys,H c=Ga (.lst ys)->¬X c->¬Y c){r:Row}(h:J1 H X v r):J1 H Y v r:=by obtain⟨c,l,h1,h2,a,b⟩:=h;exact⟨c,l,h1,h2,a,d _ _ a b⟩
def U8(H:Hp)(X:Gc->Prop)(v:V)(a:List Row):Prop:=∃r es,v=.ref r/\H r=Ga (.lst es)/\¬X r/\Paired (J1 H X) es a
theorem U8.kp{X:Gc->Prop}{H H':Hp}(tp:∀{c:Gc}{ys:List V},H c=Ga (.tup ys)->H' c=Ga (.tup ys))(lp:∀{c:Gc}{ys:List V},H c=Ga (.lst ys)->¬X c->H' c=Ga (.lst ys)){v:V}{b:List Row}(h:U8 H X v b):U8 H' X v b:=by obtain⟨r,es,h1,h2,a,d⟩:=h;exact⟨r,es,h1,lp h2 a,a,L2.Paired.Yb d λ_ _ h=>h.kp tp lp⟩
theorem U8.ex{X Y:Gc->Prop}{H:Hp}(a:∀c ys,H c=Ga (.lst ys)->¬X c->¬Y c){v:V}{b:List Row}(h:U8 H X v b):U8 H Y v b:=by obtain⟨r,es,h1,h2,d,e⟩:=h;exact⟨r,es,h1,h2,a _ _ h2 d,L2.Paired.Yb e λ_ _ h=>h.ex a⟩
def Vb(fs:List Fm)(x:Nn)(N:Nat->Nat)(p:Nat):Row:=(Yg fs p,(Zl fs p).map (λq=>N (x.lead q)),N (x.lead p))
structure Wok(fs:List Fm)(x:Nn)(rs:List Row):Prop where
 ex:∃N:Nat->Nat,(∀p∈x.S,∀q∈x.S,N (x.lead p)=N (x.lead q)->x.lead p=x.lead q)/\(∀p∈x.S,Vb fs x N p∈rs)/\∀r∈rs,∃p∈x.S,r=Vb fs x N p
 nd:(rs.map λr=>(r.1,r.2.1)).Nodup
def Qpu(P:Gj)(w:Gs)(C:Gc):Sp:=λvs H Q _=>∃(n:Gc)(A:Na)(fs:List Fm)(tb:Nat)(x:Nn),vs=[.ref n]/\Z3 P w C H n A fs tb x/\Qeg fs x.S/\X8 (Yg fs) (Zl fs) x []/\x.S.length<=1000/\
 ∀(v:V)(a:List Row)(H':Hp),Qv H H'->U8 H' (λb=>∃o,H b=Ga o) v a->Wok fs x a->Q v H'
theorem Qsz{a:List Nat}{l:Nat}(c:l∉a)(b:k∈a++[l]):(a++[l]).idxOf k=if k=l then a.length else a.idxOf k:=by
 rw[List.idxOf_append];by_cases h:k=l
 ·subst h;rw[Gg c,Gk rfl];simp
 ·have:k∈a:=by
   rcases List.mem_append.mp b with z|z
   ·exact z
   ·exact absurd (by simpa using z) h
  rw[Gk this,Gg h]
theorem Qgi{c:List Nat}(d:a∈c)(hb:b∈c)(h:c.idxOf a=c.idxOf b):a=b:=by have h1:=List.getElem_idxOf (List.idxOf_lt_length_of_mem d);have h2:=List.getElem_idxOf (List.idxOf_lt_length_of_mem hb);rw[<-h1,<-h2];simp only[h]
def EnR(fs:List Fm)(x:Nn)(N:Nat->Nat)(X:Gc->Prop)(H:Hp)(e:KE)(p:Nat):Prop:=e.1=Yu (Zk (Yg fs) (Zl fs) x.lead p)/\J1 H X e.2.2 (Vb fs x N p)
theorem Qhi{N:Nat->Nat}{d:List KE}{ps:List Nat}(h:Paired (EnR fs x N X H) d ps)(k:Fm):(Yf d (Yu k)).isSome=Gf↔∃p∈ps,Zk (Yg fs) (Zl fs) x.lead p=k:=by
 induction h with
 |nil=>simp[Yf]
 |@cons e p d ps f t g=>
  by_cases c:e.1=Yu k
  ·rw[Yk c];simp only[SG,true_iff];exact⟨p,List.mem_cons_self,Uw (f.1.symm.trans c)⟩
  ·rw[Yj c,g];constructor
   ·rintro⟨q,a,b⟩;exact⟨q,List.mem_cons_of_mem _ a,b⟩
   ·rintro⟨q,a,b⟩;rcases List.mem_cons.mp a with rfl|a
    ·exact absurd (by rw[f.1,b]) c
    ·exact⟨q,a,b⟩
theorem Qud{N:Nat->Nat}{d:List KE}{ps:List Nat}(g:J1 H X v (Vb fs x N p))(a:∀q∈ps,Zk (Yg fs) (Zl fs) x.lead q=Zk (Yg fs) (Zl fs) x.lead p->Vb fs x N q=Vb fs x N p)(h:Paired (EnR fs x N X H) d ps):
  Paired (EnR fs x N X H) (d.map λe=>if e.1=Yu (Zk (Yg fs) (Zl fs) x.lead p)then(e.1,e.2.1,v)else e) ps:=by
 induction h with
 |nil=>exact .nil
 |@cons e q d ps c t i=>
  refine .cons ?_ (i λq f=>a q (List.mem_cons_of_mem _ f));dsimp only;by_cases b:e.1=Yu (Zk (Yg fs) (Zl fs) x.lead p)
  ·rw[Gk b];refine⟨c.1,?_⟩;rw[a q List.mem_cons_self (Uw (c.1.symm.trans b))];exact g
  ·rw[Gg b];exact c
theorem Qt3{a:Gc}{u:HO}(r:Rd H a u)(g:Qv H H'):Rd H' a u:=by
 rcases r with r|⟨o,r⟩
 ·exact .inl (g _ _ r)
 ·exact .inr ⟨o,g _ _ r⟩
theorem Qf3{a:Gc}{S:List Nat}{f:Nat->V}(h:Rd H a (.dK (dS S f)))(b:p∈S):Wd H a (jv p) (Ga (f p)):=.inl ⟨_,ki p,h,Xb,(Qe2 b).symm⟩
section
variable{P:Gj}{w:Gs}{K:PySem.W.Frag}{mg:Gy->Option Value}{base:Heap}
theorem Qok(F:Va K "key_of" "Net.key_of" Rr f fd)(T:V5 K mg C)(B:Ik mg):Qt P w K mg base Ya 1 f fd ["self","place"] (Qik C):=by
 refine F.ok Qb5 (λvs H Q E h=>?_) (λcdv A outer s H vs Q E Z h=>?_)
 ·obtain⟨n,A,fs,x,p,rfl,_⟩:=h;rfl
 obtain⟨n,A,fs,x,p,rfl,⟨dx,M⟩,⟨O,X,I⟩,le,J,v,hl,g⟩:=h;have hu:=Ut Z;have nd:=Qb5.nd;refine⟨_,Qd (Qs 2 nd (Qn Ze (Qm (pv 0) rfl) (pv 1)))
  (Qh (Qx (Q8 (Qa (Qn Q3 (pv 2) Qj) (Qa (Xt X5 rfl B.tuple Tz (Qa
   (Ub (te:=Qh8 (Qts K (Vp 1) "leads") (Vp 0)) (own:=["part"]) (fv:=[(0,"self")]) rfl (S:=(by eq_refl:Wc (Ql Rr) _)) (.cons rfl (TZ Xb) rfl .nil) (Ue (Qn Q3 (pv 2) Qj))
    (λ_ _ _ _ _=>Xc (i:=0) Qz1 rfl (TZ Xb) (DO Xb)) (λ_ _ _ _ _=>X7) (λ_ _ _ _ _=>Zt hu (Qm (pv 1) rfl) (pv 0) (λ_ _=>rfl))) Qe)) Qe))))),?_⟩
 have hw:p<O.length:=by rw[Paired.length I];exact J
 obtain⟨y,L,c,e,W,h1,h2⟩:=Qw I (List.getElem?_eq_getElem hw);rw[Qfd J]at L;cases L;have U:atI [V.str (Yg fs p),V.ref e] (1:Int)=Ga (.ref e):=Qz (j:=1) rfl;refine⟨_,Xb,n,C,dx,_,_,Xb,M,T.cl,T.Qdh,Um _,_,Xb,A.f,O,_,_,Xb,Xb,Zb.of X,Qz (List.getElem?_eq_getElem hw),?_⟩;rw[W];refine⟨_,Xb,c,_,_,_,Xb,Xb,Z4.of h1,Rv _ _,_,Xb,c,_,_,_,Xb,Xb,Z4.of h1,U,e,Xb,⟨_,Z4.of h2⟩,λr t=>?_⟩;have s3:=Qf t (.lst []);refine Uq (K:=K) (a:=e) (xs:=(Zl fs p).map jv) (small (by rw[List.length_map];omega)) (λi ys σ H2=>(∃R,σ=[R,Ga (.ref n)])/\Qv H H2/\ys=((Zl fs p).take i).map λq=>jv (x.lead q))
  ⟨⟨_,Xb⟩,s3,by simp⟩ (λi ys σ H2 _ h=>Z4.of (h.2.1 _ _ h2)) ?_ ?_
 ·rintro i y ys σ H2 hi z ⟨⟨R,rfl⟩,d,rfl⟩ u;rw[List.getElem?_map]at hi;cases eq:(Zl fs p)[i]? with
  |none=>rw[eq]at hi;cases hi
  |some q=>
   rw[eq]at hi;cases hi;refine⟨_,Xb,n,C,dx,_,_,Xb,d _ _ M,T.cl,T.Wt,Ym _,_,Xb,A.l,_,Xb,Qf3 (Qt3 le d) (v q (List.mem_of_getElem? eq)),u,⟨_,Xb⟩,λb o G=>?_,?_⟩
   ·rw[Qg (Qc G t)];exact d _ _ G
   ·rw[List.take_add_one,eq,List.map_append];rfl
 ·rintro ys σ H2 z ⟨_,d,rfl⟩ u;rw[List.length_map,List.take_length]at u;refine⟨r,_,Xb,.inl ⟨Zb.of u,λm Y=>?_⟩⟩;have s4:=Qf Y (.tup ((Zl fs p).map λq=>jv (x.lead q)));refine⟨by show 2<=Gh;decide,λD k=>?_⟩;have N:=Qf k (.tup [.str (Yg fs p),.ref m]);refine g D _ ((d.trans s4).trans N) (d.free (s4.free k)) ⟨D,m,Xb,Qb,?_⟩;rw[N _ _ Qb];simp only[Zk,List.map_map];rfl
theorem Qwk{S:List Nat}{f:Nat->V}{i:Nat}{a:Xh×V}(h:(dS S f)[i]?=Ga a):∃p,S[i]?=Ga p/\a=(ki p,f p):=by
 unfold dS at h;rw[List.getElem?_map]at h;cases e:S[i]? with
 |none=>rw[e]at h;cases h
 |some p=>rw[e]at h;cases h;exact⟨p,Xb,Xb⟩
theorem Qqg:Qy ["self","numbers","place","found","key"] ["self"] (Ql Qje):=by eq_refl
theorem Q23:(["lead","numbers"]:List Gy).Nodup:=by decide+kernel
theorem Quq{fK:Gc}{ax:Td}(F:Va K "rows" "Net.rows" Qje f fd)(T:V5 K mg C)(B:Ik mg)(mK:Yc K C "key_of" fK)(GK:Qt P w K mg base Ya 1 fK ax ["self","place"] (Qik C))(bK:Binds K ax ["self","place"] []):
  Qt P w K mg base Ya 2 f fd ["self"] (Qpu P w C):=by
 refine F.ok Qqg (λvs H Q E h=>?_) (λcdv A outer s H vs Q E hr h=>?_)
 ·obtain⟨n,A,fs,tb,x,rfl,_⟩:=h;rfl
 obtain⟨n,A,fs,tb,x,rfl,X,FO,I,hS,q⟩:=h;have hu:=Ut hr;have aC:=hr.units;have aO:Yd 1 _:=hr.mono (by omega);have nd:=Qqg.nd;refine⟨_,Qd (Vw (i:=1) nd rfl (DO Xb) U1)
  (Qd (Qmh (Z6 Gq rfl (Ql2 (Qm (pv 0) rfl)) (Z2 2 nd)
   (Qh (Zc (Xn PySem.F.plainAttrs_dict PySem.F.slot_dict_setdefault PySem.F.type_dict_setdefault Qlj (pv 1) (Qa (Zt hu (Qm (pv 0) rfl) (pv 2) (λ_ _=>rfl)) (Qa (Qo Qpb rfl B.len PySem.boot_len (Qa (pv 1) Qe)) Qe)))))))
  (Qd (Vw (i:=3) (te:=Qlb P w) nd rfl (TZ Xb) Im)
  (Qd (Qmh (Z6 Gq rfl (Ql2 (Qm (pv 0) rfl)) (Z2 2 nd)
   (Qd (Qs 4 nd (Zd (pv 0) T.cl mK GK aO bK .nil Q4 (Qa (pv 2) Qe)))
   (Qh (Rq (Q8 (Qa (Qn Q3 (pv 4) Qj) (Qa
     (Ub (te:=Qh8 (Vp 1) (Vp 0)) (own:=["lead"]) (fv:=[(1,"numbers")]) rfl (S:=(by eq_refl:Wc (Ql Qje) _)) (.cons rfl (TZ Xb) rfl .nil) (Ue (Qn Q3 (pv 4) Qj))
      (λ_ _ _ _ _=>Xc (i:=0) Q23 rfl (TZ Xb) (DO Xb)) (λ_ _ _ _ _=>X7) (λ_ _ _ _ _=>Zt hu (pv 1) (pv 0) (λ_ _=>rfl)))
     (Qa (Zt hu (pv 1) (Zt hu (Qm (pv 0) rfl) (pv 2) (λ_ _=>rfl)) (λ_ _=>rfl)) Qe))))
    (Qak (pv 3) (pv 4) (Qao aC)))))))
  (Qh (Qx (Xt (Qeb Xb) rfl B.list TD (Qa (Qt6 PySem.F.slot_dict_values PySem.F.type_dict_values Qvq (pv 3)) Qe))))))),?_⟩
 obtain⟨dx,o1⟩:=X.ob;intro num ab;have s1:=Qf ab (.dK []);have X1:=X.same s1;have nl:num≠A.l:=Gn (Qc X.le ab);have nn:num≠n:=Gn (Qc o1 ab);have ln:n≠A.l:=Ye o1 X.le nofun;refine⟨A.l,_,X1.le,?_⟩;refine⟨_,Xb,n,C,dx,_,_,Xb,s1 _ _ o1,T.cl,T.Wt,Ym _,A.l,_,Xb,X1.le,λo=>Qi3 (λi σ H2=>∃(x2:Option V)(N:List Nat),σ=[Ga (.ref n),Ga (.ref num),x2,Ge,Ge]/\H2 num=Ga (.dK (dS N λk=>jv (N.idxOf k)))/\N.Nodup/\N.length<=i/\(∀p∈x.S.take i,x.lead p∈N)/\H2 A.l=Ga (fz o (dS x.S λp=>jv (x.lead p)))/\∀b u,H b=Ga u->b≠A.l->H2 b=Ga u)
  ⟨_,[],Xb,Qi Qb nl,List.nodup_nil,Gv _,by simp,Qb,λb u e hb=>Qi (s1 _ _ e) hb⟩ (λi σ H2 _⟨_,_,_,_,_,_,_,h,_⟩=>h) ?_ ?_⟩
 ·rintro i pr σ H2 hi ⟨x2,N,rfl,Z,au,am,J,ag,fr⟩;obtain⟨p,D,rfl⟩:=Qwk hi;have pS:p∈x.S:=List.mem_of_getElem? D;have aM:i<x.S.length:=(List.getElem?_eq_some_iff.mp D).1;refine⟨_,Xb,.inr (.inr (.inl ⟨Xb,.inl ⟨_,Z⟩⟩)),_,Xb,n,C,dx,_,_,Xb,fr _ _ o1 ln,T.cl,T.Wt,Ym _,_,Xb,A.l,_,Xb,Qf3 (.inr ⟨o,ag⟩) pS,_,Xb,num,_,Xb,Z,num,ki (x.lead p),_,_,Xb,Xb,Z,by rw[Ww,Gu];omega,λv hv=>?_,λhv=>?_⟩
  ·have M:x.lead p∈N:=by refine LH λz=>?_;rw[Qku z]at hv;cases hv
   refine⟨_,N,Xb,Z,au,by omega,λr hr=>?_,ag,fr⟩;rw[List.take_add_one,D]at hr;rcases List.mem_append.mp hr with h|h
   ·exact J r h
   ·have:r=p:=by simpa using h
    rw[this];exact M
  ·have M:x.lead p∉N:=λz=>by rw[Qe2 z]at hv;cases hv
   have eo:We (dS N λk=>jv (N.idxOf k)) (ki (x.lead p)) (.int ((dS N λk=>jv (N.idxOf k)).length:Int))=dS (N++[x.lead p]) λk=>jv ((N++[x.lead p]).idxOf k):=by rw[Qaa M,Ww];refine Wo λk hk=>?_;rw[Qsz M hk];split<;>rfl
   rw[eo];refine⟨_,N++[x.lead p],Xb,Qb,List.nodup_append.mpr ⟨au,by simp,λa ha b hb=>by simp at hb;subst hb;exactλz=>M (z▸ha)⟩,by rw[List.length_append,List.length_singleton];omega,λr hr=>?_,Qi ag (Gn nl),λb u e hb=>Qi (fr b u e hb) (Qc e ab)⟩;rw[List.take_add_one,D]at hr;rcases List.mem_append.mp hr with h|h
   ·exact List.mem_append_left _ (J r h)
   ·have:r=p:=by simpa using h
    rw[this];simp
 rintro σ H2 ⟨x2,N,rfl,Z,au,am,J,ag,fr⟩;rw[Ww,List.take_length]at J;rw[Ww]at am;refine⟨o,ag,?_⟩;have t2:∀b u,H b=Ga u->(upd H2 A.l (.dK (dS x.S λp=>jv (x.lead p)))) b=Ga u:=λb u e=>by
  by_cases h:b=A.l
  ·subst h;rw[Qb,<-e];exact X.le.symm
  ·exact Qi (fr b u e h) h
 generalize az:(dS N λk=>jv (N.idxOf k))=kvs at Z;have ae:∀p∈x.S,Yq kvs (ki (x.lead p))=Ga (jv (N.idxOf (x.lead p))):=λp D=>by rw[<-az];exact Qe2 (J p D)
 generalize ay:(λk=>N.idxOf k)=G;have ae:∀p∈x.S,Yq kvs (ki (x.lead p))=Ga (jv (G (x.lead p))):=λp D=>by rw[<-ay];exact ae p D
 have ak:∀p∈x.S,∀q∈x.S,G (x.lead p)=G (x.lead q)->x.lead p=x.lead q:=λp D q R e=>by rw[<-ay]at e;exact Qgi (J p D) (J q R) e
 have av:(upd H2 A.l (.dK (dS x.S λp=>jv (x.lead p)))) num=Ga (.dK kvs):=Qi Z nl;generalize upd H2 A.l (.dK (dS x.S λp=>jv (x.lead p)))=H3 at t2 av;intro fo ah;have s4:=Qf ah (Vh P w fo []);have g4:Qv H (upd H3 fo (Vh P w fo [])):=λb u e=>s4 _ _ (t2 b u e);have X4:=X.same g4;have nf:num≠fo:=Qc av ah;have fl:A.l≠fo:=Qc (t2 _ _ X.le) ah;refine⟨A.l,_,X4.le,?_⟩;refine⟨_,Xb,n,C,dx,_,_,Xb,g4 _ _ o1,T.cl,T.Wt,Ym _,A.l,_,Xb,X4.le,λo=>Qi3 (λi σ U=>∃(x2 x4:Option V)(O:List KE),σ=[Ga (.ref n),Ga (.ref num),x2,Ga (.ref fo),x4]/\DH P w U fo O/\(∃ps:List Nat,ps.length<=i/\Paired (EnR fs x G (λb=>∃o,H b=Ga o) U) O ps/\(ps.map λp=>Zk (Yg fs) (Zl fs) x.lead p).Nodup/\(∀p∈ps,p∈x.S)/\∀p∈x.S.take i,∃p'∈ps,Zk (Yg fs) (Zl fs) x.lead p'=Zk (Yg fs) (Zl fs) x.lead p)/\U num=Ga (.dK kvs)/\U A.l=Ga (fz o (dS x.S λp=>jv (x.lead p)))/\∀b u,H b=Ga u->b≠A.l->U b=Ga u)
  ⟨_,_,[],Xb,⟨Qi Qb (Gn fl),(λp D=>nomatch D)⟩,⟨[],Gv _,.nil,List.nodup_nil,(λp D=>nomatch D),by simp⟩,Qi (Qi av nf) nl,Qb,λb u e hb=>Qi (g4 _ _ e) hb⟩ (λi σ U _⟨_,_,_,_,_,_,_,h,_⟩=>h) ?_ ?_⟩
 ·rintro i pr σ U hi ⟨x2,x4,O,rfl,D5,⟨ps,ap,ac,af,L,W⟩,an,d,Y⟩;obtain⟨p,D,rfl⟩:=Qwk hi;have pS:p∈x.S:=List.mem_of_getElem? D;have aM:i<x.S.length:=(List.getElem?_eq_some_iff.mp D).1;have few:=FO.few p;obtain⟨ws,f1,f2⟩:=X.fo;have tu:Qp H U:=λb xs e=>Y b _ e (Ye e X.le nofun);have fA:U A.f=Ga (.lst ws):=Y _ _ f1 (Ye f1 X.le nofun);have o5:=Y _ _ o1 ln;refine⟨_,Xb,n,dx,_,Xb,o5,Qc3 _,_,Xb,n,A,fs,x,p,Xb,⟨dx,o5⟩,⟨ws,fA,L2.Paired.Yb f2 λ_ _ h=>h.Qk tu⟩,.inr ⟨o,d⟩,FO.lt p pS,FO.pts p pS,by omega,λc H6 g6 aX fm=>?_⟩;obtain⟨c',e,ec,h1,h2⟩:=id fm;cases ec;simp only[Zk]at h1 h2;have aw:=g6 _ _ an;have D6:DH P w H6 fo O:=⟨g6 _ _ D5.at_,Q6 (Qp.of g6) D5.keys⟩;refine⟨_,Xb,c,_,_,_,Xb,Xb,Z4.of h1,Rv _ _,_,Xb,c,_,_,_,Xb,Xb,Z4.of h1,Re _ _ _,e,Xb,⟨_,Z4.of h2⟩,λr aq=>?_⟩;have s7:=Qf aq (.lst []);have aY:=Paired.length ac;refine Uq (K:=K) (a:=e) (xs:=((Zl fs p).map x.lead).map jv) (small (by rw[List.length_map,List.length_map];omega)) (λi ys σ H7=>(∃x0,σ=[x0,Ga (.ref num)])/\Qv H6 H7/\ys=((Zl fs p).take i).map λq=>jv (G (x.lead q))) ⟨⟨_,Xb⟩,s7,by simp⟩ (λi ys σ H7 _ h=>Z4.of (h.2.1 _ _ h2)) ?_ ?_
  ·rintro j y ys σ H7 hj aR ⟨⟨x0,rfl⟩,g7,rfl⟩ ai;rw[List.getElem?_map,List.getElem?_map]at hj;cases eq:(Zl fs p)[j]? with
   |none=>rw[eq]at hj;cases hj
   |some r'=>rw[eq]at hj;cases hj;have hv:=ae r' (FO.pts p pS r' (List.mem_of_getElem? eq));refine⟨_,Xb,_,Xb,num,_,Xb,(by have:=Wd.k (k:=ki (x.lead r')) (g7 _ _ aw);rw[hv]at this;exact this),ai,⟨_,Xb⟩,λb o eb=>Qi (g7 _ _ eb) (Qc eb aq),?_⟩;rw[List.take_add_one,eq,List.map_append];rfl
  ·rintro ys σ H7 aR ⟨_,g7,rfl⟩ ai;rw[List.length_map,List.length_map,List.take_length]at ai;have hv:=ae p pS;have aV:=g7 _ _ aw;have dg:Wd H7 num (jv (x.lead p)) (Ga (jv (G (x.lead p)))):=by have:=Wd.k (k:=ki (x.lead p)) aV;rw[hv]at this;exact this
   refine⟨_,Xb,_,Xb,n,C,dx,_,_,Xb,g7 _ _ (g6 _ _ o5),T.cl,T.Wt,Ym _,_,Xb,A.l,_,Xb,Qf3 (.inr ⟨o,g7 _ _ (g6 _ _ d)⟩) pS,num,_,Xb,dg,by show 3<=Gh;decide,λm hm=>?_⟩;generalize aP:jv (G (x.lead p))=v;have s8:=Qf hm (.tup [.str (Yg fs p),.ref r,v]);have g8:Qv H6 (upd H7 m (.tup [.str (Yg fs p),.ref r,v])):=g7.trans s8;have D8:DH P w (upd H7 m (.tup [.str (Yg fs p),.ref r,v])) fo O:=⟨g8 _ _ D6.at_,Q6 (Qp.of g8) D6.keys⟩;have k8:=(fm.Qk (Qp.of g8)).key (FO.str p);refine⟨_,Xb,_,Xb,fo,c,_,O,Xb,Xb,D8,k8,by rw[Gu];omega,?_⟩;have aW:∀b o,H b=Ga o->∃u,H6 b=Ga u:=λb o eb=>by
    by_cases hb:b=A.l
    ·rw[hb];exact⟨_,g6 _ _ d⟩
    ·exact⟨o,g6 _ _ (Y b o eb hb)⟩
   have aD:J1 (upd H7 m (.tup [.str (Yg fs p),.ref r,v])) (λb=>∃o,H b=Ga o) (.ref m) (Vb fs x G p):=⟨m,r,Xb,by rw[<-aP];exact Qb,by
    show _=Ga (HO.lst (((Zl fs p).map λq=>G (x.lead q)).map jv));rw[List.map_map];exact s8 _ _ ai,λ⟨o,eo⟩=>by
    obtain⟨u,aB⟩:=aW _ _ eo;rw[aq]at aB;cases aB⟩
   generalize al:Wr O (Yu (Zk (Yg fs) (Zl fs) x.lead p)) c (.ref m)=aj;have aG:∀{b:Gc}{xs:List V},(upd H7 m (.tup [.str (Yg fs p),.ref r,v])) b=Ga (.tup xs)->(upd (upd H7 m (.tup [.str (Yg fs p),.ref r,v])) fo (Vh P w fo aj)) b=Ga (.tup xs):=λe=>Qi e (Ye e D8.at_ nofun);have aU:∀{b:Gc}{xs:List V},(upd H7 m (.tup [.str (Yg fs p),.ref r,v])) b=Ga (.lst xs)->(upd (upd H7 m (.tup [.str (Yg fs p),.ref r,v])) fo (Vh P w fo aj)) b=Ga (.lst xs):=λe=>Qi e (Ye e D8.at_ nofun);have ad:Paired (EnR fs x G (λb=>∃o,H b=Ga o) (upd H7 m (.tup [.str (Yg fs p),.ref r,v]))) O ps:=L2.Paired.Yb ac λ_ _ h=>⟨h.1,h.2.kp (λe=>g8 _ _ (g6 _ _ e)) (λe _=>g8 _ _ (g6 _ _ e))⟩;have ar:∀q∈ps,Zk (Yg fs) (Zl fs) x.lead q=Zk (Yg fs) (Zl fs) x.lead p->Vb fs x G q=Vb fs x G p:=λq R e=>by have hl:=I.cong (L q R) pS e;simp only[Zk,TH]at e;unfold Vb;rw[e.1,hl];congr 2;have:=congrArg (List.map G) e.2;rw[List.map_map,List.map_map]at this;exact this
   have fin:∃aa:List Nat,aa.length<=i+1/\Paired (EnR fs x G (λb=>∃o,H b=Ga o) (upd H7 m (.tup [.str (Yg fs p),.ref r,v]))) aj aa/\(aa.map λp=>Zk (Yg fs) (Zl fs) x.lead p).Nodup/\(∀p∈aa,p∈x.S)/\∀q∈x.S.take (i+1),∃p'∈aa,Zk (Yg fs) (Zl fs) x.lead p'=Zk (Yg fs) (Zl fs) x.lead q:=by
    rw[<-al];unfold Wr;by_cases M:(Yf O (Yu (Zk (Yg fs) (Zl fs) x.lead p))).isSome=Gf
    ·rw[Gk M];refine⟨ps,by omega,Qud aD ar ad,af,L,λq R=>?_⟩;rw[List.take_add_one,D]at R;rcases List.mem_append.mp R with h|h
     ·exact W q h
     ·have:q=p:=by simpa using h
      rw[this];exact(Qhi ad _).mp M
    ·rw[Gg M];have aN:∀q∈ps,Zk (Yg fs) (Zl fs) x.lead q≠Zk (Yg fs) (Zl fs) x.lead p:=λq R e=>M ((Qhi ad _).mpr ⟨q,R,e⟩);refine⟨ps++[p],by rw[List.length_append,List.length_singleton];omega,Paired.snoc ad ⟨Xb,aD⟩,?_,λq R=>?_,λq R=>?_⟩
     ·rw[List.map_append];refine List.nodup_append.mpr ⟨af,by simp,λa ha b hb=>?_⟩;obtain⟨q,R,rfl⟩:=List.mem_map.mp ha;have:b=Zk (Yg fs) (Zl fs) x.lead p:=by simpa using hb
      rw[this];exact aN q R
     ·rcases List.mem_append.mp R with h|h
      ·exact L q h
      ·have:q=p:=by simpa using h
       rw[this];exact pS
     ·rw[List.take_add_one,D]at R;rcases List.mem_append.mp R with h|h
      ·obtain⟨p',h1,h2⟩:=W q h;exact⟨p',List.mem_append_left _ h1,h2⟩
      ·have:q=p:=by simpa using h
       rw[this];exact⟨p,by simp,Xb⟩
   obtain⟨aa,aH,aI,aJ,aK,aL⟩:=fin;exact⟨_,_,aj,Xb,⟨Qb,Q6 (λb xs e=>aG e) (by rw[<-al];exact D8.keys.put k8)⟩,⟨aa,aH,L2.Paired.Yb aI λ_ _ h=>⟨h.1,h.2.kp aG (λe _=>aU e)⟩,aJ,aK,aL⟩,Qi (g8 _ _ aw) nf,Qi (g8 _ _ (g6 _ _ d)) fl,λb u e hb=>Qi (g8 _ _ (g6 _ _ (Y b u e hb))) (Qc (t2 _ _ e) ah)⟩
 ·rintro σ U ⟨x2,x4,O,rfl,D5,⟨ps,ap,ac,af,L,W⟩,an,d,Y⟩;rw[Ww,List.take_length]at W;refine⟨o,d,?_⟩;have t6:Qv H (upd U A.l (.dK (dS x.S λp=>jv (x.lead p)))):=λb u e=>by
   by_cases h:b=A.l
   ·subst h;rw[Qb,<-e];exact X.le.symm
   ·exact Qi (Y b u e h) h
  have aF:∀{b:Gc}{xs:List V},U b=Ga (.tup xs)->(upd U A.l (.dK (dS x.S λp=>jv (x.lead p)))) b=Ga (.tup xs):=λe=>Qi e (Ye e d nofun);have aT:∀{b:Gc}{xs:List V},U b=Ga (.lst xs)->(upd U A.l (.dK (dS x.S λp=>jv (x.lead p)))) b=Ga (.lst xs):=λe=>Qi e (Ye e d nofun);have D6:DH P w (upd U A.l (.dK (dS x.S λp=>jv (x.lead p)))) fo O:=⟨Qi D5.at_ (Gn fl),Q6 (λb xs e=>aF e) D5.keys⟩;have ao:Paired (EnR fs x G (λb=>∃o,H b=Ga o) (upd U A.l (.dK (dS x.S λp=>jv (x.lead p))))) O ps:=L2.Paired.Yb ac λ_ _ h=>⟨h.1,h.2.kp aF (λe _=>aT e)⟩;generalize upd U A.l (.dK (dS x.S λp=>jv (x.lead p)))=H6 at t6 D6 ao;refine⟨_,Xb,⟨fo,O,Xb,D6.at_⟩,fo,O,Xb,Xb,D6,λvw aQ=>?_⟩;have s7:=Qf aQ (vvw vw fo);have D7:DH P w (upd H6 vw (vvw vw fo)) fo O:=⟨s7 _ _ D6.at_,Q6 (Qp.of s7) D6.keys⟩;refine⟨vw,fo,O,Xb,Qb,D7,λl hl=>?_⟩;have s8:=Qf hl (.lst (O.map λp=>p.2.2));have aE:=s7.trans s8;refine q (.ref l) (ps.map (Vb fs x G)) _ (t6.trans aE) ⟨l,_,Xb,Qb,(λ⟨o,eo⟩=>by rw[s7.free hl|>t6.free]at eo;cases eo),?_⟩ ⟨⟨G,ak,λp D=>?_,λr hr=>?_⟩,?_⟩
  ·have gen:∀{H':Hp},Qv H6 H'->∀{O:List KE}{ps:List Nat},Paired (EnR fs x G (λb=>∃o,H b=Ga o) H6) O ps->Paired (J1 H' (λb=>∃o,H b=Ga o)) (O.map λp=>p.2.2) (ps.map (Vb fs x G)):=λ{H'}g{O ps}h=>by
    induction h with
    |nil=>exact .nil
    |cons h t ih=>exact .cons (h.2.kp (λe=>g _ _ e) (λe _=>g _ _ e)) ih
   exact gen aE ao
  ·obtain⟨p',h1,h2⟩:=W p D;have hl:=I.cong (L p' h1) D h2;refine List.mem_map.mpr ⟨p',h1,?_⟩;simp only[Zk,TH]at h2;unfold Vb;rw[h2.1,hl];congr 2;have:=congrArg (List.map G) h2.2;rw[List.map_map,List.map_map]at this;exact this
  ·obtain⟨p,D,rfl⟩:=List.mem_map.mp hr;exact⟨p,L p D,Xb⟩
  ·rw[List.map_map];have:∀{ps:List Nat},(∀p∈ps,p∈x.S)->(ps.map λp=>Zk (Yg fs) (Zl fs) x.lead p).Nodup->(ps.map ((λr:Row=>(r.1,r.2.1))∘Vb fs x G)).Nodup:=by
    intro ps aA nd;unfold List.Nodup at nd⊢;rw[List.pairwise_map]at nd⊢;refine List.Pairwise.imp_of_mem (λ{a b}ha hb h z=>h ?_) nd;simp only[Sz,Vb,TH]at z;simp only[Zk,TH];refine⟨z.1,?_⟩;have aS:=aA a ha;have bS:=aA b hb;have inj:∀{l m:List Nat},(∀q∈l,q∈x.S)->(∀q∈m,q∈x.S)->l.map (λq=>G (x.lead q))=m.map (λq=>G (x.lead q))->l.map x.lead=m.map x.lead:=by
     intro l;induction l with
     |nil=>intro m _ _ e;cases m with
      |nil=>rfl
      |cons _ _=>simp at e
     |cons u l ih=>
      intro m hl hm e;cases m with
      |nil=>simp at e
      |cons u' m=>simp only[List.map_cons,List.cons.injEq]at e⊢;exact⟨ak u (hl u List.mem_cons_self) u' (hm u' List.mem_cons_self) e.1,ih (λq R=>hl q (List.mem_cons_of_mem _ R)) (λq R=>hm q (List.mem_cons_of_mem _ R)) e.2⟩
    exact inj (FO.pts a aS) (FO.pts b bS) z.2
   exact this L af
end
def X6(fs:List Fm)(lk:Lk):List (Nat×Nat):=match lk.2.2 with
 |none=>(Zl fs lk.1).zip (Zl fs lk.2.1)
 |some _=>[]
def Qgf(P:Gj)(w:Gs)(C:Gc):Sp:=λvs H Q _=>∃(n:Gc)(A:Na)(fs:List Fm)(tb:Nat)(x:Nn)(v:V)(lk:Lk),vs=[.ref n,v]/\Z3 P w C H n A fs tb x/\R0 H v lk/\lk.1<fs.length/\lk.2.1<fs.length/\
 ∀(r:Gc)(es:List V)(H':Hp),Qv H H'->H r=Ge->H' r=Ga (.lst es)->Paired (Qux H') es (X6 fs lk)->Q (.ref r) H'
structure Nd(fs:List Fm)(x:Nn)(one other:Nat)(ns:List Nat):Prop where
 lt:∀k∈ns,k<x.links.length
 top:∀st,Qaf x.up one other st->∀p q,(p,q)∈st->∀k,x.Y1 p q=Ga k->k∈ns
 low:∀k∈ns,∀lk,x.links[k]?=Ga lk->∀p q,(p,q)∈X6 fs lk->∀st,Qaf x.up p q st->∀u v,(u,v)∈st->∀j,x.Y1 u v=Ga j->j∈ns/\j<k
 only:∀k∈ns,∃st p q j,Qaf x.up one other st/\(p,q)∈st/\x.Y1 p q=Ga j/\k<=j
def Qhm(P:Gj)(w:Gs)(C:Gc):Sp:=λvs H Q _=>∃(n:Gc)(A:Na)(fs:List Fm)(tb:Nat)(x:Nn)(one a:Nat),vs=[.ref n,jv one,jv a]/\Z3 P w C H n A fs tb x/\X8 (Yg fs) (Zl fs) x []/\Qeg fs x.S/\one∈x.S/\a∈x.S/\x.lead one=x.lead a/\x.S.length<=1000/\x.links.length<64/\
 ∀(r:Gc)(ns:List Nat)(H':Hp),Qv H H'->H r=Ge->H' r=Ga (.lst (ns.map jv))->ns.Nodup->ns.Pairwise (·<=·)->Nd fs x one a ns->Q (.ref r) H'
theorem Qsp{r:Option U2}(h:Qnm H v r):decide (v=V.non)= !r.isSome:=by
 cases r with
 |none=>rw[show v=V.non from h];rfl
 |some r=>
  cases r with
  |told n=>obtain⟨c,rfl,_⟩:=h;rfl
  |asked=>obtain⟨c,rfl,_⟩:=h;rfl
theorem Qnb(I:X8 (Yg fs) (Zl fs) x []){lk:Lk}(d:x.links[k]?=Ga lk)(c:(p,q)∈X6 fs lk):p∈x.S/\q∈x.S/\Cn (x.links.take k) p q:=by
 obtain⟨a,b,r⟩:=lk;obtain⟨aS,bS,h⟩:=I.lnk k a b r d;cases r with
 |some r=>simp[X6]at c
 |none=>simp only[X6]at c;obtain⟨_,e,h⟩:=h rfl;obtain⟨i,hi⟩:=List.mem_iff_getElem?.mp c;rw[List.getElem?_zip_eq_some]at hi;exact⟨I.pt_ a aS p (List.mem_of_getElem? hi.1),I.pt_ b bS q (List.mem_of_getElem? hi.2),h i p q hi.1 hi.2⟩
section
variable{P:Gj}{w:Gs}{K:PySem.W.Frag}{mg:Gy->Option Value}{base:Heap}
theorem Qlm:Qy ["net","link"] ["net","link"] (Ql Qgq):=by eq_refl
theorem Qsu(F:Va K "pairs_below" "pairs_below" Qgq f fd)(T:V5 K mg C)(B:Ik mg):Qt P w K mg base Ya 1 f fd ["net","link"] (Qgf P w C):=by
 refine F.ok Qlm (λvs H Q E h=>?_) (λcdv A outer s H vs Q E Y h=>?_)
 ·obtain⟨n,A,fs,tb,x,v,lk,rfl,_⟩:=h;rfl
 obtain⟨n,A,fs,tb,x,v,lk,rfl,X,⟨c,r,rfl,z,G⟩,l1,l2,q⟩:=h;have nd:=Qlm.nd;refine⟨_,Qd (Zr (Qu O3 (Qn Q3 (pv 1) Qj) Ji (Za _)) (Qh (Qx (Zj Qe))) Q9)
  (Qh (Qx (Qcz rfl rfl B.list rfl B.zip (Qa (Qn Q3 (Qn Ze (Qm (pv 0) rfl) (Qn Q3 (pv 1) Qj)) Qj) (Qa (Qn Q3 (Qn Ze (Qm (pv 0) rfl) (Qn Q3 (pv 1) Qj)) Qj) Qe))))),?_⟩
 refine⟨_,Xb,c,_,_,_,Xb,Xb,Z4.of z,Qhe _ _ _ _,Xb,_,Xb,?_⟩;rw[Qsp G];obtain⟨a,b,M⟩:=lk;cases M with
 |some M=>refine Xf ⟨Gv _,λp J=>?_⟩;exact q p [] _ (Qf J _) J Qb .nil
 |none=>
  refine Zz ?_;obtain⟨dx,L⟩:=X.ob;obtain⟨k,I,j⟩:=X.fo;have d:a<k.length:=by rw[Paired.length j];exact l1
  have e:b<k.length:=by rw[Paired.length j];exact l2
  obtain⟨Z,g,N,R,l,o,u⟩:=Qw j (List.getElem?_eq_getElem d);obtain⟨y2,i,O,S,m,t,y⟩:=Qw j (List.getElem?_eq_getElem e);rw[Qfd l1]at g;rw[Qfd l2]at i;cases g;cases i;refine⟨_,Xb,n,C,dx,_,_,Xb,L,T.cl,T.Qdh,Um _,_,Xb,c,_,_,_,Xb,Xb,Z4.of z,Rv _ _,A.f,k,_,_,Xb,Xb,Zb.of I,Qz (List.getElem?_eq_getElem d),N,_,_,_,l,Xb,Z4.of o,Re _ _ _,?_⟩;refine⟨_,Xb,n,C,dx,_,_,Xb,L,T.cl,T.Qdh,Um _,_,Xb,c,_,_,_,Xb,Xb,Z4.of z,Re _ _ _,A.f,k,_,_,Xb,Xb,Zb.of I,Qz (List.getElem?_eq_getElem e),O,_,_,_,m,Xb,Z4.of t,Re _ _ _,?_⟩;exact⟨R,S,_,_,Xb,.inr ⟨Z4.of u,Z4.of y⟩,λr es H' W V D U=>q r es H' W V D (Qd1 U)⟩
theorem Qcj(T:V5 K mg C){es:List V}{st:List (Nat×Nat)}{N0:List Nat}{v1 v2 l x5 x6 x7:Option V}{D:Ends}
  (X:Z3 P w C H n A fs tb x)(g1:Qv H H1)(d0:H d=Ge)(hd:H1 d=Ga (.dK (dS N0 λ_=>V.bl Gf)))(hL:H1 L=Ga (.lst es))(G:Paired (Qux H1) es st)(hk:∀p q,(p,q)∈st->∃k,x.Y1 p q=Ga k/\k<m)(ad:N0.Nodup)(hm:m<=64)(hN:∀k∈N0,k<64)
  (q:∀N l H',N.Nodup->(∀k∈N0,k∈N)->(∀k∈N,k∈N0\/(k<m/\∃p q,(p,q)∈st/\x.Y1 p q=Ga k))->(∀p q k,(p,q)∈st->x.Y1 p q=Ga k->k∈N)->U3 d H1 H'->H' d=Ga (.dK (dS N λ_=>V.bl Gf))->D.nx [Ga (.ref n),v1,v2,Ga (.ref d),l,x5,x6,x7] H'):
  ∃W:Nat->Nat->St->Hp->Prop,(∃m,W 0 m [Ga (.ref n),v1,v2,Ga (.ref d),l,x5,x6,x7] H1)/\∀i m σ H,W i m σ H->
   ((Itl K L).stop i H/\D.nx σ H)\/((Itl K L).go i H/\∃N:St->Hp->Prop,(∀M H',N M H'->∃m',m'<m/\W (i+1) m' M H')/\∀x H',(Itl K L).yld i H x H'->Vj 4 x σ H' λae H2=>Qwa (Vp 3) (Qh8 (Qts K (Vp 0) "link_at") (Vp 4)) (tC (V.bl Gf)) {D with nx:=N,ct:=N,bk:=D.nx} ae H2):=by
 obtain⟨dx,o1⟩:=X.ob;obtain⟨kvs,Q,af,Y⟩:=X.at_;have Ld:L≠d:=Ye hL hd nofun;refine Yz (K:=K) (a:=L) (xs:=es) (λi σ H2=>∃(l:Option V)(N:List Nat),σ=[Ga (.ref n),v1,v2,Ga (.ref d),l,x5,x6,x7]/\N.Nodup/\(∀k∈N0,k∈N)/\(∀k∈N,k∈N0\/(k<m/\∃p q,(p,q)∈st/\x.Y1 p q=Ga k))/\(∀p q k,(p,q)∈st.take i->x.Y1 p q=Ga k->k∈N)/\U3 d H1 H2/\H2 d=Ga (.dK (dS N λ_=>V.bl Gf)))
  ⟨l,N0,Xb,ad,λ_ h=>h,λ_ h=>.inl h,by simp,U3.refl,hd⟩ (λi σ H2 _⟨_,_,_,_,_,_,_,b,_⟩=>Zb.of (b _ _ hL Ld)) ?_ ?_
 ·rintro i y σ H2 hi ⟨l,N,rfl,f,s1,s2,R,E,S⟩;obtain⟨⟨p,r⟩,he,c,rfl,hc⟩:=Qw G hi;have s:(p,r)∈st:=List.mem_of_getElem? he;obtain⟨k,u,ab⟩:=hk p r s;have nd1:n≠d:=Qc o1 d0;have ac:A.a≠d:=Qc Q d0;have o2:=E _ _ (g1 _ _ o1) nd1;have U:=E _ _ (g1 _ _ Q) ac;have Z:=E _ _ hc (Ye hc hd nofun);have dg:Wd H2 A.a (.ref c) (Ga (jv k)):=by have:=Wd.t (k:=[ki p,ki r]) U (show H2 c=Ga (.tup ([ki p,ki r].map kV))from Z);rw[Y p r,u]at this;exact this
  have ag:N.length<=64:=by have:N.length<=(List.range 64).length:=Xm f λk hk=>List.mem_range.mpr ((s2 k hk).elim (hN k) (λh=>by have:=h.1;omega));rwa[List.length_range]at this
  have dp:=Ra.k (k:=ki k) (v:=V.bl Gf) S (by rw[Ww,Gu];omega);refine⟨_,Xb,_,Xb,n,C,dx,_,_,Xb,o2,T.cl,T.Qb1,Qar _,_,Xb,A.a,_,Xb,dg,d,_,Xb,dp,?_⟩;have F:U3 d H1 (upd H2 d (.dK (We (dS N λ_=>V.bl Gf) (ki k) (V.bl Gf)))):=λc o e h=>Qi (E c o e h) h;have tk:∀{O:List Nat},(∀j∈N,j∈O)->k∈O->∀p q k,(p,q)∈st.take (i+1)->x.Y1 p q=Ga k->k∈O:=λ{O}hs aa p' q' k' J B=>by
   rw[List.take_add_one,he]at J;rcases List.mem_append.mp J with h|h
   ·exact hs _ (R p' q' k' h B)
   ·have:(p',q')=(p,r):=by simpa using h
    cases this;rw[u]at B;cases B;exact aa
  by_cases g:k∈N
  ·refine⟨_,N,Xb,f,s1,s2,tk (λ_ h=>h) g,F,?_⟩;rw[Qb,Qka g];congr 2;exact Wo λp _=>by split<;>rfl
  ·refine⟨_,N++[k],Xb,List.nodup_append.mpr ⟨f,by simp,λa Q b hb=>by simp at hb;subst hb;exactλz=>g (z▸Q)⟩,λj I=>List.mem_append_left _ (s1 j I),λj I=>?_,tk (λj I=>List.mem_append_left _ I) (by simp),F,?_⟩
   ·rcases List.mem_append.mp I with h|h
    ·exact s2 j h
    ·have:j=k:=by simpa using h
     rw[this];exact .inr ⟨ab,p,r,s,u⟩
   ·rw[Qb,Qaa g];congr 2;exact Wo λp _=>by split<;>rfl
 ·rintro σ H2 ⟨l,N,rfl,f,s1,s2,R,E,S⟩;rw[Paired.length G,List.take_length]at R;exact q N l H2 f s1 s2 R E S
theorem Qho:Qy ["net","one","other","needed","step","number","part","twin"] ["net","one","other"] (Ql Qbv):=by eq_refl
theorem Qnj(F:Va K "links_needed" "links_needed" Qbv f fd)(T:V5 K mg C)(B:Ik mg)(mW:Yc K C "way" fW)(GW:Qt P w K mg base Ya 2 fW fdW ["self","one","other"] (Qsx P w C))(bW:Binds K fdW ["self","one","other"] [])
  (GB:Qt P w K mg base Ya 1 fB fdB ["net","link"] (Qgf P w C))(kB:KI K fB)(bB:Binds K fdB ["net","link"] [])(mB:MG mg "pairs_below" fB):
  Qt P w K mg base Ya 3 f fd ["net","one","other"] (Qhm P w C):=by
 refine F.ok Qho (λvs H Q E h=>?_) (λcdv A outer s H vs Q E hr h=>?_)
 ·obtain⟨n,A,fs,tb,x,one,G,rfl,_⟩:=h;rfl
 obtain⟨n,A,fs,tb,x,one,G,rfl,X,I,FO,oS,tS,he,hS,aI,q⟩:=h;have hu:=Ut hr;have aG:Yd 1 _:=hr.mono (by omega);have nd:=Qho.nd;refine⟨_,Qd (Qs 3 nd U1)
  (Qd (Z6 Gq rfl (Yn (Zd (pv 0) T.cl mW GW hr bW .nil Q4 (Qa (pv 1) (Qa (pv 2) Qe)))) (Z2 4 nd)
   (Qh (Wl hu (pv 3) (Zt hu (Qm (pv 0) rfl) (pv 4) (λ_ _=>rfl)) Wk Xb)))
  (Qd (Z6 Gq rfl (Qu6 rfl B.range (Qa (Zf Qk2 (Qo Zo rfl B.len PySem.boot_len (Qa (Qm (pv 0) rfl) Qe)) Qj) (Qa (Ou U7 Qj) (Qa (Ou U7 Qj) Qe)))) (Z2 5 nd)
   (Qh (Zr (Qae (Qjs hu (pv 5) (pv 3)))
    (Qh (Z6 Gq rfl (Yn (Zv GB aG rfl mB kB bB .nil Q4 (Qa (pv 0) (Qa (Qn Ze (Qm (pv 0) rfl) (pv 5)) Qe)))) (Vf rfl (Zm (Z2 6 nd) (Zm (Z2 7 nd) Wb)))
     (Qh (Z6 Gq rfl (Yn (Zd (pv 0) T.cl mW GW hr bW .nil Q4 (Qa (pv 6) (Qa (pv 7) Qe)))) (Z2 4 nd)
      (Qh (Wl hu (pv 3) (Zt hu (Qm (pv 0) rfl) (pv 4) (λ_ _=>rfl)) Wk Xb)))))) Q9)))
  (Qh (Qx (Qo (Qji Xb) rfl B.sorted LU (Qa (pv 3) Qe)))))),?_⟩
 intro d d0;have s1:=Qf d0 (.dK []);obtain⟨dx,o1⟩:=X.ob;obtain⟨ls,an,av⟩:=X.li;have ar:=Paired.length av;have aH:∀p q k,x.Y1 p q=Ga k->k<x.links.length:=λp q k h=>by obtain⟨r,h|h⟩:=I.fst.Qgm p q k h<;>exact(List.getElem?_eq_some_iff.mp h).1
 refine⟨_,Xb,n,dx,_,Xb,s1 _ _ o1,Qla _,_,Xb,_,Xb,n,A,fs,tb,x,one,G,Xb,X.same s1,I,oS,tS,he,hS,λL es st H2 g2 L0 hL aB W=>⟨L,Xb,⟨_,Zb.of hL⟩,?_⟩⟩;refine Qcj T X (s1.trans g2) d0 (N0:=[]) (g2 _ _ Qb) hL aB (m:=x.links.length) (λp q h=>?_) List.nodup_nil (by omega) (λk g=>nomatch g) λN x4 H3 R i1 i2 i3 bt e3=>?_
 ·obtain⟨k,h1,h2⟩:=W.lk p q h;exact⟨k,h1,aH _ _ _ h1⟩
 have g3:Qv H H3:=λb o e=>bt _ _ (g2 _ _ (s1 _ _ e)) (Qc e d0);refine⟨_,Xb,n,C,dx,_,_,Xb,g3 _ _ o1,T.cl,T.links,Uu _,A.k,_,Xb,.inl (Zb.of (g3 _ _ an)),_,_,Xb,Xb,_,Xb,_,Xb,x.links.length,by rw[ar],by omega,?_⟩;refine Qpi (λi σ H4=>∃(x4 x5 x6 x7:Option V)(N:List Nat),σ=[Ga (.ref n),Ga (jv one),Ga (jv G),Ga (.ref d),x4,x5,x6,x7]/\Qv H H4/\H4 d=Ga (.dK (dS N λ_=>V.bl Gf))/\N.Nodup/\(∀k∈N,k<x.links.length)/\(∀p q k,(p,q)∈st->x.Y1 p q=Ga k->k∈N)/\(∀k∈N,∃p q j,(p,q)∈st/\x.Y1 p q=Ga j/\k<=j)/\
   ∀k∈N,x.links.length - i<=k->∀lk,x.links[k]?=Ga lk->∀p q,(p,q)∈X6 fs lk->∀st,Qaf x.up p q st->∀u v,(u,v)∈st->∀j,x.Y1 u v=Ga j->j∈N/\j<k)
  ⟨_,_,_,_,N,Xb,g3,e3,R,λk g=>(i2 k g).elim nofun (·.1),i3,λk g=>(i2 k g).elim nofun (λ⟨_,p,q,h1,h2⟩=>⟨p,q,k,h1,h2,Gm _⟩),λk g h=>?_⟩ ?_ ?_
 ·have:=(i2 k g).elim nofun (·.1);omega
 ·rintro i σ H4 hi ⟨x4,x5,x6,x7,N,rfl,g4,e4,R,Z,Y,l,U⟩;have ai:((x.links.length:Int) - 1 - (i:Int))=((x.links.length - 1 - i:Nat):Int):=by omega
  rw[ai];generalize aL:x.links.length - 1 - i=J;have kl:J<x.links.length:=by omega
  have dg:Wd H4 d (jv J) (Yq (dS N λ_=>V.bl Gf) (ki J)):=Wd.k (k:=ki J) e4;refine⟨_,Xb,_,Xb,d,_,Xb,dg,_,Xb,?_⟩;rw[Qlz];by_cases af:J∈N
  ·rw[GQ af];refine Xf ?_;have am:J<ls.length:=by omega
   obtain⟨lk,ac,aq⟩:=Qw av (List.getElem?_eq_getElem am);have ah:=aq.Qk (Qp.of g4);obtain⟨a,b,rs⟩:=lk;obtain⟨aS,bS,_⟩:=I.lnk J a b rs ac;refine⟨_,Xb,_,Xb,n,C,dx,_,_,Xb,g4 _ _ o1,T.cl,T.links,Uu _,_,Xb,A.k,ls,_,_,Xb,Xb,Zb.of (g4 _ _ an),Qz (List.getElem?_eq_getElem am),n,A,fs,tb,x,_,(a,b,rs),Xb,X.same g4,ah,FO.lt a aS,FO.lt b bS,λL5 aA H5 g5 aw aj ag=>⟨L5,Xb,⟨_,Zb.of aj⟩,?_⟩⟩;have ax:L5≠d:=Gn (Qc e4 aw);have low:∀{O:List Nat}{i':Nat},(∀k∈N,k∈O)->(∀k∈O,k∈N\/k<J)->(∀p q,(p,q)∈X6 fs (a,b,rs)->∀st,Qaf x.up p q st->∀u v,(u,v)∈st->∀j,x.Y1 u v=Ga j->j∈O/\j<J)->
     ∀k∈O,x.links.length - (i+1)<=k->∀lk,x.links[k]?=Ga lk->∀p q,(p,q)∈X6 fs lk->∀st,Qaf x.up p q st->∀u v,(u,v)∈st->∀j,x.Y1 u v=Ga j->j∈O/\j<k:=λ{O i'}a1 a2 a3 k g h lk ad p q t S D u v M j hj=>by
    rcases Tb k (x.links.length - i)with h2|h2
    ·have:k=J:=by omega
     subst this;rw[ac]at ad;cases ad;exact a3 p q t S D u v M j hj
    ·have aD:k∈N:=(a2 k g).elim id λz=>by omega
     obtain⟨b1,b2⟩:=U k aD h2 lk ad p q t S D u v M j hj;exact⟨a1 _ b1,b2⟩
   refine Yz (K:=K) (a:=L5) (xs:=aA) (λi5 σ H6=>∃(x4 x6 x7:Option V)(O:List Nat),σ=[Ga (.ref n),Ga (jv one),Ga (jv G),Ga (.ref d),x4,Ga (jv J),x6,x7]/\U3 d H5 H6/\H6 d=Ga (.dK (dS O λ_=>V.bl Gf))/\O.Nodup/\(∀k∈N,k∈O)/\(∀k∈O,k∈N\/k<J)/\
     ∀p q,(p,q)∈(X6 fs (a,b,rs)).take i5->∀st,Qaf x.up p q st->∀u v,(u,v)∈st->∀j,x.Y1 u v=Ga j->j∈O/\j<J)
    ⟨_,_,_,N,Xb,U3.refl,g5 _ _ e4,R,λ_ h=>h,λ_ h=>.inl h,by simp⟩ (λi5 σ H6 _⟨_,_,_,_,_,bt,_⟩=>Zb.of (bt _ _ aj ax)) ?_ ?_
   ·rintro i5 y σ H6 aC ⟨x4,x6,x7,O,rfl,ab,e6,ae,sub,only,done⟩;obtain⟨⟨p,r⟩,ap,c,rfl,hc⟩:=Qw ag aC;have ao:(p,r)∈X6 fs (a,b,rs):=List.mem_of_getElem? ap;obtain⟨pS,rS,cn⟩:=Qnb I ac ao;have g6:Qv H H6:=λb o e=>ab _ _ (g5 _ _ (g4 _ _ e)) (Qc e d0);have aF:x.lead p=x.lead r:=(I.conn p pS r rS).mpr (cn.mono λz hz=>List.mem_of_mem_take hz);have c6:=ab _ _ hc (Ye hc (g5 _ _ e4) nofun);refine⟨c,_,Xb,Z4.of c6,Xb,_,_,Xb,_,_,Xb,Xb,?_⟩;refine⟨_,Xb,n,dx,_,Xb,g6 _ _ o1,Qla _,_,Xb,_,Xb,n,A,fs,tb,x,p,r,Xb,X.same g6,I,pS,rS,aF,hS,λL7 aK aM H7 g7 aJ ak al W7=>⟨L7,Xb,⟨_,Zb.of ak⟩,?_⟩⟩;refine Qcj T X (g6.trans g7) d0 (N0:=O) (g7 _ _ e6) ak al (m:=J) (λp q h=>?_) ae (by omega) (λk g=>?_) λN8 x4 H8 au i1 i2 i3 ay e8=>?_
    ·obtain⟨k,h1,h2⟩:=W7.lk p q h;exact⟨k,h1,h2 J cn⟩
    ·rcases only k g with h|h
     ·have:=Z k h;omega
     ·omega
    ·refine⟨_,_,_,N8,Xb,λb o e h=>ay _ _ (g7 _ _ (ab _ _ e h)) h,e8,au,λk g=>i1 k (sub k g),λk g=>(i2 k g).elim (only k) (λh=>.inr h.1),λp' q' t S D u v M j hj=>?_⟩;rw[List.take_add_one,ap]at t;rcases List.mem_append.mp t with h|h
     ·obtain⟨b1,b2⟩:=done p' q' h S D u v M j hj;exact⟨i1 _ b1,b2⟩
     ·have:(p',q')=(p,r):=by simpa using h
      cases this;have:=D.uniq W7.rel;subst this;obtain⟨k,h1,h2⟩:=W7.lk u v M;rw[hj]at h1;cases h1;exact⟨i3 u v j M hj,h2 J cn⟩
   ·rintro σ H6 ⟨x4,x6,x7,O,rfl,ab,e6,ae,sub,only,done⟩;rw[Paired.length ag,List.take_length]at done;exact⟨_,_,_,_,O,Xb,λb o e=>ab _ _ (g5 _ _ (g4 _ _ e)) (Qc e d0),e6,ae,λk g=>(only k g).elim (Z k) (λh=>by omega),λp q k h1 h2=>sub _ (Y p q k h1 h2),λk g=>(only k g).elim (l k) (λh=>by obtain⟨p,q,j,h1,h2,h3⟩:=l J af;exact⟨p,q,j,h1,h2,by omega⟩),low (i':=0) sub only done⟩
  ·rw[Gx af];refine Zz ⟨_,_,_,_,N,Xb,g4,e4,R,Z,Y,l,λk g h=>?_⟩;rcases Tb k (x.links.length - i)with h2|h2
   ·have:k=J:=by omega
    exact absurd (this▸g) af
   ·exact U k g h2
 ·rintro σ H4 ⟨x4,x5,x6,x7,N,rfl,g4,e4,R,Z,Y,l,U⟩;have aE:N.length<64:=by have:N.length<=(List.range x.links.length).length:=Xm R λk g=>List.mem_range.mpr (Z k g);rw[List.length_range]at this;omega
  refine⟨_,Xb,d,_,N.map (λk:Nat=>(k:Int)),Xb,e4,?_,by rw[Ww];exact aE,λr ns r0 hp hs=>?_⟩
  ·unfold dS;rw[List.map_map,List.map_map];rfl
  have az:ns=(ns.map Dp).map (λk:Nat=>(k:Int)):=by rw[List.map_map];refine(List.map_id ns).symm.trans (List.map_congr_left λz hz=>?_);have:=hp.mem_iff.mp hz;obtain⟨k,_,rfl⟩:=List.mem_map.mp this;rfl
  have aa:(ns.map Dp).Perm N:=by
   have:=hp.map Dp;rw[List.map_map]at this;have e:(N.map (Dp∘λk:Nat=>(k:Int)))=N:=by refine(List.map_congr_left λk _=>?_).trans (List.map_id N);rfl
   rwa[e]at this
  have eo:HO.lst (ns.map V.int)=HO.lst ((ns.map Dp).map jv):=by
   congr 1
   conv=>lhs;rw[az]
   rw[List.map_map];rfl
  have pw:(ns.map Dp).Pairwise (·<=·):=by rw[List.pairwise_map];exact hs.imp λh=>by omega
  rw[eo];refine q r (ns.map Dp) _ (g4.trans (Qf r0 _)) (g4.free r0) Qb (aa.nodup_iff.mpr R) pw ⟨λk g=>Z k (aa.mem_iff.mp g),λS D p q' t k g=>?_,λk g lk ac p q' t S D u v M j hj=>?_,λk g=>?_⟩
  ·have:=D.uniq W.rel;subst this;exact aa.mem_iff.mpr (Y p q' k t g)
  ·obtain⟨b1,b2⟩:=U k (aa.mem_iff.mp g) (by omega) lk ac p q' t S D u v M j hj;exact⟨aa.mem_iff.mpr b1,b2⟩
  ·obtain⟨p,q',j,h1,h2,h3⟩:=l k (aa.mem_iff.mp g);exact⟨st,p,q',j,W.rel,h1,h2,h3⟩
end
inductive Lr where
 |told (n:Nat)
 |asked
 |turn (k:Nat)
 |chain (ks:List Nat)
 |like (ks:List Nat)
abbrev Ln:=Nat×Nat×Lr
variable{ls:List Ln}
def Chn(pre:List Ln):Nat->List Nat->Nat->Prop
 |p,[],q=>p=q
 |p,k::a,q=>∃m r,pre[k]?=Ga (p,m,r)/\Chn pre m a q
def Okl(fs:List Fm)(lks:List Lk)(pre:List Ln)(a b:Nat):Lr->Prop
 |.told n=>(a,b,Ga (.told n))∈lks
 |.asked=>(a,b,Ga .asked)∈lks
 |.turn k=>∃r,pre[k]?=Ga (b,a,r)
 |.chain c=>Chn pre a c b
 |.like c=>Yg fs a=Yg fs b/\(Zl fs a).length=(Zl fs b).length/\c.length=(Zl fs a).length/\∀j k p q:Nat,c[j]?=Ga k->(Zl fs a)[j]?=Ga p->(Zl fs b)[j]?=Ga q->∃r,pre[k]?=Ga (p,q,r)
def Gdl(fs:List Fm)(lks:List Lk)(ls:List Ln):Prop:=∀(i a b:Nat)r,ls[i]?=Ga (a,b,r)->Okl fs lks (ls.take i) a b r
theorem Gdl.nil:Gdl fs lks []:=λi a b r h=>by simp at h
theorem Gdl.snoc{r:Lr}(g:Gdl fs lks ls)(h:Okl fs lks ls a b r):Gdl fs lks (ls++[(a,b,r)]):=λi d e f hi=>by
 rcases Tb i ls.length with c|c
 ·rw[List.getElem?_append_left c]at hi;rw[List.take_append_of_le_length (by omega)];exact g i d e f hi
 ·rw[List.getElem?_append_right c]at hi;have:i=ls.length:=by
   rcases Tb (i - ls.length) 1 with h1|h1
   ·omega
   ·rw[List.getElem?_eq_none (by simpa using h1)]at hi;cases hi
  subst this;simp at hi;obtain⟨rfl,rfl,rfl⟩:=hi;rw[List.take_left];exact h
def Qav(H:Hp)(X:Gc->Prop)(v:V):Lr->Prop
 |.told n=>∃c,v=.ref c/\H c=Ga (.tup [.str "told",jv n])
 |.asked=>∃c,v=.ref c/\H c=Ga (.tup [.str "asked"])
 |.turn k=>∃c,v=.ref c/\H c=Ga (.tup [.str "turn",jv k])
 |.chain a=>∃c l,v=.ref c/\H c=Ga (.tup [.str "chain",.ref l])/\H l=Ga (.lst (a.map jv))/\¬X l
 |.like a=>∃c l,v=.ref c/\H c=Ga (.tup [.str "like",.ref l])/\H l=Ga (.lst (a.map jv))/\¬X l
def Qga(H:Hp)(X:Gc->Prop)(us:List V)(v:V)(l:Ln):Prop:=∃c a b rv,v=.ref c/\H c=Ga (.tup [a,b,rv])/\us[l.1]?=Ga a/\us[l.2.1]?=Ga b/\Qav H X rv l.2.2
structure Ii(L M:Gc)(H H':Hp):Prop where
 keep:∀b o,H b=Ga o->b≠L->b≠M->H' b=Ga o
 there:∀b,H' b=Ge->H b=Ge
theorem Ii.refl:Ii L M H H:=⟨λ_ _ e _ _=>e,λ_ h=>h⟩
theorem Ii.trans{H2:Hp}(a:Ii L M H H1)(b:Ii L M H1 H2):Ii L M H H2:=⟨λc o e h1 h2=>b.keep c o (a.keep c o e h1 h2) h1 h2,λc h=>a.there c (b.there c h)⟩
theorem Ii.of(g:Qv H H1):Ii L M H H1:=⟨λc o e _ _=>g c o e,λc h=>g.free h⟩
theorem Qav.kp(tp:∀{c:Gc}{ys:List V},H c=Ga (.tup ys)->H' c=Ga (.tup ys))(lp:∀{c:Gc}{ys:List V},H c=Ga (.lst ys)->¬X c->H' c=Ga (.lst ys)):∀{r:Lr},Qav H X v r->Qav H' X v r:=by
 intro r h;cases r with
 |told n=>obtain⟨c,h1,h2⟩:=h;exact⟨c,h1,tp h2⟩
 |asked=>obtain⟨c,h1,h2⟩:=h;exact⟨c,h1,tp h2⟩
 |turn k=>obtain⟨c,h1,h2⟩:=h;exact⟨c,h1,tp h2⟩
 |chain d=>obtain⟨c,l,h1,h2,b,a⟩:=h;exact⟨c,l,h1,tp h2,lp b a,a⟩
 |like d=>obtain⟨c,l,h1,h2,b,a⟩:=h;exact⟨c,l,h1,tp h2,lp b a,a⟩
theorem Qga.kp{X:Gc->Prop}{H H':Hp}(tp:∀{c:Gc}{ys:List V},H c=Ga (.tup ys)->H' c=Ga (.tup ys))(lp:∀{c:Gc}{ys:List V},H c=Ga (.lst ys)->¬X c->H' c=Ga (.lst ys)){us:List V}{v:V}{l:Ln}(h:Qga H X us v l):Qga H' X us v l:=by obtain⟨c,e,f,rv,h1,h2,a,b,d⟩:=h;exact⟨c,e,f,rv,h1,tp h2,a,b,d.kp tp lp⟩
theorem Qav.ex{Y:Gc->Prop}(d:∀c ys,H c=Ga (.lst ys)->¬X c->¬Y c):∀{r:Lr},Qav H X v r->Qav H Y v r:=by
 intro r h;cases r with
 |told n=>exact h
 |asked=>exact h
 |turn k=>exact h
 |chain e=>obtain⟨c,l,h1,h2,a,b⟩:=h;exact⟨c,l,h1,h2,a,d _ _ a b⟩
 |like e=>obtain⟨c,l,h1,h2,a,b⟩:=h;exact⟨c,l,h1,h2,a,d _ _ a b⟩
theorem Qga.ex{X Y:Gc->Prop}{H:Hp}(e:∀c ys,H c=Ga (.lst ys)->¬X c->¬Y c){us:List V}{v:V}{l:Ln}(h:Qga H X us v l):Qga H Y us v l:=by obtain⟨c,f,g,rv,h1,h2,a,b,d⟩:=h;exact⟨c,f,g,rv,h1,h2,a,b,d.ex e⟩
structure Sv where
 sh:Gc
 n:Gc
 t:Gc
 L:Gc
 M:Gc
 A:Na
 fs:List Fm
 tb:Nat
 x:Nn
 us:List V
 H0:Hp
 Ex:Gc->Prop
def Qbc(v:Sv):List (Gy×V):=[("things",.ref v.t),("net",.ref v.n),("lines",.ref v.L),("numbers",.ref v.M)]
structure W0(P:Gj)(w:Gs)(C D:Gc)(v:Sv)(H:Hp)(ls:List Ln)(N:Nat->Nat->Option Nat):Prop where
 ob:∃dx,H v.sh=Ga (.ins D dx (Qbc v))
 O9:Qv v.H0 H
 L0:v.H0 v.L=Ge
 M0:v.H0 v.M=Ge
 net:Z3 P w C v.H0 v.n v.A v.fs v.tb v.x
 th:v.H0 v.t=Ga (.lst v.us)
 li:∃vs,H v.L=Ga (.lst vs)/\Paired (Qga H v.Ex v.us) vs ls
 nu:∃kvs,H v.M=Ga (.dT kvs)/\kvs.length<=ls.length/\∀i j:Nat,Yq kvs [ki i,ki j]=(N i j).map jv
 ok:∀i j k,N i j=Ga k->∃r,ls[k]?=Ga (i,j,r)
 good:Gdl v.fs v.x.links ls
 exL:v.Ex v.L
 exA:∀b,v.Ex b->∃o,H b=Ga o
theorem Ii.tp{kvs:List (List Xh×V)}(F:Ii L M H H')(b:H M=Ga (.dT kvs))(a:H L=Ga (.lst xs)){c:Gc}(e:H c=Ga (.tup ys)):H' c=Ga (.tup ys):=F.keep _ _ e (Ye e a nofun) (Ye e b nofun)
theorem Ii.lp{kvs:List (List Xh×V)}(F:Ii L M H H')(b:H M=Ga (.dT kvs))(a:X L){c:Gc}(e:H c=Ga (.lst ys))(h:¬X c):H' c=Ga (.lst ys):=F.keep _ _ e (λz=>h (z▸a)) (Ye e b nofun)
theorem W0.fr{v:Sv}(S:W0 P w C D v H ls N)(g:Qv H H'):W0 P w C D v H' ls N:=by obtain⟨dx,a⟩:=S.ob;obtain⟨vs,l1,l2⟩:=S.li;obtain⟨kvs,n1,n2,n3⟩:=S.nu;exact⟨⟨dx,g _ _ a⟩,S.O9.trans g,S.L0,S.M0,S.net,S.th,⟨vs,g _ _ l1,L2.Paired.Yb l2 λ_ _ h=>h.kp (λe=>g _ _ e) (λe _=>g _ _ e)⟩,⟨kvs,g _ _ n1,n2,n3⟩,S.ok,S.good,S.exL,λb hb=>let⟨o,e⟩:=S.exA b hb;⟨o,g _ _ e⟩⟩
theorem W0.more{v:Sv}(S:W0 P w C D v H ls N)(d:H r=Ge):W0 P w C D {v with Ex:=λb=>v.Ex b\/b=r} (upd H r (.lst [])) ls N:=by
 have S1:=S.fr (Qf d (.lst []));obtain⟨vs,l1,l2⟩:=S.li;obtain⟨f,a,i⟩:=S1.li;have:f=vs:=by rw[Qf d (.lst []) _ _ l1]at a;cases a;rfl
 subst this;refine⟨S1.ob,S1.O9,S1.L0,S1.M0,S1.net,S1.th,⟨f,a,L2.Paired.Yb l2 λ_ _ h=>(h.ex (Y:=λb=>v.Ex b\/b=r) λc ys e g z=>?_).kp (λe=>Qf d _ _ _ e) (λe _=>Qf d _ _ _ e)⟩,S1.nu,S1.ok,S1.good,.inl S1.exL,λb hb=>?_⟩
 ·rcases z with z|z
  ·exact g z
  ·rw[z,d]at e;cases e
 ·rcases hb with hb|hb
  ·exact S1.exA b hb
  ·exact⟨_,by rw[hb];exact Qb⟩
theorem W0.less{v:Sv}(S:W0 P w C D {v with Ex:=λb=>v.Ex b\/b=r} H ls N)(a:v.Ex v.L):W0 P w C D v H ls N:=by obtain⟨vs,l1,l2⟩:=S.li;exact⟨S.ob,S.O9,S.L0,S.M0,S.net,S.th,⟨vs,l1,L2.Paired.Yb l2 λ_ _ h=>h.ex λc ys e d z=>d (.inl z)⟩,S.nu,S.ok,S.good,a,λb hb=>S.exA b (.inl hb)⟩
theorem W0.grow{v:Sv}{zs:List V}(S:W0 P w C D v H ls N)(j:v.Ex r)(c:H r=Ga (.lst ys))(g:r≠v.L)(f:v.H0 r=Ge):W0 P w C D v (upd H r (.lst zs)) ls N:=by
 obtain⟨dx,d⟩:=S.ob;obtain⟨vs,l1,l2⟩:=S.li;obtain⟨kvs,n1,n2,n3⟩:=S.nu;refine⟨⟨dx,Qi d (Ye d c nofun)⟩,λb o e=>Qi (S.O9 _ _ e) (Qc e f),S.L0,S.M0,S.net,S.th,⟨vs,Qi l1 (Gn g),L2.Paired.Yb l2 λ_ _ h=>h.kp (λe=>Qi e (Ye e c nofun)) (λe i=>Qi e (λz=>i (z▸j)))⟩,⟨kvs,Qi n1 (Ye n1 c nofun),n2,n3⟩,S.ok,S.good,S.exL,λb hb=>?_⟩;by_cases a:b=r
 ·exact⟨_,by rw[a];exact Qb⟩
 ·obtain⟨o,e⟩:=S.exA b hb;exact⟨o,Qi e a⟩
theorem W0.same{v:Sv}(S:W0 P w C D v H ls N)(F:Ii v.L v.M H H'):Qv v.H0 H':=λb o e=>F.keep b o (S.O9 b o e) (Qc e S.L0) (Qc e S.M0)
def putN(N:Nat->Nat->Option Nat)(a b m:Nat):Nat->Nat->Option Nat:=λi j=>if i=a/\j=b then Ga m else N i j
structure Qno(K:PySem.W.Frag)(D:Gc):Prop where
 cl:Cls K D
 things:Yr K D "things"
 net:Yr K D "net"
 lines:Yr K D "lines"
 Jq:Yr K D "numbers"
theorem Qfm(v:Sv):(Qbc v).lookup ("things":Gy)=Ga (.ref v.t):=by rfl
theorem Qrq(v:Sv):(Qbc v).lookup ("net":Gy)=Ga (.ref v.n):=by rfl
theorem Qdo(v:Sv):(Qbc v).lookup ("lines":Gy)=Ga (.ref v.L):=by rfl
theorem Wv(v:Sv):(Qbc v).lookup ("numbers":Gy)=Ga (.ref v.M):=by rfl
theorem Qhc(v:Sv):(Qbc v).lookup ("write":Gy)=Ge:=by rfl
theorem Qf2(v:Sv):(Qbc v).lookup ("write_link":Gy)=Ge:=by rfl
theorem Ry(v:Sv):(Qbc v).lookup ("line_for":Gy)=Ge:=by rfl
def Qfv(P:Gj)(w:Gs)(C D:Gc):Sp:=λvs H Q _=>∃(v:Sv)(ls:List Ln)(N:Nat->Nat->Option Nat)(a b:Nat)(rv:V)(r:Lr),vs=[.ref v.sh,jv a,jv b,rv]/\W0 P w C D v H ls N/\a<v.us.length/\b<v.us.length/\Qav H v.Ex rv r/\Okl v.fs v.x.links ls a b r/\ls.length<=1000000/\
 ∀H',W0 P w C D v H' (ls++[(a,b,r)]) (putN N a b ls.length)->Ii v.L v.M H H'->Q .non H'
section
variable{P:Gj}{w:Gs}{K:PySem.W.Frag}{mg:Gy->Option Value}{base:Heap}
theorem Qtm:Qy ["self","one","other","reason"] ["self","one","other","reason"] (Ql Qf8):=by eq_refl
theorem Qsr(F:Va K "write" "Showing.write" Qf8 f fd)(T:Qno K D)(B:Ik mg):Qt P w K mg base Ya 1 f fd ["self","one","other","reason"] (Qfv P w C D):=by
 refine F.ok Qtm (λvs H Q E h=>?_) (λcdv A outer s H vs Q E hr h=>?_)
 ·obtain⟨v,ls,N,a,b,rv,r,rfl,_⟩:=h;rfl
 obtain⟨v,ls,N,a,b,rv,r,rfl,S,al,bl,U,Zu,X,q⟩:=h;have hu:=Ut hr;refine⟨_,Qd (Wl hu (Qm (pv 0) rfl) (Q8 (Qa (pv 1) (Qa (pv 2) Qe))) (Qo Zo rfl B.len PySem.boot_len (Qa (Qm (pv 0) rfl) Qe)) rfl)
  (Qh (Zc (Xn PySem.F.plainAttrs_list PySem.F.slot_list_append PySem.F.type_list_append Zq (Qm (pv 0) rfl) (Qa (Q8 (Qa (Qn Ze (Qm (pv 0) rfl) (pv 1)) (Qa (Qn Ze (Qm (pv 0) rfl) (pv 2)) (Qa (pv 3) Qe)))) Qe)))),?_⟩
 obtain⟨dx,n⟩:=S.ob;obtain⟨vs,l1,l2⟩:=S.li;obtain⟨kvs,n1,n2,n3⟩:=S.nu;have R:=Paired.length l2;refine⟨_,Xb,v.sh,D,dx,_,_,Xb,n,T.cl,T.lines,Qdo _,v.L,vs,Xb,.inl (Zb.of l1),_,Xb,v.sh,D,dx,_,_,Xb,n,T.cl,T.Jq,Wv _,_,Xb,_,Xb,by show 2<=Gh;decide,λc hc=>?_⟩;have s1:=Qf hc (.tup [jv a,jv b]);have dp:=Ra.t (k:=[ki a,ki b]) (v:=.int (vs.length:Int)) (s1 _ _ n1) (show(upd H c (.tup [jv a,jv b])) c=Ga (.tup ([ki a,ki b].map kV))from Qb) (by rw[Gu];omega);refine⟨v.M,_,Xb,dp,?_⟩;have W:v.L≠v.M:=Ye l1 n1 nofun;have Y:v.sh≠v.M:=Ye n n1 nofun;have oL:v.sh≠v.L:=Ye n l1 nofun;generalize l:upd (upd H c (.tup [jv a,jv b])) v.M (.dT (We kvs [ki a,ki b] (.int (vs.length:Int))))=H2;have G:∀{d o},H d=Ga o->d≠v.M->H2 d=Ga o:=λe h=>by rw[<-l];exact Qi (s1 _ _ e) h
 have t2:∀{d},H2 d=Ge->H d=Ge:=λ{d}h=>by rw[<-l]at h;exact s1.free (Zy h)
 have M2:H2 v.M=Ga (.dT (We kvs [ki a,ki b] (.int (vs.length:Int)))):=by rw[<-l];exact Qb
 have V:=G n Y;have g:=G l1 W;have Z:H v.t=Ga (.lst v.us):=S.O9 _ _ S.th;have y:=G Z (Ye Z n1 nofun);have ua:v.us[a]?=Ga v.us[a]:=List.getElem?_eq_getElem al;have ub:v.us[b]?=Ga v.us[b]:=List.getElem?_eq_getElem bl;refine⟨_,Xb,v.sh,D,dx,_,_,Xb,V,T.cl,T.lines,Qdo _,.inl ⟨Xb,_,Zb.of g⟩,_,Xb,v.sh,D,dx,_,_,Xb,V,T.cl,T.things,Qfm _,_,Xb,v.t,v.us,_,_,Xb,Xb,Zb.of y,Qz ua,_,Xb,v.sh,D,dx,_,_,Xb,V,T.cl,T.things,Qfm _,_,Xb,v.t,v.us,_,_,Xb,Xb,Zb.of y,Qz ub,_,Xb,by show 3<=Gh;decide,λp m=>?_⟩;have I:=Qf m (.tup [v.us[a],v.us[b],rv]);have J:p≠v.L:=Gn (Qc g m);have aa:p≠v.M:=Gn (Qc M2 m);refine⟨v.L,vs,_,Xb,Xb,I _ _ g,by rw[Gu];omega,?_⟩;have F:Ii v.L v.M H (upd (upd H2 p (.tup [v.us[a],v.us[b],rv])) v.L (.lst (vs++[.ref p]))):=⟨λd o e h1 h2=>Qi (I _ _ (G e h2)) h1,λd h=>t2 (I.free (Zy h))⟩;refine q _ ⟨⟨dx,F.keep _ _ n oL Y⟩,S.same F,S.L0,S.M0,S.net,S.th,⟨_,Qb,Paired.snoc (L2.Paired.Yb l2 λ_ _ h=>h.kp (F.tp n1 l1) (F.lp n1 S.exL)) ⟨p,v.us[a],v.us[b],rv,Xb,Qi Qb J,ua,ub,U.kp (F.tp n1 l1) (F.lp n1 S.exL)⟩⟩,⟨_,Qi (I _ _ M2) (Gn W),?_,λi j=>?_⟩,λi j k u=>?_,S.good.snoc Zu,S.exL,λd O=>?_⟩ F
 ·have:=Xy kvs [ki a,ki b] (.int (vs.length:Int));rw[List.length_append,List.length_singleton];omega
 ·rw[Qch,n3];unfold putN;by_cases h:i=a/\j=b
  ·obtain⟨rfl,rfl⟩:=h;rw[Gk Xb,Gk ⟨Xb,Xb⟩,R];rfl
  ·rw[Gg h,Gg];intro z;simp only[List.cons.injEq,LB]at z;exact h ⟨Jc z.1,Jc z.2⟩
 ·unfold putN at u;by_cases h:i=a/\j=b
  ·rw[Gk h]at u;cases u;obtain⟨rfl,rfl⟩:=h;exact⟨r,by simp⟩
  ·rw[Gg h]at u;obtain⟨r',x⟩:=S.ok i j k u;exact⟨r',by rw[List.getElem?_append_left (List.getElem?_eq_some_iff.mp x).1];exact x⟩
 ·obtain⟨o,e⟩:=S.exA d O;exact EG.mp λz=>by rw[F.there d z]at e;cases e
end
def Dr(N:Nat->Nat->Option Nat)(a b:Nat):Prop:=(N a b).isSome=Gf\/(N b a).isSome=Gf
def Qgy(N a:Nat->Nat->Option Nat):Prop:=∀i j,(N i j).isSome=Gf->(a i j).isSome=Gf
def Cov(v:Sv)(N:Nat->Nat->Option Nat)(m:Nat):Prop:=∀i j,(N i j).isSome=Gf->Cn (v.x.links.take m) i j
theorem Dr.sub{c:Nat->Nat->Option Nat}(h:Dr N a b)(s:Qgy N c):Dr c a b:=h.elim (λh=>.inl (s _ _ h)) λh=>.inr (s _ _ h)
theorem Qlx:Qgy N (putN N a b m):=λi j h=>by
 unfold putN;split
 ·rfl
 ·exact h
theorem Qm6{v:Sv}(h:Cov v N m)(c:Cn (v.x.links.take m) a b):Cov v (putN N a b k) m:=λi j z=>by
 unfold putN at z;split at z
 ·rename_i e
  rw[e.1,e.2];exact c
 ·exact h i j z
theorem Qj9:putN N a b m a b=Ga m:=Gk ⟨Xb,Xb⟩
structure Go(v:Sv)(N:Nat->Nat->Option Nat)(a b:Nat):Prop where
 inv:X8 (Yg v.fs) (Zl v.fs) v.x []
 aS:a∈v.x.S
 bS:b∈v.x.S
 eq:v.x.lead a=v.x.lead b
 hS:v.x.S.length<=1000
 st:∀st,Qaf v.x.up a b st->∀p q,(p,q)∈st->Dr N p q
def Qc2(P:Gj)(w:Gs)(C D:Gc)(g:Bool):Sp:=λvs H Q _=>∃(v:Sv)(ls:List Ln)(N:Nat->Nat->Option Nat)(a b:Nat),vs=[.ref v.sh,jv a,jv b]/\W0 P w C D v H ls N/\a<v.us.length/\b<v.us.length/\(∀p∈v.x.S,p<v.us.length)/\(Dr N a b\/(g=Gf/\Go v N a b))/\ls.length+(if g=Gf then 3000 else 0)<=900000/\
 ∀(k:Nat)(more:List Ln)(c:Nat->Nat->Option Nat)(H':Hp),W0 P w C D v H' (ls++more) c->Ii v.L v.M H H'->c a b=Ga k->Qgy N c->more.length<=2*v.x.S.length+1->(∀m,Cov v N m->Cn (v.x.links.take m) a b->Cov v c m)->(N a b=Ge->∃r,(ls++more).getLast?=Ga (a,b,r))->(g=Gp->more.length<=1)->(N a b≠Ge->more=[])->Q (jv k) H'
def Qqr(P:Gj)(w:Gs)(C D:Gc):Bool->Sp
 |true=>Qc2 P w C D Gp
 |false=>λ_ _ _ _=>False
theorem Qqd{ls:List Ln}:∀{st:List (Nat×Nat)}{a:List Nat}{p q:Nat},Qah p st q->a.length=st.length->(∀j k u v:Nat,a[j]?=Ga k->st[j]?=Ga (u,v)->∃r,ls[k]?=Ga (u,v,r))->Chn ls p a q
 |[],[],p,q,h,_,_=>by cases h;rfl
 |[],_::_,_,_,_,h,_=>by simp at h
 |_::_,[],_,_,_,h,_=>by simp at h
 |_::st,k::a,p,q,.cons t,h,f=>by obtain⟨r,b⟩:=f 0 k _ _ rfl rfl;exact⟨_,r,b,Qqd t (by simpa using h) λj c u v h1 h2=>f (j+1) c u v h1 h2⟩
theorem Qs6{more:List Ln}{l:Ln}(h:ls[k]?=Ga l):(ls++more)[k]?=Ga l:=by rw[List.getElem?_append_left (List.getElem?_eq_some_iff.mp h).1];exact h
section
variable{P:Gj}{w:Gs}{K:PySem.W.Frag}{mg:Gy->Option Value}{base:Heap}
theorem Qe3:Qy ["self","one","other","reason"] ["self","one","other"] (Ql Ij):=by eq_refl
theorem Q0i:(["start","end","self"]:List Gy).Nodup:=by decide+kernel
set_option hygiene false
local macro_rules
 |`(tactic|infer_instance)=>`(tactic|(
 obtain⟨dx1,o1'⟩:=S1.ob
 refine⟨_,Xb,v.sh,dx1,_,Xb,o1',Qhc _,_,Xb,_,Xb,_,Xb,v,ls++more1,N1,a,b,rv,r,Xb,S1,al,bl,hrv,Zu,by rw[List.length_append];omega,λH2 S2 F2=>?_⟩
 obtain⟨dx2,o2⟩:=S2.ob
 obtain⟨kv2,m2,_,vv2⟩:=S2.nu
 refine⟨_,Xb,v.sh,D,dx2,_,_,Xb,o2,T.cl,T.Jq,Wv _,_,Xb,_,Xb,by show 2<=Gh;decide,λc3 hc3=>?_⟩
 have s3:=Qf hc3 (.tup [jv a,jv b])
 have dg3:=Wd.t (k:=[ki a,ki b]) (s3 _ _ m2) (show(upd H2 c3 (.tup [jv a,jv b])) c3=Ga (.tup ([ki a,ki b].map kV))from Qb)
 rw[vv2,Qj9]at dg3
 refine⟨v.M,_,Xb,dg3,?_⟩
 have S3:=S2.fr s3
 rw[List.append_assoc]at S3
 exact q _ (more1++[(a,b,r)]) _ _ S3 ((F1.trans F2).trans (Ii.of s3)) Qj9 (λi j h=>Qlx _ _ (sub1 i j h)) (by rw[List.length_append,List.length_singleton];omega) (λm hc hm=>Qm6 (cov1 m hc hm) hm) (λ_=>⟨r,by rw[<-List.append_assoc,List.getLast?_concat]⟩) (λhg=>by rw[List.length_append,List.length_singleton];have:=mof hg;omega) (λz=>absurd hN z)))
set_option hygiene true
theorem Qln{g:Bool}(hk:2<=k)(F:Va K "line_for" "Showing.line_for" Ij f fd)(T:Qno K D)(TN:V5 K mg C)(mL:Yc K D "line_for" f)(bL:Binds K fd ["self","one","other"] [])(G:Qt P w K mg base Ya k f fd ["self","one","other"] (Qqr P w C D g))
  (mW:Yc K C "way" fW)(GW:Qt P w K mg base Ya 2 fW fdW ["self","one","other"] (Qsx P w C))(bW:Binds K fdW ["self","one","other"] [])(mR:Yc K D "write" fR)(GR:Qt P w K mg base Ya 1 fR fdR ["self","one","other","reason"] (Qfv P w C D))(bR:Binds K fdR ["self","one","other","reason"] []):
  Qt P w K mg base Ya (k+1) f fd ["self","one","other"] (Qc2 P w C D g):=by
 refine F.ok Qe3 (λvs H Q E h=>?_) (λcdv A outer s H vs Q E hr h=>?_)
 ·obtain⟨v,ls,N,a,b,rfl,_⟩:=h;rfl
 obtain⟨v,ls,N,a,b,rfl,S,al,bl,Sl,pre,ao,q⟩:=h;have hu:=Ut hr;have aF:Yd 1 _:=hr.mono (by omega);have aG:Yd 2 _:=hr.mono (by omega);have nd:=Qe3.nd;have aD:ls.length<=900000:=by omega
 refine⟨_,Qd (Zr (Qae (Qne hu (Q8 (Qa (pv 1) (Qa (pv 2) Qe))) (Qm (pv 0) rfl)))
   (Qd (Zr (Qae (Qjs hu (Q8 (Qa (pv 2) (Qa (pv 1) Qe))) (Qm (pv 0) rfl)))
    (Qh (Qs 3 nd (Q8 (Qa Q5 (Qa (Zt hu (Qm (pv 0) rfl) (Q8 (Qa (pv 2) (Qa (pv 1) Qe))) (λ_ _=>rfl)) Qe)))))
    (Qh (Qs 3 nd (Q8 (Qa Q5 (Qa
     (Ub (te:=Qh4 D "line_for" (Qqr P w C D g) [] E0 (Vp 2) (Qeo (Vp 0) (Qeo (Vp 1) Qoa))) (g:=Qyr K 2 (Qi9 (Vj 0) (Qi9 (Vj 1) Qx1))) (own:=["start","end"]) (fv:=[(0,"self")]) rfl (S:=(by eq_refl:Wc (Ql Ij) _)) (.cons rfl (TZ Xb) rfl .nil)
      (Yn (Zd (Qm (pv 0) rfl) TN.cl mW GW aG bW .nil Q4 (Qa (pv 1) (Qa (pv 2) Qe))))
      (λ_ _ _ _ _=>Vf rfl (Zm (Xc (i:=0) Q0i rfl (TZ Xb) (DO Xb)) (Zm (Xc (i:=1) Q0i rfl (TZ Xb) (DO Xb)) Wb))) (λ_ _ _ _ _=>X7)
      (λ_ _ _ _ _=>Zd (pv 2) T.cl mL G hr bL .nil Q4 (Qa (pv 0) (Qa (pv 1) Qe)))) Qe))))))
   (Qh (Zc (Zd (pv 0) T.cl mR GR aF bR .nil Q4 (Qa (pv 1) (Qa (pv 2) (Qa (pv 3) Qe))))))) Q9)
  (Qh (Qx (Zt hu (Qm (pv 0) rfl) (Q8 (Qa (pv 1) (Qa (pv 2) Qe))) (λ_ _=>rfl)))),?_⟩
 obtain⟨dx,o1⟩:=S.ob;obtain⟨kvs,n1,n2,n3⟩:=S.nu;refine⟨_,Xb,_,Xb,by show 2<=Gh;decide,λc hc=>?_⟩;have s1:=Qf hc (.tup [jv a,jv b]);have aj:=Wd.t (k:=[ki a,ki b]) (s1 _ _ n1) (show(upd H c (.tup [jv a,jv b])) c=Ga (.tup ([ki a,ki b].map kV))from Qb);rw[n3]at aj;refine⟨_,Xb,v.sh,D,dx,_,_,Xb,s1 _ _ o1,T.cl,T.Jq,Wv _,v.M,_,Xb,aj,_,Xb,?_⟩;cases hN:N a b with
 |some l=>refine Zz ?_;have S1:=S.fr s1;obtain⟨dx2,o2⟩:=S1.ob;obtain⟨kv2,m2,_,vv2⟩:=S1.nu;refine⟨_,Xb,v.sh,D,dx2,_,_,Xb,o2,T.cl,T.Jq,Wv _,_,Xb,_,Xb,by show 2<=Gh;decide,λc3 hc3=>?_⟩;have s3:=Qf hc3 (.tup [jv a,jv b]);have dg3:=Wd.t (k:=[ki a,ki b]) (s3 _ _ m2) (show(upd (upd H c (.tup [jv a,jv b])) c3 (.tup [jv a,jv b])) c3=Ga (.tup ([ki a,ki b].map kV))from Qb);rw[vv2,hN]at dg3;refine⟨v.M,_,Xb,dg3,?_⟩;have S3:=S1.fr s3;exact q l [] N _ (by rw[List.append_nil];exact S3) (Ii.of (s1.trans s3)) hN (λ_ _ h=>h) (Gv _) (λ_ h _=>h) (λz=>by rw[hN]at z;cases z) (λ_=>Gv _) (λ_=>rfl)
 |none=>
  refine Xf ?_;refine⟨_,Xb,_,Xb,by show 2<=Gh;decide,λc2 ay=>?_⟩;have s2:=s1.trans (Qf ay (.tup [jv b,jv a]));have ak:=Wd.t (k:=[ki b,ki a]) (s2 _ _ n1) (show(upd (upd H c (.tup [jv a,jv b])) c2 (.tup [jv b,jv a])) c2=Ga (.tup ([ki b,ki a].map kV))from Qb);rw[n3]at ak;refine⟨_,Xb,v.sh,D,dx,_,_,Xb,s2 _ _ o1,T.cl,T.Jq,Wv _,v.M,_,Xb,ak,_,Xb,?_⟩;generalize upd (upd H c (.tup [jv a,jv b])) c2 (.tup [jv b,jv a])=Hb at s2;have Sb:=S.fr s2;cases hT:N b a with
  |some l=>
   refine Xf ?_;obtain⟨r0,aE⟩:=S.ok b a l hT;obtain⟨dx2,o2⟩:=Sb.ob;obtain⟨kv2,m2,_,vv2⟩:=Sb.nu;refine⟨_,Xb,v.sh,D,dx2,_,_,Xb,o2,T.cl,T.Jq,Wv _,_,Xb,_,Xb,by show 2<=Gh;decide,λc3 hc3=>?_⟩;have s3:=Qf hc3 (.tup [jv b,jv a]);have dg3:=Wd.t (k:=[ki b,ki a]) (s3 _ _ m2) (show(upd Hb c3 (.tup [jv b,jv a])) c3=Ga (.tup ([ki b,ki a].map kV))from Qb);rw[vv2,hT]at dg3;refine⟨v.M,_,Xb,dg3,by show 2<=Gh;decide,λO ad=>?_⟩;have s4:=Qf ad (.tup [.str "turn",jv l]);have S1:W0 P w C D v (upd (upd Hb c3 (.tup [jv b,jv a])) O (.tup [.str "turn",jv l])) (ls++[]) N:=by rw[List.append_nil];exact(Sb.fr s3).fr s4
   have F1:Ii v.L v.M H (upd (upd Hb c3 (.tup [jv b,jv a])) O (.tup [.str "turn",jv l])):=Ii.of ((s2.trans s3).trans s4);generalize J:V.ref O=rv;have hrv:Qav (upd (upd Hb c3 (.tup [jv b,jv a])) O (.tup [.str "turn",jv l])) v.Ex rv (.turn l):=⟨O,J.symm,Qb⟩;have Zu:Okl v.fs v.x.links (ls++[]) a b (.turn l):=⟨r0,by rw[List.append_nil];exact aE⟩;obtain⟨more1,B⟩:∃m:List Ln,m=[]:=⟨_,Xb⟩;rw[<-B]at S1 Zu;obtain⟨r,hr'⟩:∃r:Lr,r=.turn l:=⟨_,Xb⟩;rw[<-hr']at hrv Zu;obtain⟨N1,ac⟩:∃N1:Nat->Nat->Option Nat,N1=N:=⟨_,Xb⟩;have sub1:Qgy N N1:=by rw[ac];exactλ_ _ h=>h
   have cov1:∀m,Cov v N m->Cn (v.x.links.take m) a b->Cov v N1 m:=by rw[ac];exactλ_ h _=>h
   rw[<-ac]at S1;have ml:more1.length=0:=by rw[B];rfl
   have mof:g=Gp->more1.length=0:=λ_=>ml;infer_instance
  |none=>
   refine Zz ?_;cases g with
   |false=>
    exfalso;rcases pre with(h|h)|⟨h,_⟩
    ·rw[hN]at h;cases h
    ·rw[hT]at h;cases h
    ·cases h
   |true=>
   have go:Go v N a b:=by
    rcases pre with(h|h)|⟨_,h⟩
    ·rw[hN]at h;cases h
    ·rw[hT]at h;cases h
    ·exact h
   have X2:=S.net.same Sb.O9;obtain⟨ax,on⟩:=X2.ob;obtain⟨dx2,o2⟩:=Sb.ob;refine⟨_,Xb,v.sh,D,dx2,_,_,Xb,o2,T.cl,T.net,Qrq _,v.n,ax,_,Xb,on,Qla _,_,Xb,_,Xb,v.n,v.A,v.fs,v.tb,v.x,a,b,Xb,X2,go.inv,go.aS,go.bS,go.eq,go.hS,λL5 es st H5 g5 X am an W=>⟨L5,Xb,⟨_,Zb.of am⟩,λU d=>?_⟩⟩;have aP:=W.len;have aO:=Paired.length an;have hS:=go.hS;have S5:=Sb.fr g5;have au:L5≠v.L:=λz=>by obtain⟨vs,l1,_⟩:=Sb.li;rw[z,l1]at X;cases X
   have av:L5≠v.M:=λz=>by obtain⟨vs,l1,_⟩:=Sb.nu;rw[z,l1]at X;cases X
   have aq:U≠v.L:=λz=>by obtain⟨vs,l1,_⟩:=S5.li;rw[z,l1]at d;cases d
   have aN:U≠v.M:=λz=>by obtain⟨vs,l1,_⟩:=S5.nu;rw[z,l1]at d;cases d
   have aM:v.H0 U=Ge:=S5.O9.free d;have s5:=Qf d (.lst []);obtain⟨aU,aH,_⟩:=S5.li;obtain⟨aR,aI,_⟩:=S5.nu;refine Qal (K:=K) (a:=L5) (xs:=es) (small (by omega)) (λi ys σ H6=>∃(x0 x1:Option V)(more:List Ln)(N1:Nat->Nat->Option Nat)(R:List Nat),σ=[x0,x1,Ga (.ref v.sh)]/\ys=R.map jv/\R.length=i/\W0 P w C D {v with Ex:=λb=>v.Ex b\/b=U} H6 (ls++more) N1/\Ii v.L v.M H5 H6/\Qgy N N1/\more.length<=i/\(∀m,Cov v N m->Cn (v.x.links.take m) a b->Cov v N1 m)/\
     (∀j k u u':Nat,R[j]?=Ga k->st[j]?=Ga (u,u')->∃r,(ls++more)[k]?=Ga (u,u',r)))
    ⟨_,_,[],N,[],Xb,Xb,Xb,by rw[List.append_nil];exact S5.more d,Ii.of s5,λ_ _ h=>h,Gv _,λ_ h _=>h,by simp⟩ (λi ys σ H6 _⟨_,_,_,_,_,_,_,_,_,F6,_⟩=>Zb.of (F6.keep _ _ am au av)) ?_ ?_
   ·rintro i y ys σ H6 hi aJ ⟨x0,x1,more,N1,R,rfl,rfl,ae,S6,F6,aa,aL,ah,ab⟩ af;obtain⟨⟨p,Z⟩,hp,c5,rfl,az⟩:=Qw an hi;have Y:(p,Z)∈st:=List.mem_of_getElem? hp;have c6:=F6.tp aI aH az;have il:i<es.length:=(List.getElem?_eq_some_iff.mp hi).1;obtain⟨kk,aA,aB⟩:=W.lk p Z Y;obtain⟨rr,ap⟩:=go.inv.fst.Qgm p Z kk aA;have pS:p∈v.x.S/\Z∈v.x.S:=by
     rcases ap with h|h
     ·exact⟨(go.inv.lnk _ _ _ _ h).1,(go.inv.lnk _ _ _ _ h).2.1⟩
     ·exact⟨(go.inv.lnk _ _ _ _ h).2.1,(go.inv.lnk _ _ _ _ h).1⟩
    have cn:∀m,Cn (v.x.links.take m) a b->Cn (v.x.links.take m) p Z:=λm hm=>by
     have km:=aB m hm;rcases ap with h|h
     ·exact .link (List.mem_of_getElem? (i:=kk) (by rw[List.getElem?_take_of_lt km];exact h))
     ·exact .symm (.link (List.mem_of_getElem? (i:=kk) (by rw[List.getElem?_take_of_lt km];exact h)))
    obtain⟨aw,o6⟩:=S6.ob;refine⟨c5,_,Xb,Z4.of c6,Xb,_,_,Xb,_,_,Xb,Xb,?_⟩;refine⟨_,Xb,v.sh,aw,_,Xb,o6,Ry v,_,Xb,_,Xb,{v with Ex:=λb=>v.Ex b\/b=U},ls++more,N1,p,Z,Xb,S6,Sl p pS.1,Sl Z pS.2,Sl,.inl ((go.st st W.rel p Z Y).sub aa),by rw[Gg (by decide)];rw[Gk rfl]at ao;rw[List.length_append];omega,λk' ag N2 H7 S7 F7 aC ar aT ai _ aK _=>?_⟩;have r7:=F7.keep _ _ af aq aN;have aQ:=aK rfl;refine⟨r7,_,_,more++ag,N2,R++[k'],Xb,by rw[List.map_append];rfl,by rw[List.length_append,List.length_singleton,ae],by rw[<-List.append_assoc];exact S7.grow (.inr Xb) r7 aq aM,⟨λb' o e h1 h2=>Qi (F7.keep _ _ (F6.keep _ _ e h1 h2) h1 h2) (Qc e d),λb' h=>F6.there _ (F7.there _ (Zy h))⟩,λi j h=>ar _ _ (aa _ _ h),by rw[List.length_append];omega,λm hc hm=>ai m (ah m hc hm) (cn m hm),λj l u u' h1 h2=>?_⟩
    ·rcases Tb j R.length with hj|hj
     ·rw[List.getElem?_append_left hj]at h1;obtain⟨r,hr'⟩:=ab j l u u' h1 h2;rw[<-List.append_assoc];exact⟨r,Qs6 hr'⟩
     ·rw[List.getElem?_append_right hj]at h1;have:j=R.length:=by
       rcases Tb (j - R.length) 1 with h'|h'
       ·omega
       ·rw[List.getElem?_eq_none (by simpa using h')]at h1;cases h1
      subst this;simp at h1;subst h1;rw[ae,hp]at h2;cases h2;rw[<-List.append_assoc];exact S7.ok _ _ _ aC
   ·rintro ys σ H6 aJ ⟨x0,x1,more1,N1,R,rfl,rfl,ae,S6,F6,sub1,aL,cov1,ab⟩ af;refine⟨by show 2<=Gh;decide,λO ad=>?_⟩;have s4:=Qf ad (.tup [.str "chain",.ref U]);have S1:=(S6.less S.exL).fr s4;have F1:Ii v.L v.M H (upd H6 O (.tup [.str "chain",.ref U])):=(Ii.of (s2.trans g5)).trans (F6.trans (Ii.of s4));generalize J:V.ref O=rv;obtain⟨r,hr'⟩:∃r:Lr,r=.chain R:=⟨_,Xb⟩;have hrv:Qav (upd H6 O (.tup [.str "chain",.ref U])) v.Ex rv r:=by rw[hr'];exact⟨O,U,J.symm,Qb,s4 _ _ af,λz=>by obtain⟨o,e⟩:=S5.exA U z;rw[d]at e;cases e⟩
    have Zu:Okl v.fs v.x.links (ls++more1) a b r:=by rw[hr'];exact Qqd W.path (by omega) ab
    have ml:more1.length<=2*v.x.S.length:=by omega
    have mof:Gf=Gp->more1.length=0:=λz=>by cases z
    infer_instance
theorem Q1f:Qt P w K mg base Ya 2 f fd ["self","one","other"] (Qqr P w C D Gp):=
 ⟨λvs H Q E h=>False.elim h,λA outer s H args us vs Q E _ _ _ _ h=>False.elim h⟩
end
def Qlq(P:Gj)(w:Gs)(C D:Gc):Sp:=λvs H Q _=>∃(v:Sv)(ls:List Ln)(N:Nat->Nat->Option Nat)(lv:V)(a b:Nat)(c:Option U2),vs=[.ref v.sh,lv]/\W0 P w C D v H ls N/\R0 H lv (a,b,c)/\(a,b,c)∈v.x.links/\a<v.fs.length/\b<v.fs.length/\v.fs.length=v.us.length/\(∀p∈v.x.S,p<v.us.length)/\v.x.S.length<=60/\(Zl v.fs a).length<=100/\
 (c=Ge->Yg v.fs a=Yg v.fs b/\(Zl v.fs a).length=(Zl v.fs b).length)/\(∀p q,(p,q)∈X6 v.fs (a,b,c)->Go v N p q)/\ls.length<=880000/\
 ∀(more:List Ln)(d:Nat->Nat->Option Nat)(r:Lr)(H':Hp),W0 P w C D v H' (ls++more++[(a,b,r)]) (putN d a b (ls++more).length)->Ii v.L v.M H H'->Qgy N d->more.length<=12100->(∀m,Cov v N m->(∀p q,(p,q)∈X6 v.fs (a,b,c)->Cn (v.x.links.take m) p q)->Cov v d m)->Q .non H'
theorem Go.sub{v:Sv}{N d:Nat->Nat->Option Nat}{a b:Nat}(g:Go v N a b)(s:Qgy N d):Go v d a b:=⟨g.inv,g.aS,g.bS,g.eq,g.hS,λst c p q h=>(g.st st c p q h).sub s⟩
section
variable{P:Gj}{w:Gs}{K:PySem.W.Frag}{mg:Gy->Option Value}{base:Heap}
theorem Qmn:Qy ["self","link","reason"] ["self","link"] (Ql Vz):=by eq_refl
theorem Qzr:(["part","twin","self"]:List Gy).Nodup:=by decide+kernel
set_option hygiene false
local macro_rules
 |`(tactic|infer_instance)=>`(tactic|(
 obtain⟨dx1,o1'⟩:=S1.ob
 refine⟨_,Xb,v.sh,dx1,_,Xb,o1',Qhc _,_,Xb,c,_,_,_,Xb,Xb,Z4.of hc1,Rv _ _,_,Xb,c,_,_,_,Xb,Xb,Z4.of hc1,Re _ _ _,_,Xb,v,ls++more1,N1,a,b,rv,r,Xb,S1,al,bl,hrv,Zu,by rw[List.length_append];omega,λH2 S2 F2=>?_⟩
 exact q more1 N1 r H2 S2 (F1.trans F2) sub1 ml cov1))
set_option hygiene true
theorem Qsy(F:Va K "write_link" "Showing.write_link" Vz f fd)(T:Qno K D)(mL:Yc K D "line_for" fL)(bL:Binds K fdL ["self","one","other"] [])(GL:Qt P w K mg base Ya 4 fL fdL ["self","one","other"] (Qc2 P w C D Gf))
  (GB:Qt P w K mg base Ya 1 fB fdB ["net","link"] (Qgf P w C))(kB:KI K fB)(bB:Binds K fdB ["net","link"] [])(mB:MG mg "pairs_below" fB)(mR:Yc K D "write" fR)(GR:Qt P w K mg base Ya 1 fR fdR ["self","one","other","reason"] (Qfv P w C D))(bR:Binds K fdR ["self","one","other","reason"] []):
  Qt P w K mg base Ya 5 f fd ["self","link"] (Qlq P w C D):=by
 refine F.ok Qmn (λvs H Q E h=>?_) (λcdv A outer s H vs Q E hr h=>?_)
 ·obtain⟨v,ls,N,lv,a,b,rs,rfl,_⟩:=h;rfl
 obtain⟨v,ls,N,lv,a,b,rs,rfl,S,⟨c,rv,rfl,hc,R⟩,aj,av,aw,aN,Sl,hS,few,ad,aB,aL,q⟩:=h;have al:a<v.us.length:=by omega
 have bl:b<v.us.length:=by omega
 have ak:Yd 1 _:=hr.mono (by omega);have nd:=Qmn.nd;refine⟨_,Qd (Qs 2 nd (Qn Q3 (pv 1) Qj))
  (Qd (Zr (Qu Qx8 (pv 2) Ji (Za _))
   (Qh (Qs 2 nd (Q8 (Qa Q5 (Qa
     (Ub (te:=Qh4 D "line_for" (Qc2 P w C D Gf) [] E0 (Vp 2) (Qeo (Vp 0) (Qeo (Vp 1) Qoa))) (g:=Qyr K 2 (Qi9 (Vj 0) (Qi9 (Vj 1) Qx1))) (own:=["part","twin"]) (fv:=[(0,"self")]) rfl (S:=(by eq_refl:Wc (Ql Vz) _)) (.cons rfl (TZ Xb) rfl .nil)
      (Yn (Zv GB ak rfl mB kB bB .nil Q4 (Qa (Qm (pv 0) rfl) (Qa (pv 1) Qe))))
      (λ_ _ _ _ _=>Vf rfl (Zm (Xc (i:=0) Qzr rfl (TZ Xb) (DO Xb)) (Zm (Xc (i:=1) Qzr rfl (TZ Xb) (DO Xb)) Wb))) (λ_ _ _ _ _=>X7)
      (λ_ _ _ _ _=>Zd (pv 2) T.cl mL GL hr bL .nil Q4 (Qa (pv 0) (Qa (pv 1) Qe)))) Qe))))) Q9)
  (Qh (Zc (Zd (pv 0) T.cl mR GR ak bR .nil Q4 (Qa (Qn Q3 (pv 1) Qj) (Qa (Qn Q3 (pv 1) Qj) (Qa (pv 2) Qe))))))),?_⟩
 refine⟨_,Xb,c,_,_,_,Xb,Xb,Z4.of hc,Qhe _ _ _ _,?_⟩;refine⟨_,Xb,Xb,_,Xb,?_⟩;rw[Qsp R];cases rs with
 |some rs=>
  refine Zz ?_;have S1:W0 P w C D v H (ls++[]) N:=by rw[List.append_nil];exact S
  have F1:Ii v.L v.M H H:=Ii.refl;have hc1:=hc;obtain⟨r,hrv,Zu⟩:∃r:Lr,Qav H v.Ex rv r/\Okl v.fs v.x.links (ls++[]) a b r:=by
   cases rs with
   |told n=>exact⟨.told n,R,aj⟩
   |asked=>exact⟨.asked,R,aj⟩
  obtain⟨more1,l⟩:∃m:List Ln,m=[]:=⟨_,Xb⟩;rw[<-l]at S1 Zu;obtain⟨N1,ab⟩:∃N1:Nat->Nat->Option Nat,N1=N:=⟨_,Xb⟩;have sub1:Qgy N N1:=by rw[ab];exactλ_ _ h=>h
  have cov1:∀m,Cov v N m->(∀p q,(p,q)∈X6 v.fs (a,b,Ga rs)->Cn (v.x.links.take m) p q)->Cov v N1 m:=by rw[ab];exactλ_ h _=>h
  rw[<-ab]at S1;have ml:more1.length<=12100:=by rw[l];exact Gv _
  infer_instance
 |none=>
  refine Xf ?_;have X2:=S.net.same S.O9;obtain⟨dx,o1⟩:=S.ob;refine⟨_,Xb,v.sh,D,dx,_,_,Xb,o1,T.cl,T.net,Qrq _,_,Xb,v.n,v.A,v.fs,v.tb,v.x,.ref c,(a,b,Ge),Xb,X2,⟨c,rv,Xb,hc,R⟩,av,aw,λL5 es H5 g5 O ah ai=>⟨L5,Xb,⟨_,Zb.of ah⟩,λJ d=>?_⟩⟩;obtain⟨aE,aD⟩:=ad rfl;have aK:=Paired.length ai;have aO:(X6 v.fs (a,b,Ge)).length=(Zl v.fs a).length:=by simp only[X6,List.length_zip];omega
  have Z:=S.fr g5;have ar:L5≠v.L:=λz=>by obtain⟨vs,l1,_⟩:=S.li;rw[z,l1]at O;cases O
  have au:L5≠v.M:=λz=>by obtain⟨vs,l1,_⟩:=S.nu;rw[z,l1]at O;cases O
  have ap:J≠v.L:=λz=>by obtain⟨vs,l1,_⟩:=Z.li;rw[z,l1]at d;cases d
  have aJ:J≠v.M:=λz=>by obtain⟨vs,l1,_⟩:=Z.nu;rw[z,l1]at d;cases d
  have aI:v.H0 J=Ge:=Z.O9.free d;have s5:=Qf d (.lst []);obtain⟨aQ,an,_⟩:=Z.li;obtain⟨aP,ao,_⟩:=Z.nu;refine Qal (K:=K) (a:=L5) (xs:=es) (small (by omega)) (λi ys σ Y=>∃(x0 x1:Option V)(more:List Ln)(N1:Nat->Nat->Option Nat)(G:List Nat),σ=[x0,x1,Ga (.ref v.sh)]/\ys=G.map jv/\G.length=i/\W0 P w C D {v with Ex:=λb=>v.Ex b\/b=J} Y (ls++more) N1/\Ii v.L v.M H5 Y/\Qgy N N1/\more.length<=i*121/\(∀m,Cov v N m->(∀p q,(p,q)∈X6 v.fs (a,b,Ge)->Cn (v.x.links.take m) p q)->Cov v N1 m)/\
    (∀j k u u':Nat,G[j]?=Ga k->(X6 v.fs (a,b,Ge))[j]?=Ga (u,u')->∃r,(ls++more)[k]?=Ga (u,u',r)))
   ⟨_,_,[],N,[],Xb,Xb,Xb,by rw[List.append_nil];exact Z.more d,Ii.of s5,λ_ _ h=>h,Gv _,λ_ h _=>h,by simp⟩ (λi ys σ Y _⟨_,_,_,_,_,_,_,_,_,U,_⟩=>Zb.of (U.keep _ _ ah ar au)) ?_ ?_
  ·rintro i y ys σ Y hi aF ⟨x0,x1,more,N1,G,rfl,rfl,ac,S6,U,X,aG,af,aa⟩ ae;obtain⟨⟨p,p'⟩,hp,c5,rfl,az⟩:=Qw ai hi;have W:(p,p')∈X6 v.fs (a,b,Ge):=List.mem_of_getElem? hp;have c6:=U.tp ao an az;have il:i<es.length:=(List.getElem?_eq_some_iff.mp hi).1;have go:=(aB p p' W).sub X;obtain⟨ax,o6⟩:=S6.ob;refine⟨c5,_,Xb,Z4.of c6,Xb,_,_,Xb,_,_,Xb,Xb,?_⟩;refine⟨_,Xb,v.sh,ax,_,Xb,o6,Ry v,_,Xb,_,Xb,{v with Ex:=λb=>v.Ex b\/b=J},ls++more,N1,p,p',Xb,S6,Sl p go.aS,Sl p' go.bS,Sl,.inr ⟨Xb,⟨go.inv,go.aS,go.bS,go.eq,go.hS,go.st⟩⟩,by rw[Gk Xb,List.length_append];omega,λk' B N2 H7 S7 F7 aC aq aH ag _ _ _=>?_⟩;have r7:=F7.keep _ _ ae ap aJ;have aM:B.length<=2*v.x.S.length+1:=aH;refine⟨r7,_,_,more++B,N2,G++[k'],Xb,by rw[List.map_append];rfl,by rw[List.length_append,List.length_singleton,ac],by rw[<-List.append_assoc];exact S7.grow (.inr Xb) r7 ap aI,⟨λb' o e h1 h2=>Qi (F7.keep _ _ (U.keep _ _ e h1 h2) h1 h2) (Qc e d),λb' h=>U.there _ (F7.there _ (Zy h))⟩,λi j h=>aq _ _ (X _ _ h),by rw[List.length_append];omega,λm aA hm=>ag m (af m aA hm) (hm p p' W),λj k0 u u' h1 h2=>?_⟩;rcases Tb j G.length with hj|hj
   ·rw[List.getElem?_append_left hj]at h1;obtain⟨r,hr'⟩:=aa j k0 u u' h1 h2;rw[<-List.append_assoc];exact⟨r,Qs6 hr'⟩
   ·rw[List.getElem?_append_right hj]at h1;have:j=G.length:=by
     rcases Tb (j - G.length) 1 with h'|h'
     ·omega
     ·rw[List.getElem?_eq_none (by simpa using h')]at h1;cases h1
    subst this;simp at h1;subst h1;rw[ac,hp]at h2;cases h2;rw[<-List.append_assoc];exact S7.ok _ _ _ aC
  ·rintro ys σ Y aF ⟨x0,x1,more1,N1,G,rfl,rfl,ac,S6,U,sub1,aG,cov1,aa⟩ ae;refine⟨by show 2<=Gh;decide,λc4 ay=>?_⟩;have s4:=Qf ay (.tup [.str "like",.ref J]);have S1:=(S6.less S.exL).fr s4;have F1:Ii v.L v.M H (upd Y c4 (.tup [.str "like",.ref J])):=(Ii.of g5).trans (U.trans (Ii.of s4));have hc1:=s4 _ _ (U.tp ao an (g5 _ _ hc));generalize am:V.ref c4=rv;obtain⟨r,hr'⟩:∃r:Lr,r=.like G:=⟨_,Xb⟩;have hrv:Qav (upd Y c4 (.tup [.str "like",.ref J])) v.Ex rv r:=by rw[hr'];exact⟨c4,J,am.symm,Qb,s4 _ _ ae,λz=>by obtain⟨o,e⟩:=Z.exA J z;rw[d]at e;cases e⟩
   have Zu:Okl v.fs v.x.links (ls++more1) a b r:=by rw[hr'];refine⟨aE,aD,by omega,λj k p p' h1 h2 h3=>aa j k p p' h1 ?_⟩;simp only[X6];rw[List.getElem?_zip_eq_some];exact⟨h2,h3⟩
   have ml:more1.length<=12100:=by omega
   infer_instance
end
def Qiq(P:Gj)(w:Gs)(C D:Gc):Sp:=λvs H Q _=>∃(sh dx t n:Gc)(A:Na)(fs:List Fm)(tb:Nat)(x:Nn)(us:List V)(H0:Hp),vs=[.ref sh,.ref t,.ref n]/\H sh=Ga (.ins D dx [])/\H0 sh=Ge/\Qv H0 H/\Z3 P w C H0 n A fs tb x/\H0 t=Ga (.lst us)/\
 ∀(L M:Gc)(H':Hp),W0 P w C D ⟨sh,n,t,L,M,A,fs,tb,x,us,H0,λb=>b=L\/∃o,H0 b=Ga o⟩ H' [] (λ_ _=>Ge)->Q .non H'
def Qlv(H:Hp)(X:Gc->Prop)(us:List V)(v:V)(ls:List Ln):Prop:=∃L vs,v=.ref L/\H L=Ga (.lst vs)/\¬X L/\Paired (Qga H X us) vs ls
def Qh3(P:Gj)(w:Gs)(C:Gc):Sp:=λvs H Q _=>∃(t n:Gc)(A:Na)(fs:List Fm)(tb:Nat)(x:Nn)(us:List V)(one a:Nat),vs=[.ref t,.ref n,jv one,jv a]/\Z3 P w C H n A fs tb x/\X8 (Yg fs) (Zl fs) x []/\Qeg fs x.S/\one∈x.S/\a∈x.S/\x.lead one=x.lead a/\x.S.length<=60/\x.links.length<64/\(∀p,(Zl fs p).length<=100)/\H t=Ga (.lst us)/\fs.length=us.length/\
 ∀(v:V)(ls:List Ln)(H':Hp),Qv H H'->Qlv H' (λb=>∃o,H b=Ga o) us v ls->Gdl fs x.links ls->(∃r,ls.getLast?=Ga (one,a,r))->Q v H'
abbrev mkv(sh n t L M:Gc)(A:Na)(fs:List Fm)(tb:Nat)(x:Nn)(us:List V)(H0:Hp):Sv:=⟨sh,n,t,L,M,A,fs,tb,x,us,H0,λb=>b=L\/∃o,H0 b=Ga o⟩
theorem Qf5(I:X8 (Yg fs) (Zl fs) x []){st:List (Nat×Nat)}(h:Qaf x.up a b st)(g:(p,q)∈st):∃k,x.Y1 p q=Ga k/\∀n,Cn (x.links.take n) a b->k<n:=by obtain⟨l1,l2,P,Q,s,m,c,d,e,f,ne,rfl⟩:=h;exact I.fst.way c d e f ne p q g
section
variable{P:Gj}{w:Gs}{K:PySem.W.Frag}{mg:Gy->Option Value}{base:Heap}
theorem Qp0:Qy ["self","things","net"] ["self","things","net"] (Ql Qby):=by eq_refl
theorem Qnu(F:Va K "__init__" "Showing.__init__" Qby f0 fd)(T:Qno K D):Qt P w K mg base Ya 1 f0 fd ["self","things","net"] (Qiq P w C D):=by
 refine F.ok Qp0 (λvs H Q E h=>?_) (λcdv A outer s H vs Q E G h=>?_)
 ·obtain⟨sh,dx,t,n,A,fs,tb,x,us,H0,rfl,_⟩:=h;rfl
 obtain⟨sh,dx,t,n,A,fs,tb,x,us,H0,rfl,g,u,d,X,B,q⟩:=h;refine⟨_,Qd (Xe (pv 0) (pv 1) rfl) (Qd (Xe (pv 0) (pv 2) rfl) (Qd (Xe (pv 0) (Zj Qe) rfl) (Qh (Xe (pv 0) Qdf Xb)))),?_⟩;refine⟨_,Xb,_,Xb,sh,D,dx,[],Xb,g,T.cl,T.things,by show 0<1000;decide,?_⟩;refine⟨_,Xb,_,Xb,sh,D,dx,_,Xb,Qb,T.cl,T.net,by show 1<1000;decide,Gv _,λL v=>?_⟩;rw[Vk]at v⊢;have a:H L=Ge:=Zy v;have l:L≠sh:=Gn (Qc g a);refine⟨_,Xb,sh,D,dx,_,Xb,Qi Qb (Gn l),T.cl,T.lines,by show 2<1000;decide,λM y=>?_⟩;have f:=Zy y;have m:=Zy f;have c:H M=Ge:=Zy m;have r:M≠sh:=Gn (Qc g c);have p:L≠M:=λz=>by rw[<-z,Qb]at f;cases f
 refine⟨_,Xb,sh,D,dx,_,Xb,Qi Qb (Gn r),T.cl,T.Jq,by show 3<1000;decide,?_⟩;refine q L M _ ⟨⟨dx,Qb⟩,λb o e=>?_,d.free a,d.free c,X,B,⟨[],?_,.nil⟩,⟨[],?_,Gv _,λi j=>rfl⟩,(λi j k h=>nomatch h),Gdl.nil,.inl Xb,λb hb=>?_⟩
 ·have bs:b≠sh:=Qc e u;exact Qi (Qi (Qi (Qi (Qi (d _ _ e) bs) (Qc (d _ _ e) a)) bs) (Qc (d _ _ e) c)) bs
 ·exact Qi (Qi (Qi Qb l) p) l
 ·exact Qi Qb r
 ·have hb:b=L\/∃o,H0 b=Ga o:=hb;rcases hb with hb|⟨o,e⟩
  ·rw[hb];exact⟨_,Qi (Qi (Qi Qb l) p) l⟩
  ·have bs:b≠sh:=Qc e u;exact⟨o,Qi (Qi (Qi (Qi (Qi (d _ _ e) bs) (Qc (d _ _ e) a)) bs) (Qc (d _ _ e) c)) bs⟩
theorem Qhs:Qy ["things","net","one","other","showing","number"] ["things","net","one","other"] (Ql Qgn):=by eq_refl
theorem Qor(F:Va K "lines_between" "lines_between" Qgn f fd)(T:Qno K D)(TN:V5 K mg C)(mD:MG mg "Showing" D)(aA:Mk K D fI)(GI:Qt P w K mg base Ya 1 fI fdI ["self","things","net"] (Qiq P w C D))(bI:Binds K fdI ["self","things","net"] [])
  (GN:Qt P w K mg base Ya 3 fN fdN ["net","one","other"] (Qhm P w C))(kN:KI K fN)(bN:Binds K fdN ["net","one","other"] [])(mN:MG mg "links_needed" fN)
  (mL:Yc K D "line_for" fL)(bL:Binds K fdL ["self","one","other"] [])(GL:Qt P w K mg base Ya 4 fL fdL ["self","one","other"] (Qc2 P w C D Gf))(mW:Yc K D "write_link" fW)(bW:Binds K fdW ["self","link"] [])(GW:Qt P w K mg base Ya 5 fW fdW ["self","link"] (Qlq P w C D)):
  Qt P w K mg base Ya 6 f fd ["things","net","one","other"] (Qh3 P w C):=by
 refine F.ok Qhs (λvs H Q E h=>?_) (λcdv A outer s H vs Q E hr h=>?_)
 ·obtain⟨t,n,A,fs,tb,x,us,one,d,rfl,_⟩:=h;rfl
 obtain⟨t,n,A,fs,tb,x,us,one,d,rfl,X,I,FO,oS,tS,he,hS,ap,few,ht,ae,q⟩:=h;have aH:Yd 2 _:=hr.mono (by omega);have aI:Yd 3 _:=hr.mono (by omega);have aJ:Yd 4 _:=hr.mono (by omega);have nd:=Qhs.nd;refine⟨_,Qd (Qs 4 nd (Qms aA GI aH rfl mD bI .nil Q4 (Qa (pv 0) (Qa (pv 1) Qe))))
  (Qd (Z6 Gq rfl (Yn (Zv GN aI rfl mN kN bN .nil Q4 (Qa (pv 1) (Qa (pv 2) (Qa (pv 3) Qe))))) (Z2 5 nd)
   (Qh (Zc (Zd (pv 4) T.cl mW GW hr bW .nil Q4 (Qa (Qn Ze (Qm (pv 1) rfl) (pv 5)) Qe)))))
  (Qd (Zc (Zd (pv 4) T.cl mL GL aJ bL .nil Q4 (Qa (pv 2) (Qa (pv 3) Qe))))
  (Qh (Qx (Qm (pv 4) rfl))))),?_⟩
 refine⟨_,Xb,_,Xb,λsh dx au aF aV=>?_⟩;have s0:Qv H (upd (upd H dx (.own sh)) sh (.ins D dx [])):=λc o e=>by rw[Qg (Qc e au),Qg (Qc e aF)];exact e
 refine⟨sh,dx,t,n,A,fs,tb,x,us,H,Xb,Qb,au,s0,X,ht,λL M H1 S1=>⟨Xb,?_⟩⟩;have X1:=X.same S1.O9;obtain⟨aw,ar,ax⟩:=X.li;obtain⟨aD,on⟩:=X.ob;refine⟨_,Xb,_,Xb,_,Xb,n,A,fs,tb,x,one,d,Xb,X1,I,FO,oS,tS,he,by omega,ap,λL2 ns H2 g2 aa an aj aO Dn=>⟨L2,Xb,⟨_,Zb.of an⟩,?_⟩⟩;have S2:=S1.fr g2;have S2:W0 P w C D (mkv sh n t L M A fs tb x us H) H2 [] (λ_ _=>Ge):=S2;have ay:L2≠L:=λz=>by obtain⟨vs,l1,_⟩:=S1.li;rw[z,l1]at aa;cases aa
 have az:L2≠M:=λz=>by obtain⟨vs,l1,_⟩:=S1.nu;rw[z,l1]at aa;cases aa
 have ak:∀{j i k J:Nat},j<i->ns[j]?=Ga k->ns[i]?=Ga J->k<J:=λ{j i k J}ab h1 h2=>by obtain⟨a1,b1⟩:=List.getElem?_eq_some_iff.mp h1;obtain⟨a2,b2⟩:=List.getElem?_eq_some_iff.mp h2;have le:=List.pairwise_iff_getElem.mp aO j i a1 a2 ab;have ne:=List.pairwise_iff_getElem.mp aj j i a1 a2 ab;rw[b1,b2]at le ne;omega
 have am:∀{N:Nat->Nat->Option Nat}{i:Nat},(∀j k a b r,j<i->ns[j]?=Ga k->x.links[k]?=Ga (a,b,r)->(N a b).isSome=Gf)->∀{u u' j k:Nat},j<i->ns[j]?=Ga k->x.Y1 u u'=Ga k->Dr N u u':=λ{N i}h{u u' j k}B hk hl=>by
  obtain⟨r,h1|h1⟩:=I.fst.Qgm u u' k hl
  ·exact .inl (h j k u u' r B hk h1)
  ·exact .inr (h j k u' u r B hk h1)
 have aQ:=Paired.length ax;refine Yz (K:=K) (a:=L2) (xs:=ns.map jv) (λi σ H3=>∃(x5:Option V)(ls:List Ln)(N:Nat->Nat->Option Nat),σ=[Ga (.ref t),Ga (.ref n),Ga (jv one),Ga (jv d),Ga (.ref sh),x5]/\W0 P w C D (mkv sh n t L M A fs tb x us H) H3 ls N/\Ii L M H2 H3/\ls.length<=i*12101/\
   (∀j k a b r,j<i->ns[j]?=Ga k->x.links[k]?=Ga (a,b,r)->(N a b).isSome=Gf)/\(∀m,(∀j k,j<i->ns[j]?=Ga k->k<m)->Cov (mkv sh n t L M A fs tb x us H) N m)/\((N one d).isSome=Gf->∃r,ls.getLast?=Ga (one,d,r)))
  ⟨_,[],_,Xb,S2,Ii.refl,Gv _,(λj k a b r h=>by omega),(λm _ i j h=>by cases h),(λh=>by cases h)⟩ (λi σ H3 _⟨_,_,_,_,_,F3,_⟩=>Zb.of (F3.keep _ _ an ay az)) ?_ ?_
 ·rintro i y σ H3 hi ⟨x5,ls,N,rfl,S3,F3,aq,Z,R,U⟩;rw[List.getElem?_map]at hi;cases eq:ns[i]? with
  |none=>rw[eq]at hi;cases hi
  |some k=>
   rw[eq]at hi;cases hi;have ah:k∈ns:=List.mem_of_getElem? eq;have kl:=Dn.lt k ah;have kw:k<aw.length:=by omega
   have aR:i<ns.length:=(List.getElem?_eq_some_iff.mp eq).1;have aG:ns.length<=64:=by have:ns.length<=(List.range x.links.length).length:=Xm aj λk hk=>List.mem_range.mpr (Dn.lt k hk);rw[List.length_range]at this;omega
   obtain⟨⟨a,b,rs⟩,l,av⟩:=Qw ax (List.getElem?_eq_getElem kw);obtain⟨aS,bS,W⟩:=I.lnk k a b rs l;have aN:=S3.O9 _ _ on;have aK:=S3.O9 _ _ ar;obtain⟨ad,o3⟩:=S3.ob;have aP:Qp H H3:=Qp.of S3.O9;have aE:∀p q,(p,q)∈X6 fs (a,b,rs)->Go (mkv sh n t L M A fs tb x us H) N p q:=λp q v=>by
    obtain⟨pS,qS,cn⟩:=Qnb I l v;refine⟨I,pS,qS,(I.conn p pS q qS).mpr (cn.mono λz hz=>List.mem_of_mem_take hz),by show x.S.length<=1000;omega,λst G u u' Y=>?_⟩;obtain⟨J,g,_⟩:=Qf5 I G Y;obtain⟨d1,d2⟩:=Dn.low k ah _ l p q v st G u u' Y J g;obtain⟨j,B⟩:=List.mem_iff_getElem?.mp d1;have ab:j<i:=by
     rcases La j i with h|h|h
     ·exact h
     ·subst h;rw[eq]at B;cases B;omega
     ·have:=ak h eq B;omega
    exact am Z ab B g
   refine⟨_,Xb,sh,ad,_,Xb,o3,Qf2 _,_,Xb,n,C,aD,_,_,Xb,aN,TN.cl,TN.links,Uu _,_,Xb,A.k,aw,_,_,Xb,Xb,Zb.of aK,Qz (List.getElem?_eq_getElem kw),mkv sh n t L M A fs tb x us H,ls,N,_,a,b,rs,Xb,S3,av.Qk aP,List.mem_of_getElem? l,FO.lt a aS,FO.lt b bS,ae,λp hp=>by show p<us.length;rw[<-ae];exact FO.lt p hp,hS,few a,λz=>⟨(W z).1,(W z).2.1⟩,aE,by omega,λmore N1 r H4 S4 F4 ac aL O=>?_⟩;have aB:∀m,k<m->∀p q,(p,q)∈X6 fs (a,b,rs)->Cn (x.links.take m) p q:=λm hm p q v=>by
    obtain⟨pS,qS,cn⟩:=Qnb I l v;refine cn.mono λz hz=>?_;have:x.links.take k=(x.links.take m).take k:=by rw[List.take_take,Eu (by omega)]
    rw[this]at hz;exact List.mem_of_mem_take hz
   have al:Cov (mkv sh n t L M A fs tb x us H) N1 k:=O k (R k λj J B g=>ak B g eq) λp q v=>(Qnb I l v).2.2;refine⟨_,ls++more++[(a,b,r)],_,Xb,S4,F3.trans F4,by rw[List.length_append,List.length_append,List.length_singleton];omega,λj J a' b' r' B af ag=>?_,λm hm=>?_,λh=>?_⟩
   ·rcases Tb j i with h|h
    ·exact Qlx _ _ (ac _ _ (Z j J a' b' r' h af ag))
    ·have:j=i:=by omega
     subst this;rw[eq]at af;cases af;rw[l]at ag;cases ag;rw[Qj9];rfl
   ·have km:=hm i k (by omega) eq;exact Qm6 (O m (R m λj J B g=>hm j J (by omega) g) (aB m km)) (.link (List.mem_of_getElem? (i:=k) (by rw[List.getElem?_take_of_lt km];exact l)))
   ·by_cases ao:one=a/\d=b
    ·obtain⟨rfl,rfl⟩:=ao;exact⟨r,List.getLast?_concat⟩
    ·unfold putN at h;rw[Gg ao]at h;have cn:=al _ _ h;obtain⟨st,p,q',j,G,v,B,aU⟩:=Dn.only k ah;obtain⟨J,g,hb⟩:=Qf5 I G v;rw[B]at g;cases g;have:=hb k cn;omega
 ·rintro σ H3 ⟨x5,ls,N,rfl,S3,F3,aq,Z,R,U⟩;rw[List.length_map]at aq Z;have aG:ns.length<=64:=by have:ns.length<=(List.range x.links.length).length:=Xm aj λk hk=>List.mem_range.mpr (Dn.lt k hk);rw[List.length_range]at this;omega
  obtain⟨ad,o3⟩:=S3.ob;have go:Go (mkv sh n t L M A fs tb x us H) N one d:=by refine⟨I,oS,tS,he,by show x.S.length<=1000;omega,λst G u u' Y=>?_⟩;obtain⟨J,g,_⟩:=Qf5 I G Y;obtain⟨j,B⟩:=List.mem_iff_getElem?.mp (Dn.top st G u u' Y J g);exact am Z (List.getElem?_eq_some_iff.mp B).1 B g
  have Sl:∀p∈x.S,p<us.length:=λp hp=>by rw[<-ae];exact FO.lt p hp
  refine⟨_,Xb,sh,ad,_,Xb,o3,Ry _,_,Xb,_,Xb,mkv sh n t L M A fs tb x us H,ls,N,one,d,Xb,S3,Sl one oS,Sl d tS,Sl,.inr ⟨Xb,go⟩,by rw[Gk rfl];omega,λk more N4 H4 S4 F4 aT ac aL O ai _ aM=>?_⟩;obtain⟨aC,o4⟩:=S4.ob;obtain⟨vs,l1,l2⟩:=S4.li;refine⟨_,Xb,sh,D,aC,_,_,Xb,o4,T.cl,T.lines,Qdo _,q (.ref L) (ls++more) H4 S4.O9 ⟨L,vs,Xb,l1,(λ⟨o,e⟩=>by have:=S4.L0;dsimp only[mkv]at this;rw[this]at e;cases e),_root_.L2.Paired.Yb l2 λ_ _ h=>h.ex λc ys _ hx z=>hx (.inr z)⟩ S4.good ?_⟩;cases hN:N one d with
  |none=>exact ai hN
  |some k0=>rw[aM (by rw[hN];exactλz=>nomatch z),List.append_nil];exact U (by rw[hN];rfl)
end
def tfs(ts:List Th):List Fm:=ts.map (fm ts)
def tg(ts:List Th)(p:Nat):Th:=ts.getD p (.mk DY [])
theorem Ud(h:ts[p]?=Ga t):tg ts p=t:=by unfold tg;rw[List.getD_eq_getElem?_getD,h];rfl
theorem Rt(h:t∈ts):tg ts (ts.idxOf t)=t:=Ud (Iz h)
theorem Wg(h:p<ts.length):ts[p]?=Ga (tg ts p):=by rw[List.getElem?_eq_getElem h,Ud (List.getElem?_eq_getElem h)]
theorem Wq(h:ts[p]?=Ga t):Yg (tfs ts) p=t.word/\Zl (tfs ts) p=t.parts.map λq=>ts.idxOf q:=by unfold Yg Zl tfs;rw[List.getD_eq_getElem?_getD,List.getElem?_map,h];exact⟨Xb,Xb⟩
theorem W8(ts:List Th):(tfs ts).length=ts.length:=by simp[tfs]
structure Eqs(fs:List Fm)(x:Nn)(sm:List (Nat×Nat)):Prop where
 ins:∀p q,(p,q)∈sm->p∈x.S/\q∈x.S
 eq:∀p q,(p,q)∈sm->x.lead p=x.lead q
 snd:∀E,Ec (Yg fs) (Zl fs) x.S E->(∀p q,(p,q)∈sm->E p q)->∀p∈x.S,∀q∈x.S,x.lead p=x.lead q->E p q
def Qdu(a:List En):List (Nat×Nat):=a.filterMap λ(e:En)=>if e.1=("same":Gy)then Ga e.2 else Ge
theorem Vt:(p,q)∈Qdu ens↔sme p q∈ens:=by
 unfold Qdu;rw[List.mem_filterMap];constructor
 ·rintro⟨⟨k,a,b⟩,h,e⟩;split at e
  ·rename_i c
   have c:k=("same":Gy):=c;cases e;subst c;exact h
  ·cases e
 ·exactλh=>⟨_,h,Gk Xb⟩
theorem Qmg(U:Tup fs x ens ens.length):Eqs fs x (Qdu ens):=by refine⟨λp q h=>U.ins _ (Vt.mp h),λp q h=>?_,λE X h=>U.snd E X λj p q _ a=>h p q (Vt.mpr (List.mem_of_getElem? a))⟩;obtain⟨j,a⟩:=List.mem_iff_getElem?.mp (Vt.mp h);exact U.eq j p q (List.getElem?_eq_some_iff.mp a).1 a
theorem Qvk{d:Nn}{c:List (Nat×Nat)}{r:Option U2}(Q:Eqs fs x c)(M:Mgd fs x d a b r [])(aS:a∈x.S)(bS:b∈x.S):Eqs fs d (c++[(a,b)]):=by
 have e:=M.S;refine⟨λp q h=>?_,λp q h=>?_,λE X h=>?_⟩
 ·rw[e];rcases List.mem_append.mp h with h|h
  ·exact Q.ins p q h
  ·simp at h;rw[h.1,h.2];exact⟨aS,bS⟩
 ·rcases List.mem_append.mp h with h|h
  ·obtain⟨i,j⟩:=Q.ins p q h;exact M.mono p i q j (Q.eq p q h)
  ·simp at h;rw[h.1,h.2];exact M.eq.nil
 ·rw[e]at X;have f:=Q.snd E X λp q g=>h p q (List.mem_append_left _ g);exact(M.snd E X ⟨f,λu v s m=>by simp at m;rw[m.1,m.2.1];exact h a b (by simp)⟩).1
theorem Eqs.cg(nd:ts.Nodup)(cl:Vo ts){y:List (Nat×Nat)}(I:X8 (Yg (tfs ts)) (Zl (tfs ts)) x [])(C:Qeg (tfs ts) x.S)(Q:Eqs (tfs ts) x y)
  (h1:∀a b,(Gf,a,b)∈tl->∃p q,(p,q)∈y/\ts[p]?=Ga a/\ts[q]?=Ga b)(h2:∀p q,(p,q)∈y->(Gf,tg ts p,tg ts q)∈tl)(d:p∈x.S)(f:q∈x.S):x.lead p=x.lead q↔Cg tl (tg ts p) (tg ts q):=by
 have lt:∀p∈x.S,p<ts.length:=λp d=>by have:=C.lt p d;rwa[W8]at this
 have at_:∀p∈x.S,ts[p]?=Ga (tg ts p):=λp d=>Wg (lt p d);have mem:∀p∈x.S,tg ts p∈ts:=λp d=>List.mem_of_getElem? (at_ p d);have m:∀p∈x.S,ts.idxOf (tg ts p)=p:=λp d=>R6 nd (at_ p d);constructor
 ·refineλh=>Q.snd (λp q=>Cg tl (tg ts p) (tg ts q)) ⟨λ_=>.refl _,λ_ _ h=>.symm h,λ_ _ _ h k=>.trans h k,λp d q f hw g=>?_⟩ (λp q h=>.told (h2 p q h)) p d q f h;obtain⟨A,l⟩:=Wq (at_ p d);obtain⟨B,z⟩:=Wq (at_ q f);rw[A,B]at hw;rw[l,z]at g;have K:=mem p d;have L:=mem q f;generalize tg ts p=a at*;generalize tg ts q=b at*;cases a with
  |mk u ps=>
   cases b with
   |mk v O=>simp only[Th.word,Th.parts]at hw g;subst hw;have p1:=Xr cl K;have p2:=Xr cl L;simp only[Th.parts]at p1 p2;obtain⟨G,g⟩:=g;rw[List.length_map,List.length_map]at G;refine .cong (CgL.of G λi s t J j=>?_);have:=g i (ts.idxOf s) (ts.idxOf t) (by rw[List.getElem?_map,J];rfl) (by rw[List.getElem?_map,j];rfl);dsimp only at this;rwa[Rt (p1 s (List.mem_of_getElem? J)),Rt (p2 t (List.mem_of_getElem? j))]at this
 ·intro c;have T:Ri tl (x.S.map (tg ts)) (λt=>((x.lead (ts.idxOf t):Nat):Int)):=by
   refine⟨λw ps h q f=>?_,λa b h=>?_,λw ps O n r e=>?_⟩
   ·obtain⟨p,d,e⟩:=List.mem_map.mp h;have o:=Xr cl (mem p d) q (by rw[e];exact f);obtain⟨_,l⟩:=Wq (at_ p d);have:ts.idxOf q∈Zl (tfs ts) p:=by rw[l,e];exact List.mem_map.mpr ⟨q,f,Xb⟩
    exact List.mem_map.mpr ⟨_,C.pts p d _ this,Rt o⟩
   ·obtain⟨p,q,H,ea,F⟩:=h1 a b h;obtain⟨M,N⟩:=Q.ins p q H;refine⟨List.mem_map.mpr ⟨p,M,Ud ea⟩,List.mem_map.mpr ⟨q,N,Ud F⟩,?_⟩;rw[R6 nd ea,R6 nd F,Q.eq p q H]
   ·obtain⟨p,d,D⟩:=List.mem_map.mp n;obtain⟨q,f,E⟩:=List.mem_map.mp r;obtain⟨A,l⟩:=Wq (at_ p d);obtain⟨B,z⟩:=Wq (at_ q f);have:=I.cong d f (by simp only[Zk,TH];rw[A,B,l,z,D,E];refine⟨Xb,?_⟩;simp only[Th.parts,List.map_map];have:=congrArg (List.map Dp) e;simp only[List.map_map]at this;exact this)
    rw[<-D,<-E,m p d,m q f,this]
  have:=T.complete (List.mem_map.mpr ⟨p,d,Xb⟩) (List.mem_map.mpr ⟨q,f,Xb⟩) c;simp only[m p d,m q f]at this;omega
abbrev Lt:=Th×Th×Lr
def Cht(pre:List Lt):Th->List Nat->Th->Prop
 |p,[],q=>p=q
 |p,k::a,q=>∃m r,pre[k]?=Ga (p,m,r)/\Cht pre m a q
def Okt(tl:Tl)(d:Option (Th×Th))(pre:List Lt)(a b:Th):Lr->Prop
 |.told n=>tl[n]?=Ga (Gf,a,b)
 |.asked=>d=Ga (a,b)
 |.turn k=>∃r,pre[k]?=Ga (b,a,r)
 |.chain c=>Cht pre a c b
 |.like c=>a.word=b.word/\a.parts.length=b.parts.length/\c.length=a.parts.length/\∀(j k:Nat)(p q:Th),c[j]?=Ga k->a.parts[j]?=Ga p->b.parts[j]?=Ga q->∃r,pre[k]?=Ga (p,q,r)
def Gdt(tl:Tl)(c:Option (Th×Th))(ls:List Lt):Prop:=∀(i:Nat)a b r,ls[i]?=Ga (a,b,r)->Okt tl c (ls.take i) a b r
def lth(ts:List Th)(l:Ln):Lt:=(tg ts l.1,tg ts l.2.1,l.2.2)
theorem Qgx{pre:List Ln}{r:Lr}(h:pre[k]?=Ga (p,q,r)):(pre.map (lth ts))[k]?=Ga (tg ts p,tg ts q,r):=by rw[List.getElem?_map,h];rfl
theorem Qpw{ts:List Th}{pre:List Ln}:∀{a:List Nat}{p q:Nat},Chn pre p a q->Cht (pre.map (lth ts)) (tg ts p) a (tg ts q)
 |[],p,q,h=>by have:p=q:=h;rw[this];rfl
 |k::a,p,q,⟨m,r,h1,h2⟩=>⟨tg ts m,r,Qgx h1,Qpw h2⟩
theorem Qj0(cl:Vo ts){w:Option (Th×Th)}(g:Gdl (tfs ts) lks ls)(lt:∀l∈ls,l.1<ts.length/\l.2.1<ts.length)
  (B:∀a b n,(a,b,Ga (.told n))∈lks->tl[n]?=Ga (Gf,tg ts a,tg ts b))(z:∀a b,(a,b,Ga .asked)∈lks->w=Ga (tg ts a,tg ts b)):Gdt tl w (ls.map (lth ts)):=by
 intro i a b r hi;rw[List.getElem?_map]at hi;cases e:ls[i]? with
 |none=>rw[e]at hi;cases hi
 |some l=>
  rw[e]at hi;obtain⟨p,q,G⟩:=l;cases hi;dsimp only;generalize G=r at*;have ok:=g i p q r e;obtain⟨lp,t⟩:=lt _ (List.mem_of_getElem? e);rw[<-List.map_take];cases r with
  |told n=>exact B p q n ok
  |asked=>exact z p q ok
  |turn k=>obtain⟨d,h⟩:=ok;exact⟨d,Qgx h⟩
  |chain D=>exact Qpw ok
  |like D=>obtain⟨h1,h2,m,y⟩:=ok;obtain⟨H,f⟩:=Wq (Wg lp);obtain⟨I,x⟩:=Wq (Wg t);have E:tg ts p∈ts:=List.mem_of_getElem? (Wg lp);have F:tg ts q∈ts:=List.mem_of_getElem? (Wg t);rw[f,x,List.length_map,List.length_map]at h2;rw[f,List.length_map]at m;refine⟨by rw[<-H,<-I];exact h1,h2,m,λj k u v A o s=>?_⟩;have C:=y j k (ts.idxOf u) (ts.idxOf v) A (by rw[f,List.getElem?_map,o];rfl) (by rw[x,List.getElem?_map,s];rfl);obtain⟨d,c⟩:=C;have:=Qgx (ts:=ts) c;rw[Rt (Xr cl E u (List.mem_of_getElem? o)),Rt (Xr cl F v (List.mem_of_getElem? s))]at this;exact⟨d,this⟩
def Qzo(H:Hp)(X:Gc->Prop)(v:V)(l:Lt):Prop:=∃c a b rv,v=.ref c/\H c=Ga (.tup [a,b,rv])/\Z5 H a l.1/\Z5 H b l.2.1/\Qav H X rv l.2.2
def Wm(H:Hp)(X:Gc->Prop)(v:V)(ls:List Lt):Prop:=∃L vs,v=.ref L/\H L=Ga (.lst vs)/\¬X L/\Paired (Qzo H X) vs ls
theorem Wm.kp{X:Gc->Prop}{H H':Hp}(a:Qp H H')(lp:∀{c:Gc}{ys:List V},H c=Ga (.lst ys)->¬X c->H' c=Ga (.lst ys)){v:V}{ls:List Lt}(h:Wm H X v ls):Wm H' X v ls:=by obtain⟨L,vs,h1,h2,b,d⟩:=h;exact⟨L,vs,h1,lp h2 b,b,L2.Paired.Yb d λ_ _⟨c,l,m,rv,f,g,i,j,k⟩=>⟨c,l,m,rv,f,a _ _ g,i.Qk a,j.Qk a,k.kp (λe=>a _ _ e) lp⟩⟩
theorem Wm.ex{X Y:Gc->Prop}{H:Hp}(a:∀c ys,H c=Ga (.lst ys)->¬X c->¬Y c){v:V}{ls:List Lt}(h:Wm H X v ls):Wm H Y v ls:=by obtain⟨L,vs,h1,h2,b,d⟩:=h;exact⟨L,vs,h1,h2,a _ _ h2 b,L2.Paired.Yb d λ_ _⟨c,k,l,rv,e,f,g,i,j⟩=>⟨c,k,l,rv,e,f,g,i,j.ex a⟩⟩
theorem Qsk{us:List V}(d:Zn H us ts)(h:Qlv H X us v ls):Wm H X v (ls.map (lth ts))/\∀l∈ls,l.1<ts.length/\l.2.1<ts.length:=by
 obtain⟨L,vs,h1,h2,o,g⟩:=h;have a:=d.length;have key:∀{vs:List V}{ls:List Ln},Paired (Qga H X us) vs ls->Paired (Qzo H X) vs (ls.map (lth ts))/\∀l∈ls,l.1<ts.length/\l.2.1<ts.length:=by
  intro vs ls h;induction h with
  |nil=>exact⟨.nil,λl m=>nomatch m⟩
  |@cons v l vs ls n t i=>
   obtain⟨c,u,w,rv,p,q,j,k,r⟩:=n;have l1:l.1<ts.length:=by rw[<-a];exact(List.getElem?_eq_some_iff.mp j).1
   have l2:l.2.1<ts.length:=by rw[<-a];exact(List.getElem?_eq_some_iff.mp k).1
   obtain⟨x,e,i1⟩:=d.at (Wg l1);obtain⟨y,f,i2⟩:=d.at (Wg l2);rw[j]at e;rw[k]at f;cases e;cases f;refine⟨.cons ⟨c,u,w,rv,p,q,i1,i2,r⟩ i.1,λs b=>?_⟩;rcases List.mem_cons.mp b with rfl|b
   ·exact⟨l1,l2⟩
   ·exact i.2 s b
 exact⟨⟨L,vs,h1,h2,o,(key g).1⟩,(key g).2⟩
structure Wth(tl:Tl)(S:List Th)(rs:List Row):Prop where
 ex:∃L:Th->Nat,(∀s∈S,∀t∈S,L s=L t↔Cg tl s t)/\(∀t∈S,(t.word,t.parts.map L,L t)∈rs)/\∀r∈rs,∃t∈S,r=(t.word,t.parts.map L,L t)
 cl:∀t∈S,∀p∈t.parts,p∈S
 nd:(rs.map λr=>(r.1,r.2.1)).Nodup
theorem Qqz(nd:ts.Nodup)(cl:Vo ts){k:List Row}(j:Qeg (tfs ts) x.S)(W:Wok (tfs ts) x k)(h:∀p∈x.S,∀q∈x.S,x.lead p=x.lead q↔Cg tl (tg ts p) (tg ts q)):Wth tl (x.S.map (tg ts)) k:=by
 have lt:∀p∈x.S,p<ts.length:=λp a=>by have:=j.lt p a;rwa[W8]at this
 have at_:∀p∈x.S,ts[p]?=Ga (tg ts p):=λp a=>Wg (lt p a);have mem:∀p∈x.S,tg ts p∈ts:=λp a=>List.mem_of_getElem? (at_ p a);have g:∀p∈x.S,ts.idxOf (tg ts p)=p:=λp a=>R6 nd (at_ p a);obtain⟨N,n1,n2,n3⟩:=W.ex;have d:∀p∈x.S,Vb (tfs ts) x N p=((tg ts p).word,(tg ts p).parts.map (λt=>N (x.lead (ts.idxOf t))),N (x.lead (ts.idxOf (tg ts p)))):=λp a=>by obtain⟨n,i⟩:=Wq (at_ p a);unfold Vb;rw[n,i,List.map_map,g p a];rfl
 refine⟨⟨λt=>N (x.lead (ts.idxOf t)),λs m t c=>?_,λt c=>?_,λr l=>?_⟩,λt c q b=>?_,W.nd⟩
 ·obtain⟨p,a,rfl⟩:=List.mem_map.mp m;obtain⟨q,b,rfl⟩:=List.mem_map.mp c;dsimp only;rw[g p a,g q b,<-h p a q b];exact⟨n1 p a q b,λe=>by rw[e]⟩
 ·obtain⟨p,a,rfl⟩:=List.mem_map.mp c;rw[<-d p a];exact n2 p a
 ·obtain⟨p,a,rfl⟩:=n3 r l;exact⟨_,List.mem_map.mpr ⟨p,a,Xb⟩,d p a⟩
 ·obtain⟨p,a,rfl⟩:=List.mem_map.mp c;have f:=Xr cl (mem p a) q b;obtain⟨_,i⟩:=Wq (at_ p a);have:ts.idxOf q∈Zl (tfs ts) p:=by rw[i];exact List.mem_map.mpr ⟨q,b,Xb⟩
  exact List.mem_map.mpr ⟨_,j.pts p a _ this,Rt f⟩
def Wn(p t e:Gc):List (Gy×V):=[("places",.ref p),("told",.ref t),("entries",.ref e)]
theorem Uk(p t e:Gc):(Wn p t e).lookup ("places":Gy)=Ga (.ref p):=by rfl
theorem Qgs(p t e:Gc):(Wn p t e).lookup ("told":Gy)=Ga (.ref t):=by rfl
theorem Vs(p t e:Gc):(Wn p t e).lookup ("entries":Gy)=Ga (.ref e):=by rfl
theorem Qod(p t e:Gc):(Wn p t e).lookup ("answer":Gy)=Ge:=by rfl
theorem Qow(p t e:Gc):(Wn p t e).lookup ("go_back":Gy)=Ge:=by rfl
theorem Qvc(p t e:Gc):(Wn p t e).lookup ("tell":Gy)=Ge:=by rfl
theorem Qxr(p t e:Gc):(Wn p t e).lookup ("ask":Gy)=Ge:=by rfl
theorem J2(p t e:Gc):(Wn p t e).lookup ("lines_for":Gy)=Ge:=by rfl
theorem Qn9(a f d:Gc):(Rc a f d).lookup ("things":Gy)=Ga (.ref a):=by rfl
theorem Qjj(a f d:Gc):(Rc a f d).lookup ("forms":Gy)=Ga (.ref f):=by rfl
theorem Qcu(a f d:Gc):(Rc a f d).lookup ("place_of":Gy)=Ge:=by rfl
theorem Qn0(p t e t':Gc):Yo "told" (.ref t') (Wn p t e)=Wn p t' e:=by rfl
theorem Oj(p t e a:Gc):Yo "entries" (.ref a) (Wn p t e)=Wn p t a:=by rfl
def Qeh(ts:List Th):List En->Tl->Prop:=Paired λ(e:En)(p:Bool×Th×Th)=>e.1=tw p.1/\ts[e.2.1]?=Ga p.2.1/\ts[e.2.2]?=Ga p.2.2
structure V0(P:Gj)(w:Gs)(CP CB:Gc)(H:Hp)(bk p a f d t e:Gc)(ts:List Th)(tl:Tl):Prop where
 ob:∃dx,H bk=Ga (.ins CB dx (Wn p t e))
 pl:Pl P w CP H p a f d ts
 to:∃vs,H t=Ga (.lst vs)/\Vg H vs tl
 en:∃es ens,H e=Ga (.lst es)/\Paired (Qct H) es ens/\Qeh ts ens tl
 ta:t≠a
 tf:t≠f
 te:t≠e
 ea:e≠a
 ef:e≠f
structure Few(U ts:List Th)(tl:Tl):Prop where
 sub:∀t∈ts,t∈U
 cl:Vo U
 good:∀t∈U,t.good
 len:U.length<=60
 tl:tl.length<=900
theorem Qpp{l:List Th}(nd:l.Nodup)(h:∀p∈l,p∈S):l.length<=S.length:=by
 induction l generalizing S with
 |nil=>simp
 |cons a r c=>rw[List.nodup_cons]at nd;have:=c (S:=S.erase a) nd.2 λp b=>(List.mem_erase_of_ne (show p≠a fromλz=>nd.1 (by rw[<-z];exact b))).mpr (h p (List.mem_cons_of_mem _ b));have e:=List.length_erase_of_mem (h a List.mem_cons_self);have pos:0<S.length:=List.length_pos_of_mem (h a List.mem_cons_self);simp only[List.length_cons];omega
theorem Few.le(h:Few U ts tl)(nd:ts.Nodup):ts.length<=60:=TL (Qpp nd h.sub) h.len
def Lst(tl b:Tl)(n:Nat)(a c:Th):Prop:=tl[n]?=Ga (Gp,a,c)/\Cg b a c/\∀(j:Nat)d e,j<n->tl[j]?=Ga (Gp,d,e)->¬Cg b d e
def Ju(H:Hp)(X:Gc->Prop)(tl:Tl):Dd->V->Prop
 |.back i,v=>v=(Ve tl (.back i)).2
 |.tell b s t,v=>(¬Yy (tl++[(b,s,t)])/\v=.int ((tl.length:Int)+1))\/
   ∃d n a c lv ls,v=.ref d/\H d=Ga (.tup [.str "clash",jv n,lv])/\Lst (tl++[(b,s,t)]) (tl++[(b,s,t)]) n a c/\Wm H X lv ls/\Gdt (tl++[(b,s,t)]) Ge ls/\∃r,ls.getLast?=Ga (a,c,r)
 |.ask s t,v=>(Cg tl s t/\∃d lv ls,v=.ref d/\H d=Ga (.tup [.str "equal",lv])/\Wm H X lv ls/\Gdt tl Ge ls/\∃r,ls.getLast?=Ga (s,t,r))\/
   (¬Cg tl s t/\∃d n a c lv ls,v=.ref d/\H d=Ga (.tup [.str "unlike",jv n,lv])/\Lst tl (tl++[(Gf,s,t)]) n a c/\Wm H X lv ls/\Gdt tl (Ga (s,t)) ls/\∃r,ls.getLast?=Ga (a,c,r))\/
   (¬Cg tl s t/\(∀a c,(Gp,a,c)∈tl->¬Cg (tl++[(Gf,s,t)]) a c)/\∃d g h e f S,v=.ref d/\H d=Ga (.tup [.str "open",g,h])/\U8 H X g e/\U8 H X h f/\Wth tl S e/\Wth (tl++[(Gf,s,t)]) S f/\s∈S/\t∈S/\∀b a c,(b,a,c)∈tl->a∈S/\c∈S)
theorem Ju.kp{X:Gc->Prop}{H H':Hp}(f:Qp H H')(lp:∀{c:Gc}{ys:List V},H c=Ga (.lst ys)->¬X c->H' c=Ga (.lst ys)){tl:Tl}:∀{d:Dd}{v:V},Ju H X tl d v->Ju H' X tl d v
 |.back i,v,h=>h
 |.tell b s t,v,h=>by
  rcases h with h|⟨g,n,a,c,lv,ls,h1,h2,j,k,m⟩
  ·exact .inl h
  ·exact .inr ⟨g,n,a,c,lv,ls,h1,f _ _ h2,j,k.kp f lp,m⟩
 |.ask s t,v,h=>by
  rcases h with⟨l,g,lv,ls,h1,h2,j,k⟩|⟨l,g,n,a,c,lv,ls,h1,h2,j,k,m⟩|⟨l,o,g,r,u,p,q,S,h1,h2,j,k,m⟩
  ·exact .inl ⟨l,g,lv,ls,h1,f _ _ h2,j.kp f lp,k⟩
  ·exact .inr (.inl ⟨l,g,n,a,c,lv,ls,h1,f _ _ h2,j,k.kp f lp,m⟩)
  ·exact .inr (.inr ⟨l,o,g,r,u,p,q,S,h1,f _ _ h2,j.kp (λe=>f _ _ e) lp,k.kp (λe=>f _ _ e) lp,m⟩)
theorem Ju.ex{X Y:Gc->Prop}{H:Hp}(l:∀c ys,H c=Ga (.lst ys)->¬X c->¬Y c){tl:Tl}:∀{d:Dd}{v:V},Ju H X tl d v->Ju H Y tl d v
 |.back i,v,h=>h
 |.tell b s t,v,h=>by
  rcases h with h|⟨e,n,a,c,lv,ls,h1,h2,f,g,k⟩
  ·exact .inl h
  ·exact .inr ⟨e,n,a,c,lv,ls,h1,h2,f,g.ex l,k⟩
 |.ask s t,v,h=>by
  rcases h with⟨j,e,lv,ls,h1,h2,f,g⟩|⟨j,e,n,a,c,lv,ls,h1,h2,f,g,k⟩|⟨j,m,e,q,r,o,p,S,h1,h2,f,g,k⟩
  ·exact .inl ⟨j,e,lv,ls,h1,h2,f.ex l,g⟩
  ·exact .inr (.inl ⟨j,e,n,a,c,lv,ls,h1,h2,f,g.ex l,k⟩)
  ·exact .inr (.inr ⟨j,m,e,q,r,o,p,S,h1,h2,f.ex l,g.ex l,k⟩)
theorem Ju.head{X:Gc->Prop}{H:Hp}{tl:Tl}:∀{d:Dd}{v:V},Ju H X tl d v->Qyg H v (Ve tl d).2
 |.back i,v,h=>.inl h
 |.tell b s t,v,h=>by
  rcases h with⟨h1,h2⟩|⟨e,n,a,c,lv,ls,h1,h2,g,_⟩
  ·left;simp only[Ve];rw[Gg h1,h2]
  ·right;have hb:Yy (tl++[(b,s,t)]):=⟨a,c,List.mem_of_getElem? g.1,g.2.1⟩;simp only[Ve];rw[Gk hb];exact⟨e,_,h1,h2⟩
 |.ask s t,v,h=>by
  right;rcases h with⟨f,e,lv,ls,h1,h2,_⟩|⟨f,e,n,a,c,lv,ls,h1,h2,g,_⟩|⟨f,j,e,m,o,p,q,S,h1,h2,_⟩
  ·refine⟨e,[lv],h1,?_⟩;simp only[Ve,kindOf];rw[Gk f];exact h2
  ·refine⟨e,[jv n,lv],h1,?_⟩;simp only[Ve,kindOf];rw[Gg f,Gk ⟨a,c,List.mem_of_getElem? g.1,g.2.1⟩];exact h2
  ·refine⟨e,[m,o],h1,?_⟩;simp only[Ve,kindOf];rw[Gg f,Gg λ⟨a,c,k,l⟩=>j a c k l];exact h2
theorem Qoe(h:t.good):t.parts.length<=100:=by
 cases t with
 |mk u ps=>have:=Zi ps;have:=h.2.2;simp only[Th.size]at this;simp only[Th.parts];omega
theorem Qkr{p:Th}(h:p∈t.parts):p.depth<t.depth:=by
 cases t with
 |mk u ps=>simp only[Th.parts]at h;have:=Wy h;simp only[Th.depth];omega
theorem Quf(h:t.ok=Gf):TW t.word=Gf:=by
 cases t with
 |mk u ps=>simp only[Th.ok,GO]at h;exact h.1
theorem Ql9(h:¬p<ts.length):Yg (tfs ts) p=DY/\Zl (tfs ts) p=[]:=by unfold Yg Zl tfs;rw[List.getD_eq_getElem?_getD,List.getElem?_eq_none (by rw[List.length_map];omega)];exact⟨Xb,Xb⟩
theorem Qwm(nd:ts.Nodup)(cl:Vo ts)(c:∀t∈ts,t.good)(l:ts.length<=60):Qx0 (tfs ts) (λp=>(tg ts p).depth)/\∀p,(tg ts p).depth<59:=by
 have mem:∀{p:Nat},p<ts.length->tg ts p∈ts:=λh=>List.mem_of_getElem? (Wg h);refine⟨⟨λp=>?_,λp=>?_,λp a q b=>?_,λp q a b d e=>?_,by rw[W8];omega⟩,λp=>?_⟩
 ·by_cases h:p<ts.length
  ·rw[(Wq (Wg h)).1];exact Quf (c _ (mem h)).1
  ·rw[(Ql9 h).1];decide+kernel
 ·by_cases h:p<ts.length
  ·rw[(Wq (Wg h)).2,List.length_map];exact Qoe (c _ (mem h))
  ·rw[(Ql9 h).2];exact Gv _
 ·rw[W8]at a⊢;rw[(Wq (Wg a)).2]at b;obtain⟨s,f,rfl⟩:=List.mem_map.mp b;have:=Xr cl (mem a) s f;refine⟨List.idxOf_lt_length_of_mem this,?_⟩;rw[Rt this];exact Qkr f
 ·rw[W8]at a b;obtain⟨j,g⟩:=Wq (Wg a);obtain⟨k,i⟩:=Wq (Wg b);rw[j,k]at d;rw[g,i]at e;have:=Qle (ts:=ts) (Xr cl (mem a)) (Xr cl (mem b)) (SU d e);rw[<-R6 nd (Wg a),<-R6 nd (Wg b),this]
 ·by_cases h:p<ts.length
  ·have:=(c _ (mem h)).2.1;omega
  ·have:tg ts p=.mk DY []:=by unfold tg;rw[List.getD_eq_getElem?_getD,List.getElem?_eq_none (by omega)];rfl
   rw[this];simp[Th.depth,Xx]
theorem Qdk{b:Bool}(h:("same":Gy)=tw b):b=Gf:=by
 cases b with
 |true=>rfl
 |false=>exact absurd h (by decide+kernel)
theorem Qko{b:Bool}(h:("unlike":Gy)=tw b):b=Gp:=by
 cases b with
 |true=>exact absurd h (by decide+kernel)
 |false=>rfl
theorem Qb0(R:Qeh ts ens tl){k:Gy}(h:ens[j]?=Ga (k,p,q)):∃b,k=tw b/\tl[j]?=Ga (b,tg ts p,tg ts q):=by obtain⟨⟨b,s,t⟩,h1,h2,a,c⟩:=Qw R h;exact⟨b,h2,by rw[h1,Ud a,Ud c]⟩
theorem Oh(R:Qeh ts ens tl){b:Bool}{s:Th}(h:tl[j]?=Ga (b,s,t)):∃p q,ens[j]?=Ga (tw b,p,q)/\ts[p]?=Ga s/\ts[q]?=Ga t:=by
 have e:=Paired.length R;have a:j<ens.length:=by rw[e];exact(List.getElem?_eq_some_iff.mp h).1
 obtain⟨⟨f,s',t'⟩,h1,h2,c,d⟩:=Qw R (List.getElem?_eq_getElem a);rw[h]at h1;cases h1;refine⟨ens[j].2.1,ens[j].2.2,?_,c,d⟩;rw[List.getElem?_eq_getElem a,<-h2]
theorem Qi2{c:List En}(R:Qeh ts ens tl)(e:∀p q,sme p q∈c↔sme p q∈ens):
  (∀a b,(Gf,a,b)∈tl->∃p q,(p,q)∈Qdu c/\ts[p]?=Ga a/\ts[q]?=Ga b)/\∀p q,(p,q)∈Qdu c->(Gf,tg ts p,tg ts q)∈tl:=by
 constructor
 ·intro a b h;obtain⟨j,d⟩:=List.mem_iff_getElem?.mp h;obtain⟨p,q,h1,h2,f⟩:=Oh R d;exact⟨p,q,Vt.mpr ((e p q).mpr (List.mem_of_getElem? h1)),h2,f⟩
 ·intro p q h;obtain⟨j,d⟩:=List.mem_iff_getElem?.mp ((e p q).mp (Vt.mp h));obtain⟨b,h1,h2⟩:=Qb0 R d;rw[Qdk h1]at h2;exact List.mem_of_getElem? h2
theorem Qls{b:Tl}(R:Qeh ts ens tl)(hS:∀e∈ens,e.2.1∈x.S/\e.2.2∈x.S)(cg:∀p∈x.S,∀q∈x.S,x.lead p=x.lead q↔Cg b (tg ts p) (tg ts q))(h:Qx9 x ens Ge):∀a c,(Gp,a,c)∈tl->¬Cg b a c:=λa c i f=>by obtain⟨j,g⟩:=List.mem_iff_getElem?.mp i;obtain⟨p,q,h1,h2,d⟩:=Oh R g;obtain⟨k,l⟩:=hS _ (List.mem_of_getElem? h1);refine h j p q h1 ((cg p k q l).mpr ?_);rw[Ud h2,Ud d];exact f
theorem Qlp{a:Tl}{n:Nat}(R:Qeh ts ens tl)(hS:∀e∈ens,e.2.1∈x.S/\e.2.2∈x.S)(cg:∀p∈x.S,∀q∈x.S,x.lead p=x.lead q↔Cg a (tg ts p) (tg ts q))(h:Qx9 x ens (Ga n)):
  ∃p q,ens[n]?=Ga (unl p q)/\x.lead p=x.lead q/\p∈x.S/\q∈x.S/\Lst tl a n (tg ts p) (tg ts q):=by
 obtain⟨⟨p,q,h1,h2⟩,r⟩:=h;obtain⟨l,o⟩:=hS _ (List.mem_of_getElem? h1);obtain⟨b,hb,g⟩:=Qb0 R h1;rw[Qko hb]at g;refine⟨p,q,h1,h2,l,o,g,(cg p l q o).mp h2,λj w y t c s=>?_⟩;obtain⟨k,m,i,u,v⟩:=Oh R c;obtain⟨d,f⟩:=hS _ (List.mem_of_getElem? i);refine r j k m t i ((cg k d m f).mpr ?_);rw[Ud u,Ud v];exact s
structure Qht(K:PySem.W.Frag)(mg:Gy->Option Value)(C:Gc):Prop where
 cl:Cls K C
 places:Yr K C "places"
 told:Yr K C "told"
 entries:Yr K C "entries"
 mgC:mg "Book"=Ga (.ref C)
 no:∃u,mg "NO_MOMENT"=Ga u/\RelV (.str "no moment") u
structure Lng(fs:List Fm)(x:Nn):Prop where
 inv:X8 (Yg fs) (Zl fs) x []
 fok:Qeg fs x.S
 len:x.S.length<=60
 lk:x.links.length<64
 few:∀p,(Zl fs p).length<=100
def Rw(P:Gj)(w:Gs)(C CP c:Gc):Sp:=λvs H Q _=>∃(bk p a f d t e:Gc)(ts:List Th)(tl:Tl)(n:Gc)(A:Na)(tb:Nat)(x:Nn)(ev:V)(k:Gy)(p1 p2:Nat),vs=[.ref bk,.ref n,ev]/\V0 P w CP c H bk p a f d t e ts tl/\Qct H ev (k,p1,p2)/\Z3 P w C H n A (tfs ts) tb x/\Lng (tfs ts) x/\p1∈x.S/\p2∈x.S/\x.lead p1=x.lead p2/\
 ∀(v:V)(ls:List Ln)(H':Hp),Qv H H'->Wm H' (λb=>∃o,H b=Ga o) v (ls.map (lth ts))->(∀l∈ls,l.1<ts.length/\l.2.1<ts.length)->Gdl (tfs ts) x.links ls->(∃r,ls.getLast?=Ga (p1,p2,r))->Q v H'
section
variable{P:Gj}{w:Gs}{K:PySem.W.Frag}{mg:Gy->Option Value}{base:Heap}
theorem V0.same{CP c:Gc}{H H':Hp}{bk p a f d t e:Gc}{ts:List Th}{tl:Tl}(B:V0 P w CP c H bk p a f d t e ts tl)(g:Qv H H'):V0 P w CP c H' bk p a f d t e ts tl:=by obtain⟨dx,l⟩:=B.ob;obtain⟨vs,m,n⟩:=B.to;obtain⟨es,b,i,j,k⟩:=B.en;exact⟨⟨dx,g _ _ l⟩,B.pl.same g,⟨vs,g _ _ m,n.Qk (Qp.of g)⟩,⟨es,b,g _ _ i,L2.Paired.Yb j λ_ _ h=>h.Qk (Qp.of g),k⟩,B.ta,B.tf,B.te,B.ea,B.ef⟩
theorem Qj7:Qy ["self","net","entry"] ["self","net","entry"] (Ql Ir):=by eq_refl
theorem Qhk(F:Va K "lines_for" "Book.lines_for" Ir f0 fd)(T:Qht K mg CB)(TP:Qc9 K mg CP)(G:Qt P w K mg base Ya 6 fB fdB ["things","net","one","other"] (Qh3 P w C))(z:KI K fB)(m:Binds K fdB ["things","net","one","other"] [])(D:MG mg "lines_between" fB):
  Qt P w K mg base Ya 7 f0 fd ["self","net","entry"] (Rw P w C CP CB):=by
 refine F.ok Qj7 (λvs H Q E h=>?_) (λcdv A outer s H vs Q E y h=>?_)
 ·obtain⟨bk,p,a,f,d,t,e,ts,tl,n,A,tb,x,ev,k,p1,p2,rfl,_⟩:=h;rfl
 obtain⟨bk,p,a,f,d,t,e,ts,tl,n,A,tb,x,ev,k,p1,p2,rfl,B,⟨c,rfl,j⟩,X,i,L,M,o,q⟩:=h;refine⟨_,Qh (Qx (Zv G y rfl D z m .nil Q4 (Qa (Qm (Qm (pv 0) rfl) rfl) (Qa (pv 1) (Qa (Qn Q3 (pv 2) Qj) (Qa (Qn Q3 (pv 2) Qj) Qe)))))),?_⟩;obtain⟨dx,I⟩:=B.ob;obtain⟨dp,J⟩:=B.pl.ob;obtain⟨us,N,l⟩:=B.pl.th;refine⟨_,Xb,bk,CB,dx,_,_,Xb,I,T.cl,T.places,Uk _ _ _,p,CP,dp,_,_,Xb,J,TP.cl,TP.nT,Qn9 _ _ _,_,Xb,_,Xb,c,_,_,_,Xb,Xb,Z4.of j,Re _ _ _,_,Xb,c,_,_,_,Xb,Xb,Z4.of j,Qhe _ _ _ _,a,n,A,tfs ts,tb,x,us,p1,p2,Xb,X,i.inv,i.fok,L,M,o,i.len,i.lk,i.few,N,by rw[W8,l.length],λv ls H' g u r b=>?_⟩;obtain⟨l1,l2⟩:=Qsk (l.same g) u;exact q v ls H' g l1 l2 r b
end
theorem Nok.same{P:Gj}{w:Gs}{C:Gc}{H0 H H':Hp}{n:Gc}{A:Na}{fs:List Fm}{tb:Nat}{x:Nn}(N:Nok P w C H0 H n A fs tb x)(g:Qv H H'):Nok P w C H0 H' n A fs tb x:=⟨N.at_.same g,N.inv,N.fok,N.new,N.nn,N.O9.trans g,N.len,N.tt,N.cl,N.tbb⟩
theorem Nok.lng(N:Nok P w C H0 H n A fs tb x)(few:∀p,(Zl fs p).length<=100):Lng fs x:=⟨N.inv,N.fok,N.len,by have:=N.cl;have:=N.len;omega,few⟩
theorem Nok.room(N:Nok P w C H0 H n A fs tb x):x.S.length<=10000/\Vv x<=10000/\cls x+x.links.length<=10000/\tb+cls x*Vv x<=900000:=by
 have b:=N.len;have a:=N.tt;have c:=N.cl;have d:=N.tbb;have e:x.links.length*Vv x+cls x*Vv x<=60*6000:=by rw[<-DM];exact LC (by omega) a
 exact⟨by omega,by omega,by omega,by omega⟩
def Qwh(P:Gj)(w:Gs)(CP c:Gc):Sp:=λvs H Q _=>∃(bk p a f d t e:Gc)(ts:List Th)(tl:Tl)(U:List Th)(ev:V)(p1 p2:Nat),vs=[.ref bk,ev]/\V0 P w CP c H bk p a f d t e ts tl/\Few U ts tl/\Qct H ev (("ask":Gy),p1,p2)/\p1<ts.length/\p2<ts.length/\
 ∀(v:V)(H':Hp),Qv H H'->Ju H' (λb=>∃o,H b=Ga o) tl (.ask (tg ts p1) (tg ts p2)) v->Q v H'
variable{w:Gy}
theorem Qsg(R:Qeh ts ens tl):∀e∈ens,e.2.1<ts.length/\e.2.2<ts.length:=λe c=>by obtain⟨j,d⟩:=List.mem_iff_getElem?.mp c;obtain⟨y,_,_,a,b⟩:=Qw R d;exact⟨(List.getElem?_eq_some_iff.mp a).1,(List.getElem?_eq_some_iff.mp b).1⟩
theorem Qcp(h:∃r,ls.getLast?=Ga (p,q,r)):∃r,(ls.map (lth ts)).getLast?=Ga (tg ts p,tg ts q,r):=by obtain⟨r,h⟩:=h;exact⟨r,by rw[List.getLast?_map,h];rfl⟩
section
variable{P:Gj}{w:Gs}{K:PySem.W.Frag}{mg:Gy->Option Value}{base:Heap}
theorem Qwb:Qy ["self","entry","net","apart","number"] ["self","entry"] (Ql Qt2):=by eq_refl
theorem Qyu{fE fM:Gc}{an ao am:Td}(F:Va K "ask" "Book.ask" Qt2 f0 fd)(T:Qht K mg CB)(TP:Qc9 K mg CP)(TN:V5 K mg C)
  (GN:Qt P w K mg base Ya 61 fN fdN ["forms","told"] (Qfx P w C))(kN:KI K fN)(bN:Binds K fdN ["forms","told"] [])(mN:MG mg "net_of" fN)
  (mE:Yc K C "equal" fE)(GE:Qt P w K mg base Ya 1 fE an ["self","one","other"] (Qb2 P w C))(bE:Binds K an ["self","one","other"] [])(mR:Yc K C "rows" fR)(GR:Qt P w K mg base Ya 2 fR fdR ["self"] (Qpu P w C))(bR:Binds K fdR ["self"] [])
  (mM:Yc K C "merge" fM)(GM:Qt P w K mg base Ya 4 fM ao ["self","one","other","reason"] (Qgb P w C))(bM:Binds K ao ["self","one","other","reason"] [])
  (GC:Qt P w K mg base Ya 2 fC am ["net","entries"] (Qgk P w C))(kC:KI K fC)(bC:Binds K am ["net","entries"] [])(mC:MG mg "least_clash" fC)
  (mL:Yc K CB "lines_for" fL)(GL:Qt P w K mg base Ya 7 fL fdL ["self","net","entry"] (Rw P w C CP CB))(bL:Binds K fdL ["self","net","entry"] []):
  Qt P w K mg base Ya 62 f0 fd ["self","entry"] (Qwh P w CP CB):=by
 refine F.ok Qwb (λvs H Q E h=>?_) (λcdv A outer s H vs Q E hr h=>?_)
 ·obtain⟨bk,p,a,f,d,t,e,ts,tl,U,ev,p1,p2,rfl,_⟩:=h;rfl
 obtain⟨bk,p,a,f,d,t,e,ts,tl,U,ev,p1,p2,rfl,B,FW,⟨i,rfl,D⟩,aq,ar,q⟩:=h;have aQ:Yd 1 _:=hr.mono (by omega);have ah:Yd 2 _:=hr.mono (by omega);have aR:Yd 4 _:=hr.mono (by omega);have av:Yd 7 _:=hr.mono (by omega);have nd:=Qwb.nd;refine⟨_,Qd (Qs 2 nd (Zv GN hr rfl mN kN bN .nil Q4 (Qa (Qm (Qm (pv 0) rfl) rfl) (Qa (Zf Vy (Qm (pv 0) rfl) (Zj (Qa (pv 1) Qe))) Qe))))
  (Qd (Zr (Xz (Zd (pv 2) TN.cl mE GE aQ bE .nil Q4 (Qa (Qn Q3 (pv 1) Qj) (Qa (Qn Q3 (pv 1) Qj) Qe))))
   (Qh (Qx (Q8 (Qa Q5 (Qa (Zd (pv 0) T.cl mL GL av bL .nil Q4 (Qa (pv 2) (Qa (pv 1) Qe))) Qe))))) Q9)
  (Qd (Qs 3 nd (Qhz (pv 2) TN.cl mR GR ah bR .nil Q4))
  (Qd (Zc (Zd (pv 2) TN.cl mM GM aR bM .nil Q4 (Qa (Qn Q3 (pv 1) Qj) (Qa (Qn Q3 (pv 1) Qj) (Qa (Q8 (Qa Q5 Qe)) Qe)))))
  (Qd (Qs 4 nd (Zv GC ah rfl mC kC bC .nil Q4 (Qa (pv 2) (Qa (Qm (pv 0) rfl) Qe))))
  (Qd (Zr (Qu O3 (pv 4) Ji (Za _))
   (Qh (Qx (Q8 (Qa Q5 (Qa (pv 4) (Qa (Zd (pv 0) T.cl mL GL av bL .nil Q4 (Qa (pv 2) (Qa (Qn Ze (Qm (pv 0) rfl) (pv 4)) Qe))) Qe)))))) Q9)
  (Qh (Qx (Q8 (Qa Q5 (Qa (pv 3) (Qa (Qhz (pv 2) TN.cl mR GR ah bR .nil Q4) Qe))))))))))),?_⟩
 obtain⟨dx,o1⟩:=B.ob;obtain⟨dp,o2⟩:=B.pl.ob;obtain⟨ws,f1,f2⟩:=B.pl.fo;obtain⟨es,g,e1,e2,R⟩:=B.en;have G:=B.pl.nd;have k:=B.pl.cl;have ab:=FW.le G;obtain⟨TK,aB⟩:=Qwm G k (λt ht=>FW.good t (FW.sub t ht)) ab;have aT:es.length=tl.length:=(Paired.length e2).trans (Paired.length R);have aU:=FW.tl;refine⟨_,Xb,bk,CB,dx,_,_,Xb,o1,T.cl,T.places,Uk _ _ _,p,CP,dp,_,_,Xb,o2,TP.cl,TP.nF,Qjj _ _ _,_,Xb,bk,CB,dx,_,_,Xb,o1,T.cl,T.entries,Vs _ _ _,_,Xb,by show 1<=Gh;decide,λr0 aP=>?_⟩;have s0:=Qf aP (.lst [.ref i]);refine⟨e,r0,es,[.ref i],Xb,Xb,s0 _ _ e1,Qb,by rw[Gu];simp only[List.length_singleton];omega,λr1 au=>?_⟩;have s1:=s0.trans (Qf au (.lst (es++[.ref i])));have g1:(upd (upd H r0 (.lst [.ref i])) r1 (.lst (es++[.ref i]))) r1=Ga (.lst (es++[.ref i])):=Qb;generalize upd (upd H r0 (.lst [.ref i])) r1 (.lst (es++[.ref i]))=H1 at s1 g1;have al:=Qp.of s1;have aA:Paired (Qct H1) (es++[.ref i]) (g++[(("ask":Gy),p1,p2)]):=Paired.snoc (L2.Paired.Yb e2 λ_ _ h=>h.Qk al) ⟨i,Xb,al _ _ D⟩;refine⟨f,r1,ws,_,tfs ts,_,_,Xb,s1 _ _ f1,L2.Paired.Yb f2 λ_ _ h=>h.Qk al,g1,aA,TK,by rw[W8];exact ab,aB,λen ag=>?_,by rw[<-Paired.length aA,List.length_append,List.length_singleton];omega,λn A tb x H2 N _ U=>?_⟩
 ·rw[W8];rcases List.mem_append.mp ag with h|h
  ·exact Qsg R en h
  ·have:en=(("ask":Gy),p1,p2):=by simpa using h
   rw[this];exact⟨aq,ar⟩
 have S2:Qv H H2:=s1.trans N.O9;have J:∀p q,sme p q∈g++[(("ask":Gy),p1,p2)]↔sme p q∈g:=λp q=>by
  rw[List.mem_append];constructor
  ·rintro(h|h)
   ·exact h
   ·rw[List.mem_singleton]at h;exact absurd (show("same":Gy)="ask"from congrArg (·.1) h) (by decide+kernel)
  ·exact .inl
 obtain⟨aC,aD⟩:=Qi2 R J;have EQ:=Qmg U;have ac:∀p∈x.S,∀q∈x.S,x.lead p=x.lead q↔Cg tl (tg ts p) (tg ts q):=λp hp q hq=>EQ.cg G k N.inv N.fok aC aD hp hq;have M:∀a b n,(a,b,Ga (.told n))∈x.links->tl[n]?=Ga (Gf,tg ts a,tg ts b):=λa b n h=>by
  rcases U.rsn _ h with z|⟨j,p',q',h1,h2⟩
  ·cases z
  ·cases h1;have hj:n<g.length:=by
    rcases Tb n g.length with h|h
    ·exact h
    ·rw[List.getElem?_append_right h]at h2;have:n - g.length=0:=by
      rcases Tb (n - g.length) 1 with h'|h'
      ·omega
      ·rw[List.getElem?_eq_none (by simpa using h')]at h2;cases h2
     rw[this]at h2;have h2:((("ask":Gy),p1,p2):En)=sme a b:=by simpa using h2
     exact absurd (show("ask":Gy)="same"from congrArg (·.1) h2) (by decide+kernel)
   rw[List.getElem?_append_left hj]at h2;obtain⟨b',h3,h4⟩:=Qb0 R h2;rw[Qdk h3]at h4;exact h4
 have L:∀a b,¬(a,b,Ga U2.asked)∈x.links:=λa b h=>by
  rcases U.rsn _ h with z|⟨j,p',q',h1,h2⟩
  ·cases z
  ·cases h1
 obtain⟨W,X⟩:=U.ins (("ask":Gy),p1,p2) (by simp);have W:p1∈x.S:=W;have X:p2∈x.S:=X;have aa:∀en∈g,en.2.1∈x.S/\en.2.2∈x.S:=λen ag=>U.ins en (List.mem_append_left _ ag);obtain⟨dn,on⟩:=N.at_.ob;refine⟨_,Xb,n,dn,_,Xb,on,Qc5 _,_,Xb,i,_,_,_,Xb,Xb,Z4.of (S2 _ _ D),Re _ _ _,_,Xb,i,_,_,_,Xb,Xb,Z4.of (S2 _ _ D),Qhe _ _ _ _,n,A,_,tb,x,p1,p2,Xb,N.at_,W,X,_,Xb,?_⟩;by_cases I:x.lead p1=x.lead p2
 ·rw[GQ I];refine Xf ?_;have hC:=(ac p1 W p2 X).mp I;refine⟨_,Xb,bk,dx,_,Xb,S2 _ _ o1,J2 _ _ _,_,Xb,_,Xb,bk,p,a,f,d,t,e,ts,tl,n,A,tb,x,.ref i,_,p1,p2,Xb,B.same S2,⟨i,Xb,S2 _ _ D⟩,N.at_,N.lng TK.few,W,X,I,λlv ls H3 g3 hl hb hg l=>?_⟩;refine⟨by show 2<=Gh;decide,λc5 aL=>?_⟩;have s5:=Qf aL (.tup [.str "equal",lv]);refine q _ _ ((S2.trans g3).trans s5) (.inl ⟨hC,c5,lv,ls.map (lth ts),Xb,Qb,(hl.ex λc ys _ J⟨o,ho⟩=>J ⟨o,S2 _ _ ho⟩).kp (Qp.of s5) (λe _=>s5 _ _ e),Qj0 k hg hb M (λa b h=>absurd h (L a b)),Qcp l⟩)
 ·rw[Gx I];refine Zz ?_;have hC:¬Cg tl (tg ts p1) (tg ts p2):=λz=>I ((ac p1 W p2 X).mpr z);refine⟨_,Xb,n,dn,_,Xb,on,Qmb _,n,A,_,tb,x,Xb,N.at_,N.fok,N.inv,by have:=N.len;omega,λv1 aE H3 g3 aw W1=>?_⟩;have S3:=S2.trans g3;have N3:=N.same g3;refine⟨_,Xb,n,dn,_,Xb,g3 _ _ on,Qiy _,_,Xb,i,_,_,_,Xb,Xb,Z4.of (S3 _ _ D),Re _ _ _,_,Xb,i,_,_,_,Xb,Xb,Z4.of (S3 _ _ D),Qhe _ _ _ _,by show 1<=Gh;decide,λc4 aK=>?_⟩;have s4:=Qf aK (.tup [.str "asked"]);have N4:=N3.same s4;obtain⟨z1,z2,z3,z4⟩:=N.room;refine⟨n,A,_,tb,x,p1,p2,.ref c4,Ga .asked,Xb,N4.at_,N.fok,⟨c4,Xb,Qb⟩,by simp,W,X,N.inv,z1,z2,z3,z4,λZ H5 Y5 M5 F5=>?_⟩;have N5:=N4.merged Y5 M5 F5;have S5:Qv H H5:=s1.trans N5.O9;have aH:=Qvk EQ M5 W X;have eS:=M5.S;have ad:∀p∈Z.S,∀q∈Z.S,Z.lead p=Z.lead q↔Cg (tl++[(Gf,tg ts p1,tg ts p2)]) (tg ts p) (tg ts q):=λp hp q hq=>aH.cg G k N5.inv N5.fok (λa b h=>by
   rcases List.mem_append.mp h with h|h
   ·obtain⟨u,v,h1,h2⟩:=aC a b h;exact⟨u,v,List.mem_append_left _ h1,h2⟩
   ·have:(Gf,a,b)=(Gf,tg ts p1,tg ts p2):=by simpa using h
    cases this;exact⟨p1,p2,by simp,Wg aq,Wg ar⟩) (λu v h=>by
   rcases List.mem_append.mp h with h|h
   ·exact List.mem_append_left _ (aD u v h)
   ·have:(u,v)=(p1,p2):=by simpa using h
    cases this;simp) hp hq
  have r:∀en∈g,en.2.1∈Z.S/\en.2.2∈Z.S:=by rw[eS];exact aa
  refine⟨_,Xb,_,Xb,bk,CB,dx,_,_,Xb,S5 _ _ o1,T.cl,T.entries,Vs _ _ _,n,e,A,_,_,Z,es,g,Xb,N5.at_,S5 _ _ e1,L2.Paired.Yb e2 λ_ _ h=>h.Qk (Qp.of S5),r,λo H6 g6 ap=>?_⟩;have O:=S5.trans g6;have N6:=N5.same g6;have aG:∀{c:Gc}{ys:List V},H3 c=Ga (.tup ys)->H6 c=Ga (.tup ys):=λ{c ys}ec=>g6 _ _ (F5.keep _ _ (s4 _ _ ec) (N4.at_.Qks (s4 _ _ ec)));have az:∀{c:Gc}{ys:List V},H3 c=Ga (.lst ys)->¬(∃o,H2 c=Ga o)->H6 c=Ga (.lst ys):=λ{c ys}ec J=>g6 _ _ (F5.keep _ _ (s4 _ _ ec) (λz=>J (by have:=N.at_.own z;rcases this with⟨_,h⟩|⟨_,h⟩|⟨_,h⟩|⟨_,h⟩<;>exact⟨_,h⟩)))
  have ai:=(aw.kp aG az).ex (Y:=λb=>∃o,H b=Ga o) λc ys _ J⟨o,ho⟩=>J ⟨o,S2 _ _ ho⟩;refine⟨_,Xb,Xb,_,Xb,?_⟩;rw[Qft];cases o with
  |some m=>
   refine Xf ?_;obtain⟨p',q',h1,h2,aj,ak,aN⟩:=Qlp R r ad ap;have hm:m<es.length:=by rw[Paired.length e2];exact(List.getElem?_eq_some_iff.mp h1).1
   obtain⟨y,hy,ay⟩:=Qw e2 (List.getElem?_eq_getElem hm);rw[h1]at hy;cases hy;obtain⟨cm,aJ,aM⟩:=ay;refine⟨_,Xb,_,Xb,bk,dx,_,Xb,O _ _ o1,J2 _ _ _,_,Xb,_,Xb,bk,CB,dx,_,_,Xb,O _ _ o1,T.cl,T.entries,Vs _ _ _,_,Xb,e,es,_,_,Xb,Xb,Zb.of (O _ _ e1),Qz (List.getElem?_eq_getElem hm),bk,p,a,f,d,t,e,ts,tl,n,A,_,Z,_,_,p',q',Xb,B.same O,⟨cm,aJ,O _ _ aM⟩,N6.at_,N6.lng TK.few,aj,ak,h2,λlv ls H7 g7 hl hb hg l=>?_⟩;refine⟨by show 3<=Gh;decide,λc8 af=>?_⟩;have s8:=Qf af (.tup [.str "unlike",jv m,lv]);refine q _ _ ((O.trans g7).trans s8) (.inr (.inl ⟨hC,c8,m,_,_,lv,ls.map (lth ts),Xb,Qb,aN,(hl.ex λc ys _ J⟨o,ho⟩=>J ⟨o,O _ _ ho⟩).kp (Qp.of s8) (λe _=>s8 _ _ e),Qj0 k hg hb (λa b n h=>?_) (λa b h=>?_),Qcp l⟩))
   ·rcases M5.rsn _ h with z|z|z
    ·exact M a b n z
    ·cases z
    ·cases z
   ·rcases M5.rsn _ h with z|z|z
    ·exact absurd z (L a b)
    ·cases z;rfl
    ·cases z
  |none=>refine Zz ?_;have aO:=Qls R r ad ap;obtain⟨aI,aS⟩:=N6.at_.ob;refine⟨_,Xb,_,Xb,n,aI,_,Xb,aS,Qmb _,n,A,_,_,Z,Xb,N6.at_,N6.fok,N6.inv,by have:=N6.len;omega,λv2 aF H7 g7 ax W2=>?_⟩;refine⟨by show 3<=Gh;decide,λc8 af=>?_⟩;have s8:=Qf af (.tup [.str "open",v1,v2]);have ae:=g7.trans s8;refine q _ _ (O.trans ae) (.inr (.inr ⟨hC,aO,c8,v1,v2,aE,aF,x.S.map (tg ts),Xb,Qb,ai.kp (λe=>ae _ _ e) (λe _=>ae _ _ e),(ax.ex λc ys _ J⟨o,ho⟩=>J ⟨o,O _ _ ho⟩).kp (λe=>s8 _ _ e) (λe _=>s8 _ _ e),Qqz G k N.fok W1 ac,by rw[<-eS];exact Qqz G k N5.fok W2 ad,List.mem_map.mpr ⟨p1,W,Xb⟩,List.mem_map.mpr ⟨p2,X,Xb⟩,λb a c hm=>?_⟩));obtain⟨j,hj⟩:=List.mem_iff_getElem?.mp hm;obtain⟨p',q',h1,h2,h3⟩:=Oh R hj;obtain⟨aj,ak⟩:=aa _ (List.mem_of_getElem? h1);exact⟨List.mem_map.mpr ⟨p',aj,Ud h2⟩,List.mem_map.mpr ⟨q',ak,Ud h3⟩⟩
end
theorem Qr0(xs:List V){i:Int}(a:0<=i)(h1:i<=(xs.length:Int)):V4 xs Ge (Ga i)=xs.take i.toNat:=by
 unfold V4;rw[HT.Jz];have:HT.Wh xs.length xs.length (Ga i)=i.toNat:=by show(if i<0 then(i+(xs.length:Int)).toNat else min i.toNat xs.length)=_;rw[Gg (by omega)];omega
 rw[this];simp
theorem Qws(a f d p t e:Gc){c dx b:Gc}:HO.ins C dx (Rc a f d)=HO.ins c b (Wn p t e)->False:=λz=>by injection z with _ _ z;unfold Rc Wn at z;injection z with z _;injection z with z _;exact absurd z (by decide+kernel)
theorem Qqh(R:Qeh ts ens tl)(k:Nat):Qeh ts (ens.take k) (tl.take k):=by
 induction R generalizing k with
 |nil=>simp;exact .nil
 |cons h t a=>
  cases k with
  |zero=>exact .nil
  |succ k=>exact .cons h (a k)
theorem V9{β:Type}{F:α->β->Prop}{xs:List α}{ys:List β}(R:Paired F xs ys)(k:Nat):Paired F (xs.take k) (ys.take k):=by
 induction R generalizing k with
 |nil=>simp;exact .nil
 |cons h t a=>
  cases k with
  |zero=>exact .nil
  |succ k=>exact .cons h (a k)
structure FrK(bk t:Gc)(H H':Hp):Prop where
 keep:∀b o,H b=Ga o->b≠bk->b≠t->H' b=Ga o
 there:∀b,H' b=Ge->H b=Ge
variable{p:Gc}
def Qqj(P:Gj)(w:Gs)(CP g:Gc):Sp:=λvs H Q _=>∃(bk p a f d t e:Gc)(ts:List Th)(tl:Tl)(U:List Th)(h ev:V)(b:Bool)(p1 p2:Nat),vs=[.ref bk,h,ev]/\V0 P w CP g H bk p a f d t e ts tl/\Few U ts tl/\Qee H h (.tell b (tg ts p1) (tg ts p2))/\Qct H ev (tw b,p1,p2)/\p1<ts.length/\p2<ts.length/\
 ∀(v:V)(c:Gc)(H':Hp),V0 P w CP g H' bk p a f d t c ts (Ve tl (.tell b (tg ts p1) (tg ts p2))).1->Ju H' (λb=>∃o,H b=Ga o) tl (.tell b (tg ts p1) (tg ts p2)) v->FrK bk t H H'->(c=e\/H c=Ge)->Q v H'
def Qir(P:Gj)(w:Gs)(CP c:Gc):Sp:=λvs H Q _=>∃(bk p a f d t e:Gc)(ts:List Th)(tl:Tl)(i:Int),vs=[.ref bk,.int i]/\V0 P w CP c H bk p a f d t e ts tl/\
 ∀(v:V)(t' b:Gc)(H':Hp),V0 P w CP c H' bk p a f d t' b ts (Ve tl (.back i)).1->v=(Ve tl (.back i)).2->FrK bk bk H H'->(t'=t\/H t'=Ge)->(b=e\/H b=Ge)->Q v H'
section
variable{P:Gj}{w:Gs}{K:PySem.W.Frag}{mg:Gy->Option Value}{base:Heap}
theorem Qhh:Qy ["self","moment","forgotten"] ["self","moment"] (Ql Qca):=by eq_refl
theorem Qo2(F:Va K "go_back" "Book.go_back" Qca f0 fd)(T:Qht K mg CB)(X:Ik mg):Qt P w K mg base Ya 1 f0 fd ["self","moment"] (Qir P w CP CB):=by
 refine F.ok Qhh (λvs H Q E h=>?_) (λcdv A outer s H vs Q E hr h=>?_)
 ·obtain⟨bk,p,a,f,d,t,e,ts,tl,i,rfl,_⟩:=h;rfl
 obtain⟨bk,p,a,f,d,t,e,ts,tl,i,rfl,B,q⟩:=h;obtain⟨nu,n1,n2⟩:=T.no;have nd:=Qhh.nd;refine⟨_,Qd (Qs 2 nd (Zf Qk2 (Qo Zo rfl X.len PySem.boot_len (Qa (Qm (pv 0) rfl) Qe)) (pv 1)))
  (Qd (Zr (PW.pt (Qbh (Qu Qff (pv 1) Qj (Za _)) (R5 (Qu Qff (pv 2) Qj (Za _))))) (Qh (Qx (Qvl rfl n1 n2))) Q9)
  (Qd (Xe (pv 0) (Yp Jf (Qm (pv 0) rfl) Xw (Y2 (pv 1))) rfl)
  (Qd (Xe (pv 0) (Yp Jf (Qm (pv 0) rfl) Xw (Y2 (pv 1))) rfl)
  (Qh (Qx (pv 2)))))),?_⟩
 obtain⟨dx,g⟩:=B.ob;obtain⟨dp,op⟩:=B.pl.ob;obtain⟨vs,V,W⟩:=B.to;obtain⟨es,aa,O,S,R⟩:=B.en;have lv:=Paired.length W;have le:=(Paired.length S).trans (Paired.length R);refine⟨_,Xb,bk,CB,dx,_,_,Xb,g,T.cl,T.told,Qgs _ _ _,t,vs,Xb,.inl (Zb.of V),_,Xb,_,_,Xb,Xb,?_⟩;refine⟨_,Xb,_,_,Xb,Xb,_,Xb,?_⟩;have no:¬(0<=i/\i<=(tl.length:Int))->Q (.str "no moment") H:=λh=>q _ t e H (by simp only[Ve];rw[Gg h];exact B) (by simp only[Ve];rw[Gg h]) ⟨λ_ _ e _ _=>e,λ_ h=>h⟩ (.inl Xb) (.inl Xb);by_cases hi:i<0
 ·rw[GQ hi];refine Xf (Xf ?_);exact no (λz=>by omega)
 rw[Gx hi];refine Zz ⟨_,Xb,_,_,Xb,Xb,_,Xb,?_⟩;by_cases U:(vs.length:Int) - i<0
 ·rw[GQ U];refine Xf ?_;exact no (λz=>by omega)
 rw[Gx U];refine Zz ?_;have C:0<=i:=by omega
 have h1:i<=(tl.length:Int):=by omega
 refine⟨_,Xb,bk,CB,dx,_,_,Xb,g,T.cl,T.told,Qgs _ _ _,_,Xb,_,Xb,t,vs,Xb,Zb.of V,λt' k=>?_⟩;rw[Qr0 vs C (by omega)];have s1:=Qf k (.lst (vs.take i.toNat));refine⟨_,Xb,bk,CB,dx,_,Xb,s1 _ _ g,T.cl,T.told,by show 3<1000;decide,?_⟩;rw[Qn0];have u:bk≠t':=Qc g k;have Z:e≠bk:=Ye O g nofun;generalize l:upd (upd H t' (.lst (vs.take i.toNat))) bk (.ins CB dx (Wn p t' e))=H2;have D:∀{b o},H b=Ga o->b≠bk->H2 b=Ga o:=λe h=>by rw[<-l];exact Qi (s1 _ _ e) h
 have M:H2 bk=Ga (.ins CB dx (Wn p t' e)):=by rw[<-l];exact Qb
 have x:H2 t'=Ga (.lst (vs.take i.toNat)):=by rw[<-l];exact Qi Qb (Gn u)
 have v:∀{b},H2 b=Ge->H b=Ge:=λ{b}h=>by rw[<-l]at h;exact s1.free (Zy h)
 refine⟨_,Xb,bk,CB,dx,_,_,Xb,M,T.cl,T.entries,Vs _ _ _,_,Xb,_,Xb,e,es,Xb,Zb.of (D O Z),λn c=>?_⟩;rw[Qr0 es C (by omega)];have G:=Qf c (.lst (es.take i.toNat));refine⟨_,Xb,bk,CB,dx,_,Xb,G _ _ M,T.cl,T.entries,by show 3<1000;decide,?_⟩;rw[Oj];have L:bk≠n:=Qc M c;have N:t'≠n:=Qc x c;generalize j:upd (upd H2 n (.lst (es.take i.toNat))) bk (.ins CB dx (Wn p t' n))=y;have r:∀{b o},H b=Ga o->b≠bk->y b=Ga o:=λe h=>by rw[<-j];exact Qi (G _ _ (D e h)) h
 have m:Qp H y:=λb xs e=>r e (Ye e g nofun);obtain⟨us,I,_⟩:=B.pl.th;obtain⟨ws,J,_⟩:=B.pl.fo;obtain⟨kvs,d1,_⟩:=B.pl.kn;have Y:V0 P w CP CB y bk p a f d t' n ts (tl.take i.toNat):=by
  refine⟨⟨dx,by rw[<-j];exact Qb⟩,B.pl.keep (λo e=>r e (Ye op g (Qws _ _ _ _ _ _))) (λo e=>r e (Ye I g nofun)) (λo e=>r e (Ye J g nofun)) (λo e=>r e (Ye d1.at_ g nofun)) m,⟨_,by rw[<-j];exact Qi (G _ _ x) (Gn u),Vg.Qk m (V9 W _)⟩,⟨_,_,by rw[<-j];exact Qi Qb (Gn L),L2.Paired.Yb (V9 S _) λ_ _ h=>h.Qk m,Qqh R _⟩,Gn (Qc I k),Gn (Qc J k),N,?_,?_⟩
  ·exact Gn (Qc (D I (Ye I g nofun)) c)
  ·exact Gn (Qc (D J (Ye J g nofun)) c)
 refine⟨_,Xb,q _ t' n y (by simp only[Ve];rw[Gk ⟨C,h1⟩];exact Y) (by simp only[Ve];rw[Gk ⟨C,h1⟩,lv]) ⟨λb o e h _=>r e h,λb h=>v (by rw[<-j]at h;exact G.free (Zy h))⟩ (.inr k) (.inr (v c))⟩
theorem Qr7:Qy ["self","deed","entry","entries","net","number"] ["self","deed","entry"] (Ql Qm3):=by eq_refl
theorem Qtp{ac:Td}(F:Va K "tell" "Book.tell" Qm3 f0 fd)(T:Qht K mg CB)(TP:Qc9 K mg CP)(B0:Ik mg)
  (GN:Qt P w K mg base Ya 61 fN fdN ["forms","told"] (Qfx P w C))(kN:KI K fN)(bN:Binds K fdN ["forms","told"] [])(mN:MG mg "net_of" fN)
  (GC:Qt P w K mg base Ya 2 fC ac ["net","entries"] (Qgk P w C))(kC:KI K fC)(bC:Binds K ac ["net","entries"] [])(mC:MG mg "least_clash" fC)
  (mL:Yc K CB "lines_for" fL)(GL:Qt P w K mg base Ya 7 fL fdL ["self","net","entry"] (Rw P w C CP CB))(bL:Binds K fdL ["self","net","entry"] []):
  Qt P w K mg base Ya 62 f0 fd ["self","deed","entry"] (Qqj P w CP CB):=by
 refine F.ok Qr7 (λvs H Q E h=>?_) (λcdv A outer s H vs Q E hr h=>?_)
 ·obtain⟨bk,p,a,f,d,t,e,ts,tl,U,dv,ev,b,p1,p2,rfl,_⟩:=h;rfl
 obtain⟨bk,p,a,f,d,t,e,ts,tl,U,dv,ev,b,p1,p2,rfl,B,FW,av,⟨k,rfl,au⟩,az,aA,q⟩:=h;have aC:Yd 2 _:=hr.mono (by omega);have aD:Yd 7 _:=hr.mono (by omega);have nd:=Qr7.nd;refine⟨_,Qd (Qs 3 nd (Zf Vy (Qm (pv 0) rfl) (Zj (Qa (pv 2) Qe))))
  (Qd (Qs 4 nd (Zv GN hr rfl mN kN bN .nil Q4 (Qa (Qm (Qm (pv 0) rfl) rfl) (Qa (pv 3) Qe))))
  (Qd (Qs 5 nd (Zv GC aC rfl mC kC bC .nil Q4 (Qa (pv 4) (Qa (pv 3) Qe))))
  (Qd (Zr (Qu O3 (pv 5) Ji (Za _))
   (Qh (Qx (Q8 (Qa Q5 (Qa (pv 5) (Qa (Zd (pv 0) T.cl mL GL aD bL .nil Q4 (Qa (pv 4) (Qa (Qn Ze (pv 3) (pv 5)) Qe))) Qe)))))) Q9)
  (Qd (Zc (Xn PySem.F.plainAttrs_list PySem.F.slot_list_append PySem.F.type_list_append Zq (Qm (pv 0) rfl) (Qa (pv 1) Qe)))
  (Qd (Xe (pv 0) (pv 3) rfl)
  (Qh (Qx (Qo Zo rfl B0.len PySem.boot_len (Qa (pv 3) Qe))))))))),?_⟩
 obtain⟨dx,r⟩:=B.ob;obtain⟨dp,o2⟩:=B.pl.ob;obtain⟨ws,f1,f2⟩:=B.pl.fo;obtain⟨us,u1,_⟩:=B.pl.th;obtain⟨kvs,d1,_⟩:=B.pl.kn;obtain⟨vs,t1,t2⟩:=B.to;obtain⟨es,ab,e1,e2,R⟩:=B.en;have W:=B.pl.nd;have L:=B.pl.cl;have J:=FW.le W;obtain⟨TK,aj⟩:=Qwm W L (λt ht=>FW.good t (FW.sub t ht)) J;have aw:es.length=tl.length:=(Paired.length e2).trans (Paired.length R);have aL:vs.length=tl.length:=Paired.length t2;have aK:=FW.tl;refine⟨_,Xb,bk,CB,dx,_,_,Xb,r,T.cl,T.entries,Vs _ _ _,_,Xb,by show 1<=Gh;decide,λr0 aB=>?_⟩;have s0:=Qf aB (.lst [.ref k]);refine⟨e,r0,es,[.ref k],Xb,Xb,s0 _ _ e1,Qb,by rw[Gu];simp only[List.length_singleton];omega,λi I=>?_⟩;have v:H i=Ge:=s0.free I;have s1:=s0.trans (Qf I (.lst (es++[.ref k])));have g1:(upd (upd H r0 (.lst [.ref k])) i (.lst (es++[.ref k]))) i=Ga (.lst (es++[.ref k])):=Qb;generalize upd (upd H r0 (.lst [.ref k])) i (.lst (es++[.ref k]))=H1 at s1 g1;have Z:=Qp.of s1;have u:Paired (Qct H1) (es++[.ref k]) (ab++[(tw b,p1,p2)]):=Paired.snoc (L2.Paired.Yb e2 λ_ _ h=>h.Qk Z) ⟨k,Xb,Z _ _ au⟩;have R':Qeh ts (ab++[(tw b,p1,p2)]) (tl++[(b,tg ts p1,tg ts p2)]):=Paired.snoc R ⟨Xb,Wg az,Wg aA⟩;refine⟨_,Xb,bk,CB,dx,_,_,Xb,s1 _ _ r,T.cl,T.places,Uk _ _ _,p,CP,dp,_,_,Xb,s1 _ _ o2,TP.cl,TP.nF,Qjj _ _ _,_,Xb,f,i,ws,_,tfs ts,_,_,Xb,s1 _ _ f1,L2.Paired.Yb f2 λ_ _ h=>h.Qk Z,g1,u,TK,by rw[W8];exact J,aj,λen ax=>by rw[W8];exact Qsg R' en ax,by rw[<-Paired.length u,List.length_append,List.length_singleton];omega,λn A tb x H2 N _ U=>?_⟩;have S2:Qv H H2:=s1.trans N.O9;obtain⟨aH,aI⟩:=Qi2 R' (λp q=>Iff.rfl);have EQ:=Qmg U;have aa:∀p∈x.S,∀q∈x.S,x.lead p=x.lead q↔Cg (tl++[(b,tg ts p1,tg ts p2)]) (tg ts p) (tg ts q):=λp hp q hq=>EQ.cg W L N.inv N.fok aH aI hp hq;have Y:∀a b' n,(a,b',Ga (.told n))∈x.links->(tl++[(b,tg ts p1,tg ts p2)])[n]?=Ga (Gf,tg ts a,tg ts b'):=λa b' n h=>by
  rcases U.rsn _ h with z|⟨j,p',q',h1,h2⟩
  ·cases z
  ·cases h1;obtain⟨aJ,h3,h4⟩:=Qb0 R' h2;rw[Qdk h3]at h4;exact h4
 have X:∀a b,¬(a,b,Ga U2.asked)∈x.links:=λa b h=>by
  rcases U.rsn _ h with z|⟨j,p',q',h1,h2⟩
  ·cases z
  ·cases h1
 refine⟨_,Xb,_,Xb,n,i,A,_,tb,x,_,_,Xb,N.at_,N.O9 _ _ g1,L2.Paired.Yb u λ_ _ h=>h.Qk (Qp.of N.O9),U.ins,λo H3 g3 ad=>?_⟩;have G:=S2.trans g3;have N3:=N.same g3;have ag:=N3.O9 _ _ g1;refine⟨_,Xb,Xb,_,Xb,?_⟩;rw[Qft];cases o with
 |some m=>
  refine Xf ?_;obtain⟨p',q',h1,h2,aE,aF,O⟩:=Qlp R' U.ins aa ad;have hm:m<(es++[V.ref k]).length:=by rw[Paired.length u];exact(List.getElem?_eq_some_iff.mp h1).1
  obtain⟨y,hy,af⟩:=Qw u (List.getElem?_eq_getElem hm);rw[h1]at hy;cases hy;obtain⟨cm,ap,ar⟩:=af;refine⟨_,Xb,_,Xb,bk,dx,_,Xb,G _ _ r,J2 _ _ _,_,Xb,_,Xb,_,Xb,i,_,_,_,Xb,Xb,Zb.of ag,Qz (List.getElem?_eq_getElem hm),bk,p,a,f,d,t,e,ts,tl,n,A,_,x,_,_,p',q',Xb,B.same G,⟨cm,ap,N3.O9 _ _ ar⟩,N3.at_,N3.lng TK.few,aE,aF,h2,λlv ls H7 g7 hl hb hg M=>?_⟩;refine⟨by show 3<=Gh;decide,λc8 aq=>?_⟩;have s8:=Qf aq (.tup [.str "clash",jv m,lv]);have S8:=(G.trans g7).trans s8;have g:Yy (tl++[(b,tg ts p1,tg ts p2)]):=⟨_,_,List.mem_of_getElem? O.1,O.2.1⟩;refine q _ e _ (by simp only[Ve];rw[Gk g];exact B.same S8) (.inr ⟨c8,m,_,_,lv,ls.map (lth ts),Xb,Qb,O,(hl.ex λc ys _ hx⟨o,ho⟩=>hx ⟨o,G _ _ ho⟩).kp (Qp.of s8) (λe _=>s8 _ _ e),Qj0 L hg hb Y (λa b h=>absurd h (X a b)),Qcp M⟩) ⟨λb o e _ _=>S8 _ _ e,λb h=>S8.free h⟩ (.inl Xb)
 |none=>
  refine Zz ?_;have ay:=Qls R' U.ins aa ad;have g:¬Yy (tl++[(b,tg ts p1,tg ts p2)]):=λ⟨a,c,h1,h2⟩=>ay a c h1 h2;have t3:=G _ _ t1;refine⟨_,Xb,bk,CB,dx,_,_,Xb,G _ _ r,T.cl,T.told,Qgs _ _ _,.inl ⟨Xb,_,Zb.of t3⟩,_,Xb,t,vs,_,Xb,Xb,t3,by rw[Gu];omega,?_⟩;have tb:t≠bk:=Ye t1 r nofun;refine⟨_,Xb,_,Xb,bk,CB,dx,_,Xb,Qi (G _ _ r) (Gn tb),T.cl,T.entries,by show 3<1000;decide,?_⟩;rw[Oj];have ai:t≠i:=Qc t1 v;have aG:bk≠i:=Qc r v;generalize l:upd (upd H3 t (.lst (vs++[dv]))) bk (.ins CB dx (Wn p t i))=H4;have k4:∀{b o},H b=Ga o->b≠bk->b≠t->H4 b=Ga o:=λe h1 h2=>by rw[<-l];exact Qi (Qi (G _ _ e) h2) h1
  have D:Qp H H4:=λb xs e=>k4 e (Ye e r nofun) (Ye e t1 nofun);have ah:H4 i=Ga (.lst (es++[.ref k])):=by rw[<-l];exact Qi (Qi ag (Gn ai)) (Gn aG)
  have ak:Qp H1 H4:=λc xs ec=>by have:H3 c=Ga (.tup xs):=N3.O9 _ _ ec;rw[<-l];exact Qi (Qi this (Ye this t3 nofun)) (Ye this (G _ _ r) nofun)
  obtain⟨ca,v1,v2,al,am,an,ao⟩:=av;have BK:V0 P w CP CB H4 bk p a f d t i ts (tl++[(b,tg ts p1,tg ts p2)]):=by refine⟨⟨dx,by rw[<-l];exact Qb⟩,B.pl.keep (λo e=>k4 e (Ye o2 r (Qws _ _ _ _ _ _)) (Ye o2 t1 nofun)) (λo e=>k4 e (Ye u1 r nofun) (Gn B.ta)) (λo e=>k4 e (Ye f1 r nofun) (Gn B.tf)) (λo e=>k4 e (Ye d1.at_ r nofun) (Ye d1.at_ t1 nofun)) D,⟨_,by rw[<-l];exact Qi Qb tb,Paired.snoc (t2.Qk D) ⟨ca,v1,v2,al,D _ _ am,an.Qk D,ao.Qk D⟩⟩,⟨_,_,ah,L2.Paired.Yb u λ_ _ h=>h.Qk ak,R'⟩,B.ta,B.tf,ai,Gn (Qc u1 v),Gn (Qc f1 v)⟩
  refine⟨_,Xb,i,_,Xb,.inl (Zb.of ah),?_⟩;have ae:((es++[V.ref k]).length:Int)=(tl.length:Int)+1:=by rw[List.length_append,List.length_singleton,aw];omega
  rw[ae];exact q _ i H4 (by simp only[Ve];rw[Gg g];exact BK) (.inl ⟨g,Xb⟩) ⟨λb o e h1 h2=>k4 e h1 h2,λb h=>G.free (by rw[<-l]at h;exact Zy (Zy h))⟩ (.inr v)
end
structure FrA(bk a f d t:Gc)(H H':Hp):Prop where
 keep:∀b o,H b=Ga o->b≠bk->b≠a->b≠f->b≠d->b≠t->H' b=Ga o
 there:∀b,H' b=Ge->H b=Ge
def Qd0(P:Gj)(w:Gs)(CP i:Gc):Sp:=λvs H Q _=>∃(bk p a f d t e:Gc)(ts:List Th)(tl:Tl)(U:List Th)(j:V)(g:Dd),vs=[.ref bk,j]/\V0 P w CP i H bk p a f d t e ts tl/\Few U ts tl/\Qee H j g/\g.fits U/\
 ∀(v:V)(t' h:Gc)(c:List Th)(H':Hp),V0 P w CP i H' bk p a f d t' h c (Ve tl g).1->Ju H' (λb=>(∃o,H b=Ga o)\/b=t') tl g v->(∀x∈c,x∈U)->FrA bk a f d t H H'->(t'=t\/H t'=Ge)->(h=e\/H h=Ge)->Q v H'
def Qha(P:Gj)(w:Gs)(CP c:Gc):Sp:=λvs H Q _=>∃(bk dx:Gc),vs=[.ref bk]/\H bk=Ga (.ins c dx [])/\
 ∀(p a f d t e:Gc)(H':Hp),V0 P w CP c H' bk p a f d t e [] []->(∀b o,H b=Ga o->b≠bk->H' b=Ga o)->H a=Ge->H f=Ge->H d=Ge->H t=Ge->H e=Ge->Q .non H'
theorem Qgl{m:List Th}(h:ts[j]?=Ga t):(ts++m)[j]?=Ga t:=by rw[List.getElem?_append_left (List.getElem?_eq_some_iff.mp h).1];exact h
section
variable{P:Gj}{w:Gs}{K:PySem.W.Frag}{mg:Gy->Option Value}{base:Heap}
theorem V0.place{bk a t e:Gc}{m:List Th}(B:V0 P w CP CB H bk p a f d t e ts tl)(x:Pl P w CP H' p a f d (ts++m))(F:Fr3 a f d H H'):V0 P w CP CB H' bk p a f d t e (ts++m) tl:=by obtain⟨dx,b⟩:=B.ob;obtain⟨us,o,_⟩:=B.pl.th;obtain⟨r,q,_⟩:=B.pl.fo;obtain⟨kvs,c,_⟩:=B.pl.kn;obtain⟨vs,j,n⟩:=B.to;obtain⟨es,g,i,l,R⟩:=B.en;have k:=F.Qk B.pl;refine⟨⟨dx,F.keep _ _ b (Ye b o nofun) (Ye b q nofun) (Ye b c.at_ nofun)⟩,x,⟨vs,F.keep _ _ j B.ta B.tf (Ye j c.at_ nofun),n.Qk k⟩,⟨es,g,F.keep _ _ i B.ea B.ef (Ye i c.at_ nofun),L2.Paired.Yb l λ_ _ h=>h.Qk k,L2.Paired.Yb R λ_ _ h=>⟨h.1,Qgl h.2.1,Qgl h.2.2⟩⟩,B.ta,B.tf,B.te,B.ea,B.ef⟩
theorem Few.grow(F:Few U ts tl)(b:t∈U):Few U (Xo ts t.inside) tl:=⟨λs a=>by
 rw[Qcd]at a;rcases a with h|h
 ·exact F.sub s h
 ·exact F.cl t b s h,F.cl,F.good,F.len,F.tl⟩
theorem Qqp:Qy ["self"] ["self"] (Ql Qb9):=by eq_refl
theorem Qo4(F:Va K "__init__" "Book.__init__" Qb9 f0 fd)(T:Qht K mg CB)(TP:Qc9 K mg CP)(v:Mk K CP fI)(J:Qt P w K mg base Ya 1 fI fdI ["self"] (Qit P w CP))(L:Binds K fdI ["self"] []):Qt P w K mg base Ya 3 f0 fd ["self"] (Qha P w CP CB):=by
 refine F.ok Qqp (λvs H Q E h=>?_) (λcdv A outer s H vs Q E U h=>?_)
 ·obtain⟨bk,dx,rfl,_⟩:=h;rfl
 obtain⟨bk,dx,rfl,l,q⟩:=h;refine⟨_,Qd (Xe (pv 0) (Qhx v J U rfl TP.mgC L .nil Q4) rfl) (Qd (Xe (pv 0) (Zj Qe) rfl) (Qh (Xe (pv 0) (Zj Qe) rfl))),?_⟩;intro p dp y x S;have u:Qv H (upd (upd H dp (.own p)) p (.ins CP dp [])):=λc o e=>Qi (Qi e (Qc e x)) (Qc e y);refine⟨p,dp,Xb,Qb,λa f d H1 r W O R hd=>⟨Xb,?_⟩⟩;have n:Qv H H1:=λb o e=>W b o (u _ _ e) (Qc e y);have Y:p≠bk:=Gn (Qc l y);obtain⟨N,X⟩:=r.ob;obtain⟨us,B,_⟩:=r.th;obtain⟨Z,C,_⟩:=r.fo;obtain⟨kvs,M,_⟩:=r.kn;refine⟨_,Xb,bk,CB,dx,[],Xb,n _ _ l,T.cl,T.places,by show 0<1000;decide,Gv _,λt V=>?_⟩;have m:=n _ _ l;have j:=Zy V;have tb:t≠bk:=Gn (Qc m j);refine⟨_,Xb,bk,CB,dx,_,Xb,Qi Qb (Gn tb),T.cl,T.told,by show 1<1000;decide,Gv _,λe I=>?_⟩;have i:=Zy (Zy (Zy I));have D:e≠bk:=Gn (Qc m i);have G:t≠e:=λz=>by have:=Zy I;rw[<-z,Qb]at this;cases this
 refine⟨_,Xb,bk,CB,dx,_,Xb,Qi Qb (Gn D),T.cl,T.entries,by show 2<1000;decide,?_⟩;have kp:∀{b o},H1 b=Ga o->b≠bk->(upd (upd (upd (upd (upd H1 bk (.ins CB dx (Yo "places" (.ref p) []))) t (.lst [])) bk (.ins CB dx (Yo "told" (.ref t) (Yo "places" (.ref p) [])))) e (.lst [])) bk (.ins CB dx (Yo "entries" (.ref e) (Yo "told" (.ref t) (Yo "places" (.ref p) []))))) b=Ga o:=λk hb=>Qi (Qi (Qi (Qi (Qi k hb) (Qc k j)) hb) (Qc k i)) hb;refine q p a f d t e _ ⟨⟨dx,Qb⟩,r.keep (λo g=>kp g Y) (λo g=>kp g (Ye B m nofun)) (λo g=>kp g (Ye C m nofun)) (λo g=>kp g (Ye M.at_ m nofun)) (λb xs g=>kp g (Ye g m nofun)),⟨[],Qi (Qi (Qi Qb tb) G) tb,.nil⟩,⟨[],[],Qi Qb D,.nil,.nil⟩,Gn (Qc B j),Gn (Qc C j),G,Gn (Qc B i),Gn (Qc C i)⟩ (λb o g hb=>kp (n _ _ g) hb) (u.free O) (u.free R) (u.free hd) (n.free j) (n.free i)
theorem Qhy:Qy ["self","deed","entry"] ["self","deed"] (Ql Qcb):=by eq_refl
theorem Qvu{d:V}{a:Dd}(h:Qee H d a):∃c k xs,d=.ref c/\H c=Ga (.tup (.str k::xs))/\(k="back"↔∃i,a=.back i)/\(k="ask"↔∃s t,a=.ask s t):=by
 cases a with
 |tell b s t=>
  obtain⟨c,e,f,h1,h2,_⟩:=h;refine⟨c,_,_,h1,h2,⟨λz=>?_,λ⟨i,z⟩=>by cases z⟩,⟨λz=>?_,λ⟨i,j,z⟩=>by cases z⟩⟩
  ·cases b<;>exact absurd z (by decide+kernel)
  ·cases b<;>exact absurd z (by decide+kernel)
 |ask s t=>obtain⟨c,e,f,h1,h2,_⟩:=h;exact⟨c,_,_,h1,h2,⟨λz=>absurd z (by decide+kernel),λ⟨i,z⟩=>by cases z⟩,⟨λz=>⟨s,t,rfl⟩,λ_=>rfl⟩⟩
 |back i=>obtain⟨c,h1,h2⟩:=h;exact⟨c,_,_,h1,h2,⟨λz=>⟨i,Xb⟩,λ_=>rfl⟩,⟨λz=>absurd z (by decide+kernel),λ⟨i,j,z⟩=>by cases z⟩⟩
theorem Qol{fG fP fT:Gc}{ad ae ac af:Td}(F:Va K "answer" "Book.answer" Qcb f0 fd)(T:Qht K mg CB)(TP:Qc9 K mg CP)
  (mG:Yc K CB "go_back" fG)(GG:Qt P w K mg base Ya 1 fG ad ["self","moment"] (Qir P w CP CB))(bG:Binds K ad ["self","moment"] [])(mP:Yc K CP "place_of" fP)(GP:Qt P w K mg base Ya 52 fP ae ["self","thing"] (Qe6 P w CP))(bP:Binds K ae ["self","thing"] [])
  (mA:Yc K CB "ask" fA)(GA:Qt P w K mg base Ya 62 fA ac ["self","entry"] (Qwh P w CP CB))(bA:Binds K ac ["self","entry"] [])(mT:Yc K CB "tell" fT)(GT:Qt P w K mg base Ya 62 fT af ["self","deed","entry"] (Qqj P w CP CB))(bT:Binds K af ["self","deed","entry"] []):
  Qt P w K mg base Ya 63 f0 fd ["self","deed"] (Qd0 P w CP CB):=by
 refine F.ok Qhy (λvs H Q E h=>?_) (λcdv A outer s H vs Q E hr h=>?_)
 ·obtain⟨bk,p,a,f,d,t,e,ts,tl,U,dv,dd,rfl,_⟩:=h;rfl
 obtain⟨bk,p,a,f,d,t,e,ts,tl,U,dv,dd,rfl,B,Z,x,g,q⟩:=h;have ar:Yd 1 _:=hr.mono (by omega);have D:Yd 52 _:=hr.mono (by omega);have nd:=Qhy.nd;refine⟨_,Qd (Zr (Qu Wu (Qn Q3 (pv 1) Qj) Q5 (Za _)) (Qh (Qx (Zd (pv 0) T.cl mG GG ar bG .nil Q4 (Qa (Qn Q3 (pv 1) Qj) Qe)))) Q9)
  (Qd (Qs 2 nd (Q8 (Qa (Qn Q3 (pv 1) Qj) (Qa (Zd (Qm (pv 0) rfl) TP.cl mP GP D bP .nil Q4 (Qa (Qn Q3 (pv 1) Qj) Qe)) (Qa (Zd (Qm (pv 0) rfl) TP.cl mP GP D bP .nil Q4 (Qa (Qn Q3 (pv 1) Qj) Qe)) Qe)))))
  (Qd (Zr (Qu Wu (Qn Q3 (pv 1) Qj) Q5 (Za _)) (Qh (Qx (Zd (pv 0) T.cl mA GA hr bA .nil Q4 (Qa (pv 2) Qe)))) Q9)
  (Qh (Qx (Zd (pv 0) T.cl mT GT hr bT .nil Q4 (Qa (pv 1) (Qa (pv 2) Qe))))))),?_⟩
 obtain⟨dx,o1⟩:=B.ob;obtain⟨c,k,xs,rfl,R,kb,ka⟩:=Qvu x;refine⟨_,Xb,c,_,_,_,Xb,Xb,Z4.of R,Rv _ _,Xb,_,Xb,?_⟩;rw[Xj];obtain⟨us,u1,_⟩:=B.pl.th;obtain⟨ws,w1,_⟩:=B.pl.fo;obtain⟨kvs,d1,_⟩:=B.pl.kn;obtain⟨aE,t1,_⟩:=B.to;by_cases hb:k="back"
 ·subst hb;rw[DZ];refine Xf ?_;obtain⟨i,rfl⟩:=kb.mp rfl;obtain⟨c',h1,h2⟩:=x;cases h1;refine⟨_,Xb,bk,dx,_,Xb,o1,Qow _ _ _,_,Xb,c,_,_,_,Xb,Xb,Z4.of h2,Re _ _ _,bk,p,a,f,d,t,e,ts,tl,i,Xb,B,λv t' e' H' B' S F' au ao=>?_⟩;exact q v t' e' ts H' B' S Z.sub ⟨λb o m h1 _ _ _ _=>F'.keep b o m h1 h1,F'.there⟩ au ao
 have aw:(k==("back":Gy))=Gp:=by simpa using hb
 rw[aw];refine Zz ?_;obtain⟨s,j,n,r,av,i1,i2,hs,ht,an⟩:∃s j n r,xs=[n,r]/\Z5 H n s/\Z5 H r j/\s∈U/\j∈U/\((k="ask"/\dd=.ask s j)\/(k≠"ask"/\∃b,k=tw b/\dd=.tell b s j)):=by
  cases dd with
  |tell b s j=>obtain⟨c',n,r,h1,h2,N,O⟩:=x;cases h1;rw[R]at h2;cases h2;exact⟨s,j,n,r,Xb,N,O,g.1,g.2,.inr ⟨(λz=>by obtain⟨_,_,z⟩:=ka.mp z;cases z),b,rfl,rfl⟩⟩
  |ask s j=>obtain⟨c',n,r,h1,h2,N,O⟩:=x;cases h1;rw[R]at h2;cases h2;exact⟨s,j,n,r,Xb,N,O,g.1,g.2,.inl ⟨Xb,Xb⟩⟩
  |back i=>exact absurd (kb.mpr ⟨i,Xb⟩) hb
 subst av;obtain⟨dp,op⟩:=B.pl.ob;have gs:=Z.good s hs;have gt:=Z.good j ht;have aA:=Z.le B.pl.nd;refine⟨_,Xb,c,_,_,_,Xb,Xb,Z4.of R,Rv _ _,_,Xb,bk,CB,dx,_,_,Xb,o1,T.cl,T.places,Uk _ _ _,p,dp,_,Xb,op,Qcu _ _ _,_,Xb,c,_,_,_,Xb,Xb,Z4.of R,Re _ _ _,p,n,s,a,f,d,ts,Xb,B.pl,i1,gs.1,by have:=gs.2.1;omega,by have:=gs.2.2;omega,λG H1 x1 aq F1=>?_⟩;obtain⟨m1,ab⟩:=W9 s.inside ts;have ai:=x1;rw[ab]at ai;have I:=B.place ai F1;rw[<-ab]at I;have FW1:=Z.grow hs;have aB:=FW1.le I.pl.nd;have W:=F1.Qk B.pl;obtain⟨al,ax⟩:=I.ob;obtain⟨ak,ay⟩:=I.pl.ob;refine⟨_,Xb,bk,CB,al,_,_,Xb,ax,T.cl,T.places,Uk _ _ _,p,ak,_,Xb,ay,Qcu _ _ _,_,Xb,c,_,_,_,Xb,Xb,Z4.of (W _ _ R),Qhe _ _ _ _,p,r,j,a,f,d,_,Xb,I.pl,i2.Qk W,gt.1,by have:=gt.2.1;omega,by have:=gt.2.2;omega,λV H2 x2 ag F2=>?_⟩;obtain⟨m2,M⟩:=W9 j.inside (Xo ts s.inside);have aj:=x2;rw[M]at aj;have B2:=I.place aj F2;rw[<-M]at B2;have FW2:=FW1.grow ht;have X:Qp H H2:=λb xs m=>(F2.Qk I.pl) _ _ (W _ _ m);have C:(Xo (Xo ts s.inside) j.inside)[G]?=Ga s:=by rw[M];exact Qgl aq
 refine⟨by show 3<=Gh;decide,λL am=>?_⟩;have s3:=Qf am (.tup [.str k,jv G,jv V]);have J:=B2.same s3;generalize az:Xo (Xo ts s.inside) j.inside=l at*;have e1:=Ud C;have e2:=Ud ag;have l1:G<l.length:=(List.getElem?_eq_some_iff.mp C).1;have l2:V<l.length:=(List.getElem?_eq_some_iff.mp ag).1;have Y:Fr3 a f d H (upd H2 L (.tup [.str k,jv G,jv V])):=(F1.trans F2).trans (Fr3.of s3);obtain⟨aa,o3⟩:=J.ob;obtain⟨aC,u3,_⟩:=J.pl.th;obtain⟨aF,w3,_⟩:=J.pl.fo;obtain⟨aD,t3,_⟩:=J.to;have y:(upd H2 L (.tup [.str k,jv G,jv V])) c=Ga (.tup (.str k::[n,r])):=s3 _ _ (X _ _ R);have back:∀b o,H b=Ga o->∃u,(upd H2 L (.tup [.str k,jv G,jv V])) b=Ga u:=λb o m=>EG.mp λz=>by rw[Y.there b z]at m;cases m
 refine⟨_,Xb,c,_,_,_,Xb,Xb,Z4.of y,Rv _ _,Xb,_,Xb,?_⟩;rw[Xj];rcases an with⟨rfl,rfl⟩|⟨hk,b,rfl,rfl⟩
 ·rw[DZ];refine Xf ?_;refine⟨_,Xb,bk,aa,_,Xb,o3,Qxr _ _ _,_,Xb,bk,p,a,f,d,t,e,l,tl,U,.ref L,G,V,Xb,J,FW2,⟨L,Xb,Qb⟩,l1,l2,λv H4 g4 S=>?_⟩;rw[e1,e2]at S;refine q v t e l H4 (J.same g4) (S.ex λc' ys _ hx z=>hx ?_) FW2.sub ⟨λb o m h1 h2 N O h5=>g4 _ _ (Y.keep b o m h2 N O),λb h=>Y.there b (g4.free h)⟩ (.inl Xb) (.inl Xb);rcases z with⟨o,ho⟩|z
  ·exact back _ _ ho
  ·rw[z];exact⟨_,t3⟩
 ·have ah:(tw b==("ask":Gy))=Gp:=by simpa using hk
  rw[ah];refine Zz ?_;refine⟨_,Xb,bk,aa,_,Xb,o3,Qvc _ _ _,_,Xb,_,Xb,bk,p,a,f,d,t,e,l,tl,U,.ref c,.ref L,b,G,V,Xb,J,FW2,?_,⟨L,Xb,Qb⟩,l1,l2,λv e' H4 B4 S F4 ap=>?_⟩
  ·rw[e1,e2];exact⟨c,n,r,Xb,y,(i1.Qk X).same s3,(i2.Qk X).same s3⟩
  ·rw[e1,e2]at B4 S;refine q v t e' l H4 B4 (S.ex λc' ys _ hx z=>hx ?_) FW2.sub ⟨λb o m h1 h2 N O h5=>F4.keep _ _ (Y.keep b o m h2 N O) h1 h5,λb h=>Y.there b (F4.there b h)⟩ (.inl Xb) (ap.elim .inl λz=>.inr (Y.there _ z));rcases z with⟨o,ho⟩|z
   ·exact back _ _ ho
   ·rw[z];exact⟨_,t3⟩
end
def Qra(H:Hp)(X:Gc->Prop)(dl:List Dd)(a:List V):Prop:=∀(k:Nat)(d:Dd)(v:V),dl[k]?=Ga d->a[k]?=Ga v->Ju H X (after [] (dl.take k)) d v
def Qjp:Sp:=λvs H Q _=>∃(l:Gc)(es:List V)(dl:List Dd)(U:List Th),vs=[.ref l]/\H l=Ga (.lst es)/\Uy H es dl/\Qqw U/\(∀d∈dl,d.fits U)/\dl.length<=800/\
 ∀(r:Gc)(a:List V)(H':Hp),Qv H H'->H r=Ge->H' r=Ga (.lst a)->a.length=dl.length->Qra H' (λb=>b=r) dl a->Q (.ref r) H'
theorem Qxb{dl:List Dd}(a:Qqw U)(h:∀x∈ts,x∈U)(b:dl.length<=800)(i:Nat):Few U ts (after [] (dl.take i)):=⟨h,a.cl,a.good,a.len,by have:=Iy (ds:=dl.take i) (tl:=[]);rw[List.length_take]at this;simp only[List.length_nil]at this;omega⟩
section
variable{P:Gj}{w:Gs}{K:PySem.W.Frag}{mg:Gy->Option Value}{base:Heap}
theorem V0.but{CP g:Gc}{H:Hp}{bk p a f d t e r:Gc}{ts:List Th}{tl:Tl}{ys zs:List V}(B:V0 P w CP g H bk p a f d t e ts tl)(c:H r=Ga (.lst ys))(m:r≠a)(o:r≠f)(rt:r≠t)(n:r≠e):V0 P w CP g (upd H r (.lst zs)) bk p a f d t e ts tl:=by
 obtain⟨dx,i⟩:=B.ob;obtain⟨vs,q,s⟩:=B.to;obtain⟨es,b,k,l,R⟩:=B.en;have j:Qp H (upd H r (.lst zs)):=Zh λxs e=>by rw[c]at e;cases e
 exact⟨⟨dx,Qi i (Ye i c nofun)⟩,B.pl.but c m o,⟨vs,Qi q (Gn rt),s.Qk j⟩,⟨es,b,Qi k (Gn n),L2.Paired.Yb l λ_ _ h=>h.Qk j,R⟩,B.ta,B.tf,B.te,B.ea,B.ef⟩
theorem FrA.Qk{bk a t e:Gc}(F:FrA bk a f d t H H')(B:V0 P w CP CB H bk p a f d t e ts tl):Qp H H':=λb xs c=>by obtain⟨dx,h⟩:=B.ob;obtain⟨us,j,_⟩:=B.pl.th;obtain⟨m,k,_⟩:=B.pl.fo;obtain⟨kvs,g,_⟩:=B.pl.kn;obtain⟨vs,i,l⟩:=B.to;exact F.keep _ _ c (Ye c h nofun) (Ye c j nofun) (Ye c k nofun) (Ye c g.at_ nofun) (Ye c i nofun)
theorem FrA.lst{CP g:Gc}{H H':Hp}{bk p a f d t e:Gc}{ts:List Th}{tl:Tl}(F:FrA bk a f d t H H')(B:V0 P w CP g H bk p a f d t e ts tl){c:Gc}{xs:List V}(b:H c=Ga (.lst xs))(h1:c≠a)(h2:c≠f)(i:c≠t):H' c=Ga (.lst xs):=by obtain⟨dx,j⟩:=B.ob;obtain⟨kvs,h,_⟩:=B.pl.kn;exact F.keep _ _ b (Ye b j nofun) h1 h2 (Ye b h.at_ nofun) i
theorem Qex:Qy ["deeds","book"] ["deeds"] (Ql Jy):=by eq_refl
theorem Q2i:(["deed","book"]:List Gy).Nodup:=by decide+kernel
theorem Qk4{X:Td}(F:Va K "answers" "answers" Jy f0 fd)(T:Qht K mg CB)(ai:Mk K CB fI)(GI:Qt P w K mg base Ya 3 fI fdI ["self"] (Qha P w CP CB))(bI:Binds K fdI ["self"] [])
  (mA:Yc K CB "answer" fA)(GA:Qt P w K mg base Ya 63 fA X ["self","deed"] (Qd0 P w CP CB))(bA:Binds K X ["self","deed"] []):Qt P w K mg base Ya 64 f0 fd ["deeds"] Qjp:=by
 refine F.ok Qex (λvs H Q E h=>?_) (λcdv A outer s H vs Q E hr h=>?_)
 ·obtain⟨l,es,dl,U,rfl,_⟩:=h;rfl
 obtain⟨l,es,dl,U,rfl,hl,aa,hU,ab,ad,q⟩:=h;have ar:Yd 4 _:=hr.mono (by omega);have nd:=Qex.nd;refine⟨_,Qd (Vw (i:=1) nd rfl (DO Xb) (Qhx ai GI ar rfl T.mgC bI .nil Q4))
  (Qh (Qx (Ub (te:=Qh4 CB "answer" (Qd0 P w CP CB) [] E0 (Vp 1) (Qeo (Vp 0) Qoa)) (own:=["deed"]) (fv:=[(1,"book")]) rfl (S:=(by eq_refl:Wc (Ql Jy) _)) (.cons rfl (TZ Xb) rfl .nil)
   (Yn (pv 0)) (λ_ _ _ _ _=>Xc (i:=0) Q2i rfl (TZ Xb) (DO Xb)) (λ_ _ _ _ _=>X7) (λ_ _ _ _ _=>Zd (pv 1) T.cl mA GA hr bA .nil Q4 (Qa (pv 0) Qe))))),?_⟩
 intro bk dx M am aC;have s0:Qv H (upd (upd H dx (.own bk)) bk (.ins CB dx [])):=λc o e=>Qi (Qi e (Qc e am)) (Qc e M);refine⟨bk,dx,Xb,Qb,λp a f d t e H1 R k1 ha hf hd ht he=>⟨Xb,?_⟩⟩;have g1:Qv H H1:=λb o B=>k1 b o (s0 _ _ B) (Qc B M);have ak:=s0.free ha;have ao:=s0.free hf;have al:=s0.free hd;have au:=s0.free ht;refine⟨_,Xb,l,Xb,⟨_,Zb.of (g1 _ _ hl)⟩,λr n=>?_⟩;obtain⟨us,u1,_⟩:=R.pl.th;obtain⟨ws,w1,_⟩:=R.pl.fo;obtain⟨aE,t1,_⟩:=R.to;obtain⟨aA,az,e1,_⟩:=R.en;have ra:r≠a:=Gn (Qc u1 n);have rf:r≠f:=Gn (Qc w1 n);have rt:r≠t:=Gn (Qc t1 n);have re:r≠e:=Gn (Qc e1 n);have s2:=Qf n (.lst []);have av:es.length=dl.length:=Paired.length aa;refine Qal (K:=K) (a:=l) (xs:=es) (small (by omega)) (λi ys σ H2=>∃(x0:Option V)(t e:Gc)(ts:List Th),σ=[x0,Ga (.ref bk)]/\V0 P w CP CB H2 bk p a f d t e ts (after [] (dl.take i))/\(∀x∈ts,x∈U)/\Qv H H2/\H t=Ge/\r≠t/\r≠e/\Qra H2 (λb=>b=a\/b=f\/b=t\/b=r) (dl.take i) ys)
  ⟨_,t,e,[],Xb,R.same s2,(λx j=>nomatch j),g1.trans s2,au,rt,re,(λk d v D=>by simp at D)⟩ (λi ys σ H2 _⟨_,_,_,_,_,_,_,g,_⟩=>Zb.of (g _ _ hl)) ?_ ?_
 ·rintro i y ys σ H2 hi ae ⟨x0,t,e,ts,rfl,I,sub,Z,t0,rt,re,G⟩ u;obtain⟨dd,N,hy⟩:=Qw aa hi;obtain⟨aj,o2⟩:=I.ob;have ay:Qp H H2:=Qp.of Z;refine⟨_,Xb,bk,aj,_,Xb,o2,Qod _ _ _,_,Xb,bk,p,a,f,d,t,e,ts,_,U,y,dd,Xb,I,Qxb hU sub ad i,hy.Qk ay,ab dd (List.mem_of_getElem? N),λv t' e' ax W B3 hv ah F3 O an=>?_⟩;have r3:=F3.lst I u ra rf rt;have ag:r≠t':=O.elim (λz=>z▸rt) (λz=>Qc u z);have af:r≠e':=an.elim (λz=>z▸re) (λz=>Qc u z);have g3:Qv H W:=λb o B=>F3.keep b o (Z _ _ B) (Qc B M) (Qc B ak) (Qc B ao) (Qc B al) (Qc B t0);have aw:H t'=Ge:=O.elim (λz=>z▸t0) (λz=>Z.free z);obtain⟨aD,u2,_⟩:=I.pl.th;obtain⟨aF,w2,_⟩:=I.pl.fo;refine⟨r3,_,t',e',ax,Xb,(by rw[Qdr N];exact B3.but r3 ra rf ag af),ah,λb o B=>Qi (g3 _ _ B) (Qc B (g1.free n)),aw,ag,af,λk dk vk D m=>?_⟩;have L:Qp W (upd W r (.lst (ys++[v]))):=Zh λxs e=>by rw[r3]at e;cases e
  have J:∀{c:Gc}{xs:List V},W c=Ga (.lst xs)->¬(c=a\/c=f\/c=t'\/c=r)->(upd W r (.lst (ys++[v]))) c=Ga (.lst xs):=λC j=>Qi C (λz=>j (.inr (.inr (.inr z))));have ap:k<i+1:=by have:=(List.getElem?_eq_some_iff.mp D).1;rw[List.length_take]at this;omega
  have ek:(dl.take (i+1)).take k=dl.take k:=by rw[List.take_take,Eu (by omega)]
  rw[ek];rw[List.getElem?_take_of_lt ap]at D;rcases Tb k i with aq|aB
  ·rw[List.getElem?_append_left (by omega)]at m;have h0:=G k dk vk (by rw[List.getElem?_take_of_lt aq];exact D) m;rw[List.take_take,Eu (by omega)]at h0;have h1:=h0.ex (Y:=λb=>b=a\/b=f\/b=t\/b=t'\/b=r) λc xs C j z=>by
    rcases z with z|z|z|z|z
    ·exact j (.inl z)
    ·exact j (.inr (.inl z))
    ·exact j (.inr (.inr (.inl z)))
    ·rcases O with w3|w3
     ·exact j (.inr (.inr (.inl (z.trans w3))))
     ·rw[z,w3]at C;cases C
    ·exact j (.inr (.inr (.inr z)))
   have h2:=h1.kp (F3.Qk I) λ{c xs}C j=>F3.lst I C (λz=>j (.inl z)) (λz=>j (.inr (.inl z))) (λz=>j (.inr (.inr (.inl z))));have h3:=h2.ex (Y:=λb=>b=a\/b=f\/b=t'\/b=r) λc xs C j z=>by
    rcases z with z|z|z|z
    ·exact j (.inl z)
    ·exact j (.inr (.inl z))
    ·exact j (.inr (.inr (.inr (.inl z))))
    ·exact j (.inr (.inr (.inr (.inr z))))
   exact h3.kp L J
  ·have ac:k=i:=by omega
   subst ac;rw[List.getElem?_append_right (by omega),ae,L8]at m;have m:v=vk:=by simpa using m
   subst m;rw[N]at D;cases D;exact(hv.ex (Y:=λb=>b=a\/b=f\/b=t'\/b=r) λc xs C j z=>by
    rcases z with z|z|z|z
    ·exact j (.inl (by rw[z];exact⟨_,u2⟩))
    ·exact j (.inl (by rw[z];exact⟨_,w2⟩))
    ·exact j (.inr z)
    ·exact j (.inl (by rw[z];exact⟨_,u⟩))).kp L J
 ·rintro ys σ H2 ae ⟨x0,t,e,ts,rfl,I,sub,Z,t0,rt,re,G⟩ u;rw[av,List.take_length]at G;exact q r ys H2 Z (g1.free n) u (by omega) λk dk vk D m=>(G k dk vk D m).ex λc xs C j z=>j (.inr (.inr (.inr z)))
end
open PySem L2 Sb
structure Blt(mg:Gy->Option Value):Prop where
 len:mg "len"=Ge
 min:mg "min"=Ge
 abs:mg "abs"=Ge
 list:mg "list"=Ge
 tuple:mg "tuple"=Ge
 str:mg "str"=Ge
 bool:mg "bool"=Ge
 int:mg "int"=Ge
 isinstance:mg "isinstance"=Ge
 range:mg "range"=Ge
 reversed:mg "reversed"=Ge
def Qmu:T4->List T4
 |.While _ b _ _=>b
 |_=>[]
abbrev cSt(i:Nat):T4:=(Vl Wj).getD i (.Pass ⟨0,0,0,0⟩)
abbrev Qzj:T4:=(Qmu (cSt 7)).getD 1 (.Pass ⟨0,0,0,0⟩)
abbrev Q0f:T4:=(Qmu (cSt 7)).getD 2 (.Pass ⟨0,0,0,0⟩)
abbrev cN:List Gy:=["_law_told","_law_things","_law_todo","_law_word","_law_one","_law_other","_law_leaders","_law_part","_law_pairs","_law_names","_law_going","_law_k","_law_j","_law_two","_law_inner","_law_old","_law_name"]
theorem Uv:Qy cN ["_law_told","_law_things"] (Ql Wj):=by eq_refl
theorem nd2:(["_law_part","_law_leaders"]:List Gy).Nodup:=by decide+kernel
def Good(tl:Tl)(S:List Th)(a:List (Th×Th)):Prop:=∀p∈a,p.1∈S/\p.2∈S/\Cg tl p.1 p.2
def Snd(tl:Tl)(S:List Th)(L:Th->Int):Prop:=∀x∈S,∀y∈S,L x=L y->Cg tl x y
def Crs(S:List Th)(L a:Th->Int):Prop:=∀x∈S,∀y∈S,L x=L y->a x=a y
abbrev s4(j k l m n o:Option V)(d:Gc)(p:Option V)(pl i:Gc)(g:Bool)(a b c e f h:Option V):St:=[j,k,l,m,n,o,Ga (.ref d),p,Ga (.ref pl),Ga (.ref i),Ga (.bl g),a,b,c,e,f,h]
section
variable{P:Gj}{w:Gs}{K:PySem.W.Frag}{mg:Gy->Option Value}{base:Heap}{f:Gc}{cdv:Value}{A:Tv}{outer:List SM}{s:Gi}{Hi:Hp}{E:XK}
abbrev XC(P:Gj)(w:Gs)(K:PySem.W.Frag)(mg:Gy->Option Value)(base:Heap)(f:Gc)(cdv:Value)(A:Tv)(outer:List SM)(s:Gi)(Hi:Hp)(E:XK):Cx:=(Qhj Ya P w K mg base cN "_law_classes" (Ql Wj) f cdv A outer s Hi E).nox
theorem Qnx(hu:(XC P w K mg base f cdv A outer s Hi E).A.units+64<Dk):∃t,PS (XC P w K mg base f cdv A outer s Hi E) Q0f t/\∀(tl:Tl)(S:List Th)(L:Th->Int)(d pl U:Gc)(pq nv:List V)(m:List (Th×Th))(H0:Hp)(x0 x1 x2 x3 x7:Option V)
  (hN:Num P w H0 d S L)(R:H0 pl=Ga (.lst pq))(ac:Qaq H0 pq m)(aa:H0 U=Ga (.lst nv))(ab:Zn H0 nv S)(hG:Good tl S m)(hS:Snd tl S L)(ae:S.length<=3000),
  Tr t
   (λσ H=>H=H0/\∃W X v B C F q l,σ=s4 x0 x1 x2 x3 W X d x7 pl U Gp v B C F q l)
   (λσ H=>∃g b W X v B C F q l,σ=s4 x0 x1 x2 x3 W X d x7 pl U g v B C F q l/\U3 d H0 H/\Num P w H d S b/\Snd tl S b/\Crs S L b/\(∀p∈m,b p.1=b p.2)/\(g=Gp->∀t∈S,b t=L t)/\(g=Gf->∃x∈S,∃y∈S,L x≠L y/\b x=b y)):=by
 have nd:=Uv.nd;refine⟨_,(Z6 Gq rfl (Yn (pv 8)) (Vf rfl (Zm (Z2 4 nd) (Zm (Z2 5 nd) Wb)))
  (Qd (Qs 15 nd (Qn (Vr hu) (pv 6) (pv 4)))
  (Qh (Zr (Qu Ih (pv 15) (Qn (Vr hu) (pv 6) (pv 5)) (Za _))
  (Qd (Qs 10 nd Wk)
  (Qh (Z6 Gq rfl (Yn (pv 9)) (Z2 16 nd)
  (Qh (Zr (Qu Wu (Qn (Vr hu) (pv 6) (pv 16)) (pv 15) (Za _))
  (Qh (Rq (Qn (Vr hu) (pv 6) (pv 5)) (Qak (pv 6) (pv 16) (Qao hu)))) Q9))))) Q9)))),?_⟩
 intro tl S L d pl U pq nv m H0 x0 x1 x2 x3 x7 hN R ac aa ab hG hS ae;rintro D σ H ⟨rfl,W,X,v,B,C,F,q,l,rfl⟩ k;obtain⟨od,Q⟩:=hN.at;have am:pl≠d:=Zw R Q (by intro z;cases z);have ah:U≠d:=Zw aa Q (by intro z;cases z);refine⟨_,Xb,pl,Xb,⟨_,Zb.of R⟩,Yz (K:=K) (a:=pl) (xs:=pq) (λi σ H1=>∃g b W X q l,σ=s4 x0 x1 x2 x3 W X d x7 pl U g v B C F q l/\U3 d H H1/\Num P w H1 d S b/\Snd tl S b/\Crs S L b/\(∀p∈m.take i,b p.1=b p.2)/\(g=Gp->∀t∈S,b t=L t)/\(g=Gf->∃x∈S,∃y∈S,L x≠L y/\b x=b y))
  ⟨Gp,L,W,X,q,l,Xb,U3.refl,hN,hS,λ_ _ _ _ e=>e,by simp,λ_ _ _=>rfl,λe=>by cases e⟩ (λi σ H1 _⟨_,_,_,_,_,_,_,O,_⟩=>Zb.of (O _ _ R am)) ?_ ?_⟩
 ·rintro i x σ H1 hi ⟨g,b,W,X,q,l,rfl,O,N,snd,G,dn,gf,gt⟩;obtain⟨⟨u1,M⟩,eu,a',v1,v2,rfl,ak,t1,t2⟩:=Qw ac hi;have tu:Qp H H1:=O.Qk Q (λxs z=>by cases z);obtain⟨b1,_,_,_,rfl,_,_,_⟩:=t1.inv;obtain⟨b2,_,_,_,rfl,_,_,_⟩:=t2.inv;have t1:=t1.Qk tu;have t2:=t2.Qk tu;obtain⟨m1,m2,mc⟩:=hG (u1,M) (List.mem_of_getElem? eu);have tk:m.take (i+1)=m.take i++[(u1,M)]:=by rw[List.take_add_one,eu];rfl
  refine⟨a',_,Xb,Z4.of (tu _ _ ak),Xb,_,_,Xb,_,_,Xb,Xb,?_⟩;refine⟨_,Xb,_,Xb,N.get m1 t1 ?_⟩;refine⟨_,Xb,_,Xb,_,Xb,N.get m2 t2 ⟨Xb,_,Xb,?_⟩⟩;rw[W6];refine Jh (λc=>?_) (λc=>?_)
  ·have c:b u1≠b M:=by simpa using c
   generalize ho:b u1=o at*;generalize hn:b M=n at*;have al:∀t,mrg b o n t≠o:=λt z=>by
    unfold mrg at z;split at z
    ·exact c z.symm
    ·rename_i h;exact h z
   have ad:mrg b o n M=n:=by unfold mrg;rw[Gg (by rw[hn];exactλz=>c z.symm)];exact hn
   have ag:=O _ _ aa ah;refine⟨_,Xb,U,Xb,⟨_,Zb.of ag⟩,Yz (K:=K) (a:=U) (xs:=nv) (λj σ H2=>∃L2 l,σ=s4 x0 x1 x2 x3 (Ga (.ref b1)) (Ga (.ref b2)) d x7 pl U Gf v B C F (Ga (.int o)) l/\U3 d H1 H2/\Num P w H2 d S L2/\(∀t∈S,L2 t=b t\/L2 t=mrg b o n t)/\(∀t∈S.take j,L2 t=mrg b o n t))
    ⟨b,_,Xb,U3.refl,N,λt _=>.inl Xb,by simp⟩ (λj σ H2 _⟨_,_,_,r,_⟩=>Zb.of (r _ _ ag ah)) ?_ ?_⟩
   ·rintro j y σ H2 hj ⟨L2,l,rfl,r,N2,l1,l2⟩;obtain⟨u0,e0,J⟩:=ab.get hj;have T:=List.mem_of_getElem? e0;have an:Qp H H2:=(O.trans r).Qk Q (λxs z=>by cases z);obtain⟨b0,_,_,_,rfl,_,_,_⟩:=J.inv;have J:=J.Qk an;have ai:S.take (j+1)=S.take j++[u0]:=by rw[List.take_add_one,e0];rfl
    refine⟨_,Xb,_,Xb,N2.get T J ⟨_,Xb,Xb,_,Xb,?_⟩⟩;rw[W6];refine Jh (λY=>?_) (λY=>?_)
    ·have Y:L2 u0=o:=by simpa using Y
     have e2:L2 M=n:=by
      rcases l1 M m2 with z|z
      ·rw[z,hn]
      ·rw[z,ad]
     have Z:mrg b o n u0=n:=by
      rcases l1 u0 T with z|z
      ·unfold mrg;rw[Gk (by rw[<-z];exact Y)]
      ·exact absurd (z.symm.trans Y) (al u0)
     refine⟨_,Xb,_,Xb,N2.get m2 (t2.Qk (r.Qk N.at.choose_spec (λxs z=>by cases z))) ⟨_,rfl,_,rfl,N2.put (by omega) T J λH3 aj N3=>?_⟩⟩;refine⟨_,_,Xb,r.trans aj,N3,λt I=>?_,λt I=>?_⟩
     ·by_cases z:t=u0
      ·subst z;right;rw[Gk Xb,e2,Z]
      ·rw[Gg z];exact l1 t I
     ·by_cases z:t=u0
      ·subst z;rw[Gk Xb,e2,Z]
      ·rw[Gg z];rw[ai,List.mem_append,List.mem_singleton]at I;exact l2 t (I.resolve_right z)
    ·have Y:L2 u0≠o:=by simpa using Y
     refine⟨_,_,Xb,r,N2,l1,λt I=>?_⟩;rw[ai,List.mem_append,List.mem_singleton]at I;rcases I with I|I
     ·exact l2 t I
     ·subst I;rcases l1 t T with z|z
      ·rw[z];unfold mrg;rw[Gg (by rw[<-z];exact Y)]
      ·exact z
   ·rintro σ H2 ⟨L2,l,rfl,r,N2,l1,l2⟩;rw[ab.length,List.take_length]at l2;have ml:∀x∈S,L2 x=mrg b o n x:=l2;refine⟨Gf,L2,_,_,_,_,Xb,O.trans r,N2,?_,?_,?_,(λe=>by cases e),λ_=>?_⟩
    ·intro x hx y J e;rw[ml x hx,ml y J]at e;rw[<-ho,<-hn]at e;exact Qo7 m1 m2 snd mc x hx y J e
    ·intro x hx y J e;rw[ml x hx,ml y J];exact Qq6 (G x hx y J e)
    ·intro p u;rw[tk,List.mem_append,List.mem_singleton]at u;rcases u with u|u
     ·have af:=hG p (List.mem_of_mem_take u);rw[ml _ af.1,ml _ af.2.1];exact Qq6 (dn p u)
     ·subst u;show L2 u1=L2 M;rw[ml _ m1,ml _ m2,ad];unfold mrg;rw[Gk ho]
    ·refine⟨u1,m1,M,m2,λz=>c ?_,?_⟩
     ·have:=G u1 m1 M m2 z;rw[ho,hn]at this;exact this
     ·rw[ml _ m1,ml _ m2,ad];unfold mrg;rw[Gk ho]
  ·have c:b u1=b M:=by simpa using c
   refine⟨g,b,_,_,_,_,Xb,O,N,snd,G,λp u=>?_,gf,gt⟩;rw[tk,List.mem_append,List.mem_singleton]at u;rcases u with u|u
   ·exact dn p u
   ·subst u;exact c
 ·rintro σ H1 ⟨g,b,W,X,q,l,rfl,O,N,snd,G,dn,gf,gt⟩;have e:m.take pq.length=m:=by rw[show pq.length=m.length from Paired.length ac,List.take_length]
  rw[e]at dn;exact k _ _ ⟨g,b,_,_,_,_,_,_,_,_,Xb,O,N,snd,G,dn,gf,gt⟩
end
def Cgt(L:Th->Int)(u v:Th):Prop:=∃w ps a,u=.mk w ps/\v=.mk w a/\ps.map L=a.map L
theorem Qxp{L:Th->Int}(cl:∀w ps,Th.mk w ps∈S->∀p∈ps,p∈S)(hS:Snd tl S L){ps a:List Th}(h1:Th.mk w ps∈S)(h2:Th.mk w a∈S)(e:ps.map L=a.map L):Cg tl (.mk w ps) (.mk w a):=by
 refine .cong (CgL.of (by have:=congrArg List.length e;simpa using this) λi p q c d=>?_);have b:(ps.map L)[i]?=(a.map L)[i]?:=by rw[e]
 rw[List.getElem?_map,List.getElem?_map,c,d]at b;exact hS p (cl _ _ h1 p (List.mem_of_getElem? c)) q (cl _ _ h2 q (List.mem_of_getElem? d)) (Tc b)
section
variable{P:Gj}{w:Gs}{K:PySem.W.Frag}{mg:Gy->Option Value}{base:Heap}{f:Gc}{cdv:Value}{A:Tv}{outer:List SM}{s:Gi}{Hi:Hp}{E:XK}
theorem Qi5(B:Blt mg)(U:(XC P w K mg base f cdv A outer s Hi E).A.units+64<Dk):∃t,PS (XC P w K mg base f cdv A outer s Hi E) Qzj t/\∀(tl:Tl)(S:List Th)(L:Th->Int)(d pl W:Gc)(pq nv:List V)(x:List (Th×Th))(H0:Hp)(x0 x1 x2 x3 x5 x7:Option V)
  (hN:Num P w H0 d S L)(ab:H0 pl=Ga (.lst pq))(aq:Qaq H0 pq x)(ah:H0 W=Ga (.lst nv))(aa:Zn H0 nv S)(am:W≠pl)(hG:Good tl S x)(hS:Snd tl S L)(cl:∀w ps,Th.mk w ps∈S->∀p∈ps,p∈S)(hsz:∀t∈S,t.size<=3000)(al:S.length<=3000)(az:x.length<=3000),
  Tr t
   (λσ H=>H=H0/\∃J y m g l G I,σ=s4 x0 x1 x2 x3 J x5 d x7 pl W Gp y m g l G I)
   (λσ H=>∃q b J y m g l G I,σ=s4 x0 x1 x2 x3 J x5 d x7 pl W Gp y m g l G I/\U3 pl H0 H/\H pl=Ga (.lst q)/\Qaq H q b/\Good tl S b/\(∀p∈x,p∈b)/\
    (∀(k j:Nat)u v,j<k->S[k]?=Ga u->S[j]?=Ga v->Cgt L u v->(u,v)∈b)):=by
 have nd:=Uv.nd;refine⟨_,(Z6 Gq rfl (Wz rfl B.range (Qa (Qo Yw rfl B.len PySem.boot_len (Qa (pv 9) Qe)) Qe)) (Z2 11 nd)
  (Qh (Z6 Gq rfl (Wz rfl B.range (Qa (pv 11) Qe)) (Z2 12 nd)
  (Qd (Qs 4 nd (Qn Ze (pv 9) (pv 11)))
  (Qd (Qs 13 nd (Qn Ze (pv 9) (pv 12)))
  (Qh (Zr (PW.pt (Rk (Qu Wu (Qn Q3 (pv 4) Qj) (Qn Q3 (pv 13) Qj) (Za _)) (I9 (Qu Wu (Qo Yw rfl B.len PySem.boot_len (Qa (pv 4) Qe)) (Qo Yw rfl B.len PySem.boot_len (Qa (pv 13) Qe)) (Za _)))))
  (Qd (Rm (i:=14) (own:=["_law_part"]) (fv:=[(6,"_law_leaders")]) nd rfl rfl rfl (S:=(by eq_refl:Wc (Ql Wj) _)) (.cons rfl (TZ Xb) rfl .nil) (Ue (Yp Jd (pv 4) (Y2 Qj) Xw))
   (λ_ _ _ _ _=>Xc (i:=0) nd2 rfl (TZ Xb) (DO Xb)) (λ_ _ _ _ _=>X7) (λ_ _ _ _ _=>(Qn (r:=Qba P w) (Vr U) (pv 1) (pv 0))))
  (Qh (Zr (Qu (Qpl U) (pv 14) (Ub (own:=["_law_part"]) (fv:=[(6,"_law_leaders")]) rfl (S:=(by eq_refl:Wc (Ql Wj) _)) (.cons rfl (TZ Xb) rfl .nil) (Ue (Yp Jd (pv 13) (Y2 Qj) Xw))
   (λ_ _ _ _ _=>Xc (i:=0) nd2 rfl (TZ Xb) (DO Xb)) (λ_ _ _ _ _=>X7) (λ_ _ _ _ _=>(Qn (r:=Qba P w) (Vr U) (pv 1) (pv 0)))) (Za _))
  (Qh (Zc (Xn PySem.F.plainAttrs_list PySem.F.slot_list_append PySem.F.type_list_append Zq (pv 8) (Qa (Q8 (Qa (pv 4) (Qa (pv 13) Qe))) Qe)))) Q9))) Q9))))))),?_⟩
 intro tl S L d pl W pq nv x H0 x0 x1 x2 x3 x5 x7 hN ab aq ah aa am hG hS cl hsz al az;rintro D σ H ⟨rfl,J,y,m,g,l,G,I,rfl⟩ kk;obtain⟨od,ak⟩:=hN.at;have aC:d≠pl:=λz=>by rw[z,ab]at ak;cases ak
 have aH:=aa.length;refine⟨_,Xb,_,_,Xb,.inl ⟨nv,Zb.of ah,Xb⟩,_,Xb,by omega,by omega,W5 (lo:=0) (n:=((nv.length:Int)).toNat) (λi σ H1=>∃q b J y m g l,σ=s4 x0 x1 x2 x3 J x5 d x7 pl W Gp y m g l G I/\U3 pl H H1/\H1 pl=Ga (.lst q)/\Qaq H1 q b/\Good tl S b/\(∀p∈x,p∈b)/\
    (∀(k j:Nat)u v,k<i->j<k->S[k]?=Ga u->S[j]?=Ga v->Cgt L u v->(u,v)∈b)/\b.length<=3000+i*3000)
  ⟨pq,x,J,y,m,g,l,Xb,U3.refl,ab,aq,hG,λ_ h=>h,λk j u v h=>by omega,by omega⟩ ?_ ?_⟩
 ·rintro i σ H1 hi ⟨ai,X,J,y,m,g,l,rfl,R,T,Z,g3,g4,g5,g6⟩;have hi:i<S.length:=by omega
  refine⟨_,Xb,_,Xb,by omega,by omega,W5 (lo:=0) (n:=((0+(i:Int))).toNat) (λj σ H2=>∃q b J m g l,σ=s4 x0 x1 x2 x3 J x5 d x7 pl W Gp (Ga (.int (0+(i:Int)))) m g l G I/\U3 pl H H2/\H2 pl=Ga (.lst q)/\Qaq H2 q b/\Good tl S b/\(∀p∈x,p∈b)/\
    (∀(k j:Nat)u v,k<i->j<k->S[k]?=Ga u->S[j]?=Ga v->Cgt L u v->(u,v)∈b)/\(∀(Q:Nat)u v,Q<j->S[i]?=Ga u->S[Q]?=Ga v->Cgt L u v->(u,v)∈b)/\b.length<=3000+i*3000+j)
   ⟨ai,X,J,m,g,l,Xb,R,T,Z,g3,g4,g5,λQ u v h=>by omega,by omega⟩ ?_ ?_⟩
  ·rintro j σ H2 hj ⟨M,C,J,m,g,l,rfl,R,T,Z,g3,g4,g5,g6,g7⟩;have hj:j<i:=by omega
   obtain⟨v1,e1,t1⟩:=aa.at (List.getElem?_eq_getElem hi);obtain⟨v2,e2,t2⟩:=aa.at (List.getElem?_eq_getElem (show j<S.length by omega));have tu:Qp H H2:=R.Qk ab (λxs z=>by cases z);have N2:Num P w H2 d S L:=hN.keep (λo h=>R _ _ h aC) tu;have ar:=R _ _ ah am;have m1:S[i]∈S:=List.getElem_mem _;have m2:S[j]∈S:=List.getElem_mem _;have q1:S[i]?=Ga S[i]:=List.getElem?_eq_getElem _;have q2:S[j]?=Ga S[j]:=List.getElem?_eq_getElem _;generalize S[i]=u1 at*;generalize S[j]=u2 at*;obtain⟨b1,w1,aE,N,rfl,rfl,af,an⟩:=(t1.Qk tu).inv;obtain⟨b2,w2,aF,O,rfl,rfl,ag,ao⟩:=(t2.Qk tu).inv;have l1:=an.length;have l2:=ao.length;have z1:=hsz _ m1;have z2:=hsz _ m2;simp only[Th.size]at z1 z2;have y1:=Zi N;have y2:=Zi O;refine⟨_,Xb,_,Xb,W,nv,_,_,Xb,Xb,Zb.of ar,(by rw[DF];exact Qz e1),?_⟩;refine⟨_,Xb,_,Xb,W,nv,_,_,Xb,Xb,Zb.of ar,(by rw[DF];exact Qz e2),?_⟩;refine⟨_,Xb,b1,_,_,_,Xb,Xb,Z4.of af,Qz (j:=0) rfl,_,Xb,b2,_,_,_,Xb,Xb,Z4.of ag,Qz (j:=0) rfl,Xb,_,Xb,?_⟩;rw[Xj];have fin:∀{J g l:Option V}{H3:Hp},Qv H2 H3->¬Cgt L (.mk w1 N) (.mk w2 O)->∃q b aG m av aw,s4 x0 x1 x2 x3 J x5 d x7 pl W Gp (Ga (.int (0+(i:Int)))) (Ga (.int (0+(j:Int)))) g l G I=s4 x0 x1 x2 x3 aG x5 d x7 pl W Gp (Ga (.int (0+(i:Int)))) m av aw G I/\U3 pl H H3/\H3 pl=Ga (.lst q)/\Qaq H3 q b/\Good tl S b/\(∀p∈x,p∈b)/\
     (∀(k j:Nat)u v,k<i->j<k->S[k]?=Ga u->S[j]?=Ga v->Cgt L u v->(u,v)∈b)/\(∀(Q:Nat)u v,Q<j+1->S[i]?=Ga u->S[Q]?=Ga v->Cgt L u v->(u,v)∈b)/\b.length<=3000+i*3000+(j+1):=λ{J g l H3}sm no=>by
    refine⟨M,C,_,_,_,_,Xb,R.trans (U3.of sm),sm _ _ T,Z.Qk (Qp.of sm),g3,g4,g5,λQ u v h U hv c=>?_,by omega⟩;by_cases z:Q=j
    ·subst z;rw[q1]at U;rw[q2]at hv;cases U;cases hv;exact absurd c no
    ·exact g6 Q u v (by omega) U hv c
   refine Jh (λc=>?_) (λc=>?_)
   ·have c:w1=w2:=by simpa using c
    subst c;refine⟨_,Xb,_,_,Xb,.inr ⟨_,Z4.of af,Xb⟩,_,Xb,_,_,Xb,.inr ⟨_,Z4.of ag,Xb⟩,Xb,_,Xb,?_⟩;rw[W6];refine Jh (λc2=>?_) (λc2=>?_)
    ·refine⟨_,Xb,_,Xb,b1,_,Xb,Z4.of af,Vc _ _,λr hr=>?_⟩;rw[Qf9];have s3:=Qf hr (.tup aE);refine⟨r,Xb,⟨_,Z4.of Qb⟩,λp Y=>?_⟩;refine Qer (K:=K) Qb (an.same s3) (cl _ _ m1) (N2.same s3) Y (by omega) λH4 aD ax=>?_;have ac:Qv H2 H4:=s3.trans aD;refine⟨_,Xb,_,Xb,_,Xb,b2,_,Xb,Z4.of (ac _ _ ag),Vc _ _,λr2 aA=>?_⟩;rw[Qf9];have s5:=Qf aA (.tup aF);refine⟨r2,Xb,⟨_,Z4.of Qb⟩,λp2 ap=>?_⟩;refine Qer (K:=K) Qb (ao.same (ac.trans s5)) (cl _ _ m2) (N2.same (ac.trans s5)) ap (by omega) λH6 s6 ay=>?_;have au:Qv H4 H6:=s5.trans s6;have ad:=ac.trans au;refine⟨.list ((N.map L).map DX),.list ((O.map L).map DX),.lst (au _ _ ax) (Qcv _),.lst ay (Qcv _),by simp only[Tg];exact Qcn _,by simp only[Tg];exact Qcn _,?_,_,Xb,?_⟩
     ·have:=Qda (N.map L);simp only[Dj];omega
     have ev:Tq (.list ((N.map L).map DX)) (.list ((O.map L).map DX))=decide (N.map L=O.map L):=by simp only[Tq];exact Qhw _ _
     rw[ev];refine Jh (λc3=>?_) (λc3=>?_)
     ·have c3:=TC c3;refine⟨_,Xb,.inl ⟨Xb,_,Zb.of (ad _ _ T)⟩,_,Xb,_,Xb,by show 2<=Gh;decide,λe he=>?_⟩;have s7:=Qf he (.tup [.ref b1,.ref b2]);have ae:=ad.trans s7;have lp:M.length=C.length:=Paired.length Z;have ib:i*3000<=3000*3000:=DE _ (by omega);refine⟨pl,M,.ref e,Xb,Xb,ae _ _ T,by rw[Gu];omega,?_⟩;have aj:Qp H2 (upd (upd H6 e (.tup [.ref b1,.ref b2])) pl (.lst (M++[.ref e]))):=(Qp.of ae).trans (Zh λxs z=>by rw[ae _ _ T]at z;cases z);have aB:e≠pl:=λz=>by rw[z,ad _ _ T]at he;cases he
      refine⟨M++[.ref e],C++[(.mk w1 N,.mk w1 O)],_,_,_,_,Xb,λa o h1 h2=>by rw[Qg h2];exact ae _ _ (R _ _ h1 h2),Qb,?_,?_,λp Y=>List.mem_append_left _ (g4 p Y),λk j u v h1 h2 h3 h4 h5=>List.mem_append_left _ (g5 k j u v h1 h2 h3 h4 h5),λQ u v h U hv c=>?_,by rw[List.length_append,List.length_singleton];omega⟩
      ·refine Yh (Z.Qk aj) (.cons ⟨e,_,_,Xb,by rw[Qg aB];exact Qb,(t1.Qk tu).Qk aj,(t2.Qk tu).Qk aj⟩ .nil)
      ·intro p Y;rcases List.mem_append.mp Y with Y|Y
       ·exact g3 p Y
       ·rw[List.mem_singleton]at Y;subst Y;exact⟨m1,m2,Qxp cl hS m1 m2 c3⟩
      ·by_cases z:Q=j
       ·subst z;rw[q1]at U;rw[q2]at hv;cases U;cases hv;exact List.mem_append_right _ List.mem_cons_self
       ·exact List.mem_append_left _ (g6 Q u v (by omega) U hv c)
     ·have c3:=of_decide_eq_false (EK.mpr c3);refine fin ad ?_;rintro⟨w',ps,qs,z1,z2,z3⟩;cases z1;cases z2;exact c3 z3
    ·refine fin (λ_ _ h=>h) ?_;rintro⟨w',ps,qs,z1,z2,z3⟩;cases z1;cases z2;have:=congrArg List.length z3;simp at this;simp at c2;omega
   ·refine Zz (fin (λ_ _ h=>h) ?_);have c:¬w1=w2:=by simpa using c
    rintro⟨w',ps,qs,z1,z2,z3⟩;cases z1;cases z2;exact c rfl
  ·rintro σ H2 ⟨M,C,J,m,g,l,rfl,R,T,Z,g3,g4,g5,g6,g7⟩;refine⟨M,C,_,_,_,_,_,Xb,R,T,Z,g3,g4,λk j u v h1 h2 h3 h4 h5=>?_,by omega⟩;by_cases z:k=i
   ·subst z;exact g6 j u v (by omega) h3 h4 h5
   ·exact g5 k j u v (by omega) h2 h3 h4 h5
 ·rintro σ H1 ⟨ai,X,J,y,m,g,l,rfl,R,T,Z,g3,g4,g5,g6⟩;refine kk _ _ ⟨ai,X,_,_,_,_,_,_,_,Xb,R,T,Z,g3,g4,λk j u v h1 h2 h3 h4=>g5 k j u v ?_ h1 h2 h3 h4⟩;have:=(List.getElem?_eq_some_iff.mp h2).1;omega
end
section
variable{P:Gj}{w:Gs}{K:PySem.W.Frag}{mg:Gy->Option Value}{base:Heap}{f:Gc}{cdv:Value}{A:Tv}{outer:List SM}{s:Gi}{Hi:Hp}{E:XK}
theorem Qua{L:Th->Int}{b:List (Th×Th)}(h:∀(k j:Nat)u v,j<k->S[k]?=Ga u->S[j]?=Ga v->Cgt L u v->(u,v)∈b)(e:∀p∈b,L p.1=L p.2):
  ∀w ps a,Th.mk w ps∈S->Th.mk w a∈S->ps.map L=a.map L->L (.mk w ps)=L (.mk w a):=by
 intro w ps a h1 h2 f;obtain⟨k,d⟩:=List.mem_iff_getElem?.mp h1;obtain⟨j,c⟩:=List.mem_iff_getElem?.mp h2;rcases La j k with z|z|z
 ·exact e _ (h k j _ _ z d c ⟨w,ps,a,Xb,Xb,f⟩)
 ·subst z;rw[d]at c;cases c;rfl
 ·exact(e _ (h j k _ _ z c d ⟨w,a,ps,Xb,Xb,f.symm⟩)).symm
theorem Qn5(B:Blt mg)(hu:(XC P w K mg base f cdv A outer s Hi E).A.units+64<Dk):∃t,PS (XC P w K mg base f cdv A outer s Hi E) (cSt 7) t/\∀(tl:Tl)(S:List Th)(L:Th->Int)(d pl J:Gc)(pq nv:List V)(F:List (Th×Th))(H0:Hp)(x0 x1 x2 x3 x7:Option V)
  (hN:Num P w H0 d S L)(Q:H0 pl=Ga (.lst pq))(af:Qaq H0 pq F)(I:H0 J=Ga (.lst nv))(ac:Zn H0 nv S)(Y:J≠pl)(hG:Good tl S F)(hS:Snd tl S L)(cl:∀w ps,Th.mk w ps∈S->∀p∈ps,p∈S)(hsz:∀t∈S,t.size<=3000)(G:S.length<=3000)(ae:F.length<=3000)
  (C:∀a b,(Gf,a,b)∈tl->a∈S/\b∈S/\(a,b)∈F),
  Tr t
   (λσ H=>H=H0/\∃x4 X q r u v x y,σ=s4 x0 x1 x2 x3 x4 X d x7 pl J Gf q r u v x y)
   (λσ H=>∃L',σ[6]?=Ga (Ga (.ref d))/\(∀c o,H0 c=Ga o->c≠d->c≠pl->H c=Ga o)/\Num P w H d S L'/\Tells tl S L'):=by
 have nd:=Uv.nd;obtain⟨t1,aq,au⟩:=Qi5 (P:=P) (w:=w) (K:=K) (mg:=mg) (base:=base) (f:=f) (cdv:=cdv) (A:=A) (outer:=outer) (s:=s) (Hi:=Hi) (E:=E) B hu;obtain⟨t2,ar,av⟩:=Qnx (P:=P) (w:=w) (K:=K) (mg:=mg) (base:=base) (f:=f) (cdv:=cdv) (A:=A) (outer:=outer) (s:=s) (Hi:=Hi) (E:=E) hu;refine⟨_,Wi Gq (Xz (pv 10)) (Qd (Qs 10 nd Wk) (Qd aq (Qd ar (Qh (Qs 8 nd (Zj Qe)))))),?_⟩;intro tl S L d pl J pq nv F H0 x0 x1 x2 x3 x7 hN Q af I ac Y hG hS cl hsz G ae C;rintro D σ H ⟨rfl,x4,X,q,r,u,v,x,y,rfl⟩ kk;obtain⟨od,O⟩:=hN.at;have aw:d≠pl:=λz=>by rw[z,Q]at O;cases O
 have ag:J≠d:=λz=>by rw[z,O]at I;cases I
 refine⟨λm σ H1=>∃g k j n i x4 X q r u v x y,σ=s4 x0 x1 x2 x3 x4 X d x7 j J g q r u v x y/\(∀c o,H c=Ga o->c≠d->c≠pl->H1 c=Ga o)/\Num P w H1 d S k/\Snd tl S k/\
   H1 j=Ga (.lst n)/\Qaq H1 n i/\Good tl S i/\i.length<=3000/\(∀c o,H c=Ga o->c≠d->c≠pl->c≠j)/\(∀a b,(Gf,a,b)∈tl->(a,b)∈i\/k a=k b)/\m=(if g=Gf then dis S k+1 else 0)/\(g=Gp->Ri tl S k),
  ⟨_,Gf,L,pl,pq,F,_,_,_,_,_,_,_,_,Xb,λc o e _ _=>e,hN,hS,Q,af,hG,ae,(λ_ _ _ _ h=>h),λa b h=>.inl (C a b h).2.2,Xb,λz=>by cases z⟩,?_⟩
 rintro m σ H1 ⟨g,k,j,n,i,x4,X,q,r,u,v,x,y,rfl,kp,N,snd,g1,g2,g3,g4,g5,g6,rfl,g7⟩;refine⟨_,Xb,g,Xb,?_⟩;cases g with
 |false=>refine Zz (kk _ _ ⟨k,Xb,kp,N,g7 Xb,snd⟩)
 |true=>
  refine Xf ⟨λam H'=>∃m',m'<dis S k+1/\∃g k j n i x4 X q r u v x y,am=s4 x0 x1 x2 x3 x4 X d x7 j J g q r u v x y/\(∀c o,H c=Ga o->c≠d->c≠pl->H' c=Ga o)/\Num P w H' d S k/\Snd tl S k/\
   H' j=Ga (.lst n)/\Qaq H' n i/\Good tl S i/\i.length<=3000/\(∀c o,H c=Ga o->c≠d->c≠pl->c≠j)/\(∀a b,(Gf,a,b)∈tl->(a,b)∈i\/k a=k b)/\m'=(if g=Gf then dis S k+1 else 0)/\(g=Gp->Ri tl S k),λam H' h=>h,?_⟩
  have ai:=kp _ _ I ag Y;have aj:J≠j:=g5 _ _ I ag Y;have aa:Qp H H1:=λc xs e=>kp c _ e (λz=>by rw[z,O]at e;cases e) (λz=>by rw[z,Q]at e;cases e);have ak:=ac.Qk aa;have ah:d≠j:=λz=>by obtain⟨o,ho⟩:=N.at;rw[z,g1]at ho;cases ho
  refine au tl S k d j J n nv i H1 x0 x1 x2 x3 X x7 N g1 g2 ai ak aj g3 snd cl hsz G g4 _ _ _ ⟨Xb,_,_,_,_,_,_,_,Xb⟩ ?_;rintro aJ H2 ⟨ap,U,y4,ax,ay,az,aA,aB,aC,rfl,M,a1,a2,a3,a4,a5⟩;have al:Qp H1 H2:=M.Qk g1 (λxs z=>by cases z);have N2:Num P w H2 d S k:=N.keep (λo h=>M _ _ h ah) al;have ao:=M _ _ ai aj;refine av tl S k d j J ap nv U H2 x0 x1 x2 x3 x7 N2 a1 a2 ao (ak.Qk al) a3 snd G _ _ _ ⟨Xb,_,_,_,_,_,_,_,_,Xb⟩ ?_;rintro aK H3 ⟨g',L3,z4,z5,aD,aE,aF,aG,aH,aI,rfl,an,N3,W,ab,b1,T,b3⟩;refine⟨Gv _,λp l=>?_⟩;have R:=Qf l (.lst []);have Z:∀c o,H c=Ga o->c≠d->c≠pl->H3 c=Ga o:=λc o e h1 h2=>an c o (M c o (kp c o e h1 h2) (g5 c o e h1 h2)) h1;have ad:∀c o,H c=Ga o->c≠d->c≠pl->c≠p:=λc o e h1 h2 z=>by rw[<-z,Z c o e h1 h2]at l;cases l
  have told:∀a b,(Gf,a,b)∈tl->L3 a=L3 b:=λa b h=>by
   rcases g6 a b h with z|z
   ·exact b1 _ (a4 _ z)
   ·exact ab a (C a b h).1 b (C a b h).2.1 z
  cases g' with
  |false=>
   have T:=T rfl;have e1:∀p∈U,k p.1=k p.2:=λp l=>by rw[<-T _ (a3 p l).1,<-T _ (a3 p l).2.1];exact b1 p l
   have cg:=Qua a5 e1;refine⟨0,by omega,Gp,L3,p,[],[],_,_,_,_,_,_,_,_,Xb,λc o e h1 h2=>R _ _ (Z c o e h1 h2),N3.same R,W,Qb,.nil,(λp l=>nomatch l),Gv _,ad,λa b h=>.inr (told a b h),Xb,λ_=>⟨cl,λa b h=>⟨(C a b h).1,(C a b h).2.1,told a b h⟩,λw ps qs h1 h2 e=>?_⟩⟩;rw[T _ h1,T _ h2];refine cg w ps qs h1 h2 ?_;rw[<-List.map_congr_left λp l=>T p (cl _ _ h1 p l),<-List.map_congr_left λp l=>T p (cl _ _ h2 p l)];exact e
  |true=>have:=Qw7 ab (b3 Xb);exact⟨dis S L3+1,by omega,Gf,L3,p,[],[],_,_,_,_,_,_,_,_,Xb,λc o e h1 h2=>R _ _ (Z c o e h1 h2),N3.same R,W,Qb,.nil,(λp l=>nomatch l),Gv _,ad,λa b h=>.inr (told a b h),Xb,λz=>by cases z⟩
end
theorem O6{T:List Th}(h:Zn H xs (T++[t])):∃a x,xs=a++[x]/\Zn H a T/\Z5 H x t:=by
 induction T generalizing xs with
 |nil=>
  cases h with
  |cons h1 h2=>cases h2;exact⟨[],_,Xb,.nil,h1⟩
 |cons y r b=>
  cases h with
  |cons h1 h2=>obtain⟨a,x,e,c,d⟩:=b h2;exact⟨_::a,x,by rw[e];rfl,.cons h1 c,d⟩
theorem Yv:∀a b:List Th,Qr (a++b)=Qr a+Qr b
 |[],b=>by simp[Qr]
 |x::a,b=>by simp only[List.cons_append,Qr,Yv a b];omega
theorem Wx:∀(l:List Th)(i:Nat),Qr (l.take i)<=Qr l
 |[],i=>by simp
 |x::l,0=>by simp[Qr]
 |x::l,i+1=>by have:=Wx l i;simp only[List.take_succ_cons,Qr];omega
def J9(tl:Tl):List Th:=tl.flatMap λp=>[p.2.1,p.2.2]
theorem Qau:∀tl:Tl,Qr (J9 tl)=Qr (tl.map (·.2.1))+Qr (tl.map (·.2.2))
 |[]=>by simp[J9,Qr]
 |p::r=>by have:=Qau r;unfold J9 at this⊢;simp only[List.flatMap_cons,List.map_cons,List.cons_append,List.nil_append,Qr]at this⊢;omega
theorem Qdc:t∈J9 tl↔∃p∈tl,t=p.2.1\/t=p.2.2:=by unfold J9;simp[List.mem_flatMap]
theorem Rx:∀ds:List TF,Tp ds []=ds.isEmpty
 |[]=>by simp[Tp]
 |_::_=>by simp[Tp]
theorem Qvb(b:Bool):(tw b==("same":Gy))=b:=by cases b<;>decide+kernel
theorem Qco(tl:Tl)(i:Nat)(b:Bool)(u v:Th)(h:tl[i]?=Ga (b,u,v)):Rj (tl.take (i+1))=Rj (tl.take i)++(if b then[(u,v)]else[]):=by unfold Rj;rw[List.take_add_one,h,List.filter_append,List.map_append];cases b<;>rfl
theorem Qn4(tl:Tl):(Rj tl).length<=tl.length:=by unfold Rj;rw[List.length_map];exact List.length_filter_le _ _
section
variable{P:Gj}{w:Gs}{K:PySem.W.Frag}{mg:Gy->Option Value}{base:Heap}
theorem Qj1(F:Va K "_law_classes" "_law_classes" Wj f fd)(B:Blt mg):Qt P w K mg base Ya 1 f fd ["_law_told","_law_things"] (Qab P w):=by
 refine F.ok Uv (λvs H Q E h=>?_) (λcdv A outer s H vs Q E hr h=>?_)
 ·obtain⟨a,b,us,Z,tl,ts,rfl,_⟩:=h;rfl
 obtain⟨a,b,us,Z,tl,ts,rfl,ha,ag,hb,aP,ax,aw,hsz,q⟩:=h;have nd:=Uv.nd;have hu:=hr.units;obtain⟨t7,aR,aS⟩:=Qn5 (P:=P) (w:=w) (K:=K) (mg:=mg) (base:=base) (f:=f) (cdv:=cdv) (A:=A) (outer:=outer) (s:=s) (Hi:=H) (E:=E) B hu;refine⟨_,(Qd (Qs 2 nd (Xt U5 rfl B.list TD (Qa (pv 1) Qe)))
  (Qd (Z6 Gq rfl (Yn (pv 0)) (Vf rfl (Zm (Z2 3 nd) (Zm (Z2 4 nd) (Zm (Z2 5 nd) Wb))))
  (Qh (Qs 2 nd (Zf Vy (pv 2) (Zj (Qa (pv 4) (Qa (pv 5) Qe)))))))
  (Qd (Vw (i:=6) nd rfl (DO Xb) Im)
  (Qd (Wi Gq (Qu (Qj4 hu) (pv 2) (Zj Qe) (Za _))
  (Qd (Qs 7 nd (Qa1 PySem.F.plainAttrs_list PySem.F.slot_list_pop PySem.F.type_list_pop Qaj (pv 2)))
  (Qh (Zr (Qu (Qdz hu) (pv 7) (pv 6) rfl)
  (Qd (Rq (Qo Qli rfl B.len PySem.boot_len (Qa (pv 6) Qe)) (Qak (pv 6) (pv 7) (Qao hu)))
  (Qh (Qs 2 nd (Zf Vy (pv 2) (Xt U5 rfl B.list TD (Qa (Yp Jd (pv 7) (Y2 Qj) Xw) Qe)))))) Q9))))
  (Qd (Rm (i:=8) (own:=["_law_deed"]) (fv:=[]) nd rfl rfl rfl (S:=(by eq_refl:Wc (Ql Wj) _)) .nil (Yn (pv 0))
   (λ_ _ _ _ _=>Xc (i:=0) (nd1 _) rfl (TZ Xb) (DO Xb)) (λ_ _ _ _ _=>Qql (Qu Wu (Qn (r:=Qv2 K) Q3 (pv 0) Qj) Q5 (Za _))) (λ_ _ _ _ _=>Yp (r:=Q0y K) Jd (pv 0) (Y2 Qj) Xw))
  (Qd (Qs 9 nd (Xt (Qi6 Xb) rfl B.list TD (Qa (pv 6) Qe)))
  (Qd (Qs 10 nd Wk)
  (Qd aR
  (Qh (Qx (pv 6))))))))))),?_⟩
 have ay:us.length=tl.length:=Paired.length ag;have aX:tl.length<=3000:=by have:=Zi (tl.map (·.2.1));rw[List.length_map]at this;omega
 refine⟨_,Xb,b,Z,Xb,.inl (Zb.of hb),λl X=>?_⟩;have s1:=Qf X (.lst Z);refine⟨_,Xb,a,Xb,⟨_,Zb.of (s1 _ _ ha)⟩,Yz (K:=K) (a:=a) (xs:=us) (λi σ H1=>∃(l:Gc)(xs:List V)(x3 x4 x5:Option V),σ=[Ga (.ref a),Ga (.ref b),Ga (.ref l),x3,x4,x5,Ge,Ge,Ge,Ge,Ge,Ge,Ge,Ge,Ge,Ge,Ge]/\Qv H H1/\H l=Ge/\H1 l=Ga (.lst xs)/\Zn H1 xs (ts++J9 (tl.take i)))
  ⟨l,Z,_,_,_,Xb,s1,X,Qb,by simp[J9];exact aP.same s1⟩ (λi σ H1 _⟨_,_,_,_,_,_,sm,_⟩=>Zb.of (sm _ _ ha)) ?_ ?_⟩
 ·rintro i x σ H1 hi ⟨l,xs,x3,x4,x5,rfl,sm,X,I,J⟩;obtain⟨⟨bb,u1,u2⟩,eu,a',v1,v2,rfl,ac,t1,t2⟩:=Qw ag hi;refine⟨a',_,Xb,Z4.of (sm _ _ ac),Xb,_,_,Xb,_,_,Xb,_,_,Xb,Xb,?_⟩;refine⟨_,Xb,_,Xb,_,Xb,by show 2<=Gh;decide,λc hc=>?_⟩;have s2:=Qf hc (.lst [v1,v2]);have lx:=J.length;have b1:=Zi (ts++J9 (tl.take i));have b2:Qr (ts++J9 (tl.take i))<=3000:=by have e1:=Qau (tl.take i);have e2:=Wx (tl.map (·.2.1)) i;have e3:=Wx (tl.map (·.2.2)) i;rw[List.map_take,List.map_take]at e1;rw[Yv];omega
  refine⟨l,c,xs,[v1,v2],Xb,Xb,s2 _ _ I,Qb,small (by show xs.length+2<=_;omega),λn R=>?_⟩;have s3:=Qf R (.lst (xs++[v1,v2]));have aj:=(sm.trans s2).trans s3;refine⟨n,xs++[v1,v2],_,_,_,Xb,aj,(sm.trans s2).free R,Qb,?_⟩;have e:ts++J9 (tl.take (i+1))=(ts++J9 (tl.take i))++[u1,u2]:=by unfold J9;rw[List.take_add_one,eu,List.flatMap_append,List.append_assoc];rfl
  rw[e];exact((J.same s2).same s3).append (.cons (t1.same aj) (.cons (t2.same aj) .nil))
 rintro σ H1 ⟨l,xs,x3,x4,x5,rfl,sm,X,I,J⟩;rw[ay,List.take_length]at J;have aa:∀t∈ts++J9 tl,t.ok=Gf/\t.depth<=8:=λt k=>by
  rcases List.mem_append.mp k with h|h
  ·exact ax t h
  ·obtain⟨p,u,e⟩:=Qdc.mp h;rcases e with rfl|rfl
   ·exact(aw p u).1
   ·exact(aw p u).2
 have O:Qr (ts++J9 tl)<=3000:=by rw[Yv,Qau];omega
 have aq:∀t∈ts++J9 tl,t∈ts++J9 tl:=λt h=>h;generalize au:ts++J9 tl=T0 at J aa O aq;intro d hd;have ad:H d=Ge:=sm.free hd;have s2:=Qf hd (Vh P w d []);have C:l≠d:=Qc I hd;refine⟨λm σ H2=>∃(l:Gc)(xs:List V)(T S:List Th)(L:Th->Int)(x7:Option V),σ=[Ga (.ref a),Ga (.ref b),Ga (.ref l),x3,x4,x5,Ga (.ref d),x7,Ge,Ge,Ge,Ge,Ge,Ge,Ge,Ge,Ge]/\Qv H H2/\H l=Ge/\l≠d/\H2 l=Ga (.lst xs)/\Zn H2 xs T/\Num P w H2 d S L/\
   (∀x∈S,∀y∈S,L x=L y->x=y)/\(∀x∈S,L x<S.length)/\(∀w ps,Th.mk w ps∈S->∀p∈ps,p∈S\/p∈T)/\(∀t∈T0,t∈S\/t∈T)/\(∀t∈T,t.ok=Gf/\t.depth<=8)/\m=Qr T/\S.length+Qr T<=3000/\(∀t∈S,t.size<=3000),
  ⟨_,l,xs,T0,[],λ_=>0,_,Xb,sm.trans s2,X,C,s2 _ _ I,J.same s2,⟨⟨[],Qb,(λp u=>nomatch u),Xb,(λt k=>nomatch k)⟩,(λt k=>nomatch k)⟩,(λt k=>nomatch k),(λt k=>nomatch k),(λ_ _ k=>nomatch k),λt k=>.inr k,aa,Xb,by simpa using O,(λt k=>nomatch k)⟩,?_⟩
 clear I J X C s2;rintro m σ H2 ⟨l,xs,T,S,L,x7,rfl,aC,X,C,I,J,N,inj,low,cl,al,ah,rfl,sz,ap⟩;have lx:=J.length;have lT:=Zi T;refine⟨_,Xb,Gv _,λz hz=>?_⟩;have s4:=Qf hz (.lst []);have aU:l≠z:=Qc I hz;have az:okL T=Gf:=by rw[I8,List.all_eq_true];exactλt k=>(ah t k).1
 refine⟨.list (X0 T),.list [],.lst (s4 _ _ I) (J.same s4).dts,.lst Qb .nil,by simp only[Tg];exact Qb7 T az,by simp[Tg,Gr],?_,_,Xb,?_⟩
 ·simp only[Dj,Tj];omega
 have ev:Tq (.list (X0 T)) (.list [])=T.isEmpty:=by
  simp only[Tq];rw[Rx];cases T with
  |nil=>simp[X0]
  |cons t r=>simp[X0]
 rw[ev];rcases List.eq_nil_or_concat T with rfl|⟨Tr,t,eT⟩
 ·
  refine Zz ?_;have cl:∀w ps,Th.mk w ps∈S->∀p∈ps,p∈S:=λw ps h p u=>(cl w ps h p u).resolve_right (by simp);have al:∀t∈T0,t∈S:=λt h=>(al t h).resolve_right (by simp);have D:=aC.trans s4;have N3:=N.same s4;generalize upd H2 z (.lst [])=H3 at D N3⊢;refine⟨_,Xb,a,Xb,⟨_,Zb.of (D _ _ ha)⟩,λp u=>?_⟩;have sp:=Qf u (.lst []);have aM:H p=Ge:=D.free u;refine Qia (K:=K) (a:=a) (xs:=us) (small (by omega)) (λi ys σ H4=>(∃x0,σ=[x0])/\Qv H3 H4/\Qaq H4 ys (Rj (tl.take i))) ⟨⟨_,Xb⟩,sp,by simp[Rj];exact .nil⟩ (λi ys σ H4 _⟨_,g,_⟩=>Zb.of (g _ _ (D _ _ ha))) ?_ ?_
  ·rintro i x ys σ H4 hi ⟨⟨x0,rfl⟩,g,gp⟩ v;obtain⟨⟨bb,u1,u2⟩,eu,a',v1,v2,rfl,ac,t1,t2⟩:=Qw ag hi;have ao:=D.trans g;have a4:=ao _ _ ac;refine⟨_,Xb,a',_,_,_,Xb,Xb,Z4.of a4,Qz (j:=0) rfl,Xb,_,Xb,?_⟩;rw[Xj,Qvb];cases bb with
   |true=>
    refine Xf ?_;refine⟨_,Xb,_,Xb,a',_,Xb,Z4.of a4,Vc _ _,λr hr=>?_⟩;rw[Qf9];have s5:=Qf hr (.tup [v1,v2]);have aO:r≠p:=λz=>by rw[z,v]at hr;cases hr
    have t6:Qp H4 (upd (upd H4 r (.tup [v1,v2])) p (.lst (ys++[.ref r]))):=(Qp.of s5).trans (Zh λxs e=>by rw[s5 _ _ v]at e;cases e);refine⟨s5 _ _ v,⟨_,Xb⟩,λc o e=>?_,?_⟩
    ·rw[Qg (Qc e u)];exact s5 _ _ (g _ _ e)
    ·rw[Qco tl i Gf u1 u2 eu];exact Yh (gp.Qk t6) (.cons ⟨r,v1,v2,Xb,by rw[Qg aO];exact Qb,(t1.same ao).Qk t6,(t2.same ao).Qk t6⟩ .nil)
   |false=>refine Zz ⟨v,⟨_,Xb⟩,g,?_⟩;rw[Qco tl i Gp u1 u2 eu];simpa using gp
  ·rintro ys σ H4 ⟨_,g,gp⟩ v;rw[ay,List.take_length]at gp;have N4:=N3.same g;obtain⟨kvs,dh,lk,an⟩:=N4.names;refine⟨_,Xb,d,kvs,Xb,dh,λn R=>?_⟩;have sn:=Qf R (.lst (kvs.map λp=>V.ref p.2.1));have inS:∀x∈tl,x.2.1∈S/\x.2.2∈S:=λx M=>by rw[<-au]at al;exact⟨al _ (List.mem_append_right _ (Qdc.mpr ⟨x,M,.inl Xb⟩)),al _ (List.mem_append_right _ (Qdc.mpr ⟨x,M,.inr Xb⟩))⟩
   refine aS tl S L d p n ys _ (Rj tl) _ _ _ _ _ _ (N4.same sn) (sn _ _ v) (gp.Qk (Qp.of sn)) Qb (an.same sn) (Gn (Qc v R)) ?_ ?_ cl ap (by omega) (by have:=Qn4 tl;omega) ?_ _ _ _ ⟨Xb,_,_,_,_,_,_,_,_,Xb⟩ ?_
   ·rintro⟨x,y⟩ aQ;have h:=Qez.mp aQ;exact⟨(inS _ h).1,(inS _ h).2,.told h⟩
   ·intro x M y hy e;rw[inj x M y hy e];exact .refl _
   ·intro x y h;exact⟨(inS _ h).1,(inS _ h).2,Qez.mpr h⟩
   ·rintro a0 H7 ⟨L7,h6,kp,N7,T7⟩;refine⟨_,h6,q d S L7 H7 (λc o e=>?_) ad N7 T7 (λt k=>al t (by rw[<-au];exact List.mem_append_left _ k)) inS⟩;exact kp c o (sn _ _ (g _ _ (D _ _ e))) (Qc e ad) (Qc e aM)
 ·have eT:T=Tr++[t]:=by simpa using eT
  subst eT;have aJ:(Tr++[t]).isEmpty=Gp:=by cases Tr<;>rfl
  rw[aJ];refine Xf ?_;obtain⟨U,x,rfl,k1,k2⟩:=O6 J;have af:Qr (Tr++[t])=Qr Tr+t.size:=by rw[Yv];simp[Qr]
  rw[af]at sz;have aT:=Om t;obtain⟨Y,ab⟩:=ah t (by simp);refine⟨λaF H'=>∃m',m'<Qr (Tr++[t])/\∃(l:Gc)(xs:List V)(T S:List Th)(L:Th->Int)(x7:Option V),aF=[Ga (.ref a),Ga (.ref b),Ga (.ref l),x3,x4,x5,Ga (.ref d),x7,Ge,Ge,Ge,Ge,Ge,Ge,Ge,Ge,Ge]/\Qv H H'/\H l=Ge/\l≠d/\H' l=Ga (.lst xs)/\Zn H' xs T/\Num P w H' d S L/\
   (∀x∈S,∀y∈S,L x=L y->x=y)/\(∀x∈S,L x<S.length)/\(∀w ps,Th.mk w ps∈S->∀p∈ps,p∈S\/p∈T)/\(∀t∈T0,t∈S\/t∈T)/\(∀t∈T,t.ok=Gf/\t.depth<=8)/\m'=Qr T/\S.length+Qr T<=3000/\(∀t∈S,t.size<=3000),λaF H' h=>h,?_⟩
  have ae:(U++[x])[(U++[x]).length - 1]?=Ga x:=by simp
  refine⟨_,Xb,.inl ⟨Xb,_,Zb.of (s4 _ _ I)⟩,l,_,_,Xb,Xb,s4 _ _ I,ae,?_⟩;rw[List.dropLast_concat];have W:U3 l H2 (upd (upd H2 z (.lst [])) l (.lst U)):=λc o e h=>by rw[Qg h];exact s4 _ _ e
  have l5:(upd (upd H2 z (.lst [])) l (.lst U)) l=Ga (.lst U):=Qb;generalize upd (upd H2 z (.lst [])) l (.lst U)=H5 at W l5⊢;have t5:Qp H2 H5:=W.Qk I (λxs e=>by cases e);have aD:Qv H H5:=λc o e=>W c o (aC _ _ e) (Qc e X);have N5:Num P w H5 d S L:=N.keep (λo h=>W _ _ h (Gn C)) t5;have k1:=k1.Qk t5;have k2:=k2.Qk t5;obtain⟨b0,wd,G,ps,rfl,rfl,aH,av⟩:=k2.inv;refine⟨_,Xb,_,Xb,N5.Qzz Y ab k2 ⟨_,Xb,?_⟩⟩;have aB:∀t∈Tr,t.ok=Gf/\t.depth<=8:=λt k=>ah t (List.mem_append_left _ k);refine Jh (λc=>?_) (λc=>?_)
  ·have c:¬Th.mk wd ps∈S:=by simpa using c
   obtain⟨kvs,dh,lk,_⟩:=N5.names;refine⟨_,Xb,d,kvs,Xb,dh,_,Xb,_,Xb,N5.add (by omega) c Y ab k2 λH6 aG N6=>?_⟩;have b6:U3 d H5 H6:=aG;obtain⟨o5,aK⟩:=N5.at;have ar:Qp H5 H6:=b6.Qk aK (λxs e=>by cases e);have aE:Qv H H6:=λc o e=>b6 c o (aD _ _ e) (Qc e ad);have l6:=b6 _ _ l5 C;have ax:(Th.mk wd ps).size=Qr ps+1:=by simp only[Th.size]
   have aY:=av.length;have aW:=Zi ps;have aZ:=k1.length;have aV:=Zi Tr;refine⟨_,Xb,_,Xb,_,Xb,b0,_,Xb,Z4.of (ar _ _ aH),Vc _ _,λr aN=>?_⟩;rw[Qf9];have s7:=Qf aN (.tup G);refine⟨r,G,Xb,.inr (Z4.of Qb),λl2 aI=>?_⟩;have s8:=Qf aI (.lst G);refine⟨l,l2,U,G,Xb,Xb,s8 _ _ (s7 _ _ l6),Qb,small (by omega),λn R=>?_⟩;have s9:=Qf R (.lst (U++G));have ak:=s7.trans s8;have am:=ak.trans s9;obtain⟨o6,aL⟩:=N6.at;have aA:∀p∈ps,p.ok=Gf/\p.depth<=8:=λp u=>by
    have h1:okL ps=Gf:=by simp only[Th.ok,GO]at Y;exact Y.2
    rw[I8,List.all_eq_true]at h1;have h2:=Wy u;simp only[Th.depth]at ab;exact⟨h1 p u,by omega⟩
   refine⟨Qr (Tr++ps),?_,n,U++G,Tr++ps,S++[Th.mk wd ps],_,_,Xb,aE.trans am,(aE.trans ak).free R,?_,Qb,?_,N6.same am,?_,?_,?_,?_,?_,Xb,?_,?_⟩
   ·rw[af,Yv];omega
   ·exactλz=>by rw[z,ak _ _ aL]at R;cases R
   ·exact((k1.Qk ar).append (av.Qk ar)).same am
   ·intro x M y hy e;rw[List.mem_append,List.mem_singleton]at M hy;by_cases h1:x=Th.mk wd ps
    ·by_cases h2:y=Th.mk wd ps
     ·rw[h1,h2]
     ·rw[Gk h1,Gg h2]at e;have:=low y (hy.resolve_right h2);omega
    ·by_cases h2:y=Th.mk wd ps
     ·rw[Gg h1,Gk h2]at e;have:=low x (M.resolve_right h1);omega
     ·rw[Gg h1,Gg h2]at e;exact inj x (M.resolve_right h1) y (hy.resolve_right h2) e
   ·intro x M;rw[List.mem_append,List.mem_singleton]at M;rw[List.length_append,List.length_singleton];by_cases h1:x=Th.mk wd ps
    ·rw[Gk h1];omega
    ·rw[Gg h1];have:=low x (M.resolve_right h1);omega
   ·intro w' ai h p u;rcases List.mem_append.mp h with h|h
    ·rcases cl w' ai h p u with z|z
     ·exact .inl (List.mem_append_left _ z)
     ·rcases List.mem_append.mp z with z|z
      ·exact .inr (List.mem_append_left _ z)
      ·exact .inl (List.mem_append_right _ z)
    ·rw[List.mem_singleton]at h;cases h;exact .inr (List.mem_append_right _ u)
   ·intro t k;rcases al t k with z|z
    ·exact .inl (List.mem_append_left _ z)
    ·rcases List.mem_append.mp z with z|z
     ·exact .inr (List.mem_append_left _ z)
     ·exact .inl (List.mem_append_right _ z)
   ·intro t k;rcases List.mem_append.mp k with z|z
    ·exact aB t z
    ·exact aA t z
   ·rw[Yv,List.length_append,List.length_singleton];omega
   ·intro t k;rcases List.mem_append.mp k with z|z
    ·exact ap t z
    ·rw[List.mem_singleton]at z;rw[z];omega
  ·have c:Th.mk wd ps∈S:=by simpa using c
   refine⟨Qr Tr,by rw[af];omega,l,U,Tr,S,L,_,Xb,aD,X,C,l5,k1,N5,inj,low,λw' ai h p u=>?_,λt k=>?_,aB,Xb,by omega,ap⟩
   ·rcases cl w' ai h p u with z|z
    ·exact .inl z
    ·rcases List.mem_append.mp z with z|z
     ·exact .inr z
     ·rw[List.mem_singleton]at z;rw[z];exact .inl c
   ·rcases al t k with z|z
    ·exact .inl z
    ·rcases List.mem_append.mp z with z|z
     ·exact .inr z
     ·rw[List.mem_singleton]at z;rw[z];exact .inl c
end
theorem Qek{β:Type}{F:α->β->Prop}{xs:List α}{st:List β}{p:β}(h:Paired F xs (st++[p])):∃a x,xs=a++[x]/\Paired F a st/\F x p:=by
 induction st generalizing xs with
 |nil=>
  cases h with
  |cons h1 h2=>cases h2;exact⟨[],_,Xb,.nil,h1⟩
 |cons y r b=>
  cases h with
  |cons h1 h2=>obtain⟨a,x,e,c,d⟩:=b h2;exact⟨_::a,x,by rw[e];rfl,.cons h1 c,d⟩
theorem Qzv(i:Int)(d:0<=i)(h1:i<26):∃c:Nat,atI (("abcdefghijklmnopqrstuvwxyz":Gy).cps.toList) i=Ga c/\c<0x110000:=by
 have b:(("abcdefghijklmnopqrstuvwxyz":Gy).cps.toList).length=26:=by decide+kernel
 have a:∀c∈(("abcdefghijklmnopqrstuvwxyz":Gy).cps.toList),c<0x110000:=by decide+kernel
 have hi:i.toNat<(("abcdefghijklmnopqrstuvwxyz":Gy).cps.toList).length:=by rw[b];omega
 have e:i=((i.toNat:Nat):Int):=by omega
 have q:=Qz (List.getElem?_eq_getElem hi);rw[<-e]at q;exact⟨_,q,a _ (List.getElem_mem hi)⟩
theorem Qjt{c:Nat}{x:Gy}(a:c<0x110000)(h:TW x=Gf):TW ((⟨#[c]⟩:Gy)++x)=Gf:=by show((#[c]++x.cps).all (·<0x110000))=Gf;have h':x.cps.all (·<0x110000)=Gf:=h;rw[EZ,h'];simp[a]
theorem Qss{c:Nat}{x:Gy}:((⟨#[c]⟩:Gy)++x).length=x.length+1:=by show(#[c]++x.cps).size=x.cps.size+1;simp;omega
theorem Qoy{l:Int}(h1:1<=l)(h:l*2^k<=10^39):k<130:=by
 rcases Tb k 130 with h'|h'
 ·exact h'
 ·exfalso;have e:(2:Int)^130<=2^k:=by
   have:(2:Nat)^130<=2^k:=Nat.pow_le_pow_right (by decide) h'
   exact_mod_cast this
  have b:(2:Int)^k<=l*2^k:=by have a:(0:Int)<=2^k:=L9 (Fo (by decide));have:=Ei h1 a;simpa using this
  have c:(10:Int)^39<2^130:=by decide
  omega
theorem Qj3{l:Int}(h1:1<=l / 26 - 1)(h:l*2^k<=10^39):(l / 26 - 1)*2^(k+1)<=10^39:=by
 have a:(0:Int)<2^k:=Fo (by decide);have e:(l / 26 - 1)*2^(k+1)=((l / 26 - 1)*2)*2^k:=by rw[Int.pow_succ];ac_rfl
 rw[e];have:(l / 26 - 1)*2<=l:=by omega
 have:=Ei this (L9 a);omega
section
variable{P:Gj}{w:Gs}{K:PySem.W.Frag}{mg:Gy->Option Value}{base:Heap}
theorem Qc4:Qy ["_law_cell","_law_left","_law_word"] ["_law_cell"] (Ql Qmf):=by eq_refl
theorem Qug(F:Va K "_law_any_word" "_law_any_word" Qmf f fd)(t:mg "abs"=Ge):Qt P w K mg base Ya 1 f fd ["_law_cell"] Qpx:=by
 refine F.ok Qc4 (λvs H Q E h=>?_) (λcdv A outer s H vs Q E v h=>?_)
 ·obtain⟨n,rfl,_⟩:=h;rfl
 obtain⟨n,rfl,q⟩:=h;refine⟨_,Qd (Vw (i:=1) Qc4.nd rfl (TZ Xb) (Zf Xu (Qo Qsw rfl t Fa (Qa (pv 0) Qe)) (Zf Qsf Qj Qj)))
  (Qd (Vw (i:=2) Qc4.nd rfl (TZ Xb) Q5)
  (Qd (Wi Gq (Qu Q01 (pv 1) Qj (Za _))
   (Qd (Vw (i:=2) Qc4.nd rfl (TZ Xb) (Zf R8 (Qn Qsb Q5 (Zf Xu (pv 1) Qj)) (pv 2)))
   (Qh (Vw (i:=1) Qc4.nd rfl (TZ Xb) (Zf Qk2 (Zf Wa (pv 1) Qj) Qj)))))
  (Qh (Qx (pv 2))))),?_⟩
 refine⟨_,Xb,n,Xb,_,_,Xb,Xb,⟨by decide,by decide,by decide⟩,_,_,Xb,Xb,(by show(0:Int)<10^Dp 39;decide),?_⟩;have L0:0<=(if n<0 then -n else n) % (10:Int)^(Dp 39):=Tu _ (by decide);have p:(if n<0 then -n else n) % (10:Int)^(Dp 39)<10^39:=Te _ (by decide);refine⟨λm σ H2=>∃(l:Int)(x:Gy),σ=[Ga (.int n),Ga (.int l),Ga (.str x)]/\H2=H/\ -1<=l/\m=(l+1).toNat/\TW x=Gf/\(1<=l->l*2^x.length<=10^39)/\(0<=l->x.length<=131)/\x.length<=132,
  ⟨_,(if n<0 then -n else n) % (10:Int)^(Dp 39),"",Xb,Xb,Int.le_trans (by decide) L0,Xb,by decide+kernel,λ_=>?_,λ_=>by decide+kernel,by decide+kernel⟩,?_⟩
 ·have:(("":Gy).length)=0:=by decide+kernel
  rw[this];generalize (if n<0 then -n else n) % (10:Int)^(Dp 39)=L at p⊢;omega
 rintro m σ H2 ⟨l,x,rfl,rfl,h1,rfl,h2,j,o,u⟩;refine⟨_,Xb,_,_,Xb,Xb,_,Xb,?_⟩;refine Jh (λc=>?_) (λc=>?_)
 ·have g:0<=l:=TC c;refine⟨λd H'=>∃b,d=[Ga (.int n),Ga (.int (l / 26 - 1)),Ga (.str b)]/\H'=H2/\TW b=Gf/\b.length=x.length+1,?_,?_⟩
  ·rintro d H' ⟨b,rfl,rfl,e,a⟩;refine⟨_,?_,l / 26 - 1,b,Xb,Xb,by omega,Xb,e,λz=>?_,λz=>?_,?_⟩
   ·omega
   ·rw[a];exact Qj3 z (j (by omega))
   ·rw[a];have:=Qoy (k:=x.length) (l:=l) (by omega) (j (by omega));omega
   ·rw[a];have:=o g;omega
  ·obtain⟨ch,e,a⟩:=Qzv (l % 26) (Tu _ (by decide)) (Te _ (by decide));refine⟨_,Xb,_,_,Xb,Xb,(by show(0:Int)<26;decide),_,_,ch,Xb,Xb,by decide+kernel,e,_,Xb,_,_,Xb,Xb,?_,?_⟩
   ·have r:((⟨#[ch]⟩:Gy).length)=1:=rfl;have:=o g;rw[Gu,r];omega
   ·refine⟨_,Xb,_,_,Xb,Xb,⟨by decide,by decide⟩,_,_,Xb,Xb,?_⟩;exact⟨_,Xb,Xb,Qjt a h2,Qss⟩
 ·exact⟨_,Xb,q x (by unfold Rh;rw[h2,GQ (by omega)];rfl)⟩
end
def Prs(H0 H:Hp):List V->List TF->Prop:=Paired λx d=>∃a y z,x=.ref a/\H a=Ga (.tup [y,z])/\Dt H0 y d/\Dt H0 z d
theorem Prs.Qk(e:Qp H H')(h:Prs H0 H xs ds):Prs H0 H' xs ds:=
 L2.Paired.Yb h λx d⟨a,y,z,h1,h2,b,c⟩=>⟨a,y,z,h1,e _ _ h2,b,c⟩
def prD(d:TF):TF:=.tuple [d,d]
theorem Prs.dts(g:Qv H0 H)(h:Prs H0 H xs ds):Ob H xs (ds.map prD):=by
 unfold Prs at h;induction h with
 |nil=>exact .nil
 |cons h r f=>obtain⟨a,y,z,b,c,d,e⟩:=h;subst b;exact .cons (.tup c (.cons (d.same g) (.cons (e.same g) .nil))) f
theorem Qr5:∀(ds:List TF),Gr ds=Gf->Gr (ds.map prD)=Gf
 |[],_=>by simp[Gr]
 |d::r,h=>by simp only[Gr,GO]at h;have h2:=Qr5 r h.2;simp[prD,Gr,Tg,h.1,h2]
theorem Rp:∀(xs ys:List TF),Gr (xs++ys)=(Gr xs&&Gr ys)
 |[],ys=>by simp[Gr]
 |x::r,ys=>by simp[Gr,Rp r ys,Bool.and_assoc]
theorem Qfo:∀{xs:List TF}{d:TF},d∈xs->d.depth<=Tj xs
 |x::r,d,h=>by
  simp only[Tj];rcases List.mem_cons.mp h with rfl|h
  ·omega
  ·have:=Qfo h;omega
theorem Qa6:∀(xs:List TF)(n:Nat),Z1 (xs.take n)<=Z1 xs
 |[],_=>by simp[Z1]
 |x::r,0=>by simp[Z1]
 |x::r,n+1=>by have:=Qa6 r n;simp only[List.take_succ_cons,Z1];omega
def TT(b:Bool):String:=if b then"list"else"tuple"
theorem Qx5(b:Bool):PySem.W.kitAny K (.type (TT b)) [.type "list",.type "tuple"]=Ga Gf:=by
 cases b
 ·exact Qxc
 ·exact Qx3
theorem Qzi(b:Bool):PySem.W.kitOne K (.type (TT b)) (.type "list")=Ga b:=by
 cases b
 ·exact Qrn
 ·exact Qs0
theorem Q0u(b:Bool):PySem.W.kitOne K (.type (TT b)) (.type "tuple")=Ga (!b):=by
 cases b
 ·exact Qqy
 ·exact Qyi
def Qei(b:Bool)(ds:List TF):TF:=if b then .list ds else .tuple ds
theorem Qsc{b:Bool}(h:Dt H v (Qei b ds)):∃p xs,v=.ref p/\(Zb K H p xs\/Z4 K H p xs)/\Ob H xs ds:=by
 cases b with
 |true=>
  have h:Dt H v (.list ds):=h;cases h with
  |lst e t=>exact⟨_,_,Xb,.inl (Zb.of e),t⟩
 |false=>
  have h:Dt H v (.tuple ds):=h;cases h with
  |tup e t=>exact⟨_,_,Xb,.inr (Z4.of e),t⟩
theorem Qwi{b:Bool}(h:Dt H v (Qei b ds)):Rb K H v (.type (TT b)):=by
 cases b with
 |true=>
  have h:Dt H v (.list ds):=h;cases h with
  |lst e t=>exact .lst e
 |false=>
  have h:Dt H v (.tuple ds):=h;cases h with
  |tup e t=>exact .tup e
theorem Qnn(b:Bool)(is:List TF):Oe (Qei b is)=Z1 is+1:=by cases b<;>simp[Qei,Oe]
theorem Qve(b:Bool)(is:List TF):(Qei b is).canLay0=Gr is:=by cases b<;>simp[Qei,Tg]
theorem Qot(b:Bool)(is:List TF):(Qei b is).depth=Tj is+1:=by cases b<;>simp[Qei,Dj]
theorem Q1d(d:TF)(h:d.canLay0=Gf):(∃b is,d=Qei b is)\/d=.none\/(∃b,d=.bool b)\/(∃i,d=.int i)\/∃x,d=.str x:=by
 cases d with
 |none=>exact .inr (.inl Xb)
 |bool b=>exact .inr (.inr (.inl ⟨b,Xb⟩))
 |int i=>exact .inr (.inr (.inr (.inl ⟨i,Xb⟩)))
 |str x=>exact .inr (.inr (.inr (.inr ⟨x,Xb⟩)))
 |list is=>exact .inl ⟨Gf,is,Xb⟩
 |tuple is=>exact .inl ⟨Gp,is,Xb⟩
 |dict kvs=>simp[Tg]at h
theorem Os(g:Qv H H')(h:Zb K H p xs\/Z4 K H p xs):Zb K H' p xs\/Z4 K H' p xs:=by
 rcases h with h|h
 ·exact .inl (g.seq h)
 ·refine .inr ?_;rcases h with(h|⟨o,h⟩)|h
  ·exact .inl (.inl (g _ _ h))
  ·exact .inl (.inr ⟨o,g _ _ h⟩)
  ·exact .inr h
theorem Qwu{i:Int}{Q:VK}(h:Zb K H p xs\/Z4 K H p xs)(e:atI xs i=Ga v)(q:Q v H):rIx K (.ref p) (.int i) H Q:=by
 rcases h with h|h
 ·exact .inl ⟨p,xs,i,v,Xb,Xb,h,e,q⟩
 ·exact .inr (.inl ⟨p,xs,i,v,Xb,Xb,h,e,q⟩)
section
variable{P:Gj}{w:Gs}{K:PySem.W.Frag}{mg:Gy->Option Value}{base:Heap}
theorem Qpy:Qy ["_law_found","_law_due","_law_todo","_law_one","_law_other","_law_k"] ["_law_found","_law_due"] (Ql sSo):=by eq_refl
theorem Q0v(F:Va K "_law_so" "_law_so" sSo f fd)(B:Blt mg):Qt P w K mg base Ya 1 f fd ["_law_found","_law_due"] Qxf:=by
 refine F.ok Qpy (λvs H Q E h=>?_) (λcdv A outer s H vs Q E hr h=>?_)
 ·obtain⟨x,y,d,rfl,_⟩:=h;rfl
 obtain⟨x,y,d,rfl,hx,hy,ah,ap,am,q⟩:=h;have hu:=hr.units;refine⟨_,Qd (Vw (i:=2) Qpy.nd rfl (TZ Xb) (Zj (Qa (Q8 (Qa (pv 0) (Qa (pv 1) Qe))) Qe)))
  (Qd (Wi Gq (Qu (Qj4 hu) (pv 2) (Zj Qe) (Za _))
   (Qd (Rq (Qa1 PySem.F.plainAttrs_list PySem.F.slot_list_pop PySem.F.type_list_pop Qaj (pv 2)) (Vf rfl (Zm (Xc (i:=3) Qpy.nd rfl (TZ Xb)) (Zm (Xc (i:=4) Qpy.nd rfl (TZ Xb)) Wb))))
   (Qh (Zr (Xz (Qo Qoj rfl B.isinstance Gz (Qa (pv 4) (Qa (Q8 (Qa (Xi (v:=.ty "list") rfl B.list TD Xb) (Qa (Xi (v:=.ty "tuple") rfl B.tuple Tz Xb) Qe))) Qe))))
    (Qd (Zr (Qu Ih (Qo Xd rfl B.isinstance Gz (Qa (pv 3) (Qa (Xi (v:=.ty "list") rfl B.list TD Xb) Qe))) (Qo Xd rfl B.isinstance Gz (Qa (pv 4) (Qa (Xi (v:=.ty "list") rfl B.list TD Xb) Qe))) (Za _)) (Qh (Qx Wk)) Q9)
    (Qd (Zr (Qu Ih (Qo Xd rfl B.isinstance Gz (Qa (pv 3) (Qa (Xi (v:=.ty "tuple") rfl B.tuple Tz Xb) Qe))) (Qo Xd rfl B.isinstance Gz (Qa (pv 4) (Qa (Xi (v:=.ty "tuple") rfl B.tuple Tz Xb) Qe))) (Za _)) (Qh (Qx Wk)) Q9)
    (Qd (Zr (Qu Ih (Qo Zo rfl B.len PySem.boot_len (Qa (pv 3) Qe)) (Qo Zo rfl B.len PySem.boot_len (Qa (pv 4) Qe)) (Za _)) (Qh (Qx Wk)) Q9)
    (Qh (Z6 Gq rfl (Wz rfl B.range (Qa (Qo Zo rfl B.len PySem.boot_len (Qa (pv 4) Qe)) Qe)) (Xc (i:=5) Qpy.nd rfl (TZ Xb))
     (Qh (Zc (Xn PySem.F.plainAttrs_list PySem.F.slot_list_append PySem.F.type_list_append Zq (pv 2) (Qa (Q8 (Qa (Qn Qr8 (pv 3) (pv 5)) (Qa (Qn Qr8 (pv 4) (pv 5)) Qe))) Qe)))))))))
    (Qh (Zr (Xz (Qo Xd rfl B.isinstance Gz (Qa (pv 4) (Qa (Xi (v:=.ty "str") rfl B.str Sh Xb) Qe))))
     (Qh (Zr (PW.pt (Qbh (Jn (Xz (Qo Xd rfl B.isinstance Gz (Qa (pv 3) (Qa (Xi (v:=.ty "str") rfl B.str Sh Xb) Qe))))) (R5 (Qu Ih (pv 3) (pv 4) (Za _))))) (Qh (Qx Wk)) Q9))
     (Qh (Zr (Xz (Qo Xd rfl B.isinstance Gz (Qa (pv 4) (Qa (Xi (v:=.ty "bool") rfl B.bool DP Xb) Qe))))
      (Qh (Zr (PW.pt (Qbh (Jn (Xz (Qo Xd rfl B.isinstance Gz (Qa (pv 3) (Qa (Xi (v:=.ty "bool") rfl B.bool DP Xb) Qe))))) (R5 (Qu Ih (pv 3) (pv 4) (Za _))))) (Qh (Qx Wk)) Q9))
      (Qh (Zr (Qae (Qy1 (pv 4)))
       (Qh (Zr (Qae (Qt4 (pv 3))) (Qh (Qx Wk)) Q9))
       (Qh (Zr (PW.pt (Qbh (Jn (Xz (Qo Xd rfl B.isinstance Gz (Qa (pv 3) (Qa (Xi (v:=.ty "int") rfl B.int Si Xb) Qe))))) (Qbh (Xz (Qo Xd rfl B.isinstance Gz (Qa (pv 3) (Qa (Xi (v:=.ty "bool") rfl B.bool DP Xb) Qe)))) (R5 (Qu Ih (pv 3) (pv 4) (Za _)))))) (Qh (Qx Wk)) Q9))))))))))))
  (Qh (Qx Wk))),?_⟩
 refine⟨_,Xb,_,Xb,by show 2<=Gh;decide,λe he=>?_⟩;have s1:=Qf he (.tup [x,y]);refine⟨by show 1<=Gh;decide,λl hl=>?_⟩;have s2:=Qf hl (.lst [.ref e]);refine⟨λm σ H2=>∃(xs:List V)(ds:List TF)(X Y r:Option V),σ=[Ga x,Ga y,Ga (.ref l),X,Y,r]/\Qv H H2/\H2 l=Ga (.lst xs)/\Prs H H2 xs ds/\m=Z1 ds/\Gr ds=Gf/\(∀d∈ds,d.depth<=60)/\Z1 ds<=1000000,
  ⟨_,[.ref e],[d],Ge,Ge,Ge,Xb,s1.trans s2,Qb,.cons ⟨e,x,y,Xb,s2 _ _ Qb,hx,hy⟩ .nil,Xb,by simp[Gr,ah],?_,by simp[Z1];exact ap⟩,?_⟩
 ·intro d' af;rw[List.mem_singleton]at af;subst af;exact am
 have ae:H l=Ge:=s1.free hl;rintro m σ H2 ⟨xs,ds,X,Y,r,rfl,g,g1,g2,rfl,g3,g4,g5⟩;have aw:xs.length=ds.length:=Paired.length g2;refine⟨_,Xb,Gv _,λz hz=>?_⟩;have s4:=Qf hz (.lst []);have au:l≠z:=Qc g1 hz;refine⟨.list (ds.map prD),.list [],.lst (s4 _ _ g1) ((g2.Qk (Qp.of s4)).dts (g.trans s4)),.lst Qb .nil,by simp only[Tg];exact Qr5 ds g3,by simp[Tg,Gr],?_,_,Xb,?_⟩
 ·simp only[Dj,Tj];omega
 have ev:Tq (.list (ds.map prD)) (.list [])=ds.isEmpty:=by simp only[Tq];rw[Rx];cases ds<;>rfl
 rw[ev];rcases List.eq_nil_or_concat ds with rfl|⟨j,C,N⟩
 ·refine Zz ?_;exact q _ (g.trans s4)
 ·have N:ds=j++[C]:=by simpa using N
  subst N;have aq:(j++[C]).isEmpty=Gp:=by cases j<;>rfl
  rw[aq];refine Xf ?_;obtain⟨p,xl,ex,k1,⟨a,u,v,ea,e2,e3,e4⟩⟩:=Qek g2;subst ex ea;have S:Z1 (j++[C])=Z1 j+Oe C:=by rw[X9];simp[Z1]
  rw[S]at g5;have ar:=Qey C;rw[Rp]at g3;simp only[Gr,GO,LQ]at g3;obtain⟨ac,O⟩:=g3;have ad:∀d∈j,d.depth<=60:=λd hd=>g4 d (List.mem_append_left _ hd);have al:C.depth<=60:=g4 C (by simp);have R:(p++[V.ref a])[(p++[V.ref a]).length - 1]?=Ga (.ref a):=by simp
  have t5:Qp H2 (upd (upd H2 z (.lst [])) l (.lst p)):=(Qp.of s4).trans (Zh λxs e=>by rw[s4 _ _ g1]at e;cases e);have J:Qv H (upd (upd H2 z (.lst [])) l (.lst p)):=λc o e=>by rw[Qg (Qc e ae)];exact s4 _ _ (g _ _ e)
  have l5:(upd (upd H2 z (.lst [])) l (.lst p)) l=Ga (.lst p):=Qb;have k1:Prs H H2 p j:=k1;have p5:Prs H (upd (upd H2 z (.lst [])) l (.lst p)) p j:=k1.Qk t5;refine⟨λt H'=>∃m',m'<Z1 (j++[C])/\∃(xs:List V)(ds:List TF)(X Y r:Option V),t=[Ga x,Ga y,Ga (.ref l),X,Y,r]/\Qv H H'/\H' l=Ga (.lst xs)/\Prs H H' xs ds/\m'=Z1 ds/\Gr ds=Gf/\(∀d∈ds,d.depth<=60)/\Z1 ds<=1000000,λt H' h=>h,?_⟩;refine⟨_,Xb,.inl ⟨Xb,_,Zb.of (s4 _ _ g1)⟩,l,_,_,Xb,Xb,s4 _ _ g1,R,a,_,Xb,Z4.of (by rw[List.dropLast_concat];exact t5 _ _ e2),Xb,u,_,Xb,v,_,Xb,Xb,?_⟩;rw[List.dropLast_concat];generalize upd (upd H2 z (.lst [])) l (.lst p)=H5 at*;have fin:∀{t:St}{H':Hp}{r:Option V},t=[Ga x,Ga y,Ga (.ref l),Ga u,Ga v,r]->Qv H5 H'->∃m',m'<Z1 (j++[C])/\∃(xs:List V)(ds:List TF)(X Y r:Option V),t=[Ga x,Ga y,Ga (.ref l),X,Y,r]/\Qv H H'/\H' l=Ga (.lst xs)/\Prs H H' xs ds/\m'=Z1 ds/\Gr ds=Gf/\(∀d∈ds,d.depth<=60)/\Z1 ds<=1000000:=λ{t H' r}e gs=>⟨Z1 j,by rw[S];omega,p,j,_,_,_,e,J.trans gs,gs _ _ l5,p5.Qk (Qp.of gs),Xb,ac,ad,by omega⟩
  have dv:Dt H5 v C:=e4.same J;have du:Dt H5 u C:=e3.same J;refine⟨_,Xb,by show 2<=Gh;decide,λc hc=>?_⟩;have I:=Qf hc (.tup [.ty "list",.ty "tuple"]);rcases Q1d C O with⟨b,is,rfl⟩|rfl|⟨bb,rfl⟩|⟨i,rfl⟩|⟨xx,rfl⟩
  ·obtain⟨pu,us,rfl,aj,aa⟩:=Qsc (K:=K) e3;obtain⟨pw,D,rfl,T,ab⟩:=Qsc (K:=K) e4;have tu:=Qwi (K:=K) (du.same I);have tv:=Qwi (K:=K) (dv.same I);have lu:=aa.length;have lw:=ab.length;have ak:Oe (Qei b is)=Z1 is+1:=Qnn b is;have av:=Uh is;have Qxj:Gr is=Gf:=by rw[Qve]at O;exact O
   have Z:∀d∈is,d.depth<=60:=λd hd=>by have h1:=Qfo hd;rw[Qot]at al;omega
   refine⟨_,c,_,_,TT b,Gf,Xb,Qb,tv,Qx5 b,Gf,Xb,Xf ?_⟩;refine⟨_,Xb,_,_,_,b,Xb,tu,Qzi b,_,Xb,_,_,_,b,Xb,tv,Qzi b,Xb,_,Xb,Qfg rfl ?_⟩;refine⟨_,Xb,_,_,_,!b,Xb,tu,Q0u b,_,Xb,_,_,_,!b,Xb,tv,Q0u b,Xb,_,Xb,Qfg rfl ?_⟩;have L:=J.trans I;refine⟨_,Xb,pu,us,Xb,Os L aj,_,Xb,pw,D,Xb,Os L T,Xb,_,Xb,Qfg (by rw[lu,lw]) ?_⟩;have ai:((D.length:Int)).toNat=D.length:=by simp
   refine⟨_,Xb,pw,D,Xb,Os L T,_,Xb,by omega,by omega,W5 (lo:=0) (n:=((D.length:Int)).toNat) (λk σ M=>∃(r:Option V)(G:List V),σ=[Ga x,Ga y,Ga (.ref l),Ga (.ref pu),Ga (.ref pw),r]/\Qv H M/\M l=Ga (.lst (p++G))/\Prs H M (p++G) (j++is.take k))
    ⟨_,[],Xb,L,by rw[List.append_nil];exact I _ _ l5,by rw[List.append_nil,List.take_zero,List.append_nil];exact p5.Qk (Qp.of I)⟩ ?_ ?_⟩
   ·rintro k σ M hk ⟨r,G,rfl,g7,W,g9⟩;rw[ai]at hk;have an:k<us.length:=by omega
    have eu:us[k]?=Ga us[k]:=List.getElem?_eq_getElem an;have ew:D[k]?=Ga D[k]:=List.getElem?_eq_getElem hk;obtain⟨d1,f1,f2⟩:=aa.get eu;obtain⟨d2,f3,f4⟩:=ab.get ew;rw[f1]at f3;cases f3;have lg:(p++G).length=(j++is.take k).length:=Paired.length g9;have ln:=Uh (j++is.take k);rw[X9]at ln;have lt:=Qa6 is k;refine⟨_,Xb,.inl ⟨Xb,_,Zb.of W⟩,_,Xb,_,Xb,Qwu (Os g7 aj) (by rw[DF];exact Qz eu) ?_⟩;refine⟨_,Xb,_,Xb,Qwu (Os g7 T) (by rw[DF];exact Qz ew) ?_⟩;refine⟨by show 2<=Gh;decide,λU ag=>?_⟩;have s8:=Qf ag (.tup [us[k],D[k]]);have ao:l≠U:=Qc W ag;refine⟨l,p++G,.ref U,Xb,Xb,s8 _ _ W,by rw[Gu];omega,?_⟩;have t8:Qp M (upd (upd M U (.tup [us[k],D[k]])) l (.lst (p++G++[.ref U]))):=(Qp.of s8).trans (Zh λxs e=>by rw[s8 _ _ W]at e;cases e);refine⟨_,G++[.ref U],Xb,λb o e=>?_,by rw[Qb,List.append_assoc],?_⟩
    ·rw[Qg (Qc e ae)];exact s8 _ _ (g7 _ _ e)
    ·rw[List.take_add_one,f1,<-List.append_assoc,<-List.append_assoc];refine Paired.snoc (g9.Qk t8) ⟨U,us[k],D[k],Xb,?_,f2,f4⟩;rw[Qg (Gn ao)];exact Qb
   ·rintro σ M ⟨r,G,rfl,g7,W,g9⟩;rw[ai,lw,List.take_length]at g9;refine⟨Z1 (j++is),?_,p++G,j++is,_,_,_,Xb,g7,W,g9,Xb,?_,?_,?_⟩
    ·rw[S,X9,ak];omega
    ·rw[Rp,ac,Qxj];rfl
    ·intro d hd;rcases List.mem_append.mp hd with hd|hd
     ·exact ad d hd
     ·exact Z d hd
    ·rw[X9];rw[ak]at g5;omega
  ·cases dv;cases du;refine⟨_,c,_,_,_,Gp,Xb,Qb,.non,Qbw Qxy Qw5,Gp,Xb,Zz ?_⟩;refine⟨_,Xb,_,_,_,Gp,Xb,.non,Qy2,Gp,Xb,Zz ?_⟩;refine⟨_,Xb,_,_,_,Gp,Xb,.non,Qym,Gp,Xb,Zz ?_⟩;refine⟨_,Xb,_,Xb,Xf ?_⟩;refine⟨_,Xb,_,Xb,Zz ?_⟩;exact fin rfl I
  ·cases dv;cases du;refine⟨_,c,_,_,_,Gp,Xb,Qb,.bl _,Qbw Qxk Qyv,Gp,Xb,Zz ?_⟩;refine⟨_,Xb,_,_,_,Gp,Xb,.bl _,Qw6,Gp,Xb,Zz ?_⟩;refine⟨_,Xb,_,_,_,Gf,Xb,.bl _,Qs1,Gf,Xb,Xf ?_⟩;refine⟨_,Xb,_,_,_,Gf,Xb,.bl _,Qs1,Gf,Xb,Zz ?_⟩;refine⟨_,Xb,_,Xb,Xb,_,Xb,Qfg rfl ?_⟩;exact fin rfl I
  ·cases dv;cases du;refine⟨_,c,_,_,_,Gp,Xb,Qb,.int _,Qbw Qxe Qw3,Gp,Xb,Zz ?_⟩;refine⟨_,Xb,_,_,_,Gp,Xb,.int _,Qxi,Gp,Xb,Zz ?_⟩;refine⟨_,Xb,_,_,_,Gp,Xb,.int _,Qjx,Gp,Xb,Zz ?_⟩;refine⟨_,Xb,_,Xb,Zz ?_⟩;refine⟨_,Xb,_,_,_,Gf,Xb,.int _,Qsq,Gf,Xb,Zz ?_⟩;refine⟨_,Xb,_,_,_,Gp,Xb,.int _,Qjx,Gp,Xb,Zz ?_⟩;refine⟨_,Xb,_,Xb,Xb,_,Xb,Qfg rfl ?_⟩;exact fin rfl I
  ·cases dv;cases du;refine⟨_,c,_,_,_,Gp,Xb,Qb,.str _,Qbw Qyp Qw8,Gp,Xb,Zz ?_⟩;refine⟨_,Xb,_,_,_,Gf,Xb,.str _,Qrd,Gf,Xb,Xf ?_⟩;refine⟨_,Xb,_,_,_,Gf,Xb,.str _,Qrd,Gf,Xb,Zz ?_⟩;refine⟨_,Xb,_,Xb,Xb,_,Xb,Qfg rfl ?_⟩;exact fin rfl I
end
theorem Js{vs:List V}{ps:List Th}(a:H p=Ge)(h:Zn H vs ps):Z5 (upd H p (.tup (.str w::vs))) (.ref p) (.mk w ps):=.mk Qb (h.same (Qf a _))
structure Qat(t u:Th)(r:Th):Prop where
 ok:t.ok=Gf->u.ok=Gf->r.ok=Gf
 dep:r.depth<=max t.depth u.depth+1
 siz:r.size<=t.size+u.size+2
 sh:t.short=Gf->u.short=Gf->r.short=Gf
 pts:∀p∈r.parts,p=t\/p=u\/p=.mk "tab" []
theorem Qwp(hw:Rh w=Gf):Qat t u (.mk w [t]):=⟨λa _=>by simp[Th.ok,okL,Rh.str hw,a],by simp only[Th.depth,Xx];omega,by simp only[Th.size,Qr];omega,λa _=>by simp[Th.short,U4,Rh.len hw,a],λp b=>by simp only[Th.parts,List.mem_cons,List.not_mem_nil,Ep]at b;exact .inl b⟩
theorem Qpv(hw:Rh w=Gf):Qat t u (.mk w [t,u]):=⟨λa b=>by simp[Th.ok,okL,Rh.str hw,a,b],by simp only[Th.depth,Xx];omega,by simp only[Th.size,Qr];omega,λa b=>by simp[Th.short,U4,Rh.len hw,a,b],λp c=>by simp only[Th.parts,List.mem_cons,List.not_mem_nil,Ep]at c;exact c.elim .inl (λh=>.inr (.inl h))⟩
theorem Q1c(hw:Rh w=Gf)(d:Rh "tab"=Gf):Qat t u (.mk w [t,u,.mk "tab" []]):=⟨λa b=>by simp[Th.ok,okL,Rh.str hw,Rh.str d,a,b],by have:=Qag t;simp only[Th.depth,Xx];omega,by simp only[Th.size,Qr];omega,λa b=>by simp[Th.short,U4,Rh.len hw,Rh.len d,a,b],λp c=>by simp only[Th.parts,List.mem_cons,List.not_mem_nil,Ep]at c;exact c⟩
theorem Qv8(hw:Rh w=Gf):Qat t u (.mk w []):=⟨λa b=>by simp[Th.ok,okL,Rh.str hw],by simp only[Th.depth,Xx];omega,by simp only[Th.size,Qr];omega,λa b=>by simp[Th.short,U4,Rh.len hw],λp c=>by simp[Th.parts]at c⟩
def Q0h(H:Hp)(l:Gc)(t u:Th):Prop:=∃vs:List V,H l=Ga (.lst vs)/\vs.length=4/\∀v∈vs,∃r,Z5 H v r/\Qat t u r
theorem Qd2{r:Th}(D:Drawn ts m)(c:ts[a]?=Ga t)(hb:ts[b]?=Ga u)(i:b<5)(R:Qat t u r):Drawn (ts++[r]) (m+1):=by
 have q:a<ts.length:=(List.getElem?_eq_some_iff.mp c).1;have v:b<ts.length:=(List.getElem?_eq_some_iff.mp hb).1;have o:=D.len;have cases:∀(j:Nat)s,(ts++[r])[j]?=Ga s->ts[j]?=Ga s\/(j=ts.length/\s=r):=λj s e=>by
  rcases Tb j ts.length with h|h
  ·left;rw[List.getElem?_append_left h]at e;exact e
  ·right;rw[List.getElem?_append_right h]at e;have d:j - ts.length=0:=by have:=(List.getElem?_eq_some_iff.mp e).1;simp at this;omega
   rw[d]at e;simp at e;exact⟨by omega,e.symm⟩
 have k:=D.dep a t c;have l:=D.dep b u hb;have n:=R.dep;have w:=D.any a t c;have x:=D.tri b u hb (by omega);have y:=R.siz;refine⟨by rw[List.length_append,List.length_singleton];omega,λs f=>?_,λj s e=>?_,λj s e d=>?_,λj s e d=>?_,λj s e d=>?_,λj s e=>?_,λs f=>by
   rcases List.mem_append.mp f with h|h
   ·exact D.sh s h
   ·rw[List.mem_singleton]at h;subst h;exact R.sh (D.sh t (List.mem_of_getElem? c)) (D.sh u (List.mem_of_getElem? hb)),by rw[List.getElem?_append_left (by omega)];exact D.tab,λs f p g=>?_⟩
 ·rcases List.mem_append.mp f with h|h
  ·exact D.ok s h
  ·rw[List.mem_singleton]at h;subst h;exact R.ok (D.ok t (List.mem_of_getElem? c)) (D.ok u (List.mem_of_getElem? hb))
 ·rcases cases j s e with h|⟨rfl,rfl⟩
  ·exact D.dep j s h
  ·omega
 ·rcases cases j s e with h|⟨rfl,rfl⟩
  ·exact D.one j s h d
  ·omega
 ·rcases cases j s e with h|⟨rfl,rfl⟩
  ·exact D.two j s h d
  ·have:=D.one a t c (by omega);have:=D.one b u hb (by omega);omega
 ·rcases cases j s e with h|⟨rfl,rfl⟩
  ·exact D.tri j s h d
  ·have:=D.two a t c (by omega);have:=D.two b u hb (by omega);omega
 ·rcases cases j s e with h|⟨rfl,rfl⟩
  ·exact D.any j s h
  ·omega
 ·rcases List.mem_append.mp f with h|h
  ·exact List.mem_append_left _ (D.cl s h p g)
  ·rw[List.mem_singleton]at h;subst h;refine List.mem_append_left _ ?_;rcases R.pts p g with h|h|h
   ·rw[h];exact List.mem_of_getElem? c
   ·rw[h];exact List.mem_of_getElem? hb
   ·rw[h];exact List.mem_of_getElem? D.tab
theorem Vx(xs:List α)(i:Int)(a:0<=i)(h1:i<xs.length):∃v,atI xs i=Ga v/\xs[i.toNat]?=Ga v:=by
 have hi:i.toNat<xs.length:=by omega
 have e:i=((i.toNat:Nat):Int):=by omega
 have q:=Qz (List.getElem?_eq_getElem hi);rw[<-e]at q;exact⟨_,q,List.getElem?_eq_getElem hi⟩
section
variable{P:Gj}{w:Gs}{K:PySem.W.Frag}{mg:Gy->Option Value}{base:Heap}
theorem Qmi:Qy ["_law_cells","_law_things","_law_cell","_law_rest","_law_one","_law_other","_law_made","_law_word","_law_three"] ["_law_cells"] (Ql Qgd):=by eq_refl
theorem Qs2{g:Gc}{gd:Td}(F:Va K "_law_drawn_things" "_law_drawn_things" Qgd f fd)(B:Blt mg)(G:Qt P w K mg base Ya 1 g gd ["_law_cell"] Qpx)(kG:KI K g)(bG:Binds K gd ["_law_cell"] [])(mG:MG mg "_law_any_word" g):
  Qt P w K mg base Ya 2 f fd ["_law_cells"] (Qmy K):=by
 refine F.ok Qmi (λvs H Q E h=>?_) (λcdv A outer s H vs Q E hr h=>?_)
 ·obtain⟨a,ns,rfl,_⟩:=h;rfl
 obtain⟨a,ns,rfl,hS,az,q⟩:=h;have nd:=Qmi.nd;refine⟨_,Qd (Qs 1 nd (Zj (Qa (Q8 (Qa Q5 Qe)) (Qa (Q8 (Qa Q5 Qe)) (Qa (Q8 (Qa Q5 Qe)) Qe)))))
  (Qd (Z6 Gq rfl (Yn (pv 0)) (Z2 2 nd)
   (Qd (Qs 3 nd (Zf Wa (pv 2) Qj))
   (Qd (Qs 4 nd (Qn Ze (pv 1) (Zf Xu (pv 3) (Qo Zo rfl B.len PySem.boot_len (Qa (pv 1) Qe)))))
   (Qd (Qs 5 nd (Qn Ze (pv 1) (Zf Xu (Zf Wa (pv 3) Qj) (Qo (Qoh Xb) rfl B.min Fc (Qa Qj (Qa (Qo Zo rfl B.len PySem.boot_len (Qa (pv 1) Qe)) Qe))))))
   (Qd (Qs 6 nd (Zj (Qa (Q8 (Qa Q5 (Qa (pv 4) Qe))) (Qa (Q8 (Qa Q5 (Qa (pv 4) (Qa (pv 5) Qe)))) (Qa (Q8 (Qa Q5 (Qa (pv 4) (Qa (pv 5) Qe)))) (Qa (Q8 (Qa Q5 Qe)) Qe))))))
   (Qd (Zr (Qu Wu (Zf Xu (pv 2) Qj) Qj (Za _))
    (Qd (Qs 7 nd (Qn Ze (Zj (Qa (Zv G hr rfl mG kG bG .nil Q4 (Qa (Zf Wa (pv 2) Qj) Qe)) (Qa Q5 Qe))) (Zf Xu (Zf Wa (pv 2) Qj) Qj)))
    (Qd (Qs 8 nd (Q8 (Qa (pv 7) (Qa (pv 4) (Qa (pv 5) (Qa (Q8 (Qa Q5 Qe)) Qe))))))
    (Qh (Qs 6 nd (Zj (Qa (Q8 (Qa (pv 7) (Qa (pv 4) Qe))) (Qa (Q8 (Qa (pv 7) (Qa (pv 4) (Qa (pv 5) Qe)))) (Qa (pv 8) (Qa (Q8 (Qa (pv 7) Qe)) Qe)))))))))
    Q9)
   (Qh (Zc (Xn PySem.F.plainAttrs_list PySem.F.slot_list_append PySem.F.type_list_append Zq (pv 1) (Qa (Qn Ze (pv 6) (Zf Xu (pv 2) Qj)) Qe))))))))))
  (Qh (Qx (pv 1)))),?_⟩
 have aw:Rh ("sab":Gy)=Gf:=by decide+kernel
 have tab:Rh ("tab":Gy)=Gf:=by decide+kernel
 have ay:Rh ("sob":Gy)=Gf:=by decide+kernel
 have ax:Rh ("sat":Gy)=Gf:=by decide+kernel
 have aa:Rh ("fig":Gy)=Gf:=by decide+kernel
 have an:Rh ("fog":Gy)=Gf:=by decide+kernel
 have ar:Rh ("hog":Gy)=Gf:=by decide+kernel
 refine⟨by show 1<=Gh;decide,λp1 h1=>⟨by show 1<=Gh;decide,λp2 h2=>⟨by show 1<=Gh;decide,λp3 h3=>⟨by show 3<=Gh;decide,λp hp=>?_⟩⟩⟩⟩;have s1:=Qf h1 (.tup [.str "sab"]);have s2:=Qf h2 (.tup [.str "tab"]);have s3:=Qf h3 (.tup [.str "sob"]);have s4:=Qf hp (.lst [.ref p1,.ref p2,.ref p3]);have S:H p=Ge:=((s1.trans s2).trans s3).free hp;have i1:Z5 _ (.ref p1) (.mk "sab" []):=(Js (w:="sab") h1 .nil).same ((s2.trans s3).trans s4);have i2:Z5 _ (.ref p2) (.mk "tab" []):=(Js (w:="tab") h2 .nil).same (s3.trans s4);have i3:Z5 _ (.ref p3) (.mk "sob" []):=(Js (w:="sob") h3 .nil).same s4;refine⟨_,Xb,a,Xb,⟨_,(((s1.trans s2).trans s3).trans s4).seq hS⟩,Yz (K:=K) (a:=a) (xs:=ns.map V.int) (λi σ H2=>∃(us:List V)(ts:List Th)(x2 x3 x4 x5 x6 x7 x8:Option V),σ=[Ga (.ref a),Ga (.ref p),x2,x3,x4,x5,x6,x7,x8]/\Qv H H2/\H2 p=Ga (.lst us)/\Zn H2 us ts/\Drawn ts i)
  ⟨_,_,_,_,_,_,_,_,_,Xb,((s1.trans s2).trans s3).trans s4,Qb,.cons i1 (.cons i2 (.cons i3 .nil)),?_⟩ (λi σ H2 _⟨_,_,_,_,_,_,_,_,_,_,g,_⟩=>g.seq hS) ?_ ?_⟩
 ·refine⟨Xb,λt J=>?_,λj t e=>?_,λj t e _=>?_,λj t e _=>?_,λj t e _=>?_,λj t e=>?_,λt J=>by simp at J;rcases J with rfl|rfl|rfl<;>decide+kernel,rfl,λt J p hp=>?_⟩
  ·simp at J;rcases J with rfl|rfl|rfl
   ·simp[Th.ok,okL,Rh.str aw]
   ·simp[Th.ok,okL,Rh.str tab]
   ·simp[Th.ok,okL,Rh.str ay]
  rotate_right
  ·simp at J;rcases J with rfl|rfl|rfl<;>simp[Th.parts]at hp
  all_goals
   have hm:=List.mem_of_getElem? e;simp at hm;rcases hm with rfl|rfl|rfl<;>simp[Th.depth,Xx,Th.size,Qr]
 ·rintro i y σ H2 hi ⟨us,ts,x2,x3,x4,x5,x6,x7,x8,rfl,g,I,N,D⟩;obtain⟨c,rfl⟩:∃z,y=V.int z:=by
   rw[List.getElem?_map]at hi;cases e:ns[i]? with
   |none=>rw[e]at hi;cases hi
   |some z=>rw[e]at hi;exact⟨z,(Tc hi).symm⟩
  have ao:i<(ns.map V.int).length:=(List.getElem?_eq_some_iff.mp hi).1;rw[List.length_map]at ao;have lu:=N.length;have ld:=D.len;have hL:(us.length:Int)=3+i:=by omega
  refine⟨_,Xb,_,_,Xb,Xb,⟨by decide,by decide⟩,?_⟩;obtain⟨m,a1,b1⟩:=Vx us (c / 4 % (us.length:Int)) (Tu _ (by omega)) (Te _ (by omega));refine⟨_,Xb,_,Xb,_,Xb,p,us,Xb,.inl (Zb.of I),_,_,Xb,Xb,(by show(0:Int)<us.length;omega),p,us,_,m,Xb,Xb,Zb.of I,a1,?_⟩;have d:(if(us.length:Int)<5 then(us.length:Int)else 5)<=us.length/\0<(if(us.length:Int)<5 then(us.length:Int)else 5)/\(if(us.length:Int)<5 then(us.length:Int)else 5)<=5:=by split<;>omega
  obtain⟨n,a2,b2⟩:=Vx us (c / 4 / 5 % (if(us.length:Int)<5 then(us.length:Int)else 5)) (Tu _ (by omega)) (Int.lt_of_lt_of_le (Te _ d.2.1) d.1);have am:(c / 4 / 5 % (if(us.length:Int)<5 then(us.length:Int)else 5)).toNat<5:=by have h1:=Te (c / 4 / 5) d.2.1;have h2:=Tu (c / 4 / 5) (Int.ne_of_gt d.2.1);have h3:=d.2.2;omega
  refine⟨_,Xb,_,Xb,_,_,Xb,Xb,⟨by decide,by decide⟩,_,Xb,p,us,Xb,.inl (Zb.of I),5,_,Xb,_,_,Xb,Xb,d.2.1,p,us,_,n,Xb,Xb,Zb.of I,a2,?_⟩;obtain⟨t1,c1,X⟩:=N.get b1;obtain⟨t2,c2,k2⟩:=N.get b2;refine⟨_,Xb,by show 2<=Gh;decide,λq1 ac=>⟨_,Xb,_,Xb,by show 3<=Gh;decide,λq2 ad=>⟨_,Xb,_,Xb,by show 3<=Gh;decide,λq3 ae=>⟨by show 1<=Gh;decide,λq4 ag=>⟨by show 4<=Gh;decide,λl hl=>?_⟩⟩⟩⟩⟩;have U:=Qf ac (.tup [.str "fig",m]);have Z:=Qf ad (.tup [.str "fog",m,n]);have e3:=Qf ae (.tup [.str "fig",m,n]);have e4:=Qf ag (.tup [.str "sat"]);have W:=Qf hl (.lst [.ref q1,.ref q2,.ref q3,.ref q4]);have u:=(((U.trans Z).trans e3).trans e4).trans W;have m1:=(Js (w:="fig") ac (.one X)).same (((Z.trans e3).trans e4).trans W);have m2:=(Js (w:="fog") ad (.cons (X.same U) (.one (k2.same U)))).same ((e3.trans e4).trans W);have m3:=(Js (w:="fig") ae (.cons (X.same (U.trans Z)) (.one (k2.same (U.trans Z))))).same (e4.trans W);have m4:=(Js (w:="sat") ag .nil).same W;generalize ab:upd (upd (upd (upd (upd H2 q1 (.tup [.str "fig",m])) q2 (.tup [.str "fog",m,n])) q3 (.tup [.str "fig",m,n])) q4 (.tup [.str "sat"])) l (.lst [.ref q1,.ref q2,.ref q3,.ref q4])=H3 at*;have L:Q0h H3 l t1 t2:=by
   refine⟨_,by rw[<-ab];exact Qb,Xb,λv hv=>?_⟩;simp at hv;rcases hv with rfl|rfl|rfl|rfl
   ·exact⟨_,m1,Qwp aa⟩
   ·exact⟨_,m2,Qpv an⟩
   ·exact⟨_,m3,Qpv aa⟩
   ·exact⟨_,m4,Qv8 ax⟩
  clear m1 m2 m3 m4 ab U Z e3 e4 W;refine⟨_,Xb,_,_,Xb,Xb,(by show(0:Int)<9;decide),Xb,_,Xb,?_⟩;refine Jh (λ_=>?_) (λ_=>?_)
  ·refine⟨_,Xb,_,_,Xb,Xb,⟨by decide,by decide⟩,_,Xb,λx hx=>⟨by show 2<=Gh;decide,λl2 ap=>?_⟩⟩;have d1:=Qf ap (.lst [.str x,.str "hog"]);obtain⟨wv,a3,b3⟩:=Vx [V.str x,V.str "hog"] (c / 36 % 2) (Tu _ (by decide)) (Te _ (by decide));have au:∃k,wv=.str k/\Rh k=Gf:=by
    have hm:=List.mem_of_getElem? b3;simp at hm;rcases hm with rfl|rfl
    ·exact⟨_,Xb,hx⟩
    ·exact⟨_,Xb,ar⟩
   obtain⟨k,rfl,C⟩:=au;refine⟨_,Xb,_,_,Xb,Xb,⟨by decide,by decide⟩,_,_,Xb,Xb,(by show(0:Int)<2;decide),l2,_,_,_,Xb,Xb,Zb.of Qb,a3,?_⟩;refine⟨_,Xb,_,Xb,_,Xb,by show 1<=Gh;decide,λr1 ak=>⟨by show 4<=Gh;decide,λr2 al=>?_⟩⟩;have d2:=Qf ak (.tup [.str "tab"]);have d3:=Qf al (.tup [.str k,m,n,.ref r1]);refine⟨_,Xb,_,Xb,by show 2<=Gh;decide,λq5 ah=>⟨_,Xb,_,Xb,_,Xb,by show 3<=Gh;decide,λq6 ai=>⟨_,Xb,_,Xb,by show 1<=Gh;decide,λq7 aj=>⟨by show 4<=Gh;decide,λl3 aq=>?_⟩⟩⟩⟩;have d4:=Qf ah (.tup [.str k,m]);have d5:=Qf ai (.tup [.str k,m,n]);have d6:=Qf aj (.tup [.str k]);have Y:=Qf aq (.lst [.ref q5,.ref q6,.ref r2,.ref q7]);have aA:=d1;have z2:=u.trans d1;have z3:=z2.trans d2;have z4:=z3.trans d3;have z5:=z4.trans d4;have z6:=z5.trans d5;have tb:=(Js (w:="tab") ak .nil);have n1:=(Js (w:=k) al (.cons (X.same z3) (.cons (k2.same z3) (.one tb)))).same (((d4.trans d5).trans d6).trans Y);have n2:=(Js (w:=k) ah (.one (X.same z4))).same ((d5.trans d6).trans Y);have n3:=(Js (w:=k) ai (.cons (X.same z5) (.one (k2.same z5)))).same (d6.trans Y);have n4:=(Js (w:=k) aj .nil).same Y;have zz:=(z6.trans d6).trans Y;have up:=@Qb (upd (upd (upd (upd (upd (upd H3 l2 (.lst [.str x,.str "hog"])) r1 (.tup [.str "tab"])) r2 (.tup [.str k,m,n,.ref r1])) q5 (.tup [.str k,m])) q6 (.tup [.str k,m,n])) q7 (.tup [.str k])) l3 (.lst [.ref q5,.ref q6,.ref r2,.ref q7]);generalize upd (upd (upd (upd (upd (upd (upd H3 l2 (.lst [.str x,.str "hog"])) r1 (.tup [.str "tab"])) r2 (.tup [.str k,m,n,.ref r1])) q5 (.tup [.str k,m])) q6 (.tup [.str k,m,n])) q7 (.tup [.str k])) l3 (.lst [.ref q5,.ref q6,.ref r2,.ref q7])=H4 at*;have M:Q0h H4 l3 t1 t2:=by
    refine⟨_,up,Xb,λv hv=>?_⟩;simp at hv;rcases hv with rfl|rfl|rfl|rfl
    ·exact⟨_,n2,Qwp C⟩
    ·exact⟨_,n3,Qpv C⟩
    ·exact⟨_,n1,Q1c C tab⟩
    ·exact⟨_,n4,Qv8 C⟩
   obtain⟨fs,hf,lf,af⟩:=M;obtain⟨v,av,bv⟩:=Vx fs (c % 4) (Tu _ (by decide)) (by rw[lf];exact Te _ (by decide));obtain⟨r,T,R⟩:=af v (List.mem_of_getElem? bv);have O:=zz _ _ I;refine⟨_,Xb,.inl ⟨Xb,_,Zb.of O⟩,_,Xb,_,Xb,_,_,Xb,Xb,(by show(0:Int)<4;decide),l3,fs,_,v,Xb,Xb,Zb.of hf,av,p,us,v,Xb,Xb,O,by rw[Gu];omega,?_⟩;have tu:=Zh (H:=H4) (a:=p) (o:=.lst (us++[v])) λxs e=>by rw[O]at e;cases e
   refine⟨us++[v],ts++[r],_,_,_,_,_,_,_,Xb,λb o e=>?_,Qb,((N.same zz).append (.one T)).Qk tu,Qd2 D c1 c2 am R⟩;rw[Qg (Qc e S)];exact zz _ _ (g _ _ e)
  ·skip
   obtain⟨fs,hf,lf,af⟩:=L;obtain⟨v,av,bv⟩:=Vx fs (c % 4) (Tu _ (by decide)) (by rw[lf];exact Te _ (by decide));obtain⟨r,T,R⟩:=af v (List.mem_of_getElem? bv);have O:=u _ _ I;refine⟨_,Xb,.inl ⟨Xb,_,Zb.of O⟩,_,Xb,_,Xb,_,_,Xb,Xb,(by show(0:Int)<4;decide),l,fs,_,v,Xb,Xb,Zb.of hf,av,p,us,v,Xb,Xb,O,by rw[Gu];omega,?_⟩;have tu:=Zh (H:=H3) (a:=p) (o:=.lst (us++[v])) λxs e=>by rw[O]at e;cases e
   refine⟨us++[v],ts++[r],_,_,_,_,_,_,_,Xb,λb o e=>?_,Qb,((N.same u).append (.one T)).Qk tu,Qd2 D c1 c2 am R⟩;rw[Qg (Qc e S)];exact u _ _ (g _ _ e)
 ·rintro σ H2 ⟨us,ts,x2,x3,x4,x5,x6,x7,x8,rfl,g,I,N,D⟩;rw[List.length_map]at D;exact⟨_,Xb,q p us ts H2 g S I N D⟩
end
theorem Qfh(b:Bool):(tw b==("unlike":Gy))= !b:=by cases b<;>decide+kernel
section
variable{P:Gj}{w:Gs}{K:PySem.W.Frag}{mg:Gy->Option Value}{base:Heap}
theorem Qrp:Qy ["_law_told","_law_one","_law_other","_law_leaders","_law_word","_law_left","_law_right"] ["_law_told","_law_one","_law_other"] (Ql Ql1):=by eq_refl
theorem Qhv:Qy ["_law_told","_law_deed","_law_every","_law_leaders","_law_word","_law_one","_law_other"] ["_law_told","_law_deed"] (Ql Qbx):=by eq_refl
theorem Qu0{dC:Td}(F:Va K "_law_kind" "_law_kind" Ql1 f fd)
  (GC:Qt P w K mg base Ya 1 fC dC ["_law_told","_law_things"] (Qab P w))(kC:KI K fC)(bC:Binds K dC ["_law_told","_law_things"] [])(mC:MG mg "_law_classes" fC):
  Qt P w K mg base Ya 2 f fd ["_law_told","_law_one","_law_other"] Qqm:=by
 refine F.ok Qrp (λvs H Q E h=>?_) (λcdv A outer s H vs Q E Z h=>?_)
 ·obtain⟨a,us,tl,v1,v2,x,y,rfl,_⟩:=h;rfl
 obtain⟨a,us,tl,v1,v2,x,y,rfl,J,b,h1,h2,kx,ky,B,hsz,q⟩:=h;have nd:=Qrp.nd;have O:=Z.units;refine⟨_,(Qd (Qs 3 nd (Zv GC Z rfl mC kC bC .nil Q4 (Qa (pv 0) (Qa (Zj (Qa (pv 1) (Qa (pv 2) Qe))) Qe))))
  (Qd (Zr (Qu Wu (Qn (Vr O) (pv 3) (pv 1)) (Qn (Vr O) (pv 3) (pv 2)) (Za _))
  (Qh (Qx Q5)) Q9)
  (Qd (Qs 3 nd (Zv GC Z rfl mC kC bC .nil Q4 (Qa (Zf Vy (pv 0) (Zj (Qa (Q8 (Qa Q5 (Qa (pv 1) (Qa (pv 2) Qe)))) Qe))) (Qa (Zj Qe) Qe))))
  (Qd (Z6 Gq rfl (Yn (pv 0)) (Vf rfl (Zm (Z2 4 nd) (Zm (Z2 5 nd) (Zm (Z2 6 nd) Wb))))
  (Qh (Zr (PW.pt (Rk (Qu Wu (pv 4) Q5 (Za _)) (I9 (Qu Wu (Qn (Vr O) (pv 3) (pv 5)) (Qn (Vr O) (pv 3) (pv 6)) (Za _)))))
  (Qh (Qx Q5)) Q9)))
  (Qh (Qx Q5)))))),?_⟩
 obtain⟨G,_,_,_,rfl,_,_,_⟩:=h1.inv;obtain⟨I,_,_,_,rfl,_,_,_⟩:=h2.inv;refine⟨_,Xb,_,Xb,_,Xb,by show 2<=Gh;decide,λc hc=>?_⟩;have s1:=Qf hc (.lst [.ref G,.ref I]);refine⟨a,c,us,_,tl,[x,y],Xb,s1 _ _ J,b.Qk (Qp.of s1),Qb,.cons (h1.same s1) (.cons (h2.same s1) .nil),?_,B,by simp only[Qr];omega,λd S L H1 g1 hd N T C ab=>?_⟩
 ·intro t M;simp only[List.mem_cons,List.not_mem_nil,Ep]at M;rcases M with rfl|rfl
  ·exact kx
  ·exact ky
 have R:=s1.trans g1;have hx:x∈S:=C x (by simp);have hy:y∈S:=C y (by simp);refine⟨_,Xb,_,Xb,N.get hx (h1.same R) ⟨_,Xb,_,Xb,N.get hy (h2.same R) ⟨Xb,_,Xb,?_⟩⟩⟩;rw[W6];refine Jh (λc=>?_) (λc=>?_)
 ·have c:L x=L y:=by simpa using c
  exact q _ _ R (.inl ⟨Xb,(T.iff hx hy).mp c⟩)
 have nc:¬Cg tl x y:=λz=>by have:=(T.iff hx hy).mpr z;simp[this]at c
 refine⟨_,Xb,_,Xb,_,Xb,by show 3<=Gh;decide,λe he=>?_⟩;have s2:=Qf he (.tup [.str "same",.ref G,.ref I]);refine⟨by show 1<=Gh;decide,λl hl=>?_⟩;have s3:=Qf hl (.lst [.ref e]);have aa:us.length=tl.length:=Paired.length b;have ad:tl.length<=3000:=by have:=Zi (tl.map (·.2.1));rw[List.length_map]at this;omega
 have sB:=(R.trans s2).trans s3;refine⟨a,l,us,[.ref e],Xb,Xb,sB _ _ J,Qb,small (by show us.length+1<=_;omega),λn hn=>?_⟩;have s4:=Qf hn (.lst (us++[.ref e]));refine⟨Gv _,λz hz=>?_⟩;have s5:=Qf hz (.lst []);have U:=(sB.trans s4).trans s5;have r:Qr ([]:List Th)+Qr ((tl++[(Gf,x,y)]).map (·.2.1))+Qr ((tl++[(Gf,x,y)]).map (·.2.2))<=3000:=by rw[List.map_append,List.map_append,Yv,Yv];simp only[List.map_cons,List.map_nil,Qr];omega
 refine⟨n,z,us++[.ref e],[],tl++[(Gf,x,y)],[],Xb,s5 _ _ Qb,?_,Qb,.nil,(λt M=>nomatch M),?_,r,λd2 S2 L2 H2 g2 ac N2 T2 _ g=>?_⟩
 ·exact Yh (b.Qk (Qp.of U)) (.cons ⟨e,.ref G,.ref I,Xb,s5 _ _ (s4 _ _ (s3 _ _ Qb)),h1.same U,h2.same U⟩ .nil)
 ·intro p k;rcases List.mem_append.mp k with k|k
  ·exact B p k
  ·rw[List.mem_singleton]at k;subst k;exact⟨kx,ky⟩
 have j:=U.trans g2;refine⟨_,Xb,a,Xb,⟨_,Zb.of (j _ _ J)⟩,Yz (K:=K) (a:=a) (xs:=us) (λi σ D=>D=H2/\(∃x4 x5 x6,σ=[Ga (.ref a),Ga (.ref G),Ga (.ref I),Ga (.ref d2),x4,x5,x6])/\∀u v,(Gp,u,v)∈tl.take i->¬Cg (tl++[(Gf,x,y)]) u v)
  ⟨Xb,⟨_,_,_,Xb⟩,by simp⟩ (λi σ D _⟨e,_⟩=>Zb.of (by rw[e];exact j _ _ J)) ?_ ?_⟩
 ·rintro i p σ D hi ⟨rfl,⟨x4,x5,x6,rfl⟩,o⟩;obtain⟨⟨X,V,W⟩,eu,a',w1,w2,rfl,Y,t1,t2⟩:=Qw b hi;obtain⟨c1,_,_,_,rfl,_,_,_⟩:=t1.inv;obtain⟨c2,_,_,_,rfl,_,_,_⟩:=t2.inv;have mem:=List.mem_of_getElem? eu;have i2:=g (X,V,W) (List.mem_append_left _ mem);have tk:tl.take (i+1)=tl.take i++[(X,V,W)]:=by rw[List.take_add_one,eu];rfl
  refine⟨a',_,Xb,Z4.of (j _ _ Y),Xb,_,_,Xb,_,_,Xb,_,_,Xb,Xb,?_⟩;refine⟨_,Xb,Xb,_,Xb,?_⟩;rw[Xj,Qfh];cases X with
  |true=>
   refine Zz (Zz ⟨Xb,⟨_,_,_,Xb⟩,λu v h=>?_⟩);rw[tk,List.mem_append,List.mem_singleton]at h;rcases h with h|h
   ·exact o u v h
   ·cases h
  |false=>
   refine Xf ?_;refine⟨_,Xb,_,Xb,N2.get i2.1 (t1.same j) ⟨_,Xb,_,Xb,N2.get i2.2 (t2.same j) ⟨Xb,_,Xb,?_⟩⟩⟩;rw[W6];refine Jh (λm=>?_) (λm=>?_)
   ·have m:L2 V=L2 W:=by simpa using m
    exact q _ _ j (.inr (.inl ⟨Xb,nc,V,W,mem,(T2.iff i2.1 i2.2).mp m⟩))
   ·refine⟨Xb,⟨_,_,_,Xb⟩,λu v h=>?_⟩;rw[tk,List.mem_append,List.mem_singleton]at h;rcases h with h|h
    ·exact o u v h
    ·cases h;intro z;have:=(T2.iff i2.1 i2.2).mpr z;simp[this]at m
 ·rintro σ D ⟨rfl,_,o⟩;rw[aa,List.take_length]at o;exact q _ _ j (.inr (.inr ⟨Xb,nc,o⟩))
theorem Qos{U:Td}(F:Va K "_law_barred" "_law_barred" Qbx f fd)
  (GC:Qt P w K mg base Ya 1 fC U ["_law_told","_law_things"] (Qab P w))(kC:KI K fC)(bC:Binds K U ["_law_told","_law_things"] [])(mC:MG mg "_law_classes" fC):
  Qt P w K mg base Ya 2 f fd ["_law_told","_law_deed"] Qhb:=by
 refine F.ok Qhv (λvs H Q E h=>?_) (λcdv A outer s H vs Q E Y h=>?_)
 ·obtain⟨a,e,us,tl,v1,v2,b,x,y,rfl,_⟩:=h;rfl
 obtain⟨a,e,us,tl,v1,v2,b,x,y,rfl,ha,C,he,h1,h2,kx,ky,O,hsz,q⟩:=h;have nd:=Qhv.nd;have Z:=Y.units;refine⟨_,(Qd (Qs 2 nd (Zf Vy (pv 0) (Zj (Qa (pv 1) Qe))))
  (Qd (Qs 3 nd (Zv GC Y rfl mC kC bC .nil Q4 (Qa (pv 2) (Qa (Zj Qe) Qe))))
  (Qd (Z6 Gq rfl (Yn (pv 2)) (Vf rfl (Zm (Z2 4 nd) (Zm (Z2 5 nd) (Zm (Z2 6 nd) Wb))))
  (Qh (Zr (PW.pt (Rk (Qu Wu (pv 4) Q5 (Za _)) (I9 (Qu Wu (Qn (Vr Z) (pv 3) (pv 5)) (Qn (Vr Z) (pv 3) (pv 6)) (Za _)))))
  (Qh (Qx Wk)) Q9)))
  (Qh (Qx Wk))))),?_⟩
 have ac:us.length=tl.length:=Paired.length C;have ab:tl.length<=3000:=by have:=Zi (tl.map (·.2.1));rw[List.length_map]at this;omega
 refine⟨_,Xb,_,Xb,by show 1<=Gh;decide,λl hl=>?_⟩;have s3:=Qf hl (.lst [.ref e]);refine⟨a,l,us,[.ref e],Xb,Xb,s3 _ _ ha,Qb,small (by show us.length+1<=_;omega),λn hn=>?_⟩;have s4:=Qf hn (.lst (us++[.ref e]));refine⟨_,Xb,Gv _,λz hz=>?_⟩;have s5:=Qf hz (.lst []);have sC:=(s3.trans s4).trans s5;have B:Qr ([]:List Th)+Qr ((tl++[(b,x,y)]).map (·.2.1))+Qr ((tl++[(b,x,y)]).map (·.2.2))<=3000:=by rw[List.map_append,List.map_append,Yv,Yv];simp only[List.map_cons,List.map_nil,Qr];omega
 have d:Vg H (us++[.ref e]) (tl++[(b,x,y)]):=Yh C (.cons ⟨e,v1,v2,Xb,he,h1,h2⟩ .nil);have R:(us++[V.ref e]).length=(tl++[(b,x,y)]).length:=Paired.length d;have r:=s5 _ _ (@Qb _ n (.lst (us++[.ref e])));have o:∀p∈tl++[(b,x,y)],(p.2.1.ok=Gf/\p.2.1.depth<=8)/\p.2.2.ok=Gf/\p.2.2.depth<=8:=by
  intro p j;rcases List.mem_append.mp j with j|j
  ·exact O p j
  ·rw[List.mem_singleton]at j;subst j;exact⟨kx,ky⟩
 generalize us++[V.ref e]=G at*;generalize tl++[(b,x,y)]=c at*;refine⟨n,z,G,[],c,[],Xb,r,d.Qk (Qp.of sC),Qb,.nil,(λt ht=>nomatch ht),o,B,λd2 S2 L2 H2 X aa S T _ g=>?_⟩;have D:=sC.trans X;have nD:=X _ _ r;refine⟨_,Xb,n,Xb,⟨_,Zb.of nD⟩,Yz (K:=K) (a:=n) (xs:=G) (λi σ I=>I=H2/\(∃x4 x5 x6,σ=[Ga (.ref a),Ga (.ref e),Ga (.ref n),Ga (.ref d2),x4,x5,x6])/\∀u v,(Gp,u,v)∈c.take i->¬Cg c u v)
  ⟨Xb,⟨_,_,_,Xb⟩,by simp⟩ (λi σ I _⟨e,_⟩=>Zb.of (by rw[e];exact nD)) ?_ ?_⟩
 ·rintro i p σ I hi ⟨rfl,⟨x4,x5,x6,rfl⟩,m⟩;obtain⟨⟨M,J,L⟩,W,a',w1,w2,rfl,N,t1,t2⟩:=Qw d hi;obtain⟨c1,_,_,_,rfl,_,_,_⟩:=t1.inv;obtain⟨c2,_,_,_,rfl,_,_,_⟩:=t2.inv;have mem:=List.mem_of_getElem? W;have i2:=g (M,J,L) mem;have tk:c.take (i+1)=c.take i++[(M,J,L)]:=by rw[List.take_add_one,W];rfl
  refine⟨a',_,Xb,Z4.of (D _ _ N),Xb,_,_,Xb,_,_,Xb,_,_,Xb,Xb,?_⟩;refine⟨_,Xb,Xb,_,Xb,?_⟩;rw[Xj,Qfh];cases M with
  |true=>
   refine Zz (Zz ⟨Xb,⟨_,_,_,Xb⟩,λu v h=>?_⟩);rw[tk,List.mem_append,List.mem_singleton]at h;rcases h with h|h
   ·exact m u v h
   ·cases h
  |false=>
   refine Xf ?_;refine⟨_,Xb,_,Xb,S.get i2.1 (t1.same D) ⟨_,Xb,_,Xb,S.get i2.2 (t2.same D) ⟨Xb,_,Xb,?_⟩⟩⟩;rw[W6];refine Jh (λk=>?_) (λk=>?_)
   ·have k:L2 J=L2 L:=by simpa using k
    exact q Gf _ D ⟨λ_=>⟨J,L,mem,(T.iff i2.1 i2.2).mp k⟩,λ_=>rfl⟩
   ·refine⟨Xb,⟨_,_,_,Xb⟩,λu v h=>?_⟩;rw[tk,List.mem_append,List.mem_singleton]at h;rcases h with h|h
    ·exact m u v h
    ·cases h;intro z;have:=(T.iff i2.1 i2.2).mpr z;simp[this]at k
 ·rintro σ I ⟨rfl,_,m⟩;rw[R,List.take_length]at m;exact q Gp _ D ⟨λz=>by(cases z),λ⟨u,v,h1,h2⟩=>absurd h2 (m u v h1)⟩
end
section
variable{P:Gj}{w:Gs}{K:PySem.W.Frag}{mg:Gy->Option Value}{base:Heap}
theorem Qv6:Qy ["_law_cell","_law_size"] ["_law_cell"] (Ql Qvp):=by eq_refl
theorem Qx2(F:Va K "_law_any" "_law_any" Qvp f fd):Qt P w K mg base Ya 1 f fd ["_law_cell"] Qww:=by
 refine F.ok Qv6 (λvs H Q E h=>?_) (λcdv A outer s H vs Q E e h=>?_)
 ·obtain⟨n,rfl,_⟩:=h;rfl
 obtain⟨n,rfl,q⟩:=h;have nd:=Qv6.nd;refine⟨_,(Qd (Qs 1 nd (Zf Xu (Zf Wa (pv 0) Qj) (Zf Qsf Qj Qj)))
  (Qh (Qx (Zf Qjn (pv 1) (Qn Ze (Zj (Qa Qj (Qa (Ou U7 Qj) Qe))) (Zf Xu (pv 0) Qj)))))),?_⟩
 refine⟨_,Xb,_,_,Xb,Xb,⟨by decide,by decide⟩,_,_,Xb,Xb,⟨by decide,by decide,by decide⟩,_,_,Xb,Xb,(by show(0:Int)<10^Dp 59;decide),?_⟩;refine⟨_,Xb,_,Xb,by show 2<=Gh;decide,λl a=>?_⟩;obtain⟨v,c,d⟩:=Vx [V.int 1,V.int (-1)] (n % 2) (Tu _ (by decide)) (Te _ (by decide));have b:=List.mem_of_getElem? d;simp only[List.mem_cons,List.not_mem_nil,Ep]at b;refine⟨_,Xb,_,_,Xb,Xb,(by show(0:Int)<2;decide),l,_,_,v,Xb,Xb,Zb.of Qb,c,?_⟩;rcases b with rfl|rfl
 ·exact⟨_,_,Xb,Xb,.inr ⟨by decide,by decide⟩,q _ _ (Qf a _)⟩
 ·exact⟨_,_,Xb,Xb,.inr ⟨by decide,by decide⟩,q _ _ (Qf a _)⟩
theorem Qmm:Qy ["_law_cells","_law_things","_law_deeds","_law_k","_law_rest","_law_one","_law_other","_law_way","_law_odd"] ["_law_cells","_law_things"] (Ql Qf1):=by eq_refl
theorem Qsv{dA:Td}(F:Va K "_law_drawn_deeds" "_law_drawn_deeds" Qf1 f fd)(B:Blt mg)
  (GA:Qt P w K mg base Ya 1 fA dA ["_law_cell"] Qww)(kA:KI K fA)(bA:Binds K dA ["_law_cell"] [])(mA:MG mg "_law_any" fA):
  Qt P w K mg base Ya 2 f fd ["_law_cells","_law_things"] (Ql4 K):=by
 refine F.ok Qmm (λvs H Q E h=>?_) (λcdv A outer s H vs Q E hr h=>?_)
 ·obtain⟨a,b,ns,us,ts,rfl,_⟩:=h;rfl
 obtain⟨a,b,ns,us,ts,rfl,hS,ab,hb,D,ad,ac,q⟩:=h;have nd:=Qmm.nd;have af:=D.length;refine⟨_,(Qd (Qs 2 nd (Zj Qe))
  (Qd (Z6 Gq rfl (Wz rfl B.range (Qa (Qo Yw rfl B.len PySem.boot_len (Qa (pv 0) Qe)) Qe)) (Z2 3 nd)
  (Qd (Qs 4 nd (Zf Wa (Qn Ze (pv 0) (pv 3)) Qj))
  (Qd (Qs 5 nd (Qn Ze (pv 1) (Zf Xu (Zf Ja (pv 4) (pv 3)) (Qo Yw rfl B.len PySem.boot_len (Qa (pv 1) Qe)))))
  (Qd (Qs 6 nd (Qn Ze (pv 1) (Zf Xu (Zf Ja (Zf Ja (Zf Wa (pv 4) Qj) (Zf Qjn Qj (pv 3))) Qj) (Qo Yw rfl B.len PySem.boot_len (Qa (pv 1) Qe)))))
  (Qd (Qs 7 nd (Zf Xu (Qn Ze (pv 0) (pv 3)) Qj))
  (Qh (Zr (Qu Qff (pv 7) Qj (Za _))
  (Qh (Zc (Xn PySem.F.plainAttrs_list PySem.F.slot_list_append PySem.F.type_list_append Zq (pv 2) (Qa (Q8 (Qa Q5 (Qa (pv 5) (Qa (pv 6) Qe)))) Qe)))) (Qh (Zr (Qu Qff (pv 7) Qj (Za _))
  (Qh (Zc (Xn PySem.F.plainAttrs_list PySem.F.slot_list_append PySem.F.type_list_append Zq (pv 2) (Qa (Q8 (Qa Q5 (Qa (pv 5) (Qa (pv 6) Qe)))) Qe)))) (Qh (Zr (Qu Qff (pv 7) Qj (Za _))
  (Qh (Zc (Xn PySem.F.plainAttrs_list PySem.F.slot_list_append PySem.F.type_list_append Zq (pv 2) (Qa (Q8 (Qa Q5 (Qa (pv 5) (Qa (pv 6) Qe)))) Qe)))) (Qd (Qs 8 nd (Zv GA hr rfl mA kA bA .nil Q4 (Qa (Qn Ze (pv 0) (pv 3)) Qe)))
  (Qh (Zc (Xn PySem.F.plainAttrs_list PySem.F.slot_list_append PySem.F.type_list_append Zq (pv 2) (Qa (Q8 (Qa Q5 (Qa (Qn Ze (Zj (Qa (Zf Xu (pv 4) Qj) (Qa Qj (Qa (Ou U7 Qj) (Qa (pv 8) Qe))))) (Zf Xu (Zf Wa (pv 4) Qj) Qj)) Qe))) Qe))))))))))))))))
  (Qh (Qx (pv 2))))),?_⟩
 refine⟨Gv _,λp hp=>?_⟩;have s1:=Qf hp (.lst []);refine⟨_,Xb,_,_,Xb,.inl ⟨_,s1.seq hS,Xb⟩,_,Xb,by omega,by rw[List.length_map];omega,W5 (lo:=0) (n:=(((ns.map V.int).length:Int)).toNat) (λi σ H1=>∃(es:List V)(dl:List Dd)(S T U W X Y:Option V),σ=[Ga (.ref a),Ga (.ref b),Ga (.ref p),S,T,U,W,X,Y]/\Qv H H1/\H1 p=Ga (.lst es)/\Uy H1 es dl/\dl.length=i/\∀d∈dl,d.fits ts)
  ⟨[],[],_,_,_,_,_,_,Xb,s1,Qb,.nil,Xb,λd hd=>nomatch hd⟩ ?_ ?_⟩
 ·rintro i σ H1 hi ⟨es,dl,S,T,U,W,X,Y,rfl,y,k,g2,g3,g4⟩;have hi:i<ns.length:=by rw[List.length_map]at hi;omega
  have ae:es.length=dl.length:=Paired.length g2;generalize hc:ns[i]=c;have ec:atI (ns.map V.int) (0+(i:Int))=Ga (.int c):=by rw[DF];refine Qz ?_;rw[List.getElem?_map,List.getElem?_eq_getElem hi,hc];rfl
  have pos:(0:Int)<us.length:=by omega
  obtain⟨t,a1,f1⟩:=Vx us ((c / 10+(0+(i:Int))) % us.length) (Tu _ (by omega)) (Te _ pos);obtain⟨u,a2,f2⟩:=Vx us ((c / 10 / 7+2*(0+(i:Int))+1) % us.length) (Tu _ (by omega)) (Te _ pos);obtain⟨O,e1,i1⟩:=D.get f1;obtain⟨R,e2,i2⟩:=D.get f2;have I:=List.mem_of_getElem? e1;have J:=List.mem_of_getElem? e2;have r:=y _ _ hb;refine⟨_,Xb,_,Xb,a,_,_,_,Xb,Xb,y.seq hS,ec,_,_,Xb,Xb,⟨by decide,by decide⟩,?_⟩;refine⟨_,Xb,_,Xb,_,Xb,_,_,Xb,Xb,_,Xb,_,_,Xb,.inl ⟨us,Zb.of r,Xb⟩,_,_,Xb,Xb,pos,b,us,_,t,Xb,Xb,Zb.of r,a1,?_⟩;refine⟨_,Xb,_,Xb,_,_,Xb,Xb,⟨by decide,by decide⟩,_,Xb,_,_,Xb,Xb,.inl ⟨by decide,by decide⟩,_,_,Xb,Xb,_,_,Xb,Xb,_,Xb,_,_,Xb,.inl ⟨us,Zb.of r,Xb⟩,_,_,Xb,Xb,pos,b,us,_,u,Xb,Xb,Zb.of r,a2,?_⟩;refine⟨_,Xb,_,Xb,a,_,_,_,Xb,Xb,y.seq hS,ec,_,_,Xb,Xb,(by show(0:Int)<10;decide),?_⟩;have fin:∀{v:Hp}{e:Gc}{xs:List V}{d:Dd}{Z:Option V},Qv H1 v->v e=Ge->d.fits ts->Qee (upd (upd v e (.tup xs)) p (.lst (es++[.ref e]))) (.ref e) d->
    ∃(M:List V)(dl:List Dd)(S T U W X Y:Option V),[Ga (V.ref a),Ga (.ref b),Ga (.ref p),Ga (.int (0+(i:Int))),Ga (.int (c / 10)),Ga t,Ga u,Ga (.int (c % 10)),Z]=[Ga (.ref a),Ga (.ref b),Ga (.ref p),S,T,U,W,X,Y]/\Qv H (upd (upd v e (.tup xs)) p (.lst (es++[.ref e])))/\(upd (upd v e (.tup xs)) p (.lst (es++[.ref e]))) p=Ga (.lst M)/\Uy (upd (upd v e (.tup xs)) p (.lst (es++[.ref e]))) M dl/\dl.length=i+1/\∀d∈dl,d.fits ts:=by
   intro v e xs d Z N g hf hd;have s4:=Qf g (.tup xs);have p4:=s4 _ _ (N _ _ k);have L:Qp H1 (upd (upd v e (.tup xs)) p (.lst (es++[.ref e]))):=((Qp.of N).trans (Qp.of s4)).trans (Zh λys z=>by rw[p4]at z;cases z);refine⟨es++[.ref e],dl++[d],_,_,_,_,_,_,Xb,λq o hq=>?_,Qb,Yh (g2.Qk L) (.cons hd .nil),by rw[List.length_append,List.length_singleton,g3],λd' aa=>?_⟩
   ·rw[Qg (Qc hq hp)];exact s4 _ _ (N _ _ (y _ _ hq))
   ·rcases List.mem_append.mp aa with z|z
    ·exact g4 d' z
    ·rw[List.mem_singleton]at z;rw[z];exact hf
  have j:∀{x:Gy}{e:Gc}{d:Dd},H1 e=Ge->d.fits ts->(d=.ask O R/\x="ask"\/∃bb,d=.tell bb O R/\x=tw bb)->Qee (upd (upd H1 e (.tup [.str x,t,u])) p (.lst (es++[.ref e]))) (.ref e) d:=by
   intro x e d g hf hd;have s4:=Qf g (.tup [.str x,t,u]);have p4:=s4 _ _ k;have C:e≠p:=λz=>by rw[z,k]at g;cases g
   have L:Qp H (upd (upd H1 e (.tup [.str x,t,u])) p (.lst (es++[.ref e]))):=((Qp.of y).trans (Qp.of s4)).trans (Zh λys z=>by rw[p4]at z;cases z);have at_:(upd (upd H1 e (.tup [.str x,t,u])) p (.lst (es++[.ref e]))) e=Ga (.tup [.str x,t,u]):=by rw[Qg C];exact Qb
   rcases hd with⟨rfl,rfl⟩|⟨bb,rfl,rfl⟩
   ·exact⟨e,t,u,Xb,at_,i1.Qk L,i2.Qk L⟩
   ·exact⟨e,t,u,Xb,at_,i1.Qk L,i2.Qk L⟩
  refine⟨_,Xb,_,_,Xb,Xb,_,Xb,?_⟩;refine Jh (λc1=>?_) (λc1=>?_)
  ·refine⟨_,Xb,.inl ⟨Xb,_,Zb.of k⟩,_,Xb,_,Xb,by show 3<=Gh;decide,λe g=>?_⟩;refine⟨p,es,.ref e,Xb,Xb,Qf g _ _ _ k,by rw[Gu];omega,?_⟩;exact fin (d:=.tell Gf O R) (λ_ _ h=>h) g ⟨I,J⟩ (j g ⟨I,J⟩ (.inr ⟨Gf,Xb,Xb⟩))
  refine⟨_,Xb,_,_,Xb,Xb,_,Xb,?_⟩;refine Jh (λc2=>?_) (λc2=>?_)
  ·refine⟨_,Xb,.inl ⟨Xb,_,Zb.of k⟩,_,Xb,_,Xb,by show 3<=Gh;decide,λe g=>?_⟩;refine⟨p,es,.ref e,Xb,Xb,Qf g _ _ _ k,by rw[Gu];omega,?_⟩;exact fin (d:=.tell Gp O R) (λ_ _ h=>h) g ⟨I,J⟩ (j g ⟨I,J⟩ (.inr ⟨Gp,Xb,Xb⟩))
  refine⟨_,Xb,_,_,Xb,Xb,_,Xb,?_⟩;refine Jh (λc3=>?_) (λc3=>?_)
  ·refine⟨_,Xb,.inl ⟨Xb,_,Zb.of k⟩,_,Xb,_,Xb,by show 3<=Gh;decide,λe g=>?_⟩;refine⟨p,es,.ref e,Xb,Xb,Qf g _ _ _ k,by rw[Gu];omega,?_⟩;exact fin (d:=.ask O R) (λ_ _ h=>h) g ⟨I,J⟩ (j g ⟨I,J⟩ (.inl ⟨Xb,Xb⟩))
  refine⟨_,Xb,_,Xb,a,_,_,_,Xb,Xb,y.seq hS,ec,_,Xb,λm H2 s2=>?_⟩;refine⟨_,Xb,.inl ⟨Xb,_,Zb.of (s2 _ _ k)⟩,_,Xb,_,_,Xb,Xb,(by show(0:Int)<4;decide),_,Xb,_,Xb,by show 4<=Gh;decide,λl hl=>?_⟩;have N:=Qf hl (.lst [.int (c / 10 % 4),.int 0,.int (-1),.int m]);obtain⟨v3,a3,f3⟩:=Vx [V.int (c / 10 % 4),.int 0,.int (-1),.int m] (c / 10 / 4 % 4) (Tu _ (by decide)) (Te _ (by decide));have hv:=List.mem_of_getElem? f3;obtain⟨z,rfl⟩:∃z,v3=V.int z:=by simp only[List.mem_cons,List.not_mem_nil,Ep]at hv;rcases hv with h|h|h|h<;>exact⟨_,h⟩
  refine⟨_,Xb,_,_,Xb,Xb,⟨by decide,by decide⟩,_,_,Xb,Xb,(by show(0:Int)<4;decide),l,_,_,.int z,Xb,Xb,Zb.of Qb,a3,by show 2<=Gh;decide,λe g=>?_⟩;have G:=s2.trans N;have C:e≠p:=λz=>by rw[z,G _ _ k]at g;cases g
  refine⟨p,es,.ref e,Xb,Xb,Qf g _ _ _ (G _ _ k),by rw[Gu];omega,?_⟩;exact fin (d:=.back z) G g Ti ⟨e,Xb,by rw[Qg C];exact Qb⟩
 ·rintro σ H1 ⟨es,dl,S,T,U,W,X,Y,rfl,y,k,g2,g3,g4⟩;refine⟨_,Xb,q p es dl H1 y hp k g2 ?_ g4⟩;rw[g3,List.length_map];omega
end
def Qfw(K:PySem.W.Frag):Sp:=λvs H Q _=>∃(v:V)(t:Value)(a b:Bool),vs=[v]/\Rb K H v t/\PySem.W.kitOne K t (.type "int")=Ga a/\PySem.W.kitOne K t (.type "bool")=Ga b/\Q (.bl (a&&!b)) H
def Qzx(K:PySem.W.Frag):Sp:=λvs H Q _=>∃(a:Gc)(ns:List Int)(k:Nat),vs=[.ref a,.int (k:Int)]/\Zb K H a (ns.map V.int)/\∀m:Int,Q (.int m) H
def Qmk:Sp:=λvs H Q _=>∃(a:Gc)(es:List V)(dl:List Dd),vs=[.ref a]/\H a=Ga (.lst es)/\Uy H es dl/\(∀d∈dl,d.good)/\dl.length<=10/\
 ∀(r:Gc)(b:List V)(H':Hp),Qv H H'->H r=Ge->H' r=Ga (.lst b)->Vg H' b (after [] dl)->Q (.ref r) H'
theorem Qyk(b:Bool):(tw b==("ask":Gy))=Gp:=by cases b<;>decide+kernel
theorem Qu5(b:Bool):(tw b==("back":Gy))=Gp:=by cases b<;>decide+kernel
theorem Qva:(("ask":Gy)=="ask")=Gf:=by decide+kernel
theorem Qr1:(("ask":Gy)=="back")=Gp:=by decide+kernel
theorem Qnt:(("back":Gy)=="back")=Gf:=by decide+kernel
theorem Qq5(xs:List V)(i:Int)(a:0<=i):V4 xs Ge (Ga i)=xs.take i.toNat:=by obtain⟨k,rfl⟩:∃k:Nat,i=(k:Int):=⟨i.toNat,by omega⟩;unfold V4;rw[HT.Jz,HT.Jl];simp
theorem Qob(n:Nat)(h:Vg H xs tl):Vg H (xs.take n) (tl.take n):=by
 unfold Vg at h⊢;induction h generalizing n with
 |nil=>cases n<;>exact .nil
 |cons h r a=>
  cases n with
  |zero=>exact .nil
  |succ n=>exact .cons h (a n)
section
variable{P:Gj}{w:Gs}{K:PySem.W.Frag}{mg:Gy->Option Value}{base:Heap}
theorem Ql0:Qy ["_law_found"] ["_law_found"] (Ql Qf0):=by eq_refl
theorem Qs8(F:Va K "_law_whole" "_law_whole" Qf0 f fd)(B:Blt mg):Qt P w K mg base Ya 1 f fd ["_law_found"] (Qfw K):=by
 refine F.ok Ql0 (λvs H Q E h=>?_) (λcdv A outer s H vs Q E d h=>?_)
 ·obtain⟨v,t,a,b,rfl,_⟩:=h;rfl
 obtain⟨v,t,a,b,rfl,c,h1,h2,q⟩:=h;have nd:=Ql0.nd;refine⟨_,(Qh (Qx (Qxa (Qo Xd rfl B.isinstance Gz (Qa (pv 0) (Qa (Xi (v:=.ty "int") rfl B.int Si Xb) Qe))) (Qyt (Qyx (Qo Xd rfl B.isinstance Gz (Qa (pv 0) (Qa (Xi (v:=.ty "bool") rfl B.bool DP Xb) Qe)))))))),?_⟩;refine⟨_,Xb,_,_,_,a,Xb,c,h1,a,Xb,?_⟩;cases a with
 |false=>exact Zz q
 |true=>exact Xf ⟨_,Xb,_,_,_,b,Xb,c,h2,b,Xb,q⟩
theorem Qzl:Qy ["_law_script","_law_k"] ["_law_script","_law_k"] (Ql sAt):=by eq_refl
theorem Q08(F:Va K "_law_at" "_law_at" sAt f fd)(B:Blt mg):Qt P w K mg base Ya 1 f fd ["_law_script","_law_k"] (Qzx K):=by
 refine F.ok Qzl (λvs H Q E h=>?_) (λcdv A outer s H vs Q E b h=>?_)
 ·obtain⟨a,ns,k,rfl,_⟩:=h;rfl
 obtain⟨a,ns,k,rfl,hS,q⟩:=h;have nd:=Qzl.nd;refine⟨_,(Qd (Zr (Qu Qff (pv 1) (Qo Yw rfl B.len PySem.boot_len (Qa (pv 0) Qe)) (Za _))
  (Qh (Qx (Qn Ze (pv 0) (pv 1)))) Q9)
  (Qh (Qx Qj))),?_⟩
 refine⟨_,Xb,_,Xb,_,_,Xb,.inl ⟨_,hS,Xb⟩,_,_,Xb,Xb,_,Xb,?_⟩;refine Jh (λc=>?_) (λc=>q 0);have c:k<ns.length:=by have:=TC c;rw[List.length_map]at this;omega
 refine⟨_,Xb,_,Xb,a,_,_,.int ns[k],Xb,Xb,hS,Qz ?_,q _⟩;rw[List.getElem?_map,List.getElem?_eq_getElem c];rfl
theorem Qm0:Qy ["_law_deeds","_law_told","_law_deed"] ["_law_deeds"] (Ql Qfz):=by eq_refl
theorem Qr6{T:Gc}{dZ:Td}(F:Va K "_law_after" "_law_after" Qfz f fd)(B:Blt mg)
  (GZ:Qt P w K mg base Ya 2 T dZ ["_law_told","_law_deed"] Qhb)(kZ:KI K T)(bZ:Binds K dZ ["_law_told","_law_deed"] [])(mZ:MG mg "_law_barred" T):
  Qt P w K mg base Ya 3 f fd ["_law_deeds"] Qmk:=by
 refine F.ok Qm0 (λvs H Q E h=>?_) (λcdv A outer s H vs Q E hr h=>?_)
 ·obtain⟨a,es,dl,rfl,_⟩:=h;rfl
 obtain⟨a,es,dl,rfl,ha,M,good,aa,q⟩:=h;have nd:=Qm0.nd;refine⟨_,(Qd (Qs 1 nd (Zj Qe))
  (Qd (Z6 Gq rfl (Yn (pv 0)) (Z2 2 nd)
  (Qh (Zr (Qu Wu (Qn Q3 (pv 2) Qj) Q5 (Za _))
  (Qh (Zr (Qpk Qre Qre Qj (Qn Q3 (pv 2) Qj) (Qo Yw rfl B.len PySem.boot_len (Qa (pv 1) Qe)))
  (Qh (Qs 1 nd (Yp Jf (pv 1) Xw (Y2 (Qn Q3 (pv 2) Qj))))) Q9)) (Qh (Zr (PW.pt (Rk (Qu Ih (Qn Q3 (pv 2) Qj) Q5 (Za _)) (I9 (Jn (Xz (Zv GZ hr rfl mZ kZ bZ .nil Q4 (Qa (pv 1) (Qa (pv 2) Qe))))))))
  (Qh (Zc (Xn PySem.F.plainAttrs_list PySem.F.slot_list_append PySem.F.type_list_append Zq (pv 1) (Qa (pv 2) Qe)))) Q9)))))
  (Qh (Qx (pv 1))))),?_⟩
 refine⟨Gv _,λl0 N=>?_⟩;have s1:=Qf N (.lst []);have X:es.length=dl.length:=Paired.length M;refine⟨_,Xb,a,Xb,⟨_,Zb.of (s1 _ _ ha)⟩,Yz (K:=K) (a:=a) (xs:=es) (λk σ H1=>∃(l:Gc)(tv:List V)(x2:Option V),σ=[Ga (.ref a),Ga (.ref l),x2]/\Qv H H1/\H l=Ge/\H1 l=Ga (.lst tv)/\Vg H1 tv (after [] (dl.take k)))
  ⟨l0,[],Ge,Xb,s1,N,Qb,by simp[after];exact .nil⟩ (λk σ H1 _⟨_,_,_,_,r,_⟩=>Zb.of (r _ _ ha)) ?_ ?_⟩
 ·rintro k x σ H1 hk ⟨l,tv,x2,rfl,r,D,m,t⟩;obtain⟨d,ed,hd⟩:=Qw M hk;have I:=hd.Qk (Qp.of r);have L:=good d (List.mem_of_getElem? ed);have u:Tlg (after [] (dl.take k)):=Rn (λp J=>nomatch J) λd hd=>good d (List.mem_of_mem_take hd);have O:=Iy (ds:=dl.take k) (tl:=[]);rw[List.length_take]at O;simp only[List.length_nil]at O;rw[Qdr ed];generalize after [] (dl.take k)=tl at*;have R:tv.length=tl.length:=Paired.length t;have sz:=Qie u;have Y:∀p∈tl,(p.2.1.ok=Gf/\p.2.1.depth<=8)/\p.2.2.ok=Gf/\p.2.2.depth<=8:=λp J=>⟨⟨(u p J).1.1,(u p J).1.2.1⟩,(u p J).2.1,(u p J).2.2.1⟩;cases d with
  |tell b x y=>
   obtain⟨e,v1,v2,rfl,v,Z,t2⟩:=I;have U:=L.1;have W:=L.2;have zx:=U.2.2;have zy:=W.2.2;refine⟨_,Xb,e,_,_,_,Xb,Xb,Z4.of v,Qz (j:=0) rfl,Xb,_,Xb,?_⟩;rw[Xj,Qu5];refine Zz ?_;refine⟨_,Xb,e,_,_,_,Xb,Xb,Z4.of v,Qz (j:=0) rfl,Xb,_,Xb,?_⟩;rw[Xj,Qyk];refine Xf ?_;refine⟨_,Xb,_,Xb,l,e,tv,tl,v1,v2,b,x,y,Xb,m,t,v,Z,t2,⟨U.1,U.2.1⟩,⟨W.1,W.2.1⟩,Y,by omega,λrr H2 s2 hb=>⟨rr,Xb,?_⟩⟩;cases rr with
   |true=>
    refine Zz ?_;have g:Ve tl (.tell b x y)=(tl,.str "clash"):=by simp only[Ve];rw[Gk (hb.mp Xb)]
    rw[g];exact⟨l,tv,_,Xb,r.trans s2,D,s2 _ _ m,t.Qk (Qp.of s2)⟩
   |false=>
    refine Xf ?_;have nb:¬Yy (tl++[(b,x,y)]):=λz=>Gw (hb.mpr z);have g:Ve tl (.tell b x y)=(tl++[(b,x,y)],.int ((tl.length:Int)+1)):=by simp only[Ve];rw[Gg nb]
    rw[g];refine⟨_,Xb,.inl ⟨Xb,_,Zb.of (s2 _ _ m)⟩,_,Xb,l,tv,_,Xb,Xb,s2 _ _ m,by rw[Gu];omega,?_⟩;have S:Qp H1 (upd H2 l (.lst (tv++[.ref e]))):=(Qp.of s2).trans (Zh λxs z=>by rw[s2 _ _ m]at z;cases z);exact⟨l,tv++[.ref e],_,Xb,λc o h=>by rw[Qg (Qc h D)];exact s2 _ _ (r _ _ h),D,Qb,Yh (t.Qk S) (.cons ⟨e,v1,v2,Xb,S _ _ v,Z.Qk S,t2.Qk S⟩ .nil)⟩
  |ask x y=>obtain⟨e,v1,v2,rfl,v,Z,t2⟩:=I;refine⟨_,Xb,e,_,_,_,Xb,Xb,Z4.of v,Qz (j:=0) rfl,Xb,_,Xb,?_⟩;rw[Xj,Qr1];refine Zz ?_;refine⟨_,Xb,e,_,_,_,Xb,Xb,Z4.of v,Qz (j:=0) rfl,Xb,_,Xb,?_⟩;rw[Xj,Qva];refine Zz (Zz ?_);exact⟨l,tv,_,Xb,r,D,m,t⟩
  |back i=>
   obtain⟨e,rfl,v⟩:=I;refine⟨_,Xb,e,_,_,_,Xb,Xb,Z4.of v,Qz (j:=0) rfl,Xb,_,Xb,?_⟩;rw[Xj,Qnt];refine Xf ?_;refine⟨_,Xb,e,_,_,_,Xb,Xb,Z4.of v,Qz (j:=1) rfl,_,_,Xb,Xb,_,Xb,?_⟩;refine Jh (λC=>?_) (λC=>?_)
   ·have C:0<=i:=TC C;refine⟨_,Xb,_,_,Xb,.inl ⟨_,Zb.of m,Xb⟩,_,_,Xb,Xb,_,Xb,?_⟩;refine Jh (λG=>?_) (λG=>?_)
    ·have G:i<=(tv.length:Int):=TC G;have g:Ve tl (.back i)=(tl.take i.toNat,.int ((tl.length:Int) - i)):=by simp only[Ve];rw[Gk ⟨C,by rw[<-R];exact G⟩]
     rw[g];refine⟨_,Xb,_,Xb,e,_,_,_,Xb,Xb,Z4.of v,Qz (j:=1) rfl,_,Xb,l,_,Xb,Zb.of m,λn hn=>?_⟩;rw[Qq5 tv i C];have s2:=Qf hn (.lst (tv.take i.toNat));exact⟨n,_,_,Xb,r.trans s2,r.free hn,Qb,Qob _ (t.Qk (Qp.of s2))⟩
    ·have G:¬i<=(tv.length:Int):=λz=>G (GQ z);have g:Ve tl (.back i)=(tl,.str "no moment"):=by simp only[Ve];rw[Gg (λz=>G (by rw[R];exact z.2))]
     rw[g];exact⟨l,tv,_,Xb,r,D,m,t⟩
   ·have C:¬0<=i:=λz=>C (GQ z);have g:Ve tl (.back i)=(tl,.str "no moment"):=by simp only[Ve];rw[Gg (λz=>C z.1)]
    rw[g];exact⟨Gp,Xb,Zz ⟨l,tv,_,Xb,r,D,m,t⟩⟩
 ·rintro σ H1 ⟨l,tv,x2,rfl,r,D,m,t⟩;rw[X,List.take_length]at t;exact⟨_,Xb,q l tv H1 r D m t⟩
end
end K07
namespace Sb
open PySem PySem.Spec PyProof.Rows L2
def Y0:List (Xh×V):=[(.inr "sab",.str "tab"),(.inr "tab",.str "x"),(.inr "sob",.str "sab"),(.inr "sat",.str "sob"),(.inr "fig",.str "fog"),(.inr "fog",.str "hog")]
def rn(w:Gy):Gy:=if w="sab"then"tab"else if w="tab"then"x"else if w="sob"then"sab"else if w="sat"then"sob"else if w="fig"then"fog"else if w="fog"then"hog"else("q":Gy)++w++"q"
def unq(w:Gy):Gy:=⟨w.cps.extract 1 (w.cps.size - 1)⟩
def un(w:Gy):Gy:=if w="tab"then"sab"else if w="x"then"tab"else if w="sab"then"sob"else if w="sob"then"sat"else if w="fog"then"fig"else if w="hog"then"fog"else unq w
theorem Qur(w:Gy):(("q":Gy)++w++"q").cps[0]?=Ga 113:=by have e:(("q":Gy)++w++"q").cps=#[113]++w.cps++#[113]:=rfl;rw[e,EH (by simp;omega),EH (by simp)];rfl
theorem Q0d(w:Gy):unq (("q":Gy)++w++"q")=w:=by
 have e:(("q":Gy)++w++"q").cps=#[113]++w.cps++#[113]:=rfl;unfold unq;rw[e];cases w with
 |mk c=>congr 1;apply Array.ext';simp
theorem Qv9(w:Gy):un (rn w)=w:=by
 unfold rn;split
 ·next h=>rw[h];decide+kernel
 split
 ·next h=>rw[h];decide+kernel
 split
 ·next h=>rw[h];decide+kernel
 split
 ·next h=>rw[h];decide+kernel
 split
 ·next h=>rw[h];decide+kernel
 split
 ·next h=>rw[h];decide+kernel
 have f:=Qur w;have ne:∀x:Gy,x.cps[0]?≠Ga 113->¬(("q":Gy)++w++"q"=x):=λx a z=>a (by rw[<-z];exact f);unfold un;rw[Gg (ne _ (by decide+kernel)),Gg (ne _ (by decide+kernel)),Gg (ne _ (by decide+kernel)),Gg (ne _ (by decide+kernel)),Gg (ne _ (by decide+kernel)),Gg (ne _ (by decide+kernel))];exact Q0d w
theorem Qim:Qac [] Y0=Y0:=by decide+kernel
theorem Qng(w:Gy):(Yq Y0 (.inr w)).getD (.str (("q":Gy)++w++"q"))=.str (rn w):=by
 unfold rn Y0 Yq;by_cases h1:w="sab"
 ·subst h1;decide+kernel
 rw[Gg h1];by_cases h2:w="tab"
 ·subst h2;decide+kernel
 rw[Gg h2];by_cases a:w="sob"
 ·subst a;decide+kernel
 rw[Gg a];by_cases b:w="sat"
 ·subst b;decide+kernel
 rw[Gg b];by_cases c:w="fig"
 ·subst c;decide+kernel
 rw[Gg c];by_cases d:w="fog"
 ·subst d;decide+kernel
 rw[Gg d];have k:∀x:Gy,¬w=x->decide ((EA x:Xh)=EA w)=Gp:=λx h=>Gx λz=>h (Fd z).symm;simp only[List.find?_cons,List.find?_nil,k _ h1,k _ h2,k _ a,k _ b,k _ c,k _ d];rfl
theorem Q04{w:Gy}(h:TW w=Gf):TW (rn w)=Gf:=by
 unfold rn;split
 ·decide+kernel
 split
 ·decide+kernel
 split
 ·decide+kernel
 split
 ·decide+kernel
 split
 ·decide+kernel
 split
 ·decide+kernel
 have e:(("q":Gy)++w++"q").cps=#[113]++w.cps++#[113]:=rfl;have h1:w.cps.all (·<0x110000)=Gf:=h;show(("q":Gy)++w++"q").cps.all (·<0x110000)=Gf;rw[e,EZ,EZ,h1];simp
theorem Qd9(φ:Gy->Gy):∀ts:List Th,V3 φ ts=ts.map (Th.Vm φ)
 |[]=>by simp[V3]
 |t::r=>by simp[V3,Qd9 φ r]
theorem Qjf{P:Gj}{w:Gs}{K:PySem.W.Frag}{r p d:Gc}{us:List V}{ps:List Th}{S:Th->Prop}{F:Th->Th}{H:Hp}{Q:Hp->Prop}(z:H r=Ga (.tup us))(h:Zn H us ps)(g:∀t∈ps,S t/\t.ok=Gf/\t.depth<=8)(N:Mp P w H d S F)(k:H p=Ge)(m:us.length<=3000)
  (q:∀H' ys,Qv H H'->H' p=Ga (.lst ys)->Zn H' ys (ps.map F)->Q H'):Qc0 p (Itt K r) (Vj 0) Qpn (tOp (Qba P w) (Vp 1) (Vp 0)) Q [Ge,Ga (.ref d)] (upd H p (.lst [])):=by
 refine Uq (K:=K) (a:=r) (xs:=us) (small (by omega)) (λi ys σ H1=>(∃s,σ=[s,Ga (.ref d)])/\Zn H ys ((ps.take i).map F)/\H1=upd H p (.lst ys)) ⟨⟨_,Xb⟩,by simp;exact .nil,Xb⟩ (λi ys σ H1 _⟨_,_,e⟩=>Z4.of (by rw[e];exact Qf k _ _ _ z)) ?_ ?_
 ·rintro i x ys σ H1 hi l ⟨⟨s,rfl⟩,j,rfl⟩ f;obtain⟨t,n,o⟩:=h.get hi;obtain⟨b,_,_,_,rfl,_,_,_⟩:=o.inv;have s1:=Qf k (.lst ys);obtain⟨h1,h2,y⟩:=g t (List.mem_of_getElem? n);obtain⟨kvs,A,C,E⟩:=N.ex;obtain⟨c,u,v⟩:=E t h1;obtain⟨kvs',B,D,G⟩:=(N.same s1).ex;have I:kvs'=kvs\/True:=.inr Ti;refine⟨_,Xb,_,Xb,d,b,kd t,kvs,.ref c,Xb,Xb,⟨s1 _ _ A,Q6 (Qp.of s1) C⟩,Ro (o.same s1) h2 y,u,f,⟨_,Xb⟩,?_,?_⟩
  ·rw[List.take_add_one,n,List.map_append];exact j.append (.one v)
  ·rw[Vk]
 ·rintro ys σ H1 l ⟨_,j,rfl⟩ f;rw[h.length,List.take_length]at j;exact q _ ys (Qf k _) f (j.same (Qf k _))
end Sb
namespace K07
open PySem L2 Sb
def rg(t:Th):Prop:=t.ok=Gf/\t.depth<=8/\t.short=Gf/\t.size<=1000
def Qrv:Sp:=λvs H Q _=>∃(v:V)(t:Th),vs=[v]/\Z5 H v t/\rg t/\∀(c:Gc)(H':Hp),Qv H H'->Z5 H' (.ref c) (t.Vm rn)->Q (.ref c) H'
theorem nd3:(["_law_one","_law_made"]:List Gy).Nodup:=by decide+kernel
theorem Ql7{w:Gy}{ps:List Th}(h:rg (.mk w ps)):∀p∈ps,rg p:=λp a=>by obtain⟨h1,h2,d,e⟩:=h;simp only[Th.ok,Th.depth,Th.short,Th.size,GO]at h1 h2 d e;have b:=h1.2;have c:=d.2;rw[I8,List.all_eq_true]at b;rw[Qdi,List.all_eq_true]at c;have:=Wy a;have:=Qfl a;exact⟨b p a,by omega,c p a,by omega⟩
section
variable{P:Gj}{w:Gs}{K:PySem.W.Frag}{mg:Gy->Option Value}{base:Heap}
theorem Qwn:Qy ["_law_thing","_law_words","_law_order","_law_todo","_law_part","_law_made","_law_inner"] ["_law_thing"] (Ql Ux):=by eq_refl
theorem Qwz{f:Gc}{fd:Td}(F:Va K "_law_recalled" "_law_recalled" Ux f fd)(B:Blt mg):Qt P w K mg base Ya 1 f fd ["_law_thing"] Qrv:=by
 refine F.ok Qwn (λvs H Q E h=>?_) (λcdv A outer s H vs Q E hr h=>?_)
 ·obtain⟨v,t,rfl,_⟩:=h;rfl
 obtain⟨v,t,rfl,hv,ap,q⟩:=h;obtain⟨ok,dp,sh,siz⟩:=id ap;have nd:=Qwn.nd;have J:=hr.units;have a4:A.units+1<Dk\/True:=.inr Ti;refine⟨_,(Qd (Qs 1 nd (Qut (trs:=[(tC (.str "sab"),tC (.str "tab")),(tC (.str "tab"),tC (.str "x")),(tC (.str "sob"),tC (.str "sab")),(tC (.str "sat"),tC (.str "sob")),(tC (.str "fig"),tC (.str "fog")),(tC (.str "fog"),tC (.str "hog"))]) (Uj Q5 Q5 (Uj Q5 Q5 (Uj Q5 Q5 (Uj Q5 Q5 (Uj Q5 Q5 (Uj Q5 Q5 Qto)))))) (FD Gf) (FD (6:Nat)) (List.cons_ne_nil _ _) (Nat.le_of_ble_eq_true (FD Gf))))
  (Qd (Qs 2 nd (Zj Qe))
  (Qd (Qs 3 nd (Zj (Qa (pv 0) Qe)))
  (Qd (Wi Gq (Qu (Qj4 J) (pv 3) (Zj Qe) (Za _))
  (Qd (Qs 4 nd (Qa1 PySem.F.plainAttrs_list PySem.F.slot_list_pop PySem.F.type_list_pop Qaj (pv 3)))
  (Qd (Zc (Xn PySem.F.plainAttrs_list PySem.F.slot_list_append PySem.F.type_list_append Zq (pv 2) (Qa (pv 4) Qe)))
  (Qh (Qs 3 nd (Zf Vy (pv 3) (Xt U5 rfl B.list TD (Qa (Yp Jd (pv 4) (Y2 Qj) Xw) Qe))))))))
  (Qd (Vw (i:=5) nd rfl (DO Xb) Im)
  (Qd (Z6 Gq rfl (Quy rfl B.reversed (Qa (pv 2) Qe)) (Z2 4 nd)
  (Qd (Rm (i:=6) (own:=["_law_one"]) (fv:=[(5,"_law_made")]) nd rfl rfl rfl (S:=(by eq_refl:Wc (Ql Ux) _)) (.cons rfl (TZ Xb) rfl .nil) (Ue (Yp Jd (pv 4) (Y2 Qj) Xw))
   (λ_ _ _ _ _=>Xc (i:=0) nd3 rfl (TZ Xb) (DO Xb)) (λ_ _ _ _ _=>X7) (λ_ _ _ _ _=>(Qn (r:=Qba P w) (Vr J) (pv 1) (pv 0))))
  (Qh (Rq (Xt X5 rfl B.tuple Tz (Qa (Zf Vy (Zj (Qa (Qqv (D2 (Ss (by decide) _) J) (pv 1) (Qn Q3 (pv 4) Qj) (Zf R8 (Zf R8 Q5 (Qn Q3 (pv 4) Qj)) Q5) ⟨Xb,Xb,Xb,Xb⟩) Qe)) (pv 6)) Qe)) (Qak (pv 5) (pv 4) (Qao J))))))
  (Qh (Qx (Qn (Vr J) (pv 5) (pv 0)))))))))),?_⟩
 intro U aH;refine⟨Qb,Y0,Xb,by decide,?_⟩;rw[Vk,Qim];have s1:=Qf aH (.dK Y0);have w1:(upd H U (.dK Y0)) U=Ga (.dK Y0):=Qb;generalize upd H U (.dK Y0)=H1 at s1 w1⊢;refine⟨Gv _,λo ho=>?_⟩;have s2:=Qf ho (.lst []);refine⟨_,Xb,by show 1<=Gh;decide,λl hl=>?_⟩;have s3:=Qf hl (.lst [v]);have au:=(s1.trans s2).trans s3;have L:o≠l:=Qc Qb hl;have am:H1 o=Ge:=ho;have ab:H1 l=Ge:=s2.free hl;refine⟨λm σ H2=>∃(l:Gc)(ov xs:List V)(O T:List Th)(x4:Option V),σ=[Ga v,Ga (.ref U),Ga (.ref o),Ga (.ref l),x4,Ge,Ge]/\Qv H1 H2/\H1 l=Ge/\o≠l/\H2 o=Ga (.lst ov)/\H2 l=Ga (.lst xs)/\Zn H2 ov O/\Zn H2 xs T/\
   (∀u∈O,rg u)/\(∀u∈T,rg u)/\(t∈O\/t∈T)/\(∀(i:Nat)w ps,O[i]?=Ga (Th.mk w ps)->∀p∈ps,(∃j:Nat,i<j/\O[j]?=Ga p)\/p∈T)/\m=Qr T/\O.length+Qr T<=1000,
  ⟨_,l,[],[v],[],[t],Ge,Xb,s2.trans s3,ab,L,s3 _ _ Qb,Qb,.nil,.one (hv.same au),(λu J=>nomatch J),λu J=>by rw[List.mem_singleton]at J;subst J;exact ap,.inr List.mem_cons_self,λi w ps e=>by simp at e,Xb,by simp[Qr];exact siz⟩,?_⟩
 clear s3 au L ab hl;rintro m σ H2 ⟨l,ov,xs,O,T,x4,rfl,sm,hl,L,go,gl,aO,aT,fO,fT,ax,Y1,rfl,sz⟩;have lx:=aT.length;have lo:=aO.length;have lT:=Zi T;refine⟨_,Xb,Gv _,λz hz=>?_⟩;have s4:=Qf hz (.lst []);refine⟨.list (X0 T),.list [],.lst (s4 _ _ gl) (aT.same s4).dts,.lst Qb .nil,by simp only[Tg];exact Qb7 T (by rw[I8,List.all_eq_true];exactλu J=>(fT u J).1),by simp[Tg,Gr],?_,_,Xb,?_⟩
 ·simp only[Dj,Tj];omega
 have ev:Tq (.list (X0 T)) (.list [])=T.isEmpty:=by
  simp only[Tq];rw[Rx];cases T with
  |nil=>simp[X0]
  |cons t r=>simp[X0]
 rw[ev];rcases List.eq_nil_or_concat T with rfl|⟨Tr,u,eT⟩
 ·refine Zz ?_;have tO:t∈O:=ax.resolve_right (by simp);have Y1:∀(i:Nat)w ps,O[i]?=Ga (Th.mk w ps)->∀p∈ps,∃j:Nat,i<j/\O[j]?=Ga p:=λi w ps e p C=>(Y1 i w ps e p C).resolve_right (by simp);have G:=sm.trans s4;have ac:=s4 _ _ go;have ag:=aO.same s4;generalize upd H2 z (.lst [])=H3 at G ac ag⊢;intro d hd;have s5:=Qf hd (Vh P w d []);have ak:H1 d=Ge:=G.free hd;have aI:H d=Ge:=s1.free ak;have ai:=s5 _ _ ac;have w4:=s5 _ _ (G _ _ w1);have aB:=ag.same s5;have aU:o≠d:=Qc ac hd;have aS:U≠d:=Qc (G _ _ w1) hd;have aX:O.length<=1000:=by omega
  refine⟨_,Xb,o,ov,Xb,Zb.of ai,Qrb (K:=K) (a:=o) (xs:=ov) (λk σ g=>∃(x4 x6:Option V),σ=[Ga v,Ga (.ref U),Ga (.ref o),Ga (.ref l),x4,Ga (.ref d),x6]/\U3 d (upd H3 d (Vh P w d [])) g/\∃kvs:List KE,kvs.length<=k/\g d=Ga (Vh P w d kvs)/\W4 g kvs/\∀u,u∈O.reverse.take k->∃b,Yf kvs (kd u)=Ga (.ref b)/\Z5 g (.ref b) (u.Vm rn))
   ⟨_,_,Xb,U3.refl,[],Gm _,Qb,(λp C=>nomatch C),by simp⟩ (λk σ g _⟨_,_,_,bt,_⟩=>Zb.of (bt _ _ ai aU)) ?_ ?_⟩
  ·rintro k x σ g hk ⟨x4,x6,rfl,bt,kvs,lk,W,X,Y⟩;have aJ:k<ov.length:=by have:=(List.getElem?_eq_some_iff.mp hk).1;simpa using this
   have hx:∃u,O.reverse[k]?=Ga u/\Z5 (upd H3 d (Vh P w d [])) x u:=by rw[List.getElem?_reverse aJ]at hk;obtain⟨u,e1,e2⟩:=aB.get hk;refine⟨u,?_,e2⟩;rw[List.getElem?_reverse (by omega),<-lo];exact e1
   obtain⟨u,eu,hx⟩:=hx;have tu:Qp (upd H3 d (Vh P w d [])) g:=bt.Qk Qb (λxs z=>by cases z);have ao:=hx.Qk tu;have fu:=fO u (List.mem_reverse.mp (List.mem_of_getElem? eu));obtain⟨b,wd,us,ps,rfl,rfl,hb,M⟩:=ao.inv;have ah:=Ql7 fu;have M5:Mp P w g d (λu=>u∈O.reverse.take k) (Th.Vm rn):=⟨kvs,W,X,Y⟩;have parts:∀p∈ps,p∈O.reverse.take k:=λp C=>by
    have e1:O[O.length - 1 - k]?=Ga (Th.mk wd ps):=by rw[List.getElem?_reverse (by omega)]at eu;exact eu
    obtain⟨j,hj,ej⟩:=Y1 _ _ _ e1 p C;have a0:j<O.length:=(List.getElem?_eq_some_iff.mp ej).1;have e2:O.reverse[O.length - 1 - j]?=Ga p:=by rw[List.getElem?_reverse (by omega)];rw[show O.length - 1 - (O.length - 1 - j)=j by omega];exact ej
    have e3:(O.reverse.take k)[O.length - 1 - j]?=Ga p:=by rw[List.getElem?_take_of_lt (by omega)];exact e2
    exact List.mem_of_getElem? e3
   have aQ:ps.length<=3000:=by have h1:=Zi ps;have h2:=fu.2.2.2;simp only[Th.size]at h2;omega
   have a7:=M.length;have al:g U=Ga (.dK Y0):=bt _ _ w4 aS;refine⟨_,Xb,_,Xb,b,_,Xb,Z4.of hb,Vc _ _,λr hr=>?_⟩;rw[Qf9];have s6:=Qf hr (.tup us);refine⟨r,Xb,⟨_,Z4.of Qb⟩,λp C=>?_⟩;refine Qjf (K:=K) Qb (M.same s6) (λp C=>⟨parts p C,(ah p C).1,(ah p C).2.1⟩) (M5.same s6) C (by omega) λH7 ys s7 aM ay=>?_;have Z:=s6.trans s7;have aj:=Z _ _ hb;have aR:=ay.length;rw[List.length_map]at aR;have a9:wd.length<=200:=by have:=fu.2.2.1;simp only[Th.short,GO,EO]at this;exact this.1
   have lq:(("q":Gy)).length=1:=by decide+kernel
   have a6:(("q":Gy)++wd).length<=201:=by rw[Str.length_append,lq];omega
   refine⟨_,Xb,U,Xb,.inl ⟨Y0,.inl (Z _ _ al)⟩,_,Xb,b,_,_,_,Xb,Xb,Z4.of aj,Qz (j:=0) rfl,_,Xb,b,_,_,_,Xb,Xb,Z4.of aj,Qz (j:=0) rfl,_,_,Xb,Xb,by rw[lq,Gu];omega,_,_,Xb,Xb,by rw[lq,Gu];omega,_,Wd.k (k:=.inr wd) (Z _ _ al),?_⟩;rw[Qng];refine⟨by show 1<=Gh;decide,λc1 aE=>?_⟩;have s8:=Qf aE (.lst [.str (rn wd)]);refine⟨_,Xb,c1,p,_,_,Xb,Xb,Qb,s8 _ _ aM,small (by show 1+_<=_;omega),λc2 aF=>?_⟩;have s9:=Qf aF (.lst ([.str (rn wd)]++ys));refine⟨c2,_,Xb,.inl ⟨Zb.of Qb,λc3 aG=>?_⟩⟩;have ar:=Qf aG (.tup ([.str (rn wd)]++ys));have y:=((Z.trans s8).trans s9).trans ar;have av:=(s8.trans s9).trans ar;refine⟨_,Xb,_,Xb,Mp.set (t:=.mk wd ps) (S:=λu=>u∈O.reverse.take k) (F:=Th.Vm rn) (n:=k) ⟨kvs,lk,y _ _ W,Q6 (Qp.of y) X,λt ht=>by obtain⟨b',a1,a2⟩:=Y t ht;exact⟨b',a1,a2.same y⟩⟩ (by omega) fu.1 fu.2.1 (ao.same y) ?_ λaZ aC aP=>?_⟩
   ·simp only[Th.Vm,Qd9];exact .mk Qb (ay.same av)
   ·obtain⟨kvs',l1,l2,l3,l4⟩:=aP;refine⟨_,_,Xb,λc o h1 h2=>aC _ _ (y _ _ (bt _ _ h1 h2)) h2,kvs',l1,l2,l3,λu' D=>l4 u' ?_⟩;rw[List.take_add_one,eu]at D;rcases List.mem_append.mp D with z|z
    ·exact .inl z
    ·exact .inr (by simpa using z)
  ·rintro σ g ⟨x4,x6,rfl,bt,kvs,lk,W,X,Y⟩;have tu:Qp (upd H3 d (Vh P w d [])) g:=bt.Qk Qb (λxs z=>by cases z);obtain⟨b,_,_,_,rfl,_,_,_⟩:=hv.inv;have M5:Mp P w g d (λu=>u∈O.reverse.take ov.length) (Th.Vm rn):=⟨kvs,W,X,Y⟩;have az:t∈O.reverse.take ov.length:=by rw[lo,<-List.length_reverse,List.take_length];exact List.mem_reverse.mpr tO
   refine⟨_,Xb,_,Xb,M5.get az ok dp (((hv.same s1).same G).same s5|>.Qk tu) λc hc=>q c g (λe o' h=>?_) hc⟩;exact bt _ _ (s5 _ _ (G _ _ (s1 _ _ h))) (Qc h aI)
 ·have eT:T=Tr++[u]:=by simpa using eT
  subst eT;have aL:(Tr++[u]).isEmpty=Gp:=by cases Tr<;>rfl
  rw[aL];refine Xf ?_;obtain⟨xr,x,rfl,k1,k2⟩:=O6 aT;have an:Qr (Tr++[u])=Qr Tr+u.size:=by rw[Yv];simp[Qr]
  rw[an]at sz;have aY:=Om u;have aq:=fT u (by simp);refine⟨λaA H'=>∃m',m'<Qr (Tr++[u])/\∃(l:Gc)(ov xs:List V)(O T:List Th)(x4:Option V),aA=[Ga v,Ga (.ref U),Ga (.ref o),Ga (.ref l),x4,Ge,Ge]/\Qv H1 H'/\H1 l=Ge/\o≠l/\H' o=Ga (.lst ov)/\H' l=Ga (.lst xs)/\Zn H' ov O/\Zn H' xs T/\
   (∀u∈O,rg u)/\(∀u∈T,rg u)/\(t∈O\/t∈T)/\(∀(i:Nat)w ps,O[i]?=Ga (Th.mk w ps)->∀p∈ps,(∃j:Nat,i<j/\O[j]?=Ga p)\/p∈T)/\m'=Qr T/\O.length+Qr T<=1000,λaA H' h=>h,?_⟩
  have ad:(xr++[x])[(xr++[x]).length - 1]?=Ga x:=by simp
  refine⟨_,Xb,.inl ⟨Xb,_,Zb.of (s4 _ _ gl)⟩,l,_,_,Xb,Xb,s4 _ _ gl,ad,?_⟩;rw[List.dropLast_concat];have N:U3 l H2 (upd (upd H2 z (.lst [])) l (.lst xr)):=λc o e h=>by rw[Qg h];exact s4 _ _ e
  have l5:(upd (upd H2 z (.lst [])) l (.lst xr)) l=Ga (.lst xr):=Qb;generalize upd (upd H2 z (.lst [])) l (.lst xr)=g at N l5⊢;have t5:Qp H2 g:=N.Qk gl (λxs e=>by cases e);have aW:Qv H1 g:=λc o e=>N c o (sm _ _ e) (Qc e hl);have o5:=N _ _ go L;refine⟨_,Xb,.inl ⟨Xb,_,Zb.of o5⟩,_,Xb,o,ov,_,Xb,Xb,o5,by rw[Gu];omega,?_⟩;have R:U3 o g (upd g o (.lst (ov++[x]))):=λc o' e h=>by rw[Qg h];exact e
  have o6:(upd g o (.lst (ov++[x]))) o=Ga (.lst (ov++[x])):=Qb;generalize upd g o (.lst (ov++[x]))=H6 at R o6⊢;have t6:Qp g H6:=R.Qk o5 (λxs e=>by cases e);have aw:Qv H1 H6:=λc o' e=>R c o' (aW _ _ e) (Qc e am);have l6:=R _ _ l5 (Gn L);have af:=t5.trans t6;have k1:=k1.Qk af;have k2:=k2.Qk af;obtain⟨b0,wd,I,ps,rfl,rfl,aD,M⟩:=k2.inv;have a8:=M.length;have aQ:=Zi ps;have ba:=k1.length;have a5:=Zi Tr;have a3:(Th.mk wd ps).size=Qr ps+1:=by simp only[Th.size]
  refine⟨_,Xb,_,Xb,_,Xb,b0,_,Xb,Z4.of aD,Vc _ _,λr aN=>?_⟩;rw[Qf9];have s7:=Qf aN (.tup I);refine⟨r,I,Xb,.inr (Z4.of Qb),λl2 aK=>?_⟩;have s8:=Qf aK (.lst I);refine⟨l,l2,xr,I,Xb,Xb,s8 _ _ (s7 _ _ l6),Qb,small (by omega),λn hn=>?_⟩;have s9:=Qf hn (.lst (xr++I));have ae:=s7.trans s8;have aa:=ae.trans s9;refine⟨Qr (Tr++ps),by rw[an,Yv];omega,n,ov++[.ref b0],xr++I,O++[Th.mk wd ps],Tr++ps,_,Xb,aw.trans aa,(aw.trans ae).free hn,?_,aa _ _ o6,Qb,((aO.Qk af).append (.one k2)).same aa,(k1.append M).same aa,?_,?_,?_,?_,Xb,?_⟩
  ·exact Qc (ae _ _ o6) hn
  ·intro u' D;rcases List.mem_append.mp D with z|z
   ·exact fO u' z
   ·rw[List.mem_singleton]at z;rw[z];exact aq
  ·intro u' D;rcases List.mem_append.mp D with z|z
   ·exact fT u' (List.mem_append_left _ z)
   ·exact Ql7 aq u' z
  ·rcases ax with z|z
   ·exact .inl (List.mem_append_left _ z)
   ·rcases List.mem_append.mp z with z|z
    ·exact .inr (List.mem_append_left _ z)
    ·rw[List.mem_singleton]at z;rw[z];exact .inl (List.mem_append_right _ List.mem_cons_self)
  ·intro i w' aV e p C;have eO:(O++[Th.mk wd ps])[O.length]?=Ga (Th.mk wd ps):=by simp
   rcases Tb i O.length with hi|hi
   ·rw[List.getElem?_append_left hi]at e;rcases Y1 i w' aV e p C with⟨j,hj,ej⟩|z
    ·exact .inl ⟨j,hj,by rw[List.getElem?_append_left (List.getElem?_eq_some_iff.mp ej).1];exact ej⟩
    ·rcases List.mem_append.mp z with z|z
     ·exact .inr (List.mem_append_left _ z)
     ·rw[List.mem_singleton]at z;exact .inl ⟨O.length,hi,by rw[z];exact eO⟩
   ·have:i=O.length:=by have:=(List.getElem?_eq_some_iff.mp e).1;rw[List.length_append,List.length_singleton]at this;omega
    subst this;rw[eO]at e;cases e;exact .inr (List.mem_append_right _ C)
  ·rw[List.length_append,List.length_singleton,Yv];omega
end
end K07
namespace L2
open PySem PySem.Spec PyProof.Rows
section
variable{X:Cx}
def Quc:V->List V->Hp->VK->Prop:=λx vs H Q=>∃(l:Gc)(xs:List V)(i:Int)(y:V),x=.ref l/\vs=[.int i,y]/\H l=Ga (.lst xs)/\xs.length<Gh/\0<=i/\i<=(xs.length:Int)/\Q .non (upd H l (.lst (xs.take i.toNat++y::xs.drop i.toNat)))
theorem Qou{xs:List V}{us:List Value}(n:Nat)(r:Zs xs us):Zs (xs.take n) (us.take n):=by
 induction r generalizing n with
 |nil=>cases n<;>exact .nil
 |cons h r a=>
  cases n with
  |zero=>exact .nil
  |succ n=>exact .cons h (a n)
theorem Qnz{xs:List V}{us:List Value}(n:Nat)(r:Zs xs us):Zs (xs.drop n) (us.drop n):=by
 induction r generalizing n with
 |nil=>cases n<;>exact .nil
 |cons h r a=>
  cases n with
  |zero=>exact .cons h r
  |succ n=>exact a n
theorem Qtq(li:List Value)(k:Nat)(y:Value):(li.toArray.extract 0 k).push y++li.toArray.extract k=(li.take k++y::li.drop k).toArray:=by apply Array.toList_inj.mp;simp;exact List.take_of_length_le (by rw[List.length_drop];omega)
theorem Qn2:MtM X "list.insert" Quc:=by
 intro pins s σ H x vs v us Q I j rv h;obtain⟨l,xs,i,y,rfl,rfl,c,hz,k,h1,q⟩:=h;cases j;obtain⟨o,b,rfl,⟨t,rfl⟩,g⟩:=vals2 rv;obtain⟨z,its,n,r,m,e⟩:=I.Qhl c;have d:=r.length;have sl:=Gu;have a:Builtin.List.listFitsIndex i=Gf:=by unfold Builtin.List.listFitsIndex;simp only[GO,EO];omega
 refine E9 F.slot_list_insert ⟨_,e,Xb⟩ F.entry_list_insert (F.args_list_insert_3 _ _ _) (PySem.AutoSeq1.list_insert_list_int_val_1 l its.toArray n i t b (by simp[a]) (by rw[List.size_toArray];omega)) ⟨e,?_⟩;refine⟨.non,_,I.Qta (its':=its.take i.toNat++b::its.drop i.toNat) c e ?_ ((Qou _ r).append (.cons g (Qnz _ r))) ?_,Xb,q⟩
 ·have nn:¬i<0:=by omega
  have f:min i.toNat its.toArray.size=i.toNat:=by rw[List.size_toArray];omega
  simp only[nn,T6,f];exact Qtq its i.toNat b
 ·rw[List.length_append,List.length_cons,List.length_take,List.length_drop];omega
end
theorem Qt8(xs:List V)(k:Nat):V4 xs Ge (Ga (k:Int))=xs.take k:=by unfold V4;rw[HT.Jz,HT.Jl];simp
theorem Q15(xs:List V)(k:Nat)(h:k<xs.length):¬(HT.Wh xs.length 0 Ge=0/\HT.Wh xs.length xs.length (Ga (k:Int))=xs.length):=by rw[HT.Jl];rintro⟨_,h2⟩;omega
theorem Qxo{α:Type}{xs:List α}{v:α}(h:xs[xs.length - 1]?=Ga v):atI xs (-1)=Ga v:=by
 rcases List.eq_nil_or_concat xs with rfl|⟨ys,u,e⟩
 ·simp at h
 ·have e:xs=ys++[u]:=by simpa using e
  subst e;have:u=v:=by simpa using h
  rw[this];exact Qrm ys v
end L2
namespace Sb
open PySem PySem.Spec PyProof.Rows L2
variable{α β:Type}{tl:Tl}
mutual
theorem Qfb(φ:Gy->Gy):∀t:Th,(t.Vm φ).depth=t.depth
 |.mk w ps=>by simp only[Th.Vm,Th.depth,Qde φ ps]
theorem Qde(φ:Gy->Gy):∀ts:List Th,Xx (V3 φ ts)=Xx ts
 |[]=>by simp only[V3]
 |t::r=>by simp only[V3,Xx,Qfb φ t,Qde φ r]
end
mutual
theorem Qjg(φ:Gy->Gy):∀t:Th,(t.Vm φ).size=t.size
 |.mk w ps=>by simp only[Th.Vm,Th.size,Qfi φ ps]
theorem Qfi(φ:Gy->Gy):∀ts:List Th,Qr (V3 φ ts)=Qr ts
 |[]=>by simp only[V3]
 |t::r=>by simp only[V3,Qr,Qjg φ t,Qfi φ r]
end
mutual
theorem Qr9:∀t:Th,t.ok=Gf->(t.Vm rn).ok=Gf
 |.mk w ps,h=>by simp only[Th.ok,GO]at h;simp only[Th.Vm,Th.ok,GO];exact⟨Q04 h.1,Qm4 ps h.2⟩
theorem Qm4:∀ts:List Th,okL ts=Gf->okL (V3 rn ts)=Gf
 |[],_=>by simp only[V3,okL]
 |t::r,h=>by simp only[okL,GO]at h;simp only[V3,okL,GO];exact⟨Qr9 t h.1,Qm4 r h.2⟩
end
theorem Qps{t:Th}(h:t.good):(t.Vm rn).good:=⟨Qr9 t h.1,by rw[Qfb];exact h.2.1,by rw[Qjg];exact h.2.2⟩
theorem Qrw{U:List Th}(cl:∀t∈U,∀p∈t.parts,p∈U)(good:∀t∈U,t.good)(len:U.length<=60):Qqw (U.map (Th.Vm rn)):=by
 refine⟨O1 λt b p d=>?_,λt b=>?_,by rw[List.length_map];exact len⟩
 ·obtain⟨u,c,rfl⟩:=List.mem_map.mp b;obtain⟨w,ps⟩:=u;simp only[Th.Vm,Th.parts,Qd9]at d;obtain⟨e,a,rfl⟩:=List.mem_map.mp d;exact List.mem_map.mpr ⟨e,cl _ c e (by simpa only[Th.parts]using a),Xb⟩
 ·obtain⟨u,c,rfl⟩:=List.mem_map.mp b;exact Qps (good u c)
def O5{α:Type}(xs:List α)(i:Nat)(y:α):List α:=xs.take i++y::xs.drop i
theorem Ia{xs:List α}{i:Nat}{y x:α}:x∈O5 xs i y↔x=y\/x∈xs:=by
 unfold O5;rw[List.mem_append,List.mem_cons];have h:x∈xs↔x∈xs.take i\/x∈xs.drop i:=by rw[<-List.mem_append,List.take_append_drop]
 rw[h];constructor
 ·rintro(h|h|h)
  ·exact .inr (.inl h)
  ·exact .inl h
  ·exact .inr (.inr h)
 ·rintro(h|h|h)
  ·exact .inr (.inl h)
  ·exact .inl h
  ·exact .inr (.inr h)
theorem Qqa{xs:List α}{i:Nat}{y:α}:(O5 xs i y).length=xs.length+1:=by unfold O5;rw[List.length_append,List.length_cons,List.length_take,List.length_drop];omega
def Qll(p q:Bool×Th×Th):Prop:=q=p\/q=(p.1,p.2.2,p.2.1)
theorem Qu8{a:Tl}{p q:Bool×Th×Th}(i:Nat)(h:Sub tl a)(c:Qll p q):Sub (tl++[p]) (O5 a i q):=by
 intro b x y m;rcases List.mem_append.mp m with m|m
 ·rcases h b x y m with z|z
  ·exact .inl (Ia.mpr (.inr z))
  ·exact .inr (Ia.mpr (.inr z))
 ·rw[List.mem_singleton]at m;subst m;rcases c with rfl|rfl
  ·exact .inl (Ia.mpr (.inl Xb))
  ·exact .inr (Ia.mpr (.inl Xb))
theorem Qt7{a:Tl}{p q:Bool×Th×Th}(i:Nat)(h:Sub a tl)(c:Qll p q):Sub (O5 a i q) (tl++[p]):=by
 intro b x y m;rcases Ia.mp m with m|m
 ·rcases c with rfl|rfl
  ·exact .inl (List.mem_append_right _ (by rw[m];exact List.mem_cons_self))
  ·obtain⟨d,e,f⟩:=p;simp only[TH]at m;obtain⟨rfl,rfl,rfl⟩:=m;exact .inr (List.mem_append_right _ List.mem_cons_self)
 ·rcases h b x y m with z|z
  ·exact .inl (List.mem_append_left _ z)
  ·exact .inr (List.mem_append_left _ z)
theorem V9{F:α->β->Prop}{xs:List α}{ys:List β}(n:Nat)(r:Paired F xs ys):Paired F (xs.take n) (ys.take n):=by
 induction r generalizing n with
 |nil=>cases n<;>exact .nil
 |cons h r a=>
  cases n with
  |zero=>exact .nil
  |succ n=>exact .cons h (a n)
theorem Qh5{F:α->β->Prop}{xs:List α}{ys:List β}(n:Nat)(r:Paired F xs ys):Paired F (xs.drop n) (ys.drop n):=by
 induction r generalizing n with
 |nil=>cases n<;>exact .nil
 |cons h r a=>
  cases n with
  |zero=>exact .cons h r
  |succ n=>exact a n
theorem Qkg{F:α->β->Prop}{xs:List α}{ys:List β}{x:α}{y:β}(n:Nat)(r:Paired F xs ys)(h:F x y):Paired F (O5 xs n x) (O5 ys n y):=Yh (V9 n r) (.cons h (Qh5 n r))
theorem Qxh{ts:List Th}{d:Dd}(h:∀p∈tl,p.2.1∈ts/\p.2.2∈ts)(g:d.fits ts):∀p∈(Ve tl d).1,p.2.1∈ts/\p.2.2∈ts:=by
 cases d with
 |ask x y=>exact h
 |back i=>
  simp only[Ve];split
  ·exactλp a=>h p (List.mem_of_mem_take a)
  ·exact h
 |tell b x y=>
  simp only[Ve];split
  ·exact h
  ·intro p a;rcases List.mem_append.mp a with z|z
   ·exact h p z
   ·rw[List.mem_singleton]at z;subst z;exact g
theorem Qiz{ts:List Th}:∀{ds:List Dd}{tl:Tl},(∀p∈tl,p.2.1∈ts/\p.2.2∈ts)->(∀d∈ds,d.fits ts)->∀p∈after tl ds,p.2.1∈ts/\p.2.2∈ts
 |[],_,h,_=>h
 |d::ds,tl,h,g=>by have:=Qiz (ds:=ds) (tl:=(Ve tl d).1) (Qxh h (g d List.mem_cons_self)) λe a=>g e (List.mem_cons_of_mem _ a);simp only[after];exact this
theorem Vg.dds{H:Hp}{xs:List V}(h:Vg H xs tl):Uy H xs (tl.map V8):=by
 unfold Vg at h;unfold Uy;induction h with
 |nil=>exact .nil
 |cons h r a=>exact .cons h a
end Sb
namespace K07
open PySem L2 Sb
abbrev lSt(i:Nat):T4:=(Vl Qgc).getD i (.Pass ⟨0,0,0,0⟩)
abbrev lN:List Gy:=["_law_script","_law_things","_law_told","_law_seed","_law_turned","_law_k","_law_deed","_law_called","_law_one","_law_other","_law_due","_law_asks","_law_rows","_law_j","_law_found"]
theorem Qhr:Qy lN ["_law_script"] (Ql Qgc):=by eq_refl
theorem Qmd(ns:List Int)(j k:Nat):∃a:List Int,V4 (ns.map V.int) (Ga (j:Int)) (Ga (k:Int))=a.map V.int/\a.length<=k - j/\(ns.length<=j->a=[]):=by
 refine⟨(ns.drop (min j ns.length)).take (min k ns.length - min j ns.length),?_,?_,λh=>?_⟩
 ·unfold V4;rw[HT.Jl,HT.Jl,List.length_map,List.map_take,List.map_drop]
 ·rw[List.length_take];omega
 ·rw[Nat.min_eq_right h,Nat.sub_eq_zero_of_le (Lg _ _)];simp
theorem Qlu{ts:List Th}{m:Nat}(D:Drawn ts m)(e:m<=4):∀t∈ts,t.good:=λt b=>by obtain⟨j,a⟩:=List.mem_iff_getElem?.mp b;have d:j<ts.length:=(List.getElem?_eq_some_iff.mp a).1;have h1:=D.any j t a;have h2:=D.dep j t a;have c:=D.len;exact⟨D.ok t b,by omega,by omega⟩
theorem Qon(tl:Tl)(x y:Th):TW (kindOf tl x y)=Gf:=by
 unfold kindOf;split
 ·decide+kernel
 ·split<;>decide+kernel
theorem Qs5{H:Hp}{X:Gc->Prop}{tl:Tl}{x y:Th}{e:List V}(B:¬Yy tl)(w:e.length=(tl.map V8++[Dd.ask x y]).length)(ok:Qra H X (tl.map V8++[Dd.ask x y]) e):
  (∀k:Nat,k<tl.length->e[k]?=Ga (.int ((k:Int)+1)))/\∃a z xs,e[tl.length]?=Ga (.ref a)/\H a=Ga (.tup (.str (kindOf tl x y)::z::xs)):=by
 have A:e.length=tl.length+1:=by rw[w,List.length_append,List.length_map,List.length_singleton]
 have g:∀k,¬Yy (tl.take k):=λk z=>B (Jm (Qh1 k) z);have f:∀k,k<=tl.length->after [] ((tl.map V8++[Dd.ask x y]).take k)=tl.take k:=λk j=>by rw[List.take_append_of_le_length (by rw[List.length_map];exact j),<-List.map_take];have:=(Qa5 (tl.take k) [] (by rw[List.nil_append];exact g k)).1;rw[List.nil_append]at this;exact this
 refine⟨λk j=>?_,?_⟩
 ·obtain⟨v,ev⟩:∃v,e[k]?=Ga v:=⟨_,List.getElem?_eq_getElem (by omega)⟩;obtain⟨p,ep⟩:∃p,tl[k]?=Ga p:=⟨_,List.getElem?_eq_getElem j⟩;have l:(tl.map V8++[Dd.ask x y])[k]?=Ga (V8 p):=by rw[List.getElem?_append_left (by rw[List.length_map];exact j),List.getElem?_map,ep];rfl
  have h:=ok k _ v l ev;rw[f k (by omega)]at h;obtain⟨b,s,t⟩:=p;have o:¬Yy (tl.take k++[(b,s,t)]):=by have:=g (k+1);rw[List.take_add_one,ep]at this;exact this
  have lk:(tl.take k).length=k:=by rw[List.length_take];omega
  rcases h with⟨_,h⟩|⟨d,n,a,c,lv,ls,_,_,h,_⟩
  ·rw[ev,h,lk]
  ·exact absurd ⟨a,c,List.mem_of_getElem? h.1,h.2.1⟩ o
 ·obtain⟨v,ev⟩:∃v,e[tl.length]?=Ga v:=⟨_,List.getElem?_eq_getElem (by omega)⟩;have l:(tl.map V8++[Dd.ask x y])[tl.length]?=Ga (.ask x y):=by rw[List.getElem?_append_right (by rw[List.length_map];exact Gm _),List.length_map,L8];rfl
  have h:=ok _ _ v l ev;rw[f _ (Gm _),List.take_length]at h;have hd:=h.head;have u:(Ve tl (.ask x y)).2=.str (kindOf tl x y):=rfl;rw[u]at hd;obtain⟨d,q,z,zs,m,hz⟩:∃d q z zs,v=.ref d/\H d=Ga (.tup (q::z::zs)):=by
   rcases h with⟨_,d,lv,ls,h,h',_⟩|⟨_,d,n,a,c,lv,ls,h,h',_⟩|⟨_,_,d,E,F,C,D,S,h,h',_⟩
   ·exact⟨_,_,_,_,h,h'⟩
   ·exact⟨_,_,_,_,h,h'⟩
   ·exact⟨_,_,_,_,h,h'⟩
  rcases hd with i|⟨a,xs,i,r⟩
  ·rw[m]at i;cases i
  ·rw[m]at i;cases i;rw[hz]at r;cases r;exact⟨d,z,zs,by rw[ev,m],hz⟩
section
variable{P:Gj}{w:Gs}{K:PySem.W.Frag}{mg:Gy->Option Value}{base:Heap}{f:Gc}{cdv:Value}{A:Tv}{outer:List SM}{s:Gi}{Hi:Hp}{E:XK}
abbrev XL(P:Gj)(w:Gs)(K:PySem.W.Frag)(mg:Gy->Option Value)(base:Heap)(f:Gc)(cdv:Value)(A:Tv)(outer:List SM)(s:Gi)(Hi:Hp)(E:XK):Cx:=(Qhj Ya P w K mg base lN "law" (Ql Qgc) f cdv A outer s Hi E).nox
theorem Qrr(B:Blt mg):∃t,PS (XL P w K mg base f cdv A outer s Hi E) (lSt 4) t/\∀(a r d C:Gc)(n:Int)(tv:List V)(tl:Tl)(H0:Hp)
  (Y:H0 C=Ga (.lst tv))(ht:Vg H0 tv tl)(hl:tl.length<=10)(W:H0 d=Ga (.lst []))(ne:C≠d),
  Tr t (λσ H=>H=H0/\σ=[Ga (.ref a),Ga (.ref r),Ga (.ref C),Ga (.int n),Ga (.ref d),Ge,Ge,Ge,Ge,Ge,Ge,Ge,Ge,Ge,Ge])
   (λσ H=>∃uv ul D G,σ=[Ga (.ref a),Ga (.ref r),Ga (.ref C),Ga (.int n),Ga (.ref d),D,G,Ge,Ge,Ge,Ge,Ge,Ge,Ge,Ge]/\U3 d H0 H/\H d=Ga (.lst uv)/\Vg H uv ul/\ul.length=tl.length/\Sub tl ul/\Sub ul tl):=by
 have nd:=Qhr.nd;refine⟨_,(Z6 Gq rfl (Wz rfl B.range (Qa (Qo Yw rfl B.len PySem.boot_len (Qa (pv 2) Qe)) Qe)) (Z2 5 nd)
  (Qd (Qs 6 nd (Qn Ze (pv 2) (pv 5)))
  (Qd (Zr (Qu Wu (Zf Xu (Zf Wa (pv 3) (Zf Ja (pv 5) Qj)) Qj) Qj (Za _))
  (Qh (Qs 6 nd (Q8 (Qa (Qn Q3 (pv 6) Qj) (Qa (Qn Q3 (pv 6) Qj) (Qa (Qn Q3 (pv 6) Qj) Qe)))))) Q9)
  (Qh (Zc (Xn PySem.F.plainAttrs_list PySem.F.slot_list_insert PySem.F.type_list_insert Qn2 (pv 4) (Qa (Zf Xu (Zf Ja (Zf Wa (pv 3) Qj) (Zf Qjn Qj (pv 5))) (Zf Ja (Qo Yw rfl B.len PySem.boot_len (Qa (pv 4) Qe)) Qj)) (Qa (pv 6) Qe)))))))),?_⟩
 intro a r d C n tv tl H0 Y ht hl W ne;rintro D' σ H ⟨rfl,rfl⟩ kk;have ac:tv.length=tl.length:=Paired.length ht;refine⟨_,Xb,_,_,Xb,.inl ⟨_,Zb.of Y,Xb⟩,_,Xb,by omega,by omega,W5 (lo:=0) (n:=((tv.length:Int)).toNat) (λk σ H1=>∃uv ul D G,σ=[Ga (.ref a),Ga (.ref r),Ga (.ref C),Ga (.int n),Ga (.ref d),D,G,Ge,Ge,Ge,Ge,Ge,Ge,Ge,Ge]/\U3 d H H1/\H1 d=Ga (.lst uv)/\Vg H1 uv ul/\ul.length=k/\Sub (tl.take k) ul/\Sub ul (tl.take k))
  ⟨[],[],_,_,Xb,U3.refl,W,.nil,Xb,(λb x y m=>by simp at m),(λb x y m=>by simp at m)⟩ ?_ ?_⟩
 ·rintro k σ H1 hk ⟨uv,ul,D,G,rfl,L,g,S,g3,T,U⟩;have hk:k<tl.length:=by omega
  have ad:uv.length=ul.length:=Paired.length S;obtain⟨x,ex⟩:∃x,tv[k]?=Ga x:=⟨_,List.getElem?_eq_getElem (by omega)⟩;have O:Qp H H1:=L.Qk W (λxs z=>by cases z);obtain⟨p,ep,e,v1,v2,rfl,he,t1,t2⟩:=Qw ht ex;have l:=O _ _ he;have Z:=L _ _ Y ne;have et:tl.take (k+1)=tl.take k++[p]:=by rw[List.take_add_one,ep];rfl
  refine⟨_,Xb,_,Xb,C,tv,_,_,Xb,Xb,Zb.of Z,(by rw[DF];exact Qz ex),?_⟩;refine⟨_,Xb,_,Xb,_,_,Xb,Xb,_,_,Xb,Xb,⟨by omega,by omega⟩,_,_,Xb,Xb,(by show(0:Int)<2;decide),Xb,_,Xb,?_⟩;have fin:∀{H2:Hp}{q:Bool×Th×Th}{y:V}{R:Option V},Qv H1 H2->Qll p q->(∃e v u,y=.ref e/\H2 e=Ga (.tup [.str (tw q.1),v,u])/\Z5 H2 v q.2.1/\Z5 H2 u q.2.2)->∀i:Nat,
    ∃Q ul D G,[Ga (V.ref a),Ga (.ref r),Ga (.ref C),Ga (.int n),Ga (.ref d),Ga (.int (0+(k:Int))),R,Ge,Ge,Ge,Ge,Ge,Ge,Ge,Ge]=[Ga (V.ref a),Ga (.ref r),Ga (.ref C),Ga (.int n),Ga (.ref d),D,G,Ge,Ge,Ge,Ge,Ge,Ge,Ge,Ge]/\U3 d H (upd H2 d (.lst (O5 uv i y)))/\(upd H2 d (.lst (O5 uv i y))) d=Ga (.lst Q)/\Vg (upd H2 d (.lst (O5 uv i y))) Q ul/\ul.length=k+1/\Sub (tl.take (k+1)) ul/\Sub ul (tl.take (k+1)):=by
   intro H2 q y R s2 N hy i;have M:=s2 _ _ g;have aa:Qp H1 (upd H2 d (.lst (O5 uv i y))):=(Qp.of s2).trans (Zh λxs z=>by rw[M]at z;cases z);have I:Qp H2 (upd H2 d (.lst (O5 uv i y))):=Zh λxs z=>by rw[M]at z;cases z
   obtain⟨e',v',u',rfl,h2,h3,h4⟩:=hy;refine⟨_,O5 ul i q,_,_,Xb,λc o h1 h2=>by rw[Qg h2];exact s2 _ _ (L _ _ h1 h2),Qb,Qkg i (S.Qk aa) ⟨e',v',u',Xb,I _ _ h2,h3.Qk I,h4.Qk I⟩,by rw[Qqa,g3],?_,?_⟩
   ·rw[et];exact Qu8 i T N
   ·rw[et];exact Qt7 i U N
  have J:=Tu (n / 3+2*(0+(k:Int))) (show((uv.length:Int)+1)≠0 by omega);have ab:=Te (n / 3+2*(0+(k:Int))) (show(0:Int)<(uv.length:Int)+1 by omega);refine Jh (λc=>?_) (λc=>?_)
  ·refine⟨_,Xb,e,_,_,_,Xb,Xb,Z4.of l,Qz (j:=0) rfl,_,Xb,e,_,_,_,Xb,Xb,Z4.of l,Qz (j:=2) rfl,_,Xb,e,_,_,_,Xb,Xb,Z4.of l,Qz (j:=1) rfl,by show 3<=Gh;decide,λc2 X=>?_⟩;have s2:=Qf X (.tup [.str (tw p.1),v2,v1]);refine⟨_,Xb,.inl ⟨Xb,_,Zb.of (s2 _ _ g)⟩,_,Xb,_,_,Xb,Xb,⟨by decide,by decide⟩,_,Xb,_,_,Xb,Xb,.inl ⟨by decide,by decide⟩,_,_,Xb,Xb,_,Xb,_,_,Xb,.inl ⟨_,Zb.of (s2 _ _ g),Xb⟩,_,_,Xb,Xb,_,_,Xb,Xb,(by omega),_,Xb,d,uv,_,_,Xb,Xb,s2 _ _ g,by rw[Gu];omega,J,by omega,?_⟩;exact fin s2 (.inr Xb) ⟨c2,v2,v1,Xb,Qb,(t2.Qk O).same s2,(t1.Qk O).same s2⟩ _
  ·refine⟨_,Xb,.inl ⟨Xb,_,Zb.of g⟩,_,Xb,_,_,Xb,Xb,⟨by decide,by decide⟩,_,Xb,_,_,Xb,Xb,.inl ⟨by decide,by decide⟩,_,_,Xb,Xb,_,Xb,_,_,Xb,.inl ⟨_,Zb.of g,Xb⟩,_,_,Xb,Xb,_,_,Xb,Xb,(by omega),_,Xb,d,uv,_,_,Xb,Xb,g,by rw[Gu];omega,J,by omega,?_⟩;exact fin (λ_ _ h=>h) (.inl Xb) ⟨e,v1,v2,Xb,l,t1.Qk O,t2.Qk O⟩ _
 ·rintro σ H1 ⟨uv,ul,D,G,rfl,L,g,S,g3,T,U⟩;have e7:((tv.length:Int)).toNat=tl.length:=by omega
  rw[e7,List.take_length]at T U;exact kk _ _ ⟨uv,ul,D,G,Xb,L,g,S,by omega,T,U⟩
theorem Qqq{G:Gc}{Y:Td}(u:Yd 1 (XL P w K mg base f cdv A outer s Hi E).A)(U:Qt P w K mg base Ya 1 G Y ["_law_thing"] Qrv)(kR:KI K G)(X:Binds K Y ["_law_thing"] [])(mR:MG mg "_law_recalled" G):
  ∃t,PS (XL P w K mg base f cdv A outer s Hi E) (lSt 6) t/\∀(a r b h u0:Gc)(n:Int)(B g:Option V)(tv:List V)(tl:Tl)(H0:Hp)
  (N:H0 h=Ga (.lst tv))(O:Vg H0 tv tl)(hl:tl.length<=10)(gd:∀p∈tl,rg p.2.1/\rg p.2.2)(L:H0 b=Ga (.lst []))(ne:h≠b),
  Tr t (λσ H=>H=H0/\σ=[Ga (.ref a),Ga (.ref r),Ga (.ref h),Ga (.int n),Ga (.ref u0),B,g,Ga (.ref b),Ge,Ge,Ge,Ge,Ge,Ge,Ge])
   (λσ H=>∃uv g,σ=[Ga (.ref a),Ga (.ref r),Ga (.ref h),Ga (.int n),Ga (.ref u0),B,g,Ga (.ref b),Ge,Ge,Ge,Ge,Ge,Ge,Ge]/\U3 b H0 H/\H b=Ga (.lst uv)/\Vg H uv (tl.map (Ui rn))):=by
 have nd:=Qhr.nd;refine⟨_,(Z6 Gq rfl (Yn (pv 2)) (Z2 6 nd)
  (Qh (Zc (Xn PySem.F.plainAttrs_list PySem.F.slot_list_append PySem.F.type_list_append Zq (pv 7) (Qa (Q8 (Qa (Qn Q3 (pv 6) Qj) (Qa (Zv U u rfl mR kR X .nil Q4 (Qa (Qn Q3 (pv 6) Qj) Qe)) (Qa (Zv U u rfl mR kR X .nil Q4 (Qa (Qn Q3 (pv 6) Qj) Qe)) Qe)))) Qe))))),?_⟩
 intro a r b h u0 n B g tv tl H0 N O hl gd L ne;rintro D' σ H ⟨rfl,rfl⟩ kk;have Q:tv.length=tl.length:=Paired.length O;refine⟨_,Xb,h,Xb,⟨_,Zb.of N⟩,Yz (K:=K) (a:=h) (xs:=tv) (λk σ H1=>∃uv g,σ=[Ga (.ref a),Ga (.ref r),Ga (.ref h),Ga (.int n),Ga (.ref u0),B,g,Ga (.ref b),Ge,Ge,Ge,Ge,Ge,Ge,Ge]/\U3 b H H1/\H1 b=Ga (.lst uv)/\Vg H1 uv ((tl.take k).map (Ui rn)))
  ⟨[],_,Xb,U3.refl,L,by simp;exact .nil⟩ (λk σ H1 _⟨_,_,_,m,_⟩=>Zb.of (m _ _ N ne)) ?_ ?_⟩
 ·rintro k x σ H1 ex ⟨uv,g,rfl,m,y,q⟩;have R:uv.length=((tl.take k).map (Ui rn)).length:=Paired.length q;rw[List.length_map,List.length_take]at R;have S:Qp H H1:=m.Qk L (λxs z=>by cases z);obtain⟨p,ep,e,v1,v2,rfl,he,t1,t2⟩:=Qw O ex;have i:=S _ _ he;obtain⟨I,J⟩:=gd p (List.mem_of_getElem? ep);refine⟨_,Xb,.inl ⟨Xb,_,Zb.of y⟩,_,Xb,e,_,_,_,Xb,Xb,Z4.of i,Qz (j:=0) rfl,_,Xb,e,_,_,_,Xb,Xb,Z4.of i,Qz (j:=1) rfl,v1,p.2.1,Xb,t1.Qk S,I,λC H2 s2 i1=>?_⟩;refine⟨_,Xb,e,_,_,_,Xb,Xb,Z4.of (s2 _ _ i),Qz (j:=2) rfl,v2,p.2.2,Xb,(t2.Qk S).same s2,J,λD W s3 i2=>?_⟩;refine⟨by show 3<=Gh;decide,λv M=>?_⟩;have s4:=Qf M (.tup [.str (tw p.1),.ref C,.ref D]);have l:=(s2.trans s3).trans s4;have Z:=l _ _ y;refine⟨b,uv,_,Xb,Xb,Z,by rw[Gu];omega,?_⟩;have d:Qp (upd W v (.tup [.str (tw p.1),.ref C,.ref D])) (upd (upd W v (.tup [.str (tw p.1),.ref C,.ref D])) b (.lst (uv++[.ref v]))):=Zh λxs z=>by rw[Z]at z;cases z
  have T:=(Qp.of l).trans d;refine⟨_,_,Xb,λc o h1 h2=>by rw[Qg h2];exact l _ _ (m _ _ h1 h2),Qb,?_⟩;rw[List.take_add_one,ep,List.map_append];exact Yh (q.Qk T) (.cons ⟨v,_,_,Xb,d _ _ Qb,((i1.same s3).same s4).Qk d,(i2.same s4).Qk d⟩ .nil)
 ·rintro σ H1 ⟨uv,g,rfl,m,y,q⟩;rw[Q,List.take_length]at q;exact kk _ _ ⟨uv,g,Xb,m,y,q⟩
structure Bk3(H:Hp)(n:Nat)(kd:Gy)(a xa:Gc):Prop where
 ex:∃(tv:List V)(tl:Tl)(U:List Th)(x y:Th)(v1 v2:V),H a=Ga (.lst tv)/\Vg H tv tl/\tl.length=n/\¬Yy tl/\H xa=Ga (.tup [.str "ask",v1,v2])/\Z5 H v1 x/\Z5 H v2 y/\kindOf tl x y=kd/\Qqw U/\(∀p∈tl,p.2.1∈U/\p.2.2∈U)/\x∈U/\y∈U
theorem Bk3.same{H H':Hp}(e:Qv H H'){n:Nat}{kd:Gy}{a b:Gc}(h:Bk3 H n kd a b):Bk3 H' n kd a b:=by obtain⟨tv,tl,U,x,y,k,l,h1,h2,c,d,f,g,i,j⟩:=h.ex;exact⟨tv,tl,U,x,y,k,l,e _ _ h1,h2.Qk (Qp.of e),c,d,e _ _ f,g.same e,i.same e,j⟩
theorem Qrs{fW fH fS:Gc}{dW dH dS:Td}{nW:Nat}{pW:Gy}(B:Blt mg)(J:Yd 1 (XL P w K mg base f cdv A outer s Hi E).A)(af:Yd nW (XL P w K mg base f cdv A outer s Hi E).A)
  (GW:Qt P w K mg base Ya nW fW dW [pW] Qjp)(kW:KI K fW)(bW:Binds K dW [pW] [])(mW:MG mg "answers" fW)
  (GH:Qt P w K mg base Ya 1 fH dH ["_law_found"] (Qfw K))(kH:KI K fH)(bH:Binds K dH ["_law_found"] [])(mH:MG mg "_law_whole" fH)
  (GS:Qt P w K mg base Ya 1 fS dS ["_law_found","_law_due"] Qxf)(kS:KI K fS)(bS:Binds K dS ["_law_found","_law_due"] [])(mS:MG mg "_law_so" fS):
  ∃t,PS (XL P w K mg base f cdv A outer s Hi E) (lSt 13) t/\∀(W X Y Z e x6 x7 x8 x9:Option V)(L q r:Gc)(tv:List V)(kd:Gy)(M N O u C D:Gc)(H0:Hp)
  (hq:H0 L=Ga (.lst tv))(hl:tv.length<=10)(F:TW kd=Gf)(G:H0 q=Ga (.lst [.ref u,.ref C,.ref D]))(I:H0 r=Ga (.lst [.ref M,.ref N,.ref O]))
  (b0:Bk3 H0 tv.length kd M u)(b1:Bk3 H0 tv.length kd N C)(b2:Bk3 H0 tv.length kd O D),
  Tr t (λσ H=>H=H0/\σ=[W,X,Ga (.ref L),Y,Z,e,x6,x7,x8,x9,Ga (.str kd),Ga (.ref q),Ga (.ref r),Ge,Ge])
   (λσ H=>True):=by
 have nd:=Qhr.nd;refine⟨_,(Z6 Gq rfl (Wz rfl B.range (Qa Qj Qe)) (Z2 13 nd)
  (Qd (Qs 14 nd (Zv GW af rfl mW kW bW .nil Q4 (Qa (Zf Vy (Qn Ze (pv 12) (pv 13)) (Zj (Qa (Qn Ze (pv 11) (pv 13)) Qe))) Qe)))
  (Qd (Zr (PW.pt (Qbh (Jn (Xz (Qo Xd rfl B.isinstance Gz (Qa (pv 14) (Qa (Xi (v:=.ty "list") rfl B.list TD Xb) Qe))))) (R5 (Qu Ih (Qo Yw rfl B.len PySem.boot_len (Qa (pv 14) Qe)) (Zf Ja (Qo Yw rfl B.len PySem.boot_len (Qa (pv 2) Qe)) Qj) (Za _)))))
  (Qh (Qx Wk)) Q9)
  (Qd (Z6 Gq rfl (Wz rfl B.range (Qa (Qo Yw rfl B.len PySem.boot_len (Qa (pv 2) Qe)) Qe)) (Z2 5 nd)
  (Qh (Zr (PW.pt (Qbh (Jn (Xz (Zv GH J rfl mH kH bH .nil Q4 (Qa (Qn Ze (pv 14) (pv 5)) Qe)))) (R5 (Qu Ih (Qn Ze (pv 14) (pv 5)) (Zf Ja (pv 5) Qj) (Za _)))))
  (Qh (Qx Wk)) Q9)))
  (Qh (Zr (PW.pt (Qbh (Jn (Xz (Qo Xd rfl B.isinstance Gz (Qa (Qn Ze (pv 14) (Ou U7 Qj)) (Qa (Xi (v:=.ty "tuple") rfl B.tuple Tz Xb) Qe))))) (R5 (Jn (Xz (Zv GS J rfl mS kS bS .nil Q4 (Qa (Yp Jd (Qn Ze (pv 14) (Ou U7 Qj)) Xw (Y2 Qj)) (Qa (Q8 (Qa (pv 10) Qe)) Qe))))))))
  (Qh (Qx Wk)) Q9)))))),?_⟩
 intro W X Y Z e x6 x7 x8 x9 L q r tv kd M N O u C D H0 hq hl F G I b0 b1 b2;rintro D' σ H ⟨rfl,rfl⟩ kk;refine⟨_,Xb,by decide,by decide,W5 (lo:=0) (n:=Dp 3) (λk σ H1=>∃e Q R,σ=[W,X,Ga (.ref L),Y,Z,e,x6,x7,x8,x9,Ga (.str kd),Ga (.ref q),Ga (.ref r),Q,R]/\Qv H H1)
  ⟨_,_,_,Xb,λ_ _ h=>h⟩ ?_ (λσ H1 _=>kk _ _ Ti)⟩
 rintro j σ H1 hj ⟨e,Q,R,rfl,T⟩;have hj:j<3:=hj;obtain⟨S,g,er,ea,bj⟩:∃S g,[V.ref M,.ref N,.ref O][j]?=Ga (.ref S)/\[V.ref u,.ref C,.ref D][j]?=Ga (.ref g)/\Bk3 H tv.length kd S g:=by
  match j,hj with
  |0,_=>exact⟨M,u,Xb,Xb,b0⟩
  |1,_=>exact⟨N,C,Xb,Xb,b1⟩
  |2,_=>exact⟨O,D,Xb,Xb,b2⟩
 obtain⟨m,tl,U,x,y,v1,v2,h1,h2,h3,h4,h5,h6,h7,h8,hU,h9,hx,hy⟩:=(bj.same T).ex;have ak:m.length=tl.length:=Paired.length h2;refine⟨_,Xb,_,Xb,r,_,_,_,Xb,Xb,Zb.of (T _ _ I),(by rw[DF];exact Qz er),_,Xb,_,Xb,q,_,_,_,Xb,Xb,Zb.of (T _ _ G),(by rw[DF];exact Qz ea),by show 1<=Gh;decide,λc1 ab=>?_⟩;have s1:=Qf ab (.lst [.ref g]);refine⟨S,c1,_,_,Xb,Xb,s1 _ _ h1,Qb,small (by show _+1<=_;omega),λc2 ac=>?_⟩;have s2:=Qf ac (.lst (m++[.ref g]));have b:=s1.trans s2;refine⟨c2,m++[.ref g],tl.map V8++[Dd.ask x y],U,Xb,Qb,Yh ((h2.dds).same b) (.cons (show Qee _ (.ref g) (.ask x y)from⟨g,v1,v2,Xb,b _ _ h5,h6.same b,h7.same b⟩) .nil),hU,?_,?_,λa l H2 g2 _ o c ok=>?_⟩
 ·intro d hd;rcases List.mem_append.mp hd with z|z
  ·obtain⟨p,hp,rfl⟩:=List.mem_map.mp z;exact h9 p hp
  ·rw[List.mem_singleton]at z;subst z;exact⟨hx,hy⟩
 ·rw[List.length_append,List.length_map,List.length_singleton];omega
 obtain⟨ag,av,zv,xv,ah,i⟩:=Qs5 h4 c ok;rw[List.length_append,List.length_map,List.length_singleton]at c;have sA:=(T.trans b).trans g2;rw[h8]at i;refine⟨_,Xb,_,_,_,Gf,Xb,.lst o,Qs0,Gf,Xb,Zz ?_⟩;refine⟨_,Xb,_,_,Xb,.inl ⟨_,Zb.of o,Xb⟩,_,Xb,_,_,Xb,.inl ⟨_,Zb.of (sA _ _ hq),Xb⟩,_,_,Xb,Xb,Xb,_,Xb,?_⟩;rw[W6];have aa:(((l.length:Nat):Int)==((tv.length:Nat):Int)+1)=Gf:=by rw[c,h3];simp
 rw[aa];refine Zz ?_;refine⟨_,Xb,_,_,Xb,.inl ⟨_,Zb.of (sA _ _ hq),Xb⟩,_,Xb,by omega,by omega,W5 (lo:=0) (n:=((tv.length:Int)).toNat) (λk σ H3=>∃e,σ=[W,X,Ga (.ref L),Y,Z,e,x6,x7,x8,x9,Ga (.str kd),Ga (.ref q),Ga (.ref r),Ga (.int (0+(j:Int))),Ga (.ref a)]/\H3=H2)
  ⟨_,Xb,Xb⟩ ?_ ?_⟩
 ·rintro k σ H3 hk ⟨e,rfl,rfl⟩;have hk:k<tl.length:=by omega
  have ek:=ag k hk;have ai:atI l (0+(k:Int))=Ga (.int ((k:Int)+1)):=by rw[DF];exact Qz ek
  refine⟨_,Xb,_,Xb,a,l,_,_,Xb,Xb,Zb.of o,ai,_,_,Gf,Gp,Xb,.int _,Qsq,Qjx,Gf,Xb,Zz ?_⟩;refine⟨_,Xb,_,Xb,a,l,_,_,Xb,Xb,Zb.of o,ai,_,Xb,_,_,Xb,Xb,Xb,_,Xb,?_⟩;rw[W6];have:((k:Int)+1==0+(k:Int)+1)=Gf:=by simp
  rw[this];exact Zz ⟨_,Xb,Xb⟩
 ·rintro σ H3 ⟨e,rfl,rfl⟩;have al:atI l (-1)=Ga (.ref av):=Qxo (by rw[c];simpa using ah);refine⟨_,Xb,_,Xb,a,l,_,_,Xb,Xb,Zb.of o,al,_,_,_,Gf,Xb,.tup i,Qqy,Gf,Xb,Zz ?_⟩;refine⟨_,Xb,_,Xb,a,l,_,_,Xb,Xb,Zb.of o,al,_,Xb,av,_,Xb,Z4.of i,Q15 _ 1 (by simp),λc3 ad=>?_⟩;rw[show V4 (V.str kd::zv::xv) Ge (Ga 1)=[V.str kd]from Qt8 _ 1];have s3:=Qf ad (.tup [.str kd]);refine⟨_,Xb,by show 1<=Gh;decide,λc4 ae=>?_⟩;have s4:=Qf ae (.tup [.str kd]);refine⟨_,_,.tuple [.str kd],Xb,.tup (s4 _ _ Qb) (.cons (.str _) .nil),.tup Qb (.cons (.str _) .nil),by simp[Tg,Gr,F],by simp[Oe,Z1],by simp[Dj,Tj],λH5 g5=>⟨Gf,Xb,Zz ?_⟩⟩;exact⟨_,_,_,Xb,((sA.trans s3).trans s4).trans g5⟩
theorem Qzs{ts:List Th}{m:Nat}(D:Drawn ts m)(b:m<=4):∀t∈ts,rg t:=λt a=>by obtain⟨h1,h2,c⟩:=Qlu D b t a;exact⟨h1,h2,D.sh t a,by omega⟩
theorem Qyf{M nW:Nat}{f0 fD fE fF fA fR fN fW fH fS:Gc}{fd dD dE dF dA dR dN dW dH dS:Td}{pW:Gy}(F:Va K "law" "law" Qgc f0 fd)(B:Blt mg)(hM:3<=M)(hW:nW<=M)
  (GD:Qt P w K mg base Ya 2 fD dD ["_law_cells"] (Qmy K))(kD:KI K fD)(bD:Binds K dD ["_law_cells"] [])(mD:MG mg "_law_drawn_things" fD)
  (GE:Qt P w K mg base Ya 2 fE dE ["_law_cells","_law_things"] (Ql4 K))(kE:KI K fE)(bE:Binds K dE ["_law_cells","_law_things"] [])(mE:MG mg "_law_drawn_deeds" fE)
  (GF:Qt P w K mg base Ya 3 fF dF ["_law_deeds"] Qmk)(kF:KI K fF)(bF:Binds K dF ["_law_deeds"] [])(mF:MG mg "_law_after" fF)
  (GA:Qt P w K mg base Ya 1 fA dA ["_law_script","_law_k"] (Qzx K))(kA:KI K fA)(bA:Binds K dA ["_law_script","_law_k"] [])(mA:MG mg "_law_at" fA)
  (GR:Qt P w K mg base Ya 1 fR dR ["_law_thing"] Qrv)(kR:KI K fR)(bR:Binds K dR ["_law_thing"] [])(mR:MG mg "_law_recalled" fR)
  (GN:Qt P w K mg base Ya 2 fN dN ["_law_told","_law_one","_law_other"] Qqm)(kN:KI K fN)(bN:Binds K dN ["_law_told","_law_one","_law_other"] [])(mN:MG mg "_law_kind" fN)
  (GW:Qt P w K mg base Ya nW fW dW [pW] Qjp)(kW:KI K fW)(bW:Binds K dW [pW] [])(mW:MG mg "answers" fW)
  (GH:Qt P w K mg base Ya 1 fH dH ["_law_found"] (Qfw K))(kH:KI K fH)(bH:Binds K dH ["_law_found"] [])(mH:MG mg "_law_whole" fH)
  (GS:Qt P w K mg base Ya 1 fS dS ["_law_found","_law_due"] Qxf)(kS:KI K fS)(bS:Binds K dS ["_law_found","_law_due"] [])(mS:MG mg "_law_so" fS):
  Qt P w K mg base Ya (M+1) f0 fd ["_law_script"] (Qnc K):=by
 refine F.ok Qhr (λvs H Q E h=>?_) (λcdv A outer s H vs Q E hr h=>?_)
 ·obtain⟨a,ns,rfl,_⟩:=h;rfl
 obtain⟨a,ns,rfl,hS,bb,q⟩:=h;have nd:=Qhr.nd;have aV:Yd 3 _:=hr.mono hM;have ah:Yd 2 _:=hr.mono (by omega);have v:Yd 1 _:=hr.mono (by omega);have aW:Yd nW _:=hr.mono hW;obtain⟨tT,a1,a5⟩:=Qrr (P:=P) (w:=w) (K:=K) (mg:=mg) (base:=base) (f:=f0) (cdv:=cdv) (A:=A) (outer:=outer) (s:=s) (Hi:=H) (E:=E) B;obtain⟨tC,a0,stC⟩:=Qqq (P:=P) (w:=w) (K:=K) (mg:=mg) (base:=base) (f:=f0) (cdv:=cdv) (A:=A) (outer:=outer) (s:=s) (Hi:=H) (E:=E) v GR kR bR mR;obtain⟨tA,aZ,a4⟩:=Qrs (P:=P) (w:=w) (K:=K) (mg:=mg) (base:=base) (f:=f0) (cdv:=cdv) (A:=A) (outer:=outer) (s:=s) (Hi:=H) (E:=E) B v aW GW kW bW mW GH kH bH mH GS kS bS mS;refine⟨_,(Qd (Qs 1 nd (Zv GD ah rfl mD kD bD .nil Q4 (Qa (Yp Jf (pv 0) (Y2 Qj) (Y2 Qj)) Qe)))
  (Qd (Qs 2 nd (Zv GF aV rfl mF kF bF .nil Q4 (Qa (Zv GE ah rfl mE kE bE .nil Q4 (Qa (Yp Jf (pv 0) (Y2 Qj) (Y2 Qj)) (Qa (pv 1) Qe))) Qe)))
  (Qd (Qs 3 nd (Zv GA v rfl mA kA bA .nil Q4 (Qa (pv 0) (Qa Qj Qe))))
  (Qd (Qs 4 nd (Zj Qe))
  (Qd a1
  (Qd (Qs 7 nd (Zj Qe))
  (Qd a0
  (Qd (Qs 8 nd (Qn Ze (pv 1) (Zf Xu (Zf Wa (pv 3) Qj) (Qo Yw rfl B.len PySem.boot_len (Qa (pv 1) Qe)))))
  (Qd (Qs 9 nd (Qn Ze (pv 1) (Zf Xu (Zf Ja (Zv GA v rfl mA kA bA .nil Q4 (Qa (pv 0) (Qa Qj Qe))) Qj) (Qo Yw rfl B.len PySem.boot_len (Qa (pv 1) Qe)))))
  (Qd (Qs 10 nd (Zv GN ah rfl mN kN bN .nil Q4 (Qa (pv 2) (Qa (pv 8) (Qa (pv 9) Qe)))))
  (Qd (Qs 11 nd (Zj (Qa (Q8 (Qa Q5 (Qa (pv 8) (Qa (pv 9) Qe)))) (Qa (Q8 (Qa Q5 (Qa (pv 9) (Qa (pv 8) Qe)))) Qe))))
  (Qd (Zc (Xn PySem.F.plainAttrs_list PySem.F.slot_list_append PySem.F.type_list_append Zq (pv 11) (Qa (Q8 (Qa Q5 (Qa (Zv GR v rfl mR kR bR .nil Q4 (Qa (pv 8) Qe)) (Qa (Zv GR v rfl mR kR bR .nil Q4 (Qa (pv 9) Qe)) Qe)))) Qe)))
  (Qd (Qs 12 nd (Zj (Qa (pv 2) (Qa (pv 4) (Qa (pv 7) Qe)))))
  (Qd aZ
  (Qh (Qx Wk)))))))))))))))),?_⟩
 obtain⟨aj,ad,bd,_⟩:=Qmd ns 2 6;obtain⟨ak,ae,be,_⟩:=Qmd ns 6 11;have ad:V4 (ns.map V.int) (Ga 2) (Ga 6)=aj.map V.int:=ad;have ae:V4 (ns.map V.int) (Ga 6) (Ga 11)=ak.map V.int:=ae;refine⟨_,Xb,_,Xb,_,Xb,a,_,Xb,hS,λp1 aT=>?_⟩;rw[ad];have s1:=Qf aT (.lst (aj.map V.int));refine⟨p1,aj,Xb,Zb.of Qb,by omega,λr us ts H1 g1 _ gl ga D=>?_⟩;have sA:=s1.trans g1;have bg:=D.len;have gd:=Qlu D (by omega);have Y:=Qzs D (by omega);have bj:=ga.length;refine⟨_,Xb,_,Xb,_,Xb,a,_,Xb,sA.seq hS,λp4 aU=>?_⟩;rw[ae];have s4:=Qf aU (.lst (ak.map V.int));refine⟨_,Xb,p4,r,ak,us,ts,Xb,Zb.of Qb,by omega,s4 _ _ gl,ga.same s4,by omega,by omega,λq0 es dl H2 g2 _ gq aL ld aq=>?_⟩;have au:∀d∈dl,d.good:=λd hd=>by
  have h:=aq d hd;cases d with
  |tell b x y=>exact⟨gd x h.1,gd y h.2⟩
  |ask x y=>exact⟨gd x h.1,gd y h.2⟩
  |back i=>exact Ti
 refine⟨q0,es,dl,Xb,gq,aL,au,by omega,λqt tv H3 g3 _ gt W=>?_⟩;have nb:¬Yy (after [] dl):=Og Qdq;have k:∀p∈after [] dl,p.2.1∈ts/\p.2.2∈ts:=Qiz (λp l=>nomatch l) aq;have J:Tlg (after [] dl):=Rn (λp l=>nomatch l) au;have bf:(after [] dl).length<=5:=by have:=Iy (ds:=dl) (tl:=[]);simp only[List.length_nil]at this;omega
 generalize after [] dl=tl at*;have bh:tv.length=tl.length:=Paired.length W;have ay:=((sA.trans s4).trans g2).trans g3;have aM:=((s4.trans g2).trans g3) _ _ gl;have aJ:=ga.same ((s4.trans g2).trans g3);refine⟨_,Xb,a,ns,0,Xb,ay.seq hS,λn=>?_⟩;refine⟨Gv _,λu0 ai=>?_⟩;have s5:=Qf ai (.lst []);refine a5 a r u0 qt n tv tl _ (s5 _ _ gt) (W.Qk (Qp.of s5)) (by omega) Qb (Qc gt ai) _ _ _ ⟨Xb,Xb⟩ ?_;rintro bl H6 ⟨uv,ul,x5,x6,rfl,aF,aO,ba,bi,a3,ao⟩;have aa:Qv H3 H6:=λc o e=>aF _ _ (s5 _ _ e) (Qc e ai);refine⟨Gv _,λl0 ag=>?_⟩;have s7:=Qf ag (.lst []);refine stC a r l0 qt u0 n x5 x6 tv tl _ (s7 _ _ (aa _ _ gt)) ((W.Qk (Qp.of aa)).Qk (Qp.of s7)) (by omega) (λp l=>⟨Y _ (k p l).1,Y _ (k p l).2⟩) Qb (Qc (aa _ _ gt) ag) _ _ _ ⟨Xb,Xb⟩ ?_;rintro bm H8 ⟨cv,x6,rfl,aG,aK,a9⟩;have an:Qv H6 H8:=λc o e=>aG _ _ (s7 _ _ e) (Qc e ag);have I:=aa.trans an;have a2:=ay.trans I;have T:=I _ _ aM;have ar:=aJ.same I;have pos:(0:Int)<us.length:=by omega
 obtain⟨N,aD,aH⟩:=Vx us (n / 5 % us.length) (Tu _ (by omega)) (Te _ pos);obtain⟨x,ex,i1⟩:=ar.get aH;have mx:=List.mem_of_getElem? ex;refine⟨_,Xb,_,Xb,_,_,Xb,Xb,⟨by decide,by decide⟩,_,Xb,_,_,Xb,.inl ⟨us,Zb.of T,Xb⟩,_,_,Xb,Xb,pos,r,us,_,N,Xb,Xb,Zb.of T,aD,?_⟩;refine⟨_,Xb,_,Xb,a,ns,1,Xb,a2.seq hS,λm=>?_⟩;obtain⟨O,aE,aI⟩:=Vx us ((m+1) % us.length) (Tu _ (by omega)) (Te _ pos);obtain⟨y,ey,i2⟩:=ar.get aI;have my:=List.mem_of_getElem? ey;refine⟨_,_,Xb,Xb,_,Xb,_,_,Xb,.inl ⟨us,Zb.of T,Xb⟩,_,_,Xb,Xb,pos,r,us,_,O,Xb,Xb,Zb.of T,aE,?_⟩;have gx:=gd x mx;have gy:=gd y my;have zx:=gx.2.2;have zy:=gy.2.2;have sz:=Qie J;have af:=I _ _ gt;have ab:=W.Qk (Qp.of I);refine⟨_,Xb,_,Xb,_,Xb,qt,tv,tl,N,O,x,y,Xb,af,ab,i1,i2,⟨gx.1,gx.2.1⟩,⟨gy.1,gy.2.1⟩,λp l=>⟨⟨(J p l).1.1,(J p l).1.2.1⟩,(J p l).2.1,(J p l).2.2.1⟩,by omega,λkd H9 s9 hk=>?_⟩;have U:=hk.eq;refine⟨_,Xb,_,Xb,by show 3<=Gh;decide,λC aP=>?_⟩;have az:=Qf aP (.tup [.str "ask",N,O]);refine⟨_,Xb,_,Xb,by show 3<=Gh;decide,λG aQ=>?_⟩;have al:=Qf aQ (.tup [.str "ask",O,N]);refine⟨by show 2<=Gh;decide,λX aw=>?_⟩;have Z:=Qf aw (.lst [.ref C,.ref G]);have ac:=((s9.trans az).trans al).trans Z;refine⟨_,Xb,.inl ⟨Xb,_,Zb.of Qb⟩,_,Xb,N,x,Xb,i1.same ac,Y x mx,λR bc aA i3=>?_⟩;refine⟨_,Xb,O,y,Xb,(i2.same ac).same aA,Y y my,λS t aB i4=>?_⟩;refine⟨by show 3<=Gh;decide,λu aR=>?_⟩;have am:=Qf aR (.tup [.str "ask",.ref R,.ref S]);have j:=(aA.trans aB).trans am;have av:=j _ _ (show(upd _ X (.lst [.ref C,.ref G])) X=Ga (.lst [V.ref C,.ref G])from Qb);refine⟨X,_,_,Xb,Xb,av,by show 2<Gh;decide,?_⟩;have sB:Qv H8 (upd (upd t u (.tup [.str "ask",.ref R,.ref S])) X (.lst ([.ref C,.ref G]++[.ref u]))):=λc o e=>by have ap:=((s9.trans az).trans al) _ _ e;rw[Qg (Qc ap aw)];exact j _ _ (Z _ _ ap)
 have L:Qp (upd t u (.tup [.str "ask",.ref R,.ref S])) (upd (upd t u (.tup [.str "ask",.ref R,.ref S])) X (.lst ([.ref C,.ref G]++[.ref u]))):=Zh λxs z=>by rw[av]at z;cases z
 have a6:=L _ _ (j _ _ ((al.trans Z) _ _ (show(upd H9 C (.tup [.str "ask",N,O])) C=Ga (.tup [.str "ask",N,O])from Qb)));have a7:=L _ _ (j _ _ (Z _ _ (show(upd _ G (.tup [.str "ask",O,N])) G=Ga (.tup [.str "ask",O,N])from Qb)));have a8:=L _ _ (show(upd t u (.tup [.str "ask",.ref R,.ref S])) u=Ga (.tup [.str "ask",.ref R,.ref S])from Qb);have aX:=((i3.same aB).same am).Qk L;have aY:=(i4.same am).Qk L;have aN:(upd (upd t u (.tup [.str "ask",.ref R,.ref S])) X (.lst ([.ref C,.ref G]++[.ref u]))) X=Ga (.lst [.ref C,.ref G,.ref u]):=Qb;generalize upd (upd t u (.tup [.str "ask",.ref R,.ref S])) X (.lst ([.ref C,.ref G]++[.ref u]))=HB at*;refine⟨_,Xb,_,Xb,_,Xb,by show 3<=Gh;decide,λlr aS=>?_⟩;have sC:=Qf aS (.lst [.ref qt,.ref u0,.ref l0]);have g:=sB.trans sC;have U0:Qqw ts:=⟨O1 D.cl,gd,by omega⟩;have aC:∀p∈ul,p.2.1∈ts/\p.2.2∈ts:=λp l=>by
  rcases ao p.1 p.2.1 p.2.2 l with z|z
  ·exact k _ z
  ·exact⟨(k _ z).2,(k _ z).1⟩
 refine a4 _ _ _ _ _ _ _ _ _ qt X lr tv kd qt u0 l0 C G u _ (g _ _ af) (by omega) (by rw[U];exact Qon tl x y) (sC _ _ aN) Qb ?_ ?_ ?_ _ _ _ ⟨Xb,Xb⟩ (λbk H' _=>q _)
 ·exact⟨tv,tl,ts,x,y,N,O,g _ _ af,ab.Qk (Qp.of g),by omega,nb,sC _ _ a6,i1.same g,i2.same g,U.symm,U0,k,mx,my⟩
 ·refine⟨uv,ul,ts,y,x,O,N,g _ _ (an _ _ aO),(ba.Qk (Qp.of an)).Qk (Qp.of g),by omega,λz=>nb (Jm ao z),sC _ _ a7,i2.same g,i1.same g,?_,U0,aC,my,mx⟩;rw[U];exact(Qkd a3 ao (.inr Xb)).symm
 ·refine⟨cv,tl.map (Ui rn),ts.map (Th.Vm rn),x.Vm rn,y.Vm rn,.ref R,.ref S,g _ _ aK,a9.Qk (Qp.of g),by rw[List.length_map];omega,λz=>nb ((Qke Qv9).mp z),sC _ _ a8,aX.same sC,aY.same sC,?_,Qrw D.cl gd (by omega),λp l=>?_,List.mem_map.mpr ⟨x,mx,Xb⟩,List.mem_map.mpr ⟨y,my,Xb⟩⟩
  ·rw[U];exact Qjo Qv9
  ·obtain⟨p',ax,rfl⟩:=List.mem_map.mp l;exact⟨List.mem_map.mpr ⟨_,(k p' ax).1,Xb⟩,List.mem_map.mpr ⟨_,(k p' ax).2,Xb⟩⟩
end
end K07
namespace Sb
open PySem L2
def Y9(K:PySem.W.Frag)(x q:Gy)(st:T4)(f:Gc):Prop:=∃oc od an sl kV b pm a ct,K.lookup f=Ga ⟨oc,od,.func (PySem.W.fnOf x q (Iv st) (Vl st) (Ql st) .none kV b pm an a ct),sl⟩/\PySem.W.codeIn K a q=Gf/\PySem.W.keepIn K (.ref f)=Gf
abbrev NsF(K:PySem.W.Frag)(x:Gy)(f:Gc):Prop:=PySem.W.nsIn K T8 x=Ga (Ga (.ref f))
abbrev FiF(K:PySem.W.Frag)(c:Gc)(x:Gy)(f:Gc):Prop:=PySem.W.findIn K (.ref c) x=Ga (Ga (.ref f))
abbrev NsN(K:PySem.W.Frag)(x:Gy):Prop:=PySem.W.nsIn K T8 x=Ga Ge
end Sb
namespace K07
open PySem L2 Sb
section
variable{K:PySem.W.Frag}
theorem Qyl{l:PySem.W.OpenLaw}{w:Gs}{h:Heap}{mg:Gy->Option Value}{fa CP c m i f0 f1 f2 f3 f4 f5 f6 f7 f8 f9 ab ac ad ae af ag ah bO bP bQ ai aj ak al bR am ao ap aq ar au bS bT bU bV bW bX bY bZ ca cb ce cf cg ch:Gc}(X:K.In h)(G:h.Ns T8 mg)(eV:mg "law"=Ga (.ref fa)){fs:FP}
  (aP:NsF K "Places" CP)(pP:PySem.W.plainGet K CP DY=Gf)(dP:PySem.W.hasDictIn K CP=Gf)(oP:PySem.W.plainOver K CP=Gf)(sP:PySem.W.findIn K (.ref CP) "__setattr__"=Ga (Ga (.builtin "object.__setattr__")))(mP:PySem.W.makesIn K CP=Gf)(cP:PySem.W.keepIn K (.ref CP)=Gf)
  (F:PySem.W.findIn K (.ref CP) "things"=Ga Ge)(T:PySem.W.findIn K (.ref CP) "forms"=Ga Ge)(U:PySem.W.findIn K (.ref CP) "known"=Ga Ge)(aN:NsF K "Net" c)(pN:PySem.W.plainGet K c DY=Gf)(dN:PySem.W.hasDictIn K c=Gf)(oN:PySem.W.plainOver K c=Gf)
  (sN:PySem.W.findIn K (.ref c) "__setattr__"=Ga (Ga (.builtin "object.__setattr__")))(mN:PySem.W.makesIn K c=Gf)(cN:PySem.W.keepIn K (.ref c)=Gf)(N:PySem.W.findIn K (.ref c) "forms"=Ga Ge)(O:PySem.W.findIn K (.ref c) "leads"=Ga Ge)(u:PySem.W.findIn K (.ref c) "members"=Ga Ge)
  (S:PySem.W.findIn K (.ref c) "users"=Ga Ge)(R:PySem.W.findIn K (.ref c) "table"=Ga Ge)(Q:PySem.W.findIn K (.ref c) "links"=Ga Ge)(E:PySem.W.findIn K (.ref c) "link_at"=Ga Ge)(L:PySem.W.findIn K (.ref c) "above"=Ga Ge)(aS:NsF K "Showing" m)
  (pS:PySem.W.plainGet K m DY=Gf)(dS:PySem.W.hasDictIn K m=Gf)(oS:PySem.W.plainOver K m=Gf)(sS:PySem.W.findIn K (.ref m) "__setattr__"=Ga (Ga (.builtin "object.__setattr__")))(mS:PySem.W.makesIn K m=Gf)(cS:PySem.W.keepIn K (.ref m)=Gf)(H:PySem.W.findIn K (.ref m) "things"=Ga Ge)
  (aJ:PySem.W.findIn K (.ref m) "net"=Ga Ge)(V:PySem.W.findIn K (.ref m) "lines"=Ga Ge)(z:PySem.W.findIn K (.ref m) "numbers"=Ga Ge)(aB:NsF K "Book" i)(pB:PySem.W.plainGet K i DY=Gf)(dB:PySem.W.hasDictIn K i=Gf)(oB:PySem.W.plainOver K i=Gf)
  (sB:PySem.W.findIn K (.ref i) "__setattr__"=Ga (Ga (.builtin "object.__setattr__")))(mB:PySem.W.makesIn K i=Gf)(cB:PySem.W.keepIn K (.ref i)=Gf)(D:PySem.W.findIn K (.ref i) "places"=Ga Ge)(aw:PySem.W.findIn K (.ref i) "told"=Ga Ge)(t:PySem.W.findIn K (.ref i) "entries"=Ga Ge)
  (dV:PySem.W.nsIn K T8 "NO_MOMENT"=Ga (Ga (.str "no moment" fs)))(a0:NsF K "top_words" f0)(h0:Y9 K "top_words" "top_words" Qrc f0)(a1:FiF K CP "__init__" f1)(i1:PySem.W.isFn K (.ref f1)=Gf)(h1:Y9 K "__init__" "Places.__init__" Qb3 f1)
  (a2:FiF K CP "place_of" f2)(i2:PySem.W.isFn K (.ref f2)=Gf)(h2:Y9 K "place_of" "Places.place_of" Oq f2)(a3:FiF K CP "place_within" f3)(i3:PySem.W.isFn K (.ref f3)=Gf)(h3:Y9 K "place_within" "Places.place_within" Ig f3)
  (a4:FiF K CP "place_by_form" f4)(i4:PySem.W.isFn K (.ref f4)=Gf)(h4:Y9 K "place_by_form" "Places.place_by_form" Qb6 f4)(a5:NsF K "net_of" f5)(h5:Y9 K "net_of" "net_of" Qgp f5)(a6:FiF K c "__init__" f6)(i6:PySem.W.isFn K (.ref f6)=Gf)
  (h6:Y9 K "__init__" "Net.__init__" Ot f6)(a7:FiF K c "take_in" f7)(i7:PySem.W.isFn K (.ref f7)=Gf)(h7:Y9 K "take_in" "Net.take_in" Oi f7)(a8:FiF K c "key_of" f8)(i8:PySem.W.isFn K (.ref f8)=Gf)(h8:Y9 K "key_of" "Net.key_of" Rr f8)
  (a9:FiF K c "equal" f9)(i9:PySem.W.isFn K (.ref f9)=Gf)(h9:Y9 K "equal" "Net.equal" Qf6 f9)(dk:FiF K c "merge" ab)(eW:PySem.W.isFn K (.ref ab)=Gf)(em:Y9 K "merge" "Net.merge" Qgh ab)(dl:FiF K c "merge_link" ac)
  (eX:PySem.W.isFn K (.ref ac)=Gf)(en:Y9 K "merge_link" "Net.merge_link" Jp ac)(dm:FiF K c "hang" ad)(eY:PySem.W.isFn K (.ref ad)=Gf)(eo:Y9 K "hang" "Net.hang" Qmj ad)(dn:FiF K c "give_over" ae)(eZ:PySem.W.isFn K (.ref ae)=Gf)
  (ep:Y9 K "give_over" "Net.give_over" Iq ae)(dp:FiF K c "way" af)(e0:PySem.W.isFn K (.ref af)=Gf)(eq:Y9 K "way" "Net.way" Qv1 af)(dq:FiF K c "way_up" ag)(e1:PySem.W.isFn K (.ref ag)=Gf)(er:Y9 K "way_up" "Net.way_up" Qg1 ag)
  (dr:FiF K c "rows" ah)(e2:PySem.W.isFn K (.ref ah)=Gf)(es:Y9 K "rows" "Net.rows" Qje ah)(ds:NsF K "lines_between" bO)(et:Y9 K "lines_between" "lines_between" Qgn bO)(dt:NsF K "links_needed" bP)(eu:Y9 K "links_needed" "links_needed" Qbv bP)
  (bG:NsF K "pairs_below" bQ)(ev:Y9 K "pairs_below" "pairs_below" Qgq bQ)(du:FiF K m "__init__" ai)(e3:PySem.W.isFn K (.ref ai)=Gf)(ew:Y9 K "__init__" "Showing.__init__" Qby ai)(dv:FiF K m "write" aj)(e4:PySem.W.isFn K (.ref aj)=Gf)
  (ex:Y9 K "write" "Showing.write" Qf8 aj)(dw:FiF K m "write_link" ak)(e5:PySem.W.isFn K (.ref ak)=Gf)(ey:Y9 K "write_link" "Showing.write_link" Vz ak)(dx:FiF K m "line_for" al)(e6:PySem.W.isFn K (.ref al)=Gf)
  (ez:Y9 K "line_for" "Showing.line_for" Ij al)(dy:NsF K "answers" bR)(eA:Y9 K "answers" "answers" Jy bR)(dz:FiF K i "__init__" am)(e7:PySem.W.isFn K (.ref am)=Gf)(eB:Y9 K "__init__" "Book.__init__" Qb9 am)
  (dA:FiF K i "answer" ao)(e8:PySem.W.isFn K (.ref ao)=Gf)(eC:Y9 K "answer" "Book.answer" Qcb ao)(dC:FiF K i "go_back" ap)(e9:PySem.W.isFn K (.ref ap)=Gf)(eD:Y9 K "go_back" "Book.go_back" Qca ap)(dD:FiF K i "tell" aq)
  (fb:PySem.W.isFn K (.ref aq)=Gf)(eE:Y9 K "tell" "Book.tell" Qm3 aq)(dE:FiF K i "ask" ar)(fc:PySem.W.isFn K (.ref ar)=Gf)(eF:Y9 K "ask" "Book.ask" Qt2 ar)(dF:FiF K i "lines_for" au)(fe:PySem.W.isFn K (.ref au)=Gf)
  (eG:Y9 K "lines_for" "Book.lines_for" Ir au)(bH:NsF K "least_clash" bS)(eH:Y9 K "least_clash" "least_clash" Qgu bS)(dG:NsF K "_law_any_word" bT)(eI:Y9 K "_law_any_word" "_law_any_word" Qmf bT)(dH:NsF K "_law_so" bU)(eJ:Y9 K "_law_so" "_law_so" sSo bU)
  (dI:NsF K "_law_drawn_things" bV)(eK:Y9 K "_law_drawn_things" "_law_drawn_things" Qgd bV)(dJ:NsF K "_law_drawn_deeds" bW)(eL:Y9 K "_law_drawn_deeds" "_law_drawn_deeds" Qf1 bW)(dK:NsF K "_law_any" bX)(eM:Y9 K "_law_any" "_law_any" Qvp bX)
  (bI:NsF K "_law_classes" bY)(eN:Y9 K "_law_classes" "_law_classes" Wj bY)(dL:NsF K "_law_kind" bZ)(eO:Y9 K "_law_kind" "_law_kind" Ql1 bZ)(dM:NsF K "_law_barred" ca)(eP:Y9 K "_law_barred" "_law_barred" Qbx ca)
  (dO:NsF K "_law_after" cb)(eQ:Y9 K "_law_after" "_law_after" Qfz cb)(dQ:NsF K "_law_at" ce)(eR:Y9 K "_law_at" "_law_at" sAt ce)(dR:NsF K "_law_whole" cf)(eS:Y9 K "_law_whole" "_law_whole" Qf0 cf)(dT:NsF K "_law_recalled" cg)(eT:Y9 K "_law_recalled" "_law_recalled" Ux cg)
  (dU:NsF K "law" ch)(eU:Y9 K "law" "law" Qgc ch)(Y:NsN K "len")(aM:NsN K "min")(aK:NsN K "abs")(A:NsN K "list")(q:NsN K "tuple")(aO:NsN K "str")(ax:NsN K "bool")(aL:NsN K "int")(j:NsN K "isinstance")(p:NsN K "range")(d:NsN K "reversed")
  (o:NsN K "enumerate")(aQ:NsN K "zip")(I:NsN K "sorted")
  :∃fd:Td,(∀(s:Gi)(v:Value),SS s fd ⟨[v],[]⟩ [("_law_script",v)])/\∀base:Heap,K.In base->base.Ns T8 mg->Qt l.prog w K mg base Ya 66 fa fd ["_law_script"] (Qnc K):=by
 have e:=eV.symm.trans (PySem.W.mg_of X G dU);cases e;have g:=λ{x:Gy}{f:Gc}(e:NsF K x f)=>PySem.W.mg_of X G e;have y:=λ{x:Gy}(e:NsN K x)=>PySem.W.mg_none_of X G e;have TP:Qc9 K mg CP:=⟨⟨pP,dP,oP,sP⟩,F,T,U,g aP⟩;have n:V5 K mg c:=⟨⟨pN,dN,oN,sN⟩,N,O,u,S,R,Q,E,L,g aN⟩;have TS:Qno K m:=⟨⟨pS,dS,oS,sS⟩,H,aJ,V,z⟩;have TB:Qht K mg i:=⟨⟨pB,dB,oB,sB⟩,D,aw,t,g aB,⟨_,PySem.W.mg_of X G dV,⟨_,Xb⟩⟩⟩;have B:Blt mg:=⟨y Y,y aM,y aK,y A,y q,y aO,y ax,y aL,y j,y p,y d⟩;have r:Ik mg:=⟨y Y,y A,y q,y p,y d,y o,y aQ,y I⟩;obtain⟨_,_,_,_,_,_,_,_,_,b,a,k0⟩:=h0;have F0:=Zg (st:=Qrc) b a k0;have b0:=F0.binds (ps:=["thing"]) (by eq_refl);obtain⟨_,_,_,_,_,_,_,_,_,b,a,k1⟩:=h1;have F1:=Zg (st:=Qb3) b a k1;have b1:=F1.binds (ps:=["self"]) (by eq_refl);obtain⟨_,_,_,_,_,_,_,_,_,b,a,k2⟩:=h2;have F2:=Zg (st:=Oq) b a k2;have b2:=F2.binds (ps:=["self","thing"]) (by eq_refl);have m2:Yc K CP "place_of" f2:=⟨a2,i2,k2⟩;obtain⟨_,_,_,_,_,_,_,_,_,b,a,k3⟩:=h3;have F3:=Zg (st:=Ig) b a k3;have b3:=F3.binds (ps:=["self","thing","near"]) (by eq_refl);have m3:Yc K CP "place_within" f3:=⟨a3,i3,k3⟩;obtain⟨_,_,_,_,_,_,_,_,_,b,a,k4⟩:=h4;have F4:=Zg (st:=Qb6) b a k4;have b4:=F4.binds (ps:=["self","thing","form"]) (by eq_refl);have m4:Yc K CP "place_by_form" f4:=⟨a4,i4,k4⟩;obtain⟨_,_,_,_,_,_,_,_,_,b,a,k5⟩:=h5;have F5:=Zg (st:=Qgp) b a k5;have b5:=F5.binds (ps:=["forms","told"]) (by eq_refl);obtain⟨_,_,_,_,_,_,_,_,_,b,a,k6⟩:=h6;have F6:=Zg (st:=Ot) b a k6;have b6:=F6.binds (ps:=["self","forms"]) (by eq_refl);obtain⟨_,_,_,_,_,_,_,_,_,b,a,k7⟩:=h7;have F7:=Zg (st:=Oi) b a k7;have b7:=F7.binds (ps:=["self","place"]) (by eq_refl);have m7:Yc K c "take_in" f7:=⟨a7,i7,k7⟩;obtain⟨_,_,_,_,_,_,_,_,_,b,a,k8⟩:=h8;have F8:=Zg (st:=Rr) b a k8;have b8:=F8.binds (ps:=["self","place"]) (by eq_refl);have m8:Yc K c "key_of" f8:=⟨a8,i8,k8⟩;obtain⟨_,_,_,_,_,_,_,_,_,b,a,k9⟩:=h9;have F9:=Zg (st:=Qf6) b a k9;have b9:=F9.binds (ps:=["self","one","other"]) (by eq_refl);have m9:Yc K c "equal" f9:=⟨a9,i9,k9⟩;obtain⟨_,_,_,_,_,_,_,_,_,b,a,ci⟩:=em;have aR:=Zg (st:=Qgh) b a ci;have bJ:=aR.binds (ps:=["self","one","other","reason"]) (by eq_refl);have cO:Yc K c "merge" ab:=⟨dk,eW,ci⟩;obtain⟨_,_,_,_,_,_,_,_,_,b,a,cj⟩:=en;have aT:=Zg (st:=Jp) b a cj;have dW:=aT.binds (ps:=["self","link"]) (by eq_refl);have fi:Yc K c "merge_link" ac:=⟨dl,eX,cj⟩;obtain⟨_,_,_,_,_,_,_,_,_,b,a,ck⟩:=eo;have aU:=Zg (st:=Qmj) b a ck;have dX:=aU.binds (ps:=["self","low","high"]) (by eq_refl);have fj:Yc K c "hang" ad:=⟨dm,eY,ck⟩;obtain⟨_,_,_,_,_,_,_,_,_,b,a,cl⟩:=ep;have aV:=Zg (st:=Iq) b a cl;have dY:=aV.binds (ps:=["self","gone","kept"]) (by eq_refl);have fk:Yc K c "give_over" ae:=⟨dn,eZ,cl⟩;obtain⟨_,_,_,_,_,_,_,_,_,b,a,cm⟩:=eq;have aW:=Zg (st:=Qv1) b a cm;have aC:=aW.binds (ps:=["self","one","other"]) (by eq_refl);have aH:Yc K c "way" af:=⟨dp,e0,cm⟩;obtain⟨_,_,_,_,_,_,_,_,_,b,a,cn⟩:=er;have aX:=Zg (st:=Qg1) b a cn;have dZ:=aX.binds (ps:=["self","place"]) (by eq_refl);have fl:Yc K c "way_up" ag:=⟨dq,e1,cn⟩;obtain⟨_,_,_,_,_,_,_,_,_,b,a,co⟩:=es;have aY:=Zg (st:=Qje) b a co;have d0:=aY.binds (ps:=["self"]) (by eq_refl);have fm:Yc K c "rows" ah:=⟨dr,e2,co⟩;obtain⟨_,_,_,_,_,_,_,_,_,b,a,cp⟩:=et;have aZ:=Zg (st:=Qgn) b a cp;have d1:=aZ.binds (ps:=["things","net","one","other"]) (by eq_refl);obtain⟨_,_,_,_,_,_,_,_,_,b,a,cq⟩:=eu;have ba:=Zg (st:=Qbv) b a cq;have d2:=ba.binds (ps:=["net","one","other"]) (by eq_refl);obtain⟨_,_,_,_,_,_,_,_,_,b,a,aE⟩:=ev;have bb:=Zg (st:=Qgq) b a aE;have bK:=bb.binds (ps:=["net","link"]) (by eq_refl);obtain⟨_,_,_,_,_,_,_,_,_,b,a,ff⟩:=ew;have bc:=Zg (st:=Qby) b a ff;have d3:=bc.binds (ps:=["self","things","net"]) (by eq_refl);obtain⟨_,_,_,_,_,_,_,_,_,b,a,cr⟩:=ex;have bd:=Zg (st:=Qf8) b a cr;have aD:=bd.binds (ps:=["self","one","other","reason"]) (by eq_refl);have aI:Yc K m "write" aj:=⟨dv,e4,cr⟩;obtain⟨_,_,_,_,_,_,_,_,_,b,a,cs⟩:=ey;have be:=Zg (st:=Vz) b a cs;have d4:=be.binds (ps:=["self","link"]) (by eq_refl);have fn:Yc K m "write_link" ak:=⟨dw,e5,cs⟩;obtain⟨_,_,_,_,_,_,_,_,_,b,a,cu⟩:=ez;have ay:=Zg (st:=Ij) b a cu;have aa:=ay.binds (ps:=["self","one","other"]) (by eq_refl);have av:Yc K m "line_for" al:=⟨dx,e6,cu⟩;obtain⟨_,_,_,_,_,_,_,_,_,b,a,cv⟩:=eA;have bf:=Zg (st:=Jy) b a cv;have d5:=bf.binds (ps:=["deeds"]) (by eq_refl);obtain⟨_,_,_,_,_,_,_,_,_,b,a,fg⟩:=eB;have bg:=Zg (st:=Qb9) b a fg;have d6:=bg.binds (ps:=["self"]) (by eq_refl);obtain⟨_,_,_,_,_,_,_,_,_,b,a,cw⟩:=eC;have bh:=Zg (st:=Qcb) b a cw;have d7:=bh.binds (ps:=["self","deed"]) (by eq_refl);have fo:Yc K i "answer" ao:=⟨dA,e8,cw⟩;obtain⟨_,_,_,_,_,_,_,_,_,b,a,cx⟩:=eD;have bi:=Zg (st:=Qca) b a cx;have d8:=bi.binds (ps:=["self","moment"]) (by eq_refl);have fp:Yc K i "go_back" ap:=⟨dC,e9,cx⟩;obtain⟨_,_,_,_,_,_,_,_,_,b,a,cy⟩:=eE;have bj:=Zg (st:=Qm3) b a cy;have d9:=bj.binds (ps:=["self","deed","entry"]) (by eq_refl);have fq:Yc K i "tell" aq:=⟨dD,fb,cy⟩;obtain⟨_,_,_,_,_,_,_,_,_,b,a,cz⟩:=eF;have bk:=Zg (st:=Qt2) b a cz;have ea:=bk.binds (ps:=["self","entry"]) (by eq_refl);have fr:Yc K i "ask" ar:=⟨dE,fc,cz⟩;obtain⟨_,_,_,_,_,_,_,_,_,b,a,cA⟩:=eG;have bl:=Zg (st:=Ir) b a cA;have bL:=bl.binds (ps:=["self","net","entry"]) (by eq_refl);have cQ:Yc K i "lines_for" au:=⟨dF,fe,cA⟩;obtain⟨_,_,_,_,_,_,_,_,_,b,a,aF⟩:=eH;have bm:=Zg (st:=Qgu) b a aF;have bM:=bm.binds (ps:=["net","entries"]) (by eq_refl);obtain⟨_,_,_,_,_,_,_,_,_,b,a,cC⟩:=eI;have bn:=Zg (st:=Qmf) b a cC;have eb:=bn.binds (ps:=["_law_cell"]) (by eq_refl);obtain⟨_,_,_,_,_,_,_,_,_,b,a,cD⟩:=eJ;have bo:=Zg (st:=sSo) b a cD;have ec:=bo.binds (ps:=["_law_found","_law_due"]) (by eq_refl);obtain⟨_,_,_,_,_,_,_,_,_,b,a,cE⟩:=eK;have bp:=Zg (st:=Qgd) b a cE;have ed:=bp.binds (ps:=["_law_cells"]) (by eq_refl);obtain⟨_,_,_,_,_,_,_,_,_,b,a,cF⟩:=eL;have bq:=Zg (st:=Qf1) b a cF;have ee:=bq.binds (ps:=["_law_cells","_law_things"]) (by eq_refl);obtain⟨_,_,_,_,_,_,_,_,_,b,a,cG⟩:=eM;have br:=Zg (st:=Qvp) b a cG;have ef:=br.binds (ps:=["_law_cell"]) (by eq_refl);obtain⟨_,_,_,_,_,_,_,_,_,b,a,aG⟩:=eN;have bs:=Zg (st:=Wj) b a aG;have bN:=bs.binds (ps:=["_law_told","_law_things"]) (by eq_refl);obtain⟨_,_,_,_,_,_,_,_,_,b,a,cH⟩:=eO;have bt:=Zg (st:=Ql1) b a cH;have eg:=bt.binds (ps:=["_law_told","_law_one","_law_other"]) (by eq_refl);obtain⟨_,_,_,_,_,_,_,_,_,b,a,cI⟩:=eP;have bu:=Zg (st:=Qbx) b a cI;have eh:=bu.binds (ps:=["_law_told","_law_deed"]) (by eq_refl);obtain⟨_,_,_,_,_,_,_,_,_,b,a,cJ⟩:=eQ;have bv:=Zg (st:=Qfz) b a cJ;have ei:=bv.binds (ps:=["_law_deeds"]) (by eq_refl);obtain⟨_,_,_,_,_,_,_,_,_,b,a,cK⟩:=eR;have bw:=Zg (st:=sAt) b a cK;have ej:=bw.binds (ps:=["_law_script","_law_k"]) (by eq_refl);obtain⟨_,_,_,_,_,_,_,_,_,b,a,cL⟩:=eS;have bx:=Zg (st:=Qf0) b a cL;have ek:=bx.binds (ps:=["_law_found"]) (by eq_refl);obtain⟨_,_,_,_,_,_,_,_,_,b,a,cM⟩:=eT;have bz:=Zg (st:=Ux) b a cM;have el:=bz.binds (ps:=["_law_thing"]) (by eq_refl);obtain⟨oc,od,an,sl,kV,dc,pm,cd,ct,b,a,fh⟩:=eU;have cR:=Zg (st:=Qgc) b a fh;have MP:Mk K CP f1:=⟨mP,a1,i1,cP⟩;have MN:Mk K c f6:=⟨mN,a6,i6,cN⟩;have MS:Mk K m ai:=⟨mS,du,e3,cS⟩;have MB:Mk K i am:=⟨mB,dz,e7,cB⟩;refine⟨PySem.W.fnOf "law" "law" (Iv Qgc) (Vl Qgc) (Ql Qgc) .none kV dc pm an cd ct,λs v=>.of_eq Xb,λbase _ _=>?_⟩;have G0:=Qyz (P:=l.prog) (w:=w) (mg:=mg) (base:=base) F0 r;have G4:=Qn3 (P:=l.prog) (w:=w) (mg:=mg) (base:=base) F4 TP r;have G3:=Qdn (P:=l.prog) (w:=w) (mg:=mg) (base:=base) F3 TP r m3 b3 G0 k0 b0 (g a0) m4 G4 b4 50;have G2:=Qk8 F2 TP m3 b3 G3;have G1:=Qni (P:=l.prog) (w:=w) (mg:=mg) (base:=base) F1 TP;have G9:=Qqf (P:=l.prog) (w:=w) (mg:=mg) (base:=base) F9 n;have G8:=Qpt (P:=l.prog) (w:=w) (mg:=mg) (base:=base) F8 n r;have J:=Qok (P:=l.prog) (w:=w) (mg:=mg) (base:=base) F8 n r;have cW:=Qpq (P:=l.prog) (w:=w) (mg:=mg) (base:=base) aX n;have cU:=Qty (P:=l.prog) (w:=w) (mg:=mg) (base:=base) aU n;have cV:=Qtr aV n m8 G8 b8;have cT:=Qgw aT n r fj cU dX fk cV dY;have bA:=Qr2 aR n m9 G9 b9 fi cT dW;have G6:=Qkj (P:=l.prog) (w:=w) (mg:=mg) (base:=base) F6 n;have G7:=Qjb F7 n m7 b7 m8 G8 b8 59;have G5:=Qro F5 n r MN G6 b6 m7 G7 b7 cO bA bJ;have bE:=Qsd bm n r m9 G9 b9;have az:=Qw2 aW n r fl cW dZ;have cX:=Quq aY n r m8 J b8;have bB:=Qsu (P:=l.prog) (w:=w) (mg:=mg) (base:=base) bb n r;have cZ:=Qnj ba n r aH az aC bB aE bK (g bG);have aA:=Qsr (P:=l.prog) (w:=w) (mg:=mg) (base:=base) (C:=c) bd TS r;have Z:=Qln (g:=Gp) (k:=2) (by decide) ay TS n av aa Q1f aH az aC aI aA aD;have bC:=Qln (g:=Gf) (k:=3) (by decide) ay TS n av aa Z aH az aC aI aA aD;have c1:=Qsy be TS av aa bC bB aE bK (g bG) aI aA aD;have c0:=Qnu (P:=l.prog) (w:=w) (mg:=mg) (base:=base) (C:=c) bc TS;have cY:=Qor aZ TS n (PySem.W.mg_of X G aS) MS c0 d3 cZ cq d2 (g dt) av aa bC fn d4 c1;have bD:=Qhk bl TB TP cY cp d1 (g ds);have c7:=Qyu bk TB TP n G5 k5 b5 (g a5) m9 G9 b9 fm cX d0 cO bA bJ bE aF bM (g bH) cQ bD bL;have c6:=Qtp bj TB TP r G5 k5 b5 (g a5) bE aF bM (g bH) cQ bD bL;have c5:=Qo2 (P:=l.prog) (w:=w) (mg:=mg) (base:=base) (CP:=CP) bi TB r;have c3:=Qo4 bg TB TP MP G1 b1;have c4:=Qol bh TB TP fp c5 d8 m2 G2 b2 fr c7 ea fq c6 d9;have c2:=Qk4 bf TB MB c3 d6 fo c4 d7;have c8:=Qug (P:=l.prog) (w:=w) (mg:=mg) (base:=base) bn B.abs;have da:=Qs2 bp B c8 cC eb (g dG);have dd:=Qx2 (P:=l.prog) (w:=w) (mg:=mg) (base:=base) br;have db:=Qsv bq B dd cG ef (g dK);have c9:=Q0v (P:=l.prog) (w:=w) (mg:=mg) (base:=base) bo B;have bF:=Qj1 (P:=l.prog) (w:=w) (mg:=mg) (base:=base) bs B;have de:=Qu0 bt bF aG bN (g bI);have df:=Qos bu bF aG bN (g bI);have dg:=Qr6 bv B df cI eh (g dM);have dh:=Q08 (P:=l.prog) (w:=w) (mg:=mg) (base:=base) bw B;have di:=Qs8 (P:=l.prog) (w:=w) (mg:=mg) (base:=base) bx B;have dj:=Qwz (P:=l.prog) (w:=w) (mg:=mg) (base:=base) bz B;exact Qyf (M:=65) cR B (by decide) (by decide) da cE ed (g dI) db cF ee (g dJ) dg cJ ei (g dO) dh cK ej (g dQ) dj cM el (g dT) de cH eg (g dL) c2 cv d5 (g dy) di cL ek (g dR) c9 cD ec (g dH)
end
theorem Q2e{l:PySem.W.OpenLaw}{q:Gj}{b:List Gy}{i:(Gy->Option Value)->Heap->Prop}{e:Gs->Heap->Prop}{d:FL}{K:Fx->PySem.W.Frag}(o:l.most=Ga 63)(c:d.params.defaults=[])
  (j:∀(w:Gs)(h:Heap),e w h->(K w.params).In h)
  (F:∀(w:Gs)(mg:Gy->Option Value)(g:Gc)(h:Heap),(K w.params).In h->h.Ns T8 mg->mg d.name=Ga (.ref g)->
   ∃fd:Td,(∀(s:Gi)(u:Value),SS s fd ⟨[u],[]⟩ [("_law_script",u)])/\∀base:Heap,(K w.params).In base->base.Ns T8 mg->Qt l.prog w (K w.params) mg base Ya 66 g fd ["_law_script"] (Qnc (K w.params))):
  PySem.W.WalkO q b i e l.row.toRowW d [] (λf vs=>PySem.call f vs):=
 L2.Qvy (n:=63) (k:=66) (x:="_law_script") (CX:=λ_=>Ya) (sp:=λw=>Qnc (K w.params)) o (by decide) c ⟨Xb,by decide,by decide⟩ j F (λ_ _ a ns m _ hS=>⟨a,ns,Xb,hS,m,λ_=>rfl⟩) λ_ _ _ _ _ z=>z
end K07
open PySem PySem.W PyProof.Rows
set_option maxRecDepth 100000 in
set_option maxHeartbeats 0 in
theorem PySem.Challenge.cw_samebook_k07_whole_order_and_words_holds : PySem.Challenge.rw_samebook_k07_whole_order_and_words.Holds := by
  w_on; o_law; k_head; (case hw => w_witness2)
  k_fill
  refine K07.Q2e (l := PySem.Challenge.rw_samebook_k07_whole_order_and_words) rfl rfl (λ w h Y => PySem.W.kIn_of Y) ?F
  case F =>
    intro w mg b h KX G a
    refine' K07.Qyl KX G a ?_ ?_ ?_ ?_ ?_ ?_ ?_ ?_ ?_ ?_ ?_ ?_ ?_ ?_ ?_ ?_ ?_ ?_ ?_ ?_ ?_ ?_ ?_ ?_ ?_ ?_ ?_ ?_ ?_ ?_ ?_ ?_ ?_ ?_ ?_ ?_ ?_ ?_ ?_ ?_ ?_ ?_ ?_ ?_ ?_ ?_ ?_ ?_ ?_ ?_ ?_ ?_ ?_ ?_ ?_ ?_ ?_ ?_ ?_ ?_ ?_ ?_ ?_ ?_ ?_ ?_ ?_ ?_ ?_ ?_ ?_ ?_ ?_ ?_ ?_ ?_ ?_ ?_ ?_ ?_ ?_ ?_ ?_ ?_ ?_ ?_ ?_ ?_ ?_ ?_ ?_ ?_ ?_ ?_ ?_ ?_ ?_ ?_ ?_ ?_ ?_ ?_ ?_ ?_ ?_ ?_ ?_ ?_ ?_ ?_ ?_ ?_ ?_ ?_ ?_ ?_ ?_ ?_ ?_ ?_ ?_ ?_ ?_ ?_ ?_ ?_ ?_ ?_ ?_ ?_ ?_ ?_ ?_ ?_ ?_ ?_ ?_ ?_ ?_ ?_ ?_ ?_ ?_ ?_ ?_ ?_ ?_ ?_ ?_ ?_ ?_ ?_ ?_ ?_ ?_ ?_ ?_ ?_ ?_ ?_ ?_ ?_ ?_ ?_ ?_ ?_ ?_ ?_ ?_ ?_ ?_ ?_ ?_ ?_ ?_ ?_
    all_goals first | exact ⟨_, _, _, _, _, _, _, _, _, by k_is, by k_is, by k_is⟩ | (show _ = _; k_is) | skip
