import PyProof.Rows.All
import Wide.All
import OpenK.AllK
import Wide.FinOn
import Lean
import PyProof.EqAt
import PyProof.EqKinds
import PyProof.TupleCall
import KE.KIsAll
import KE.KRevIter
import PyProof.P3In
import PyProof.P3Eq
import KE.KDictList
import KE.KDictSum
import KE.KDictLaws
import PyProof.ZipIter
import KE.KItemsList
import PySem.Challenge.RW_samebook_k03_whole_answers_shown
set_option maxHeartbeats 16000000
abbrev Gg:=@if_neg
abbrev Gk:=@if_pos
abbrev Gq:=@decide_eq_false
abbrev Gr:=@decide_eq_true
abbrev Tq:=@of_decide_eq_true
abbrev T8:=@if_false
abbrev Df:=@beq_eq_false_iff_ne
abbrev DV:=@beq_self_eq_true
abbrev Ey:=@beq_iff_eq
abbrev EB:=@or_false
abbrev E1:=@if_true
abbrev Ls:=@and_true
open Option renaming some->Ga,none->Gf,map_some->TF,isSome_map->DA,map_eq_some_iff->D9,ne_none_iff_exists'->ED,isSome_iff_exists->EK,isSome_some->Sx,getD_none->S9,none->L8
open PySem renaming wpAny_bind->Gb,Addr->Gc,wpAny_pure->Gd,sizeLine->Gh,Shared->Gi,Program->Gj,World->Gu,sizeLine_eq->Gy,Str->GJ,model->GO,starEach->GY,FuncData->Tf,wpAny_call_entry->To,wpAny_newObj_type->Tp,wpAny_field->Tt,wpAny_callSpecial?_slot->Tw,Around->Tz,Expr->TJ,wpAny_holding->TL,compareOp->TU,sysModules->TV,wpAny_Call_Name_kw->TX,wpAny_seqItems->TY,Stmt->T2,mainGlobals->T6,wpAny_truthy_bool->Db,wpAny_dictEntries->De,cLine->Dg,wpAny_mono->Dh,wpAny_setField_rec->Di,wpAny_typeNameOfWhole_keyiter->Dj,IsPair->Dk,wpAny_typeNameOfWhole_valiter->Dl,wpAny_specialOf->Do,backTo->Ds,wpAny_passesOwn->Dz,PyData->DD,wpAny_typeNameOf_keyiter->DE,wpAny_typeNameOf_valiter->DF,Obj->DJ,tupleKind_room_in1->DM,wpAny_dictEpoch->DN,DictEntry->DO,builtinLookup_eq_fast->DP,wpAny_setField->DT,wpAny_isInstance->DW,wpAny_notOrdered_dict->Ea,wpAny_isOneOf_valiter->Ed,wpAny_rule->Ee,wpAny_attempt->Eh,NameKind->Ej,ReadsAll->Ek,wpAny_pyIter_revIter->El,wpAny_updateSeq_pair->Em,wpAny_execs_nil->Eo,wpAny_updateSeq->Er,wpAny_ite_split->Es,typeLookup_type->Et,wpAny_pyIter_tuple->Ew,wpAny_fieldsOf->EC,wpAny_letGo->EH,wpAny_pyIter_slot->EI,wpAny_comprehension_free->EM,wpAny_onRaise->EN,Scope->EO,wpAny_Call_method0_late->ER,wpAny_Dict_empty->ES,wpAny_pyNext_range_end->EW,wpAny_pyIter_rangeiter->EX,codeAny_mono->EZ,wpAny_Call_method_late->E2,call_meetsIn->E4,IsZip->E5,Pos->E6,wpAny_isTrue_Compare1->E7,wpAny_isOneOf_keyiter->E8,wpAny_pyNext_rev_item->Sa,IsRangeIter->Sd,isSubtype_stop->Sg,wpAny_pyIter_keyiter->Sh,wpAny_pyNext_rev_end->Si,wpAny_standAt->Sm,Reads->Sn,wpAny_handled->So,plainId_quiet->Sq,wpAny_pyIter_range->Ss,IsPart->Su,call_meets->Sw,wpAny_getItem_heap->Sy,wpAny_setItem_heap->Sz,call_reversed_list->SA,wpAny_assign_Name->SE,BindsTo->SI,Keyword->SK,eqIsQuiet_byValue->SN,wpAny_pyIter_enum->SQ,wpAny_pyHash_int->SU,wpAny_pyHash_str->SV,Env->SW,wpAny_execs_cons->SX,wpAny_forIn_list->Lc,wpAny_of_eq->Lf,wpAny_throw->Lg,wpAny_ret_mkInt->Lj,codeAny_builtin->Ll,wpAny_Name->Lo,ZipApart->Lv,wpAny_newTuple->Lw,intBits_le_64->Lz,evalPart_none->LA,call_list_seq->LC,wpAny_in_heap->LD,Result->LM,wpAny_typeOf->LO,seqIndex_neg->LP,seqIndex_of->L6,HeapKind->L9,wpAny_call->Fh,typeIs_str->Fi,PlainAttrs->Fj,Params->Fk,DefRec->Fx,Sem->Fz,Tok->FA
open Bool renaming true->Ge,false->Gp,false_ne_true->Gv,and_eq_true->Td,false_eq_true->Tu,and_eq_true_iff->DS,and_true->DX,and_self->DY,eq_iff_iff->DZ,eq_false_iff->EG,or_false->LB,not_true->LG
open Ne renaming symm->Gm
open Nat renaming le_refl->Gn,zero_le->Gx,ne_of_lt->GV,lt_of_lt_of_le->Tb,lt_or_ge->Te,ne_of_gt->Tn,le_trans->TD,le_add_right->T4,lt_irrefl->Dw,lt_succ_self->Dx,mul_le_mul_right->DC,add_lt_add_left->DI,add_mul->DK,le_succ->D1,min_eq_left->Ep,lt_of_le_of_lt->EA,lt_add_of_pos_right->ET,le_of_lt->EV,not_lt->SD,le_of_eq->SF,add_zero->SO,lt_succ_of_lt->SR,lt_trichotomy->SS,min_le_right->S0,le_of_not_lt->Lb,succ_ne_self->Le,one_mul->Lh,mul_le_mul->Lu,add_assoc->LF,lt_trans->LR
open PySem.PassesOwn renaming never->Gs
open PySem.PyData renaming canLayAll0->Gw,canLay0->GQ,eqv->GX,eqvAll->Tg,depthAll->Tj,strOk->TC,depth->TQ,int->TZ
open PyProof.Rows renaming boot_isinstance->Gz,boot_list->Ti,boot_tuple->Tx,callWith_type1->T9,slot_tuple_getitem->DG,boot_str->DQ,subscriptTail_builtinR->D4,AllBare->EF,IntsAre->E3,boot_int->Sc,callWith_builtin1->SY,wpAny_notIn_heap->La,slicePart_none->Lp,Subscript_->Lq,zipApart_new->Lx,boot_reversed->LH,boot_sorted->LJ,isTrue_plain->LK,boot_bool->LV,boot_abs->LW,boot_min->LX,isTrue_and->Ff,boot_range->Fg,Call_->Fw
open Array renaming getElem?_eq_getElem->Ta,length_toList->Ts,getElem?_toList->TM,getElem?_eq_none->T3,toArray_toList->DB,forIn_toList->D0,append_assoc->Sr,size_push->Lm,toList->LL
open Option.some renaming inj->Tc,injEq->Fp
open PySem.NameKind renaming free->Tk,cell->EL
open Int renaming emod_lt_of_pos->Tv,emod_nonneg->TH,toNat_natCast->T5,toNat->Dm,zero_add->Du,mul_le_mul_of_nonneg_right->Eg,ediv_one->LN,le_of_lt->LU,pow_pos->Fc
open Or renaming inl->TR,inr->Dp
open True renaming intro->TW
open Prod.mk renaming injEq->T1
open PySem.Str renaming ofString->Dc,empty->DU
open ForInStep renaming yield->Dq
open PySem.Obj renaming data_mapFields->Dy,mapSeq->DR,isFreed_of_fields->Eb,mapFields->Ei,cls_mapFields->EJ,data_mapDictKeys->Sf
open PySem.Calls renaming callWith_builtin->DL,spliced_nil->D2,Name_function_global->Ev,spliced_cons->Ez,call_function_entry->EE,evalArgs_plain->Se,call_len_list->Sk
open Classical renaming choose->Ef,choose_spec->E9,byContradiction->Ly
open Sum renaming inl->Eu,inr->EU
open PyProof renaming noPylong_small->EY
open PySem.Around renaming under_plainId->Sj,under->SG
open PySem.Code renaming isFrame->SH,frames->L4
open Prod renaming ext->SJ
open PySem.AutoSeq1 renaming list_extend_list_list_0->SM
open PySem.Shared renaming TypeIs->LI,heap->Fa
open PySem.MeetsSeq renaming list_pop_last->LQ
open PySem.Data renaming fields->LY,cell->Fq
open PySem.IsRange renaming new->LZ
open PySem.SeqAt.EqAt renaming int_str->Fd,str_int->Fe
open PySem.W renaming pre_splitW->Fl,OpenLaw->Fo
open PySem.W.WShape renaming has->Fn
open PySem.DictEntry renaming refKey->Fs
open PyProof.Rows.IsTup renaming new->Ft
open PySem.W.WData renaming int->Fu
open PySem.Expr renaming Call->Fv
open Function renaming comp->Fy
open Sum.inl renaming inj->FC
open Sum.inr renaming inj->FD
open PySem.W.OpenLaw renaming pre->FE
abbrev Xb:=@rfl
set_option Elab.async false
set_option linter.all false
set_option maxRecDepth 100000
local macro_rules
 |`(tactic|eq_refl)=>`(tactic|first
  |exact⟨Xb,Xb,Xb,by decide+kernel,Xb,by decide+kernel,by decide+kernel⟩
  |exact⟨by rfl,by decide+kernel,by decide+kernel,by decide+kernel⟩
  |exactλ_ _ _ _ _ _ us hl=>match us,hl with|[_],_=>rfl
  |exactλ_ _ _ _ _ _ us hl=>match us,hl with|[_,_],_=>rfl
  |exactλ_ _ _ _ _ _ us hl=>match us,hl with|[_,_,_],_=>rfl
  |exactλ_ _ _ _ _ _ us hl=>match us,hl with|[_,_,_,_],_=>rfl
  |exactλ_ _ _ _ _ _ us hl=>match us,hl with|[_,_,_,_,_],_=>rfl)
namespace L2
open PySem PySem.Spec PyProof.Rows
variable{a b C:Gc}{P:Gj}{w:Gu}{o:DJ}{t' i k n:Nat}{N ps:List GJ}{x:GJ}{M:Model}{A:Tz}{E Q:Value->Gi->Prop}{u:Value}{e tg:TJ}{s:Gi}{pins:List (Gc×DJ)}{pos:E6}{op:CmpOp}{K:PySem.W.Frag}{body:List T2}{fp:List Gc}{pl:Fz Bool}{f:Value->Value->Fz Value}{us:List Value}{kw:List (GJ×Value)}{mg:GJ->Option Value}
abbrev Xz:=Sum Int GJ
def Qdw:Xz->Value->Bool
 |.inl k,v=>Value.isInt k v
 |.inr x,v=>Value.isStrOf x v
def Q1l(w:Gu):Xz->Int
 |.inl k=>hashInt k
 |.inr x=>hashStr w x
theorem Y1:∀{k:Xz}{v:Value},Qdw k v=Ge->(∃i t,k=Eu i/\v=Value.int i t)\/(∃x t,k=EU x/\v=Value.str x t)
 |.inl i,v,h=>by obtain⟨t,e⟩:=Value.isInt_shape (k:=i) (v:=v) h;exact .inl ⟨i,t,Xb,e⟩
 |.inr x,v,h=>by obtain⟨t,e⟩:=Value.isStrOf_shape (x:=x) (v:=v) h;exact .inr ⟨x,t,Xb,e⟩
theorem Qnl(i:Int)(t:FA):Qdw (.inl i) (.int i t)=Ge:=by simp[Qdw,Value.isInt]
theorem Qn1(x:GJ)(t:FA):Qdw (.inr x) (.str x t)=Ge:=by simp[Qdw,Value.isStrOf]
theorem Qwb(a b:Int):decide ((Eu a:Xz)=Eu b)=(a==b):=by
 by_cases e:a=b
 ·subst e;simp
 ·have h:¬(Eu a:Xz)=Eu b:=λq=>e (FC q);rw[Gq h];exact(Df.mpr e).symm
theorem Qxt(a b:GJ):decide ((EU a:Xz)=EU b)=decide (a=b):=by
 by_cases e:a=b
 ·subst e;simp
 ·have h:¬(EU a:Xz)=EU b:=λq=>e (FD q);rw[Gq h,Gq e]
theorem Qwy(a:Int)(b:GJ):decide ((Eu a:Xz)=EU b)=Gp:=Gq (λq=>nomatch q)
theorem Qxj(a:GJ)(b:Int):decide ((EU a:Xz)=Eu b)=Gp:=Gq (λq=>nomatch q)
def Yp(prog:Gj)(w:Gu):PySem.KeyKind prog w Xz where
 is:=Qdw
 hash:=Q1l w
 inj:=λv a b f hb=>by
  rcases Y1 f with⟨i,t,rfl,rfl⟩|⟨x,t,rfl,rfl⟩
  ·rcases Y1 hb with⟨j,u,rfl,e⟩|⟨y,u,rfl,e⟩
   ·injection e with c _;rw[c]
   ·exact nomatch e
  ·rcases Y1 hb with⟨j,u,rfl,e⟩|⟨y,u,rfl,e⟩
   ·exact nomatch e
   ·injection e with c _;rw[c]
 byValue:=λk v h=>by rcases Y1 h with⟨i,t,rfl,rfl⟩|⟨x,t,rfl,rfl⟩<;>rfl
 pyHash:=λd h=>by
  rcases Y1 d with⟨i,t,rfl,rfl⟩|⟨x,t,rfl,rfl⟩
  ·exact SU h
  ·exact SV h
 eqBool:=λg d h=>by
  rcases Y1 g with⟨i,t,rfl,rfl⟩|⟨x,t,rfl,rfl⟩
  ·rcases Y1 d with⟨j,u,rfl,rfl⟩|⟨y,u,rfl,rfl⟩
   ·rw[Qwb]at h;exact wpAny_eqBool_int h
   ·rw[Qwy]at h;exact Fd i t y u _ _ _ _ h
  ·rcases Y1 d with⟨j,u,rfl,rfl⟩|⟨y,u,rfl,rfl⟩
   ·rw[Qxj]at h;exact Fe x t j u _ _ _ _ h
   ·rw[Qxt]at h;exact wpAny_eqBool_str h
 «strs»:=λk x t v h=>by
  rcases Y1 h with⟨i,u,rfl,e⟩|⟨y,u,rfl,e⟩
  ·exact nomatch e
  ·injection e with c _;subst c;cases v<;>rfl
theorem Qim(prog:Gj)(w:Gu)(i:Int)(t:FA):(Yp prog w).is (.inl i) (.int i t)=Ge:=Qnl i t
theorem Qgv(prog:Gj)(w:Gu)(x:GJ)(t:FA):(Yp prog w).is (.inr x) (.str x t)=Ge:=Qn1 x t
inductive V where
 |non|bl (b:Bool)|int (i:Int)|str (x:GJ)|byt (b:Array UInt8)|flt (b:UInt64)|ref (a:Gc)|ty (n:String)
 deriving DecidableEq
variable{v:V}{vs xs:List V}
def RelV:V->Value->Prop
 |.non,u=>u=Value.none
 |.bl b,u=>u=Value.bool b
 |.int i,u=>∃t,u=Value.int i t
 |.str x,u=>∃t,u=Value.str x t
 |.byt b,u=>∃t,u=Value.bytes b t
 |.flt b,u=>∃t,u=Value.float b t
 |.ref a,u=>u=Value.ref a
 |.ty n,u=>u=Value.type n
abbrev Z0:List V->List Value->Prop:=Paired RelV
theorem Z0.length{xs:List V}{us:List Value}(r:Z0 xs us):xs.length=us.length:=Paired.length r
theorem Z0.get:∀{xs:List V}{us:List Value}{i:Nat}{x:V},Z0 xs us->xs[i]?=Ga x->∃u,us[i]?=Ga u/\RelV x u
 |_,_,_,_,.nil,e=>by simp at e
 |_,_,0,_,.cons r _,e=>by simp at e;subst e;exact⟨_,Xb,r⟩
 |_,_,i+1,x,.cons _ t,e=>by obtain⟨u,h1,h2⟩:=Z0.get (i:=i) (x:=x) t (by simpa using e);exact⟨u,by simpa using h1,h2⟩
theorem Z0.append:∀{xs ys:List V}{us a:List Value},Z0 xs us->Z0 ys a->Z0 (xs++ys) (us++a)
 |_,_,_,_,.nil,s=>s
 |_,_,_,_,.cons r t,s=>.cons r (Z0.append t s)
theorem Z0.take:∀{xs:List V}{us:List Value}(n:Nat),Z0 xs us->Z0 (xs.take n) (us.take n)
 |_,_,0,_=>.nil
 |_,_,_+1,.nil=>.nil
 |_,_,n+1,.cons r t=>.cons r (Z0.take n t)
theorem Z0.drop:∀{xs:List V}{us:List Value}(n:Nat),Z0 xs us->Z0 (xs.drop n) (us.drop n)
 |_,_,0,r=>r
 |_,_,_+1,.nil=>.nil
 |_,_,n+1,.cons _ t=>Z0.drop n t
def Ib:Option V->Option Value->Prop
 |some v,Ga u=>RelV v u
 |none,Gf=>True
 |_,_=>False
def KV{κ:Type}:List (κ×V)->List (κ×Value)->Prop:=Paired λ(p:κ×V)(q:κ×Value)=>p.1=q.1/\RelV p.2 q.2
def kV:Xz->V
 |.inl i=>.int i
 |.inr x=>.str x
inductive HO where
 |lst (xs:List V)
 |tup (xs:List V)
 |dK (kvs:List (Xz×V))|dT (kvs:List (List Xz×V))
 |set (S:Int->Bool) (n:Nat)
 |ins (C dx:Gc) (fs:List (GJ×V))
 |own (x:Gc)
 |xd (fs:List (GJ×V))
 |met (f x:Gc)
 |rng (lo hi:Int)
 |frz (o:DJ) (u:HO)
 |tbl (ps:Array Value)
 |ext (φ:Heap->Prop)
abbrev Hp:=Gc->Option HO
variable{H:Hp}
def upd(H:Hp)(a:Gc)(o:HO):Hp:=λb=>if b=a then Ga o else H b
theorem Qb{H:Hp}{a:Gc}{o:HO}:upd H a o a=Ga o:=by unfold upd;rw[Gk rfl]
theorem Qg{o:HO}(h:b≠a):upd H a o b=H b:=by unfold upd;rw[Gg h]
theorem Wt{o u:HO}:upd (upd H a o) a u=upd H a u:=by
 funext b;unfold upd;split<;>rfl
theorem Zy{o u:HO}(h:H a=Ga o)(h':H b=Ga u)(d:o≠u):a≠b:=by intro e;subst e;rw[h]at h';exact d (Tc h')
theorem Qd{o:HO}(h:H a=Ga o)(h':H b=Gf):a≠b:=by intro e;subst e;rw[h]at h';cases h'
section
variable(P:Gj)(w:Gu)
def Yk(H:Hp)(h:Heap)(a:Gc):HO->Prop
 |.lst xs=>xs.length<=Gh/\∃(its:List Value)(n:Nat),Z0 xs its/\h.get? a=Ga {cls:=.type "list",data:=.seq its.toArray n}
 |.tup xs=>xs.length<=Gh/\∃its:List Value,Z0 xs its/\IsTup h a its.toArray
 |.dK kvs=>kvs.length<=Gh/\(a==TV)=Gp/\∃vs,KV kvs vs/\h.DictOf (Yp P w) a vs
 |.dT kvs=>kvs.length<=Gh/\(a==TV)=Gp/\∃xs:List (List Xz×Gc×Value),
   Paired (λ(p:List Xz×V)(q:List Xz×Gc×Value)=>p.1=q.1/\H q.2.1=Ga (.tup (p.1.map kV))/\RelV p.2 q.2.2) kvs xs/\
   ∃o es ep,h.get? a=Ga o/\o.ExactDict/\o.data=.dict es ep/\es.toList=xs.map (entryOfKey (tupleKind (Yp P w)))/\(xs.map (·.1)).Nodup
 |.set S n=>h.SetOf (intKind P w) a S n
 |.ins C dx fs=>H dx=Ga (.own a)/\fs.length<=1000/\dx≠a/\h.get? a=Ga (PySem.W.instObj C dx)/\
   ∃mA,h.Ns1 dx mA/\(∀f,Ib (fs.lookup f) (mA f))/\PySem.Within mA (fs.map (·.1))
 |.own _=>∃o,h.get? a=Ga o
 |.xd fs=>∃mA,h.Ns1 a mA/\∀f,Ib (fs.lookup f) (mA f)
 |.rng lo hi=>∃t u v,h.get? a=Ga {cls:=.type "range",data:=.fields #[.int lo t,.int hi u,.int 1 v]}
 |.frz o u=>h.get? a=Ga o/\Yk H h a u
 |.tbl ps=>h.get? a=Ga {cls:=.none,data:=.fields ps}
 |.met f x=>h.get? a=Ga (PySem.W.methodObj (.ref f) (.ref x))
 |.ext φ=>φ h/\(∃o,h.get? a=Ga o)/\∀h1 h2:Heap,φ h1->(∀o,h1.get? a=Ga o->h2.get? a=Ga o)->φ h2
def Rf(H:Hp)(h:Heap):Prop:=∀a o,H a=Ga o->Yk P w H h a o
end
section
variable{P:Gj}{w:Gu}{H H':Hp}{h h':Heap}{a:Gc}{o:HO}
theorem Yk.lt(x:Yk P w H h a o):a<h.objs.size:=by
 cases o with
 |lst xs=>obtain⟨_,_,_,_,e⟩:=x;exact Heap.lt_size e
 |tup xs=>obtain⟨_,_,_,p⟩:=x;exact p.lt
 |dK kvs=>obtain⟨_,_,_,_,o,_,_,e,_⟩:=x;exact Heap.lt_size e
 |dT kvs=>obtain⟨_,_,_,_,o,_,_,e,_⟩:=x;exact Heap.lt_size e
 |set S n=>obtain⟨o,_,_,_,e,_⟩:=x;exact Heap.lt_size e
 |ins C dx fs=>obtain⟨_,_,_,e,_⟩:=x;exact Heap.lt_size e
 |own y=>obtain⟨_,e⟩:=x;exact Heap.lt_size e
 |xd fs=>obtain⟨_,⟨_,_,_,e,_⟩,_⟩:=x;exact Heap.lt_size e
 |rng lo hi=>obtain⟨_,_,_,e⟩:=x;exact Heap.lt_size e
 |frz ob u=>obtain⟨e,_⟩:=x;exact Heap.lt_size e
 |tbl ps=>exact Heap.lt_size (show h.get? a=Ga _ from x)
 |met f y=>exact Heap.lt_size (show h.get? a=Ga _ from x)
 |ext φ=>obtain⟨_,⟨_,e⟩,_⟩:=x;exact Heap.lt_size e
theorem Paired.Z7{α β:Type}{F G:α->β->Prop}:∀{c:List α}{l₂:List β},Paired F c l₂->(∀a b,F a b->G a b)->Paired G c l₂
 |_,_,.nil,_=>.nil
 |_,_,.cons r t,f=>.cons (f _ _ r) (Paired.Z7 t f)
theorem Yk.Qir(x:Yk P w H h a o)(k:∀b u,(b=a\/H b=Ga (.own a))->h.get? b=Ga u->h'.get? b=Ga u)
  (i:∀b,H b=Ga (.own a)->H' b=Ga (.own a))(j:∀b xs,H b=Ga (.tup xs)->H' b=Ga (.tup xs)):Yk P w H' h' a o:=by
 induction o with
 |lst xs=>obtain⟨z,its,n,r,e⟩:=x;exact⟨z,its,n,r,k _ _ (.inl Xb) e⟩
 |tup xs=>obtain⟨z,its,r,ob,e,c⟩:=x;exact⟨z,its,r,ob,k _ _ (.inl Xb) e,c⟩
 |dK kvs=>obtain⟨z,y,vs,r,ob,es,ep,e,c⟩:=x;exact⟨z,y,vs,r,ob,es,ep,k _ _ (.inl Xb) e,c⟩
 |dT kvs=>obtain⟨z,y,xs,r,ob,es,ep,e,c⟩:=x;exact⟨z,y,xs,Paired.Z7 r λp q z=>⟨z.1,j _ _ z.2.1,z.2.2⟩,ob,es,ep,k _ _ (.inl Xb) e,c⟩
 |set S n=>obtain⟨ob,es,ep,t,e,c⟩:=x;exact⟨ob,es,ep,t,k _ _ (.inl Xb) e,c⟩
 |ins C dx fs=>obtain⟨d,z,ne,e,mA,⟨od,es,ep,g,c⟩,r⟩:=x;exact⟨i _ d,z,ne,k _ _ (.inl Xb) e,mA,⟨od,es,ep,k _ _ (.inr d) g,c⟩,r⟩
 |own y=>obtain⟨ob,e⟩:=x;exact⟨ob,k _ _ (.inl Xb) e⟩
 |xd fs=>obtain⟨mA,⟨od,es,ep,e,c⟩,r⟩:=x;exact⟨mA,⟨od,es,ep,k _ _ (.inl Xb) e,c⟩,r⟩
 |rng lo hi=>obtain⟨t,u,v,e⟩:=x;exact⟨t,u,v,k _ _ (.inl Xb) e⟩
 |frz ob u l=>obtain⟨e,q⟩:=x;exact⟨k _ _ (.inl Xb) e,l q⟩
 |tbl ps=>have e:h.get? a=Ga {cls:=.none,data:=.fields ps}:=x;show h'.get? a=Ga {cls:=.none,data:=.fields ps};exact k a _ (.inl Xb) e
 |met f y=>have e:h.get? a=Ga (PySem.W.methodObj (.ref f) (.ref y)):=x;show h'.get? a=Ga (PySem.W.methodObj (.ref f) (.ref y));exact k a _ (.inl Xb) e
 |ext φ=>obtain⟨p,⟨o,e⟩,st⟩:=x;exact⟨st _ _ p λo q=>k _ _ (.inl Xb) q,⟨o,k _ _ (.inl Xb) e⟩,st⟩
theorem Rf.lt(x:Rf P w H h)(e:H a=Ga o):a<h.objs.size:=(x a o e).lt
theorem Rf.fresh(x:Rf P w H h)(e:h.objs.size<=a):H a=Gf:=by
 cases q:H a with
 |none=>rfl
 |some u=>exact absurd (Tb (x.lt q) e) (Dw _)
theorem Rf.kept(x:Rf P w H h)(k:∀b u,h.get? b=Ga u->h'.get? b=Ga u):Rf P w H h':=λa o e=>(x a o e).Qir (λb u _ q=>k b u q) (λ_ q=>q) λ_ _ q=>q
theorem Rf.laid(x:Rf P w H h)(k:∀b u,h.get? b=Ga u->h'.get? b=Ga u)(f:h.objs.size<=a)(new:Yk P w (upd H a o) h' a o):Rf P w (upd H a o) h':=λb u e=>by
 have d:=x.fresh f;by_cases hb:b=a
 ·subst hb;rw[Qb]at e;cases e;exact new
 ·rw[Qg hb]at e;exact(x b u e).Qir (λc v _ q=>k c v q) (λc q=>by rw[Qg (Qd q d)];exact q) λc xs q=>by rw[Qg (Qd q d)];exact q
end
def Rd(H:Hp)(a:Gc)(u:HO):Prop:=H a=Ga u\/∃o,H a=Ga (.frz o u)
theorem Rd.ok{h:Heap}{u:HO}(r:Rd H a u)(x:Rf P w H h):Yk P w H h a u:=by
 rcases r with r|⟨o,r⟩
 ·exact x a u r
 ·obtain⟨_,q⟩:=x a _ r;exact q
def Mut:Option HO->Prop
 |some (.lst _)=>True
 |some (.dK _)=>True
 |some (.dT _)=>True
 |some (.set _ _)=>True
 |some (.ins _ _ _)=>True
 |some (.ext _)=>True
 |_=>False
section
variable{P:Gj}{w:Gu}{H:Hp}{h h':Heap}{x e:Gc}{o':HO}
theorem Rf.write(ok:Rf P w H h)(mu:Mut (H x))(j:e=x\/H e=Ga (.own x))(k:∀b u,b≠e->h.get? b=Ga u->h'.get? b=Ga u)(i:∃u,h'.get? e=Ga u)
  (new:Yk P w (upd H x o') h' x o'):Rf P w (upd H x o') h':=λb u q=>by
 have d:∀c y,H c=Ga (.own y)->c≠x:=λc y r z=>by subst z;rw[r]at mu;exact mu
 have f:∀c xs,H c=Ga (.tup xs)->c≠x:=λc xs r z=>by subst z;rw[r]at mu;exact mu
 by_cases hb:b=x
 ·subst hb;rw[Qb]at q;cases q;exact new
 ·rw[Qg hb]at q;by_cases a:b=e
  ·have l:H b=Ga (.own x):=by
    rcases j with z|z
    ·exact absurd (a.trans z) hb
    ·rw[a];exact z
   rw[q]at l;cases l;obtain⟨v,m⟩:=i;exact⟨v,by rw[a];exact m⟩
  ·refine(ok b u q).Qir (λc v g r=>k c v ?_ r) (λc r=>by rw[Qg (d c b r)];exact r) λc xs r=>by rw[Qg (f c xs r)];exact r
   rcases g with rfl|g
   ·exact a
   ·rintro rfl;rcases j with z|z
    ·exact d c b g z
    ·rw[g]at z;cases z;exact hb rfl
end
structure Un(fs ex:List Gc)(H H':Hp)(h h':Heap):Prop where
 keep:∀b o,h.get? b=Ga o->H b=Gf->b∉fs->b∉ex->h'.get? b=Ga o
 slot:∀b o,h.get? b=Ga o->H b=Gf->b∈fs->b∉ex->∃sl,h'.get? b=Ga {o with slots:=sl}
 free:∀b o,h.get? b=Ga o->H b=Gf->b∉ex->H' b=Gf
 there:∀b o,h.get? b=Ga o->b∉ex->∃o',h'.get? b=Ga o'
 Qr:∀b xs,H b=Ga (.tup xs)->H' b=Ga (.tup xs)
 Of:∀b o u,H b=Ga (.frz o u)->H' b=Ga (.frz o u)
 Qbg:∀b ps,H b=Ga (.tbl ps)->∃more,H' b=Ga (.tbl (ps++more))
section
variable{fs fs' ex ex':List Gc}{H H1 H2:Hp}{h h1 h2 h':Heap}{a x e:Gc}{o:HO}
theorem Un.any(u:Un fs ex H H1 h h1){ob:DJ}(q:h.get? b=Ga ob)(n:H b=Gf)(a:b∉ex):∃sl,h1.get? b=Ga {ob with slots:=sl}:=by
 by_cases hb:b∈fs
 ·exact u.slot b ob q n hb a
 ·exact⟨ob.slots,u.keep b ob q n hb a⟩
theorem Un.trans(a:Un fs ex H H1 h h1)(b:Un fs ex H1 H2 h1 h2):Un fs ex H H2 h h2 where
 keep:=λc ob q n f d=>b.keep c ob (a.keep c ob q n f d) (a.free c ob q n d) f d
 slot:=λc ob q n f d=>by obtain⟨sl,e⟩:=a.slot c ob q n f d;obtain⟨i,g⟩:=b.slot c _ e (a.free c ob q n d) f d;exact⟨i,g⟩
 free:=λc ob q n d=>by obtain⟨o',e⟩:=a.there c ob q d;exact b.free c o' e (a.free c ob q n d) d
 there:=λc ob q d=>by obtain⟨o',e⟩:=a.there c ob q d;exact b.there c o' e d
 Qr:=λc xs q=>b.Qr c xs (a.Qr c xs q)
 Of:=λc ob xs q=>b.Of c ob xs (a.Of c ob xs q)
 Qbg:=λc ps q=>by obtain⟨j,e⟩:=a.Qbg c ps q;obtain⟨k,g⟩:=b.Qbg c _ e;exact⟨j++k,by rw[g,Sr]⟩
theorem Un.kept(k:∀b u,h.get? b=Ga u->h'.get? b=Ga u):Un fs ex H H h h':=
 ⟨λb ob q _ _ _=>k b ob q,λb ob q _ _ _=>⟨ob.slots,k b ob q⟩,λ_ _ _ n _=>n,λb ob q _=>⟨ob,k b ob q⟩,λ_ _ q=>q,λ_ _ _ q=>q,λ_ ps q=>⟨#[],by rw[q];simp⟩⟩
theorem Un.refl:Un fs ex H H h h:=Un.kept λ_ _ q=>q
theorem Un.laid(k:∀b u,h.get? b=Ga u->h'.get? b=Ga u)(d:h.objs.size<=a)(c:H a=Gf):Un fs ex H (upd H a o) h h' where
 keep:=λb u q _ _ _=>k b u q
 slot:=λb u q _ _ _=>⟨u.slots,k b u q⟩
 free:=λb u q n _=>by rw[Qg (GV (Tb (Heap.lt_size q) d))];exact n
 there:=λb u q _=>⟨u,k b u q⟩
 Qr:=λb xs q=>by rw[Qg (Qd q c)];exact q
 Of:=λb u xs q=>by rw[Qg (Qd q c)];exact q
 Qbg:=λb ps q=>⟨#[],by rw[Qg (Qd q c),q];simp⟩
theorem Un.write(mu:Mut (H x))(g:e=x\/H e=Ga (.own x))(k:∀b u,b≠e->h.get? b=Ga u->h'.get? b=Ga u)(c:∃u,h'.get? e=Ga u):Un fs ex H (upd H x o) h h':=by
 have f:∀b,H b=Gf->b≠x:=λb n z=>by subst z;rw[n]at mu;exact mu
 have hb:∀b,H b=Gf->b≠e:=λb n z=>by
  subst z;rcases g with r|r
  ·exact f b n r
  ·rw[n]at r;cases r
 have d:∀b u,H b=Ga u->¬Mut (Ga u)->b≠x:=λb u q i z=>by subst z;rw[q]at mu;exact i mu
 refine⟨λb u q n _ _=>k b u (hb b n) q,λb u q n _ _=>⟨u.slots,k b u (hb b n) q⟩,λb u q n _=>by rw[Qg (f b n)];exact n,λb u q _=>?_,
  λb xs q=>by rw[Qg (d b _ q λz=>z)];exact q,λb u xs q=>by rw[Qg (d b _ q λz=>z)];exact q,λb ps q=>⟨#[],by rw[Qg (d b _ q λz=>z),q];simp⟩⟩
 by_cases a:b=e
 ·subst a;exact c
 ·exact⟨u,k b u a q⟩
end
def trk(h:Heap)(H:Hp):List Gc:=(List.range h.objs.size).filter λa=>(H a).isSome
def Qgn(h:Heap)(H:Hp):Heap:=PySem.W.hideAll h (trk h H)
theorem Qmw(h:Heap)(H:Hp):(Qgn h H).objs.size=h.objs.size:=PySem.W.hideAll_size _ _
theorem Qq8{h:Heap}(e:h.get? b=Ga o)(n:H b=Gf):(Qgn h H).get? b=Ga o:=
 PySem.W.hideAll_get _ e λa=>by have q:(H b).isSome=Ge:=(List.mem_filter.mp a).2;rw[n]at q;simp at q
theorem Qtt{h:Heap}(e:(Qgn h H).get? b=Ga o):h.get? b=Ga o/\H b=Gf:=by
 have a:h.get? b=Ga o:=PySem.W.of_hideAll (trk h H) e;refine⟨a,?_⟩;cases q:H b with
 |none=>rfl
 |some x=>have c:b∈trk h H:=List.mem_filter.mpr ⟨List.mem_range.mpr (Heap.lt_size a),by simp[q]⟩;have z:(Qgn h H).get? b=Gf:=PySem.W.hideAll_none (trk h H) c;rw[z]at e;cases e
def Qvd(g h:Heap)(L:Gc):List (Gc×DJ):=(List.range h.objs.size).filterMap λa=>if a=L\/(g.get? a).isSome=Ge then Gf else(h.get? a).map λo=>(a,o)
def X8(g h:Heap)(L d:Gc):List (Gc×DJ):=(Qvd g h L).filter λp=>decide (p.1≠d)
structure Mod(K:PySem.W.Frag)(mg:GJ->Option Value)(base:Heap):Prop where
 kin:K.In base
 glob:base.Ns T6 mg
 blt:∃mb,base.Ns builtinsNs mb/\∀x:GJ,x≠"__name__"->mb x=bootBuiltins x
 nolimit:base.NoLimit
structure Cx where
 prog:Gj
 w:Gu
 K:PySem.W.Frag
 mg:GJ->Option Value
 base:Heap
 A:Tz
 N:List GJ
 s₀:Gi
 H₀:Hp
 env:SW
 outer:List SW
 stack:List SW
 ex:List Gc
 fn:GJ->Bool
 calm:Bool
 pn:List (Gc×DJ)
 xe:Value->Gi->Prop
variable{X:Cx}
def frs(l:List SW):List Gc:=l.filterMap (·.frame)
abbrev Cx.fs(X:Cx):List Gc:=frs X.outer
def Vis(a:EO)(x:GJ):Prop:=a.names.lookup x=Ga .local\/a.names.lookup x=Ga .cell\/a.names.lookup x=Ga .free
def Loc(a:EO)(x:GJ):Prop:=a.names.lookup x=Ga .local\/a.names.lookup x=Ga .cell
def Look(env:SW)(h:Heap)(m:GJ->Option Value)(x:GJ)(u:Value):Prop:=
 (env.kindOf x=Ga .local/\m x=Ga u)\/((env.kindOf x=Ga .cell\/env.kindOf x=Ga .free)/\∃c,env.cells.lookup x=Ga c/\h.IsCell c (Ga u))
structure Cx.Ok(X:Cx):Prop where
 mod:Mod X.K X.mg X.base
 kind:X.env.scope.kind=.function
 glob:X.env.globals=T6
 blt:X.env.builtins=builtinsNs
 above:X.s₀.heap.objs.size<=X.env.locals
 inj:∀x y c,X.env.cells.lookup x=Ga c->X.env.cells.lookup y=Ga c->x=y
 has:∀x,(X.env.kindOf x=Ga .cell\/X.env.kindOf x=Ga .free)->∃c,X.env.cells.lookup x=Ga c
 cab:∀x c,X.fn x=Ge->X.env.cells.lookup x=Ga c->X.s₀.heap.objs.size<=c
 hd:X.calm=Ge->X.A.handled=Gf
 frames:X.A.frames=Ga X.stack
 stk:X.stack=X.outer\/(X.stack=X.env::X.outer/\X.env.frame=Ga X.env.locals)
 exf:∀b∈X.ex,b≠X.env.locals/\∀x c,X.env.cells.lookup x=Ga c->c≠b
 bs:∀b o,X.base.get? b=Ga o->X.s₀.heap.get? b=Ga o/\X.H₀ b=Gf
 bsz:X.base.objs.size<=X.s₀.heap.objs.size
 Qo1:∀b o,X.base.get? b=Ga o->b∉X.ex
 Qu4:∀b∈X.ex,b∉X.fs
 Qbn:X.s₀.heap.FunFrames X.base X.outer
 frf:∀b∈X.fs,X.H₀ b=Gf
structure Inv(X:Cx)(pins:List (Gc×DJ))(σ:List (Option V))(H:Hp)(s:Gi):Prop where
 ok:X.Ok
 os:s.os=X.s₀.os
 bare:EF s.gens
 base:Un X.fs X.ex X.H₀ H X.s₀.heap s.heap
 loc:∃m,s.heap.Ns X.env.locals m/\∀(i:Nat)(x:GJ)(v:V),X.N[i]?=Ga x->σ[i]?=Ga (Ga v)->Vis X.env.scope x->∃u,RelV v u/\Look X.env s.heap m x u
 cell:∀x c,X.env.cells.lookup x=Ga c->∃v,s.heap.IsCell c v
 free:H X.env.locals=Gf
 Jk:∀x c,X.env.cells.lookup x=Ga c->H c=Gf
 pin:∀p∈X.pn++pins,s.heap.get? p.1=Ga p.2/\H p.1=Gf/\p.1≠X.env.locals/\p.1∉X.fs/\∀v,p.2.data≠.cell v
 Z4:Rf X.prog X.w H s.heap
 len:σ.length=X.N.length
section
variable{X:Cx}{pins:List (Gc×DJ)}{σ:List (Option V)}{H H':Hp}{s:Gi}{h':Heap}
theorem Cx.Ok.Q02(ok:X.Ok)(e:X.base.get? b=Ga o):b∉X.fs:=λhb=>by have:=(ok.Qbn.mem hb).1;rw[e]at this;cases this
theorem Inv.bs(I:Inv X pins σ H s):∀b o,X.base.get? b=Ga o->s.heap.get? b=Ga o/\H b=Gf:=λb o e=>⟨I.base.keep b o (I.ok.bs b o e).1 (I.ok.bs b o e).2 (I.ok.Q02 e) (I.ok.Qo1 b o e),I.base.free b o (I.ok.bs b o e).1 (I.ok.bs b o e).2 (I.ok.Qo1 b o e)⟩
theorem Inv.bk(I:Inv X pins σ H s):∀b o,X.base.get? b=Ga o->s.heap.get? b=Ga o:=λb o e=>(I.bs b o e).1
theorem Inv.mod(I:Inv X pins σ H s):Mod X.K X.mg X.base:=I.ok.mod
theorem Inv.kIn(I:Inv X pins σ H s):X.K.In s.heap:=I.ok.mod.kin.keeps I.bk
theorem Inv.lt(I:Inv X pins σ H s):X.env.locals<s.heap.objs.size:=let⟨_,hn,_⟩:=I.loc;hn.lt
theorem Inv.sz(I:Inv X pins σ H s):X.s₀.heap.objs.size<=s.heap.objs.size:=TD I.ok.above (EV I.lt)
theorem Inv.Q0z(I:Inv X pins σ H s)(h:s.heap.objs.size<=a):a∉X.fs:=λhb=>by obtain⟨_,o,b,_⟩:=I.ok.Qbn.mem hb;exact absurd (Tb (Heap.lt_size b) (TD I.sz h)) (Dw _)
theorem Inv.cne(I:Inv X pins σ H s):∀x c,X.env.cells.lookup x=Ga c->c≠X.env.locals:=λx c e z=>by obtain⟨v,o,d,hd⟩:=I.cell x c e;obtain⟨m,⟨o',es,ep,b,a,_⟩,_⟩:=I.loc;rw[z,b]at d;cases d;rw[a]at hd;cases hd
theorem Inv.Qbn(I:Inv X pins σ H s):s.heap.FunFrames X.base X.outer:=by
 have all:∀(l:List SW),(∀b∈frs l,b∈X.fs)->X.s₀.heap.FunFrames X.base l->s.heap.FunFrames X.base l:=by
  intro l;induction l with
  |nil=>intro _ _;trivial
  |cons env r k=>intro d g;obtain⟨f,⟨L,o,c,h,i,hd⟩,j⟩:=g;have a:L∈X.fs:=d L (by unfold frs;rw[List.filterMap_cons,c];exact List.mem_cons_self);obtain⟨sl,e⟩:=I.base.slot L o i (I.ok.frf L a) a λz=>I.ok.Qu4 L z a;exact⟨f,⟨L,_,c,h,e,hd⟩,k (λb hb=>d b (by unfold frs;rw[List.filterMap_cons,c];exact List.mem_cons_of_mem _ hb)) j⟩
 exact all X.outer (λ_ hb=>hb) I.ok.Qbn
theorem Inv.stack(I:Inv X pins σ H s):s.heap.FunFrames X.base X.stack:=by
 rcases I.ok.stk with e|⟨e,a⟩
 ·rw[e];exact I.Qbn
 ·rw[e];obtain⟨m,b,_⟩:=I.loc;refine .cons (by rw[I.ok.kind];decide) a b ?_ I.Qbn;exact Heap.get?_none_of_le (TD I.ok.bsz I.ok.above)
theorem Inv.Qge(I:Inv X pins σ H s):∀b∈frs X.stack,b∈X.env.locals::X.fs:=λb hb=>by
 rcases I.ok.stk with e|⟨e,a⟩
 ·rw[e]at hb;exact List.mem_cons_of_mem _ hb
 ·rw[e]at hb;unfold frs at hb;rw[List.filterMap_cons,a]at hb;exact hb
theorem Inv.Ql5(I:Inv X pins σ H s):∀b∈frs X.stack,H b=Gf:=λb hb=>by
 rcases List.mem_cons.mp (I.Qge b hb)with e|hb
 ·rw[e];exact I.free
 ·obtain⟨_,o,a,_⟩:=I.ok.Qbn.mem hb;exact I.base.free b o a (I.ok.frf b hb) λz=>I.ok.Qu4 b z hb
theorem Inv.step{g':Array GenState}{t':Nat}{d':Drawn}{ch:List Gc}(I:Inv X pins σ H s)
  (g:∀b∈ch,(b∈X.ex\/X.s₀.heap.objs.size<=b)/\b≠X.env.locals/\(∀x c,X.env.cells.lookup x=Ga c->c≠b)/\∀p∈X.pn++pins,p.1≠b)
  (keep:∀b o,b≠X.env.locals->b∉X.fs->b∉ch->s.heap.get? b=Ga o->H b=Gf->h'.get? b=Ga o)
  (slot:∀b o,b≠X.env.locals->b∈X.fs->b∉ch->s.heap.get? b=Ga o->H b=Gf->∃sl,h'.get? b=Ga {o with slots:=sl})(free:∀b o,b∉ch->s.heap.get? b=Ga o->H b=Gf->H' b=Gf)
  (there:∀b o,b∉ch->s.heap.get? b=Ga o->∃o',h'.get? b=Ga o')
  (Qr:∀b xs,H b=Ga (.tup xs)->H' b=Ga (.tup xs))(Of:∀b o u,H b=Ga (.frz o u)->H' b=Ga (.frz o u))(Qbg:∀b ps,H b=Ga (.tbl ps)->∃more,H' b=Ga (.tbl (ps++more)))
  (ns:∀m,s.heap.Ns X.env.locals m->h'.Ns X.env.locals m)(Z4:Rf X.prog X.w H' h')(J:EF g'):
  Inv X pins σ H' {s with heap:=h',gens:=g',drawn:=d',toks:=t'}:=by
 have B:∀b o,X.s₀.heap.get? b=Ga o->b≠X.env.locals:=λb o e=>GV (Tb (Heap.lt_size e) I.ok.above);have t:∀b o,X.s₀.heap.get? b=Ga o->b∉X.ex->b∉ch:=λb o e a hb=>by
  rcases(g b hb).1 with z|z
  ·exact a z
  ·exact absurd (Tb (Heap.lt_size e) z) (Dw _)
 have f:∀x c,X.env.cells.lookup x=Ga c->∀v,s.heap.IsCell c v->h'.IsCell c v:=λx c e v⟨o,y,hd⟩=>by
  have h:c∉ch:=λz=>(g c z).2.2.1 x c e rfl;by_cases D:c∈X.fs
  ·obtain⟨sl,q⟩:=slot c o (I.cne x c e) D h y (I.Jk x c e);exact⟨_,q,hd⟩
  ·exact⟨o,keep c o (I.cne x c e) D h y (I.Jk x c e),hd⟩
 refine⟨I.ok,I.os,J,⟨λb o e n hb a=>?_,λb o e n hb a=>?_,λb o e n a=>?_,λb o e a=>?_,λb xs e=>Qr b xs (I.base.Qr b xs e),λb o xs e=>Of b o xs (I.base.Of b o xs e),λb ps e=>?_⟩,?_,λx c e=>?_,?_,λx c e=>?_,λp E=>?_,Z4,I.len⟩
 ·exact keep b o (B b o e) hb (t b o e a) (I.base.keep b o e n hb a) (I.base.free b o e n a)
 ·obtain⟨sl,j⟩:=I.base.slot b o e n hb a;obtain⟨C,A⟩:=slot b _ (B b o e) hb (t b o e a) j (I.base.free b o e n a);exact⟨C,A⟩
 ·obtain⟨o',j⟩:=I.base.there b o e a;exact free b o' (t b o e a) j (I.base.free b o e n a)
 ·obtain⟨o',j⟩:=I.base.there b o e a;exact there b o' (t b o e a) j
 ·obtain⟨M,j⟩:=I.base.Qbg b ps e;obtain⟨N,A⟩:=Qbg b _ j;exact⟨M++N,by rw[A,Sr]⟩
 ·obtain⟨m,L,K⟩:=I.loc;refine⟨m,ns m L,λi x v j A G=>?_⟩;obtain⟨u,r,l⟩:=K i x v j A G;refine⟨u,r,?_⟩;rcases l with l|⟨k,c,e,z⟩
  ·exact .inl l
  ·exact .inr ⟨k,c,e,f x c e _ z⟩
 ·obtain⟨v,z⟩:=I.cell x c e;exact⟨v,f x c e v z⟩
 ·obtain⟨m,⟨o,_,_,y,_⟩,_⟩:=I.loc;exact free _ o (λz=>(g _ z).2.1 Xb) y I.free
 ·obtain⟨v,o,y,hd⟩:=I.cell x c e;exact free c o (λz=>(g c z).2.2.1 x c e Xb) y (I.Jk x c e)
 ·obtain⟨e,n,ne,F,d⟩:=I.pin p E;have h:p.1∉ch:=λz=>(g p.1 z).2.2.2 p E rfl;exact⟨keep p.1 p.2 ne F h e n,free p.1 p.2 h e n,ne,F,d⟩
theorem Inv.un(I:Inv X pins σ H s)(u:Un X.fs [] H H' s.heap h')(Z4:Rf X.prog X.w H' h'):Inv X pins σ H' {s with heap:=h',toks:=t'}:=by obtain⟨m,⟨o,es,ep,f,r⟩,_⟩:=id I.loc;obtain⟨sl,g⟩:=u.any f I.free (by simp);exact I.step (g':=s.gens) (d':=s.drawn) (ch:=[]) (λ_ z=>nomatch z) (λb o _ hb _ e n=>u.keep b o e n hb (by simp)) (λb o _ hb _ e n=>u.slot b o e n hb (by simp)) (λb o _ e n=>u.free b o e n (by simp)) (λb o _ e=>u.there b o e (by simp)) u.Qr u.Of u.Qbg (λj h=>by obtain⟨o',d,c,a,i⟩:=h;rw[f]at a;cases a;exact⟨_,d,c,g,i⟩) Z4 I.bare
theorem Inv.call{g':Array GenState}{d':Drawn}{ch:List Gc}(I:Inv X pins σ H s)(u:Un (frs X.stack) ch H H' s.heap h')(Z4:Rf X.prog X.w H' h')(k:EF g')
  (d:∀b∈ch,(b∈X.ex\/X.s₀.heap.objs.size<=b)/\b≠X.env.locals/\(∀x c,X.env.cells.lookup x=Ga c->c≠b)/\∀p∈X.pn++pins,p.1≠b):
  Inv X pins σ H' {s with heap:=h',gens:=g',drawn:=d',toks:=t'}:=by
 obtain⟨m,⟨o,es,ep,j,r⟩,_⟩:=id I.loc;obtain⟨sl,i⟩:=u.any j I.free λz=>(d _ z).2.1 rfl;exact I.step (ch:=ch) d (λb o i hb a e n=>u.keep b o e n (λz=>(List.mem_cons.mp (I.Qge b z)).elim i hb) a) (λb o _ _ a e n=>u.any e n a) (λb o a e n=>u.free b o e n a) (λb o a e=>u.there b o e a) u.Qr u.Of u.Qbg (λt l=>by obtain⟨o',h,g,f,q⟩:=l;rw[j]at f;cases f;exact⟨_,h,g,i,q⟩) Z4 k
theorem Inv.turned{it:Gc}(I:Inv X pins σ H s)(k:∀b o,b≠it->s.heap.get? b=Ga o->h'.get? b=Ga o)(i:H it=Gf)(f:it≠X.env.locals)
  (h1:it∈X.ex\/X.s₀.heap.objs.size<=it)(h2:∀x c,X.env.cells.lookup x=Ga c->c≠it)(g:∀p∈X.pn++pins,p.1≠it):Inv X pins σ H {s with heap:=h',toks:=t'}:=by
 have d:∀b u,H b=Ga u->b≠it:=λb u e z=>by rw[z,i]at e;cases e
 refine I.step (g':=s.gens) (d':=s.drawn) (ch:=[it]) (λb hb=>?_) (λb o _ _ a e _=>k b o (λz=>a (by simp[z])) e) (λb o _ _ a e _=>⟨o.slots,k b o (λz=>a (by simp[z])) e⟩) (λ_ _ _ _ n=>n)
  (λb o a e=>⟨o,k b o (λz=>a (by simp[z])) e⟩) (λ_ _ e=>e) (λ_ _ _ e=>e) (λb ps e=>⟨#[],by rw[e];simp⟩) (λm h=>?_) (λb u e=>?_) I.bare
 ·have e:b=it:=by simpa using hb
  subst e;exact⟨h1,f,h2,g⟩
 ·obtain⟨o,es,ep,j,r⟩:=h;exact⟨o,es,ep,k _ o (Gm f) j,r⟩
 ·refine(I.Z4 b u e).Qir (λc v a q=>k c v ?_ q) (λ_ q=>q) λ_ _ q=>q;rcases a with z|z
  ·rw[z];exact d b u e
  ·exact d c _ z
theorem Inv.tok(I:Inv X pins σ H s)(t:Nat):Inv X pins σ H {s with toks:=t}:=I.un (h':=s.heap) (t':=t) Un.refl I.Z4
theorem Inv.kept{t':Nat}(I:Inv X pins σ H s)(k:∀b u,s.heap.get? b=Ga u->h'.get? b=Ga u):Inv X pins σ H {s with heap:=h',toks:=t'}:=I.un (Un.kept k) (I.Z4.kept k)
theorem Inv.laid{a:Gc}{o:HO}{t':Nat}(I:Inv X pins σ H s)(k:∀b u,s.heap.get? b=Ga u->h'.get? b=Ga u)(c:s.heap.objs.size<=a)(new:Yk X.prog X.w (upd H a o) h' a o):
  Inv X pins σ (upd H a o) {s with heap:=h',toks:=t'}:=I.un (Un.laid k c (I.Z4.fresh c)) (I.Z4.laid k c new)
theorem Inv.write{x e:Gc}{o:HO}{t':Nat}(I:Inv X pins σ H s)(mu:Mut (H x))(c:e=x\/H e=Ga (.own x))(k:∀b u,b≠e->s.heap.get? b=Ga u->h'.get? b=Ga u)(a:∃u,h'.get? e=Ga u)
  (new:Yk X.prog X.w (upd H x o) h' x o):Inv X pins σ (upd H x o) {s with heap:=h',toks:=t'}:=I.un (Un.write mu c k a) (I.Z4.write mu c k a new)
theorem Inv.Ql3{a:List (Gc×DJ)}(I:Inv X pins σ H s)(h:∀p∈a,s.heap.get? p.1=Ga p.2/\H p.1=Gf/\p.1≠X.env.locals/\p.1∉X.fs/\∀v,p.2.data≠.cell v):Inv X a σ H s:=
 ⟨I.ok,I.os,I.bare,I.base,I.loc,I.cell,I.free,I.Jk,λp b=>(List.mem_append.mp b).elim (λz=>I.pin p (List.mem_append_left _ z)) (h p),I.Z4,I.len⟩
theorem Qhn(e:N.Nodup){j:Nat}(a:N[i]?=Ga x)(b:N[j]?=Ga x):i=j:=by obtain⟨h1,c⟩:=List.getElem?_eq_some_iff.mp a;obtain⟨h2,d⟩:=List.getElem?_eq_some_iff.mp b;exact(List.getElem_inj e).mp (c.trans d.symm)
theorem Qew{Q:Unit->Gi->Prop}(I:Inv X pins σ H s)(hN:X.N.Nodup)(hi:X.N[i]?=Ga x)(B:Loc X.env.scope x)(r:RelV v u)
  (h:∀s',Inv X pins (σ.set i (Ga v)) H s'->(∃a,Heap.SameBut a s.heap s'.heap/\(a=X.env.locals\/X.env.cells.lookup x=Ga a))->Q () s')(hf:X.fn x=Ge\/X.env.scope.names.lookup x=Ga .local:=by first|exact .inl rfl|exact .inr rfl|assumption):wpAny M A (storeName X.env x u) Q E s:=by
 obtain⟨m,W,hl⟩:=id I.loc;have P:(X.env.scope.kind==.class||(X.env.scope.kind==.module&&X.env.locals !=X.env.globals))=Gp:=by rw[I.ok.kind];rfl
 have F:i<σ.length:=by rw[I.len];exact(List.getElem?_eq_some_iff.mp hi).1
 have cne:=I.cne;have l:∀{a:Gc}{h':Heap},(∃o,s.heap.get? a=Ga o/\H a=Gf)->Heap.SameBut a s.heap h'->Rf X.prog X.w H h':=λ{a h'}ha f b ob e=>by
  obtain⟨_,_,C⟩:=ha;refine(I.Z4 b ob e).Qir (λc U t q=>(f.2 c ?_).trans q) (λ_ q=>q) λ_ _ q=>q;rintro rfl;rcases t with rfl|t
  ·rw[C]at e;cases e
  ·rw[C]at t;cases t
 rcases B with G|G
 ·refine wpAny_storeName_local G W (λh' Y f=>?_) P;obtain⟨oL,_,_,Z,_⟩:=id W;refine h _ ⟨I.ok,I.os,I.bare,⟨λb o e n hb B=>?_,λb o e n hb B=>?_,I.base.free,λb o e B=>?_,I.base.Qr,I.base.Of,I.base.Qbg⟩,⟨_,Y,λj y v' g D V=>?_⟩,λy c e=>?_,I.free,I.Jk,λp hp=>?_,l ⟨oL,Z,I.free⟩ f,by simpa using I.len⟩ ⟨_,f,.inl Xb⟩
  ·exact(f.2 b (GV (Tb (Heap.lt_size e) I.ok.above))).trans (I.base.keep b o e n hb B)
  ·obtain⟨sl,g⟩:=I.base.slot b o e n hb B;exact⟨sl,(f.2 b (GV (Tb (Heap.lt_size e) I.ok.above))).trans g⟩
  ·obtain⟨o',g⟩:=I.base.there b o e B;exact⟨o',(f.2 b (GV (Tb (Heap.lt_size e) I.ok.above))).trans g⟩
  ·by_cases K:j=i
   ·subst K;rw[hi]at g;cases g;rw[List.getElem?_set_self F]at D;cases D;exact⟨u,r,.inl ⟨G,by simp⟩⟩
   ·rw[List.getElem?_set_ne (Gm K)]at D;obtain⟨u',r',q⟩:=hl j y v' g D V;refine⟨u',r',?_⟩;rcases q with⟨k,e⟩|⟨k,c,e,z⟩
    ·refine .inl ⟨k,?_⟩;have:y≠x:=λe=>K (Qhn hN g (e▸hi));simp[this,e]
    ·exact .inr ⟨k,c,e,z.sameBut f (cne y c e)⟩
  ·obtain⟨U,z⟩:=I.cell y c e;exact⟨U,z.sameBut f (cne y c e)⟩
  ·obtain⟨e,n,ne,nf,d⟩:=I.pin p hp;exact⟨(f.2 p.1 ne).trans e,n,ne,nf,d⟩
 ·have J:X.fn x=Ge:=by
   rcases hf with z|z
   ·exact z
   ·rw[z]at G;cases G
  obtain⟨c,t⟩:=I.ok.has x (.inl G);obtain⟨U,z⟩:=I.cell x c t;refine wpAny_storeName_cell I.ok.kind G t z (λh' L f=>?_);obtain⟨oc,R,S⟩:=id z;refine h {s with heap:=h'} ⟨I.ok,I.os,I.bare,⟨λb o e n hb B=>?_,λb o e n hb B=>?_,I.base.free,λb o e B=>?_,I.base.Qr,I.base.Of,I.base.Qbg⟩,⟨m,W.sameBut f (Gm (cne x c t)),λj y v' g D V=>?_⟩,λy T e=>?_,I.free,I.Jk,λp hp=>?_,l ⟨oc,R,I.Jk x c t⟩ f,by simpa using I.len⟩ ⟨c,f,.inr t⟩
  ·exact(f.2 b (GV (Tb (Heap.lt_size e) (I.ok.cab x c J t)))).trans (I.base.keep b o e n hb B)
  ·obtain⟨sl,g⟩:=I.base.slot b o e n hb B;exact⟨sl,(f.2 b (GV (Tb (Heap.lt_size e) (I.ok.cab x c J t)))).trans g⟩
  ·obtain⟨o',g⟩:=I.base.there b o e B;exact⟨o',(f.2 b (GV (Tb (Heap.lt_size e) (I.ok.cab x c J t)))).trans g⟩
  ·by_cases K:j=i
   ·subst K;rw[hi]at g;cases g;rw[List.getElem?_set_self F]at D;cases D;exact⟨u,r,.inr ⟨.inl G,c,t,L⟩⟩
   ·rw[List.getElem?_set_ne (Gm K)]at D;obtain⟨u',r',q⟩:=hl j y v' g D V;refine⟨u',r',?_⟩;rcases q with q|⟨k,T,e,z'⟩
    ·exact .inl q
    ·refine .inr ⟨k,T,e,z'.sameBut f ?_⟩;rintro rfl;exact K (Qhn hN g (I.ok.inj _ _ _ e t▸hi))
  ·by_cases O:T=c
   ·subst O;exact⟨_,L⟩
   ·obtain⟨w2,z2⟩:=I.cell y T e;exact⟨w2,z2.sameBut f O⟩
  ·obtain⟨e,n,ne,nf,d⟩:=I.pin p hp;refine⟨(f.2 p.1 ?_).trans e,n,ne,nf,d⟩;intro q;rw[q,R]at e;have q':oc=p.2:=Tc e;exact d U (by rw[<-q'];exact S)
theorem Qha{Q:Unit->Gi->Prop}(I:Inv X pins σ H s)(b:X.N.Nodup)(hi:X.N[i]?=Ga x)(d:Loc X.env.scope x)(r:RelV v u)
  (h:∀s',Inv X pins (σ.set i (Ga v)) H s'->Q () s')(c:X.fn x=Ge\/X.env.scope.names.lookup x=Ga .local:=by first|exact .inl rfl|exact .inr rfl|assumption):wpAny M A (storeName X.env x u) Q E s:=
 Qew I b hi d r (λs' a _=>h s' a) c
theorem Inv.Qyc{s':Gi}{ch:List Gc}(I:Inv X pins σ H s)(f:s'.os=s.os)(u:Un (frs X.stack) ch H H' s.heap s'.heap)(Z4:Rf X.prog X.w H' s'.heap)(d:EF s'.gens)
  (a:∀b∈ch,(b∈X.ex\/X.s₀.heap.objs.size<=b)/\b≠X.env.locals/\(∀x c,X.env.cells.lookup x=Ga c->c≠b)/\∀p∈X.pn++pins,p.1≠b):Inv X pins σ H' s':=by
 obtain⟨h',g',d',t',o'⟩:=s';have e:o'=s.os:=f;subst e;exact I.call (g':=g') (t':=t') (d':=d') u Z4 d a
end
abbrev XK:=Value->Option Gc->Hp->Prop
abbrev St:=List (Option V)
variable{σ:St}
abbrev VK:=V->Hp->Prop
abbrev TE:=St->Hp->VK->Prop
variable{t te:TE}
abbrev TT:=St->Hp->(Bool->Hp->Prop)->Prop
abbrev TA:=St->Hp->(List V->Hp->Prop)->Prop
structure Ends where
 nx:St->Hp->Prop
 rt:VK
 bk:St->Hp->Prop:=λ_ _=>False
 ct:St->Hp->Prop:=λ_ _=>False
variable{D:Ends}
abbrev TS:=Ends->St->Hp->Prop
variable{tb:TS}
def EP(X:Cx)(pins:List (Gc×DJ))(σ:St)(Q:VK)(u:Value)(s':Gi):Prop:=∃v H',Inv X pins σ H' s'/\RelV v u/\Q v H'
def TP(X:Cx)(pins:List (Gc×DJ))(σ:St)(Q:Bool->Hp->Prop)(b:Bool)(s':Gi):Prop:=∃H',Inv X pins σ H' s'/\Q b H'
def AP(X:Cx)(pins:List (Gc×DJ))(σ:St)(Q:List V->Hp->Prop)(us:List Value)(s':Gi):Prop:=∃vs H',Inv X pins σ H' s'/\Z0 vs us/\Q vs H'
def SP(X:Cx)(pins:List (Gc×DJ))(D:Ends)(f:Flow)(s':Gi):Prop:=
 match f with
 |.next=>∃a H',Inv X pins a H' s'/\D.nx a H'
 |.brk=>∃a H',Inv X pins a H' s'/\D.bk a H'
 |.cont=>∃a H',Inv X pins a H' s'/\D.ct a H'
 |.ret u=>∃v a H',Inv X pins a H' s'/\RelV v u/\D.rt v H'
def PE(X:Cx)(e:TJ)(t:TE):Prop:=
 ∀(pins:List (Gc×DJ))(s:Gi)(σ:St)(H:Hp)(Q:VK),Inv X pins σ H s->t σ H Q->wpAny (GO X.prog X.w) X.A (eval e X.env) (EP X pins σ Q) X.xe s
def PT(X:Cx)(e:TJ)(t:TT):Prop:=
 ∀(pins:List (Gc×DJ))(s:Gi)(σ:St)(H:Hp)(Q:Bool->Hp->Prop),Inv X pins σ H s->t σ H Q->wpAny (GO X.prog X.w) X.A (isTrue e X.env (eval e X.env)) (TP X pins σ Q) X.xe s
def PW(X:Cx)(e:TJ)(t:TT):Prop:=
 ∀(a:Fz Value)(pins:List (Gc×DJ))(s:Gi)(σ:St)(H:Hp)(Q:Bool->Hp->Prop),Inv X pins σ H s->t σ H Q->wpAny (GO X.prog X.w) X.A (isTrue e X.env a) (TP X pins σ Q) X.xe s
theorem PW.pt{t:TT}(h:PW X e t):PT X e t:=h _
def PA(X:Cx)(es:List TJ)(t:TA):Prop:=
 ∀(pos:E6)(pins:List (Gc×DJ))(s:Gi)(σ:St)(H:Hp)(Q:List V->Hp->Prop),Inv X pins σ H s->t σ H Q->wpAny (GO X.prog X.w) X.A (spliced (Ds pos (GY es X.env))) (AP X pins σ Q) X.xe s
def PS(X:Cx)(st:T2)(t:TS):Prop:=
 ∀(pins:List (Gc×DJ))(s:Gi)(σ:St)(H:Hp)(D:Ends),Inv X pins σ H s->t D σ H->wpAny (GO X.prog X.w) X.A (exec st X.env) (SP X pins D) X.xe s
def PSs(X:Cx)(st:List T2)(t:TS):Prop:=
 ∀(pins:List (Gc×DJ))(s:Gi)(σ:St)(H:Hp)(D:Ends),Inv X pins σ H s->t D σ H->wpAny (GO X.prog X.w) X.A (execs st X.env) (SP X pins D) X.xe s
theorem Yz{α:Type}{t:Fz α}{Q b:α->Gi->Prop}(h:wpAny M A t Q E s)(c:∀a s,Q a s->b a s):wpAny M A t b E s:=Dh h c λ_ _ x=>x
section
variable{X:Cx}
theorem bin{a b:TJ}{ta tb:TE}(i:PE X a ta)(hb:PE X b tb){R:V->V->Hp->Prop}(I:Inv X pins σ H s)(h:ta σ H λx H1=>tb σ H1 λy H2=>R x y H2)
  {α:Type}{Q:α->Gi->Prop}{f:Value->Value->Fz α}
  (j:∀v u s2 x y H2,Inv X pins σ H2 s2->RelV x v->RelV y u->R x y H2->wpAny (GO X.prog X.w) X.A (f v u) Q X.xe s2):
  wpAny (GO X.prog X.w) X.A (eval a X.env) (λv c=>wpAny (GO X.prog X.w) X.A (eval b X.env) (λu d=>wpAny (GO X.prog X.w) X.A (f v u) Q X.xe d) X.xe c) X.xe s:=by
 refine Yz (i pins s σ H _ I h) λv s1⟨x,H1,e,m,k⟩=>?_;refine Yz (hb pins s1 σ H1 _ e k) λu s2⟨y,H2,g,n,l⟩=>?_;exact j v u s2 x y H2 g m n l
def Vv(i:Nat):TE:=λσ H Q=>∃v,σ[i]?=Ga (Ga v)/\Q v H
def tC(v:V):TE:=λ_ H Q=>Q v H
theorem Qw7(g:X.N[i]?=Ga x)(o:Vis X.env.scope x)(hd:(x==("__debug__":GJ))=Gp:=by decide)(d:(x==("__classdict__":GJ))=Gp:=by decide):PE X (.Name x pos) (Vv i):=by
 intro pins s σ H Q I h;obtain⟨v,e,h⟩:=h;obtain⟨m,n,j⟩:=I.loc;obtain⟨u,r,l⟩:=j i x v g e o;have fin:EP X pins σ Q u s:=⟨v,H,I,r,h⟩;rcases l with⟨b,k⟩|⟨b,c,f,a⟩
 ·exact Lo (wpAny_loadName_local I.ok.kind b n k fin) hd
 ·rcases b with b|b
  ·exact Lo (wpAny_loadName_cell I.ok.kind b f a fin) hd
  ·exact Lo (wpAny_loadName_free I.ok.kind b f a fin d) hd
theorem Qi{i j pos}:PE X (.Constant (.int i) j pos) (tC (.int i)):=λ_ _ _ H _ I h=>wpAny_Constant_int ⟨.int i,H,I.tok _,⟨_,Xb⟩,h⟩
theorem Ye{b j pos}:PE X (.Constant (.bool b) j pos) (tC (.bl b)):=λ_ _ _ H _ I h=>Constant_bool ⟨.bl b,H,I,Xb,h⟩
theorem Uo{j pos}:PE X (.Constant .none j pos) (tC .non):=λ_ _ _ H _ I h=>Constant_none ⟨.non,H,I,Xb,h⟩
theorem Zj{x j pos}:PE X (.Constant (.str x) j pos) (tC (.str x)):=λ_ _ _ H _ I h=>Calls.Constant_str ⟨.str x,H,I.tok _,⟨_,Xb⟩,h⟩
def Gl(X:Cx)(x:GJ):Prop:=X.env.kindOf x=Ga .globalImplicit
theorem Qb0(I:Inv X pins σ H s)(a:Gl X x)(b:X.mg x=Ga u)(h:Q u s)
  (hd:(x==("__debug__":GJ))=Gp:=by decide):wpAny (GO X.prog X.w) X.A (eval (.Name x pos) X.env) Q E s:=
 Ev I.ok.kind a (Calls.loadGlobal_global (by rw[I.ok.glob];exact I.mod.glob.keeps I.bk) b h) hd
theorem V5(I:Inv X pins σ H s)(a:Gl X x)(b:X.mg x=Gf)(d:bootBuiltins x=Ga u)(h:Q u s)
  (c:x≠"__name__":=by decide)(hd:(x==("__debug__":GJ))=Gp:=by decide):wpAny (GO X.prog X.w) X.A (eval (.Name x pos) X.env) Q E s:=by
 obtain⟨e,h1,h2⟩:=I.mod.blt;exact Ev I.ok.kind a (Calls.loadGlobal_builtin (by rw[I.ok.glob];exact I.mod.glob.keeps I.bk) b (by rw[I.ok.blt];exact h1.keeps I.bk) ((h2 x c).trans d) h) hd
theorem Qs1(a:Gl X x)(b:X.mg x=Ga u)(r:RelV v u)(hd:(x==("__debug__":GJ))=Gp:=by decide):PE X (.Name x pos) (tC v):=
 λ_ _ _ H _ I h=>Qb0 I a b ⟨v,H,I,r,h⟩ hd
theorem Xm(a:Gl X x)(b:X.mg x=Gf)(d:bootBuiltins x=Ga u)(r:RelV v u)(c:x≠"__name__":=by decide)(hd:(x==("__debug__":GJ))=Gp:=by decide):PE X (.Name x pos) (tC v):=
 λ_ _ _ H _ I h=>V5 I a b d ⟨v,H,I,r,h⟩ c hd
variable{a b:TJ}{ta tb:TE}{pos:E6}
def PC(X:Cx)(e:CmpOp)(a b:TJ)(t:TE):Prop:=
 ∀(pins:List (Gc×DJ))(s:Gi)(σ:St)(H:Hp)(Q:VK),Inv X pins σ H s->t σ H Q->
  wpAny (GO X.prog X.w) X.A (eval a X.env) (λv c=>wpAny (GO X.prog X.w) X.A (eval b X.env) (λu d=>wpAny (GO X.prog X.w) X.A (TU e v u) (EP X pins σ Q) X.xe d) X.xe c) X.xe s
def tB(t:TE):TT:=λσ H Q=>t σ H λx H1=>∃c,x=.bl c/\Q c H1
theorem Qgm(h:PC X op a b t)(h1:behindInMarks op b=Gp:=by first|exact nobehind _ (by decide) (by decide)|rfl):PT X (.Compare a [op] [b] pos) (tB t):=by intro pins s σ H Q I hw;refine E7 (Yz (h pins s σ H _ I hw) λv s1 h1=>Yz h1 λu s2 h2=>Yz h2 λc i⟨x,H1,e,g,f⟩=>?_) h1;obtain⟨d,rfl,q⟩:=f;cases g;exact Db ⟨H1,e,q⟩
theorem Yc(h:PE X e t)(c:∀a,isTrue e X.env a=(do let v<-a;standAt e.pos;holding [v] (truthy v)):=by intro _;rfl):PT X e (tB t):=by intro pins s σ H Q I hw;refine LK (Yz (h pins s σ H _ I hw) λv s1⟨x,H1,b,g,f⟩=>?_) (c _);obtain⟨d,rfl,q⟩:=f;cases g;exact Db ⟨H1,b,q⟩
variable{tA tB':TT}{X8:List TJ}
def Q1u(t u:TT):TT:=λσ H Q=>t σ H λc H1=>if c=Ge then u σ H1 Q else Q Gp H1
def tOr(t u:TT):TT:=λσ H Q=>t σ H λc H1=>if c=Ge then Q Ge H1 else u σ H1 Q
def Q00(t:TT):TT:=λσ H Q=>t σ H λc H1=>Q (!c) H1
theorem Oa(b:PT X a tA):PW X (.BoolOp .And [a] pos) tA:=by
 intro d pins s σ H Q I h;refine Ff (Yz (b pins s σ H Q I h) λc s1 e=>?_);cases c with
 |true=>exact isTrue_and_nil e
 |false=>exact e
theorem Xt(b:PT X a tA):PW X (.BoolOp .Or [a] pos) tA:=by
 intro d pins s σ H Q I h;refine isTrue_or (Yz (b pins s σ H Q I h) λc s1 e=>?_);cases c with
 |false=>exact isTrue_or_nil e
 |true=>exact e
theorem Qai(f:PT X a tA)(hb:PW X (.BoolOp .And (b::X8) pos) tB'):PW X (.BoolOp .And (a::b::X8) pos) (Q1u tA tB'):=by
 intro g pins s σ H Q I h;refine Ff (Yz (f pins s σ H _ I h) λc s1⟨H1,d,e⟩=>?_);cases c with
 |true=>exact hb g pins s1 σ H1 Q d e
 |false=>exact⟨H1,d,e⟩
theorem Xd(f:PT X a tA)(hb:PW X (.BoolOp .Or (b::X8) pos) tB'):PW X (.BoolOp .Or (a::b::X8) pos) (tOr tA tB'):=by
 intro g pins s σ H Q I h;refine isTrue_or (Yz (f pins s σ H _ I h) λc s1⟨H1,d,e⟩=>?_);cases c with
 |true=>exact⟨H1,d,e⟩
 |false=>exact hb g pins s1 σ H1 Q d e
theorem Ym(b:PT X a tA):PT X (.UnaryOp .Not a pos) (Q00 tA):=by intro pins s σ H Q I h;exact isTrue_not (b pins s σ H (λc H1=>Q (!c) H1) I h)
def Qyb(ta tb:TE):TE:=λσ H Q=>ta σ H λx H1=>∃c,x=.bl c/\if c=Ge then tb σ H1 Q else Q (.bl Gp) H1
def Qz0(ta:TE):TE:=λσ H Q=>ta σ H λx H1=>∃c,x=.bl c/\Q (.bl (!c)) H1
theorem Qkk{b}(h:PE X a t):PE X (.BoolOp b [a] pos) t:=λpins s σ H Q I hw=>BoolOp_one (h pins s σ H Q I hw)
theorem Qkv(f:PE X a ta)(hb:PE X (.BoolOp .And (b::X8) pos) tb):PE X (.BoolOp .And (a::b::X8) pos) (Qyb ta tb):=by
 intro pins s σ H Q I h;refine BoolOp_and (Yz (f pins s σ H _ I h) λv s1⟨x,H1,e,g,d⟩=>?_);obtain⟨c,rfl,d⟩:=d;cases g;refine Db ?_;cases c with
 |true=>exact hb pins s1 σ H1 Q e d
 |false=>exact⟨.bl Gp,H1,e,Xb,d⟩
theorem Qxg(e:PE X a ta):PE X (.UnaryOp .Not a pos) (Qz0 ta):=by intro pins s σ H Q I h;refine UnaryOp_ (Yz (e pins s σ H _ I h) λv s1⟨x,H1,d,f,b⟩=>?_);obtain⟨c,rfl,b⟩:=b;cases f;exact not_of (Db ⟨.bl (!c),H1,d,Xb,b⟩)
end
def Zc(K:PySem.W.Frag)(H:Hp)(a:Gc)(xs:List V):Prop:=
 Rd H a (.lst xs)\/
  ∃(o:DJ)(its:Array Value)(n:Nat),K.lookup a=Ga o/\o.cls=.type "list"/\o.dict=Gf/\o.data=.seq its n/\its.size<=Gh/\Z0 xs its.toList
def Q9(K:PySem.W.Frag)(H:Hp)(a:Gc)(xs:List V):Prop:=
 Rd H a (.tup xs)\/
  ∃(o:DJ)(its:Array Value)(n:Nat),K.lookup a=Ga o/\o.cls=.type "tuple"/\o.data=.seq its n/\its.size<=Gh/\Z0 xs its.toList
def Q09:Value->Option V
 |.none=>Ga .non
 |.bool b=>Ga (.bl b)
 |.int i _=>Ga (.int i)
 |.str x _=>Ga (.str x)
 |.bytes b _=>Ga (.byt b)
 |.float b _=>Ga (.flt b)
 |.ref a=>Ga (.ref a)
 |.type n=>Ga (.ty n)
 |_=>Gf
theorem RelV.abs{x:V}(r:RelV x u):Q09 u=Ga x:=by
 cases x with
 |non=>cases r;rfl
 |bl _=>cases r;rfl
 |int _=>obtain⟨t,rfl⟩:=r;rfl
 |str _=>obtain⟨t,rfl⟩:=r;rfl
 |byt _=>obtain⟨t,rfl⟩:=r;rfl
 |flt _=>obtain⟨t,rfl⟩:=r;rfl
 |ref _=>cases r;rfl
 |ty _=>cases r;rfl
theorem RelV.inj{x y:V}{u:Value}(r:RelV x u)(q:RelV y u):x=y:=Tc (r.abs.symm.trans q.abs)
theorem Z0.inj:∀{xs ys:List V}{us:List Value},Z0 xs us->Z0 ys us->xs=ys
 |_,_,_,.nil,.nil=>rfl
 |_,_,_,.cons r t,.cons a t'=>by rw[r.inj a,Z0.inj t t']
section
variable{X:Cx}{pins:List (Gc×DJ)}{σ:St}{H:Hp}{s:Gi}{a:Gc}{xs ys:List V}
theorem Zc.of(h:H a=Ga (.lst xs)):Zc K H a xs:=.inl (.inl h)
theorem Q9.of(h:H a=Ga (.tup xs)):Q9 K H a xs:=.inl (.inl h)
theorem Inv.list(I:Inv X pins σ H s)(h:Zc X.K H a xs):∃its:List Value,Z0 xs its/\PlainL s.heap a its.toArray/\xs.length<=Gh:=by
 rcases h with h|⟨o,its,n,c,b,hd,d,hz,r⟩
 ·obtain⟨z,its,n,r,e⟩:=h.ok I.Z4;exact⟨its,r,⟨_,n,e,Xb,Xb,Xb⟩,z⟩
 ·refine⟨its.toList,r,⟨o,n,I.kIn a o c,b,hd,by simpa using d⟩,?_⟩;have e:=r.length;simp only[Ts]at e;omega
theorem Inv.tuple(I:Inv X pins σ H s)(h:Q9 X.K H a xs):∃its:List Value,Z0 xs its/\IsTup s.heap a its.toArray/\xs.length<=Gh:=by
 rcases h with h|⟨o,its,n,c,b,d,hz,r⟩
 ·obtain⟨z,its,r,p⟩:=h.ok I.Z4;exact⟨its,r,p,z⟩
 ·refine⟨its.toList,r,⟨o,I.kIn a o c,b,n,by simpa using d⟩,?_⟩;have e:=r.length;simp only[Ts]at e;omega
theorem Inv.Qc6(I:Inv X pins σ H s)(h:Zc X.K H a xs)(h':Zc X.K H a ys):xs=ys:=by
 obtain⟨its,r,⟨o,n,e,_,_,d⟩,_⟩:=I.list h;obtain⟨its',f,⟨o',g,b,_,_,d'⟩,_⟩:=I.list h';rw[e]at b;cases b;rw[d]at d';injection d' with c _;have:its=its':=by simpa using congrArg LL c
 subst this;exact r.inj f
theorem Inv.Qm4(I:Inv X pins σ H s)(h:Q9 X.K H a xs)(h':Q9 X.K H a ys):xs=ys:=by
 obtain⟨its,r,⟨o,e,_,n,d⟩,_⟩:=I.tuple h;obtain⟨its',f,⟨o',b,_,g,d'⟩,_⟩:=I.tuple h';rw[e]at b;cases b;rw[d]at d';injection d' with c _;have:its=its':=by simpa using congrArg LL c
 subst this;exact r.inj f
end
abbrev Cx.Qd4(X:Cx)(E:Value->Gi->Prop):Cx:={X with xe:=E}
abbrev Cx.nox(X:Cx):Cx:=X.Qd4 λ_ _=>False
theorem Cx.Ok.Qd4{X:Cx}(ok:X.Ok)(E:Value->Gi->Prop):(X.Qd4 E).Ok:=
 ⟨ok.mod,ok.kind,ok.glob,ok.blt,ok.above,ok.inj,ok.has,ok.cab,ok.hd,ok.frames,ok.stk,ok.exf,ok.bs,ok.bsz,ok.Qo1,ok.Qu4,ok.Qbn,ok.frf⟩
theorem Cx.Ok.Js(ok:(X.Qd4 E).Ok):X.Ok:=
 ⟨ok.mod,ok.kind,ok.glob,ok.blt,ok.above,ok.inj,ok.has,ok.cab,ok.hd,ok.frames,ok.stk,ok.exf,ok.bs,ok.bsz,ok.Qo1,ok.Qu4,ok.Qbn,ok.frf⟩
section
variable{X:Cx}{pins:List (Gc×DJ)}{σ:St}{H:Hp}{s:Gi}{E:Value->Gi->Prop}
theorem Inv.Qd4(I:Inv X pins σ H s)(E:Value->Gi->Prop):Inv (X.Qd4 E) pins σ H s:=⟨I.ok.Qd4 E,I.os,I.bare,I.base,I.loc,I.cell,I.free,I.Jk,I.pin,I.Z4,I.len⟩
theorem Inv.Js(I:Inv (X.Qd4 E) pins σ H s):Inv X pins σ H s:=⟨I.ok.Js,I.os,I.bare,I.base,I.loc,I.cell,I.free,I.Jk,I.pin,I.Z4,I.len⟩
theorem SP.Js{D:Ends}{f:Flow}{s':Gi}(h:SP (X.Qd4 E) pins D f s'):SP X pins D f s':=by
 cases f with
 |next=>obtain⟨a,H',I,q⟩:=h;exact⟨a,H',I.Js,q⟩
 |brk=>obtain⟨a,H',I,q⟩:=h;exact⟨a,H',I.Js,q⟩
 |cont=>obtain⟨a,H',I,q⟩:=h;exact⟨a,H',I.Js,q⟩
 |ret u=>obtain⟨v,a,H',I,r,q⟩:=h;exact⟨v,a,H',I.Js,r,q⟩
theorem PSs.nox{st:List T2}{t:TS}(h:PSs X.nox st t):PSs X st t:=λpins s σ H D I hw=>Dh (h pins s σ H D (I.Qd4 _) hw) (λ_ _ q=>q.Js) λ_ _ z=>False.elim z
end
section
variable{X:Cx}{st:T2}{X8:List T2}{t u:TS}{e:TJ}{te:TE}{pos:E6}
def Qzw:TS:=λD σ H=>D.nx σ H
def Q1c(t u:TS):TS:=λD σ H=>t {D with nx:=u D} σ H
theorem Qv:PSs X [] Qzw:=λ_ _ σ H _ I h=>Eo ⟨σ,H,I,h⟩
theorem Qc(h1:PS X st t)(h2:PSs X X8 u):PSs X (st::X8) (Q1c t u):=by
 intro pins s σ H D I h;refine SX (Yz (h1 pins s σ H {D with nx:=u D} I h) λf s1 q=>?_);cases f with
 |next=>obtain⟨a,H',b,q⟩:=q;exact h2 pins s1 a H' D b q
 |ret v=>exact q
 |brk=>exact q
 |cont=>exact q
theorem Qh(h1:PS X st t):PSs X [st] t:=by
 intro pins s σ H D I h;refine SX (Yz (h1 pins s σ H D I h) λf s1 q=>?_);cases f with
 |next=>exact Eo q
 |ret v=>exact q
 |brk=>exact q
 |cont=>exact q
theorem Inv.quiet(I:Inv X pins σ H s):interactive X.env=Gp:=by simp[interactive,I.ok.kind]
def Qyz(te:TE):TS:=λD σ H=>te σ H λ_ H1=>D.nx σ H1
theorem Zk(b:PE X e te)(c:swapsWith e Gf pos.line X.env=pure Gp:=by rfl):PS X (.Expr e pos) (Qyz te):=by intro pins s σ H D I h;exact wpAny_Expr_any (Yz (b pins s σ H _ I h) λv s1⟨x,H1,a,f,d⟩=>⟨σ,H1,a,d⟩) I.quiet c
def Q0u(te:TE):TS:=λD σ H=>te σ H D.rt
theorem Qt(b:PE X e te):PS X (.Return (Ga e) pos) (Q0u te):=by intro pins s σ H D I h;exact wpAny_Return_some (Yz (b pins s σ H _ I h) λv s1⟨x,H1,a,d,c⟩=>⟨x,σ,H1,a,d,c⟩)
def Qzl:TS:=λD _ H=>D.rt .non H
theorem Qu2:PS X (.Return Gf pos) Qzl:=λ_ _ σ H _ I h=>wpAny_Return_none ⟨.non,σ,H,I,Xb,h⟩
def Q0t(c:TT)(t u:TS):TS:=λD σ H=>c σ H λb H1=>if b=Ge then t D σ H1 else u D σ H1
theorem Zb{c:TJ}{a b:List T2}{tc:TT}(i:PT X c tc)(g:PSs X a t)(hb:PSs X b u):PS X (.If c a b pos) (Q0t tc t u):=by
 intro pins s σ H D I h;refine wpAny_If (Yz (i pins s σ H _ I h) λd s1⟨H1,e,f⟩=>?_);cases d with
 |true=>exact g pins s1 σ H1 D e f
 |false=>exact hb pins s1 σ H1 D e f
end
abbrev TG:=V->St->Hp->(St->Hp->Prop)->Prop
variable{g:TG}
abbrev TGs:=List V->St->Hp->(St->Hp->Prop)->Prop
def PG(X:Cx)(a:TJ)(t:TG):Prop:=
 ∀(pins:List (Gc×DJ))(s:Gi)(σ:St)(H:Hp)(v:V)(u:Value)(Q:St->Hp->Prop),Inv X pins σ H s->RelV v u->t v σ H Q->
  wpAny (GO X.prog X.w) X.A (assign a X.env u) (λ_ s'=>∃b H',Inv X pins b H' s'/\Q b H') X.xe s
def PGs(X:Cx)(ts:List TJ)(t:TGs):Prop:=
 ∀(pins:List (Gc×DJ))(s:Gi)(σ:St)(H:Hp)(vs:List V)(us:List Value)(Q:St->Hp->Prop),Inv X pins σ H s->Z0 vs us->t vs σ H Q->
  wpAny (GO X.prog X.w) X.A (assignInOrder ((assignEach ts X.env).map (·.2)) us) (λ_ s'=>∃a H',Inv X pins a H' s'/\Q a H') X.xe s
abbrev Qtd:=V->V->V->Hp->(Hp->Prop)->Prop
def Qy9(X:Cx)(t:Qtd):Prop:=
 ∀(pins:List (Gc×DJ))(s:Gi)(σ:St)(H:Hp)(o i v:V)(ov a u:Value)(Q:Hp->Prop),Inv X pins σ H s->RelV o ov->RelV i a->RelV v u->t o i v H Q->
  wpAny (GO X.prog X.w) X.A (setItem ov a u) (λ_ s'=>∃H',Inv X pins σ H' s'/\Q H') X.xe s
section
variable{X:Cx}{pos:E6}
def V2(i:Nat):TG:=λv σ H Q=>Q (σ.set i (Ga v)) H
theorem Xf(b:X.N.Nodup)(hi:X.N[i]?=Ga x)(d:Loc X.env.scope x)(c:X.fn x=Ge\/X.env.scope.names.lookup x=Ga .local:=by first|exact .inl rfl|exact .inr rfl|assumption):PG X (.Name x pos) (V2 i):=by intro pins s σ H v u Q I r h;exact SE (Qha I b hi d r (λs' a=>⟨_,H,a,h⟩) c)
theorem Zw(i:Nat)(a:X.N.Nodup)(hi:X.N[i]?=Ga x:=by rfl)(c:Loc X.env.scope x:=by exact TR Xb)(b:X.fn x=Ge\/X.env.scope.names.lookup x=Ga .local:=by first|exact .inl rfl|exact .inr rfl|assumption):PG X (.Name x pos) (V2 i):=Xf a hi c b
def Qwq:TGs:=λvs σ H Q=>vs=[]/\Q σ H
def Qh6(t:TG)(u:TGs):TGs:=λvs σ H Q=>∃v r,vs=v::r/\t v σ H λa H'=>u r a H' Q
theorem Wc:PGs X [] Qwq:=by intro pins s σ H vs us Q I r h;obtain⟨e,h⟩:=h;subst e;cases r;exact assignInOrder_nil ⟨σ,H,I,h⟩
theorem Zl{es:List TJ}{t:TG}{u:TGs}(h1:PG X e t)(h2:PGs X es u)
  (d:(assignEach (e::es) X.env).map (·.2)=assign e X.env::(assignEach es X.env).map (·.2):=by rfl):PGs X (e::es) (Qh6 t u):=by
 intro pins s σ H vs us Q I r h;obtain⟨v,i,c,h⟩:=h;subst c;cases r with
 |cons r g=>rw[d];refine assignInOrder_cons (Yz (h1 pins s σ H _ _ _ I r h) λ_ s1⟨a,H1,b,f⟩=>?_);exact h2 pins s1 a H1 _ _ Q b g f
def Qxs(K:PySem.W.Frag)(n:Nat)(t:TGs):TG:=λv σ H Q=>∃a xs,v=.ref a/\Q9 K H a xs/\xs.length=n/\t xs σ H Q
theorem Vh{es:List TJ}{t:TGs}(g:X.calm=Ge)(h:PGs X es t)
  (j:(assignEach es X.env).length=n:=by rfl)(c:(assignEach es X.env).findIdx? (·.1)=Gf:=by rfl):PG X (.Tuple es k pos) (Qxs X.K n t):=by
 intro pins s σ H v u Q I r hw;obtain⟨a,xs,f,l,i,hw⟩:=hw;subst f;cases r;obtain⟨its,rv,m,hz⟩:=I.tuple l;refine assign_Tuple_tuple (I.ok.hd g) m (by simp[j,<-i,rv.length]) c λh' p=>?_;have d:Inv X pins σ H {s with heap:=h'}:=I.kept (t':=s.toks) λb o e=>p b o (GV (Heap.lt_size e)) e;exact h pins _ σ H xs _ Q d (by simpa using rv) hw
def Q1k(to ti:TE)(t:Qtd):TG:=λv σ H Q=>to σ H λo H1=>ti σ H1 λi H2=>t o i v H2 λa=>Q σ a
theorem Qam{o i:TJ}{to ti:TE}{t:Qtd}(g:PE X o to)(hi:PE X i ti)(j:Qy9 X t)
  (f:∀v,assign (.Subscript o i pos) X.env v=(do
   let ov<-holding [v] (eval o X.env)
   let a<-holding [v,ov] (eval i X.env)
   standAt pos
   holding [v,ov,a] (setItem ov a v)
   release [v,ov,a] []):=by intro _;rfl):PG X (.Subscript o i pos) (Q1k to ti t):=by
 intro pins s σ H v u Q I r h;rw[f];refine Gb (TL (Yz (g pins s σ H _ I h) λov s1⟨x,H1,c,n,k⟩=>?_));refine Gb (TL (Yz (hi pins s1 σ H1 _ c k) λa s2⟨y,H2,d,p,l⟩=>?_));refine Gb (Sm (Gb (TL (Yz (j pins s2 σ H2 x y v ov a u _ d n p r l) λ_ q⟨b,e,m⟩=>?_))));exact wpAny_release ⟨σ,b,e,m⟩
def Qs9(te:TE)(g:TG):TS:=λD σ H=>te σ H λx H1=>g x σ H1 D.nx
theorem Ry(b:PE X e te)(c:PG X tg g)(d:swapsWithSole [tg] e pos.line X.env=pure Gp:=by rfl)(hw:swappedStores [tg] e X.env=pure Gf:=by rfl)
  (h1:(assignEach [tg] X.env).map (·.2)=[assign tg X.env]:=by rfl):PS X (.Assign [tg] e pos) (Qs9 te g):=by
 intro pins s σ H D I h;refine wpAny_Assign_stores (Yz (b pins s σ H _ I h) λv s1⟨x,H1,a,i,f⟩=>?_) d hw;rw[h1];exact Yz (c pins s1 σ H1 x v _ a i f) λ_ s2 q=>q
theorem Vg{pos':E6}(c:X.N.Nodup)(hi:X.N[i]?=Ga x)(j:Loc X.env.scope x)(d:PE X e te)(g:swapsWith e (Ga (.Name x pos')) pos.line X.env=pure Gp:=by rfl)(f:X.fn x=Ge\/X.env.scope.names.lookup x=Ga .local:=by first|exact .inl rfl|exact .inr rfl|assumption):
  PS X (.Assign [.Name x pos'] e pos) (Qs9 te (V2 i)):=by
 intro pins s σ H D I h;refine wpAny_Assign_Name (Yz (d pins s σ H _ I h) λv s1⟨y,H1,a,l,k⟩=>?_) g;exact Qha a c hi j l (λs2 b=>⟨_,H1,b,k⟩) f
theorem Qy(i:Nat){pos':E6}(a:X.N.Nodup)(b:PE X e te)(hi:X.N[i]?=Ga x:=by rfl)(f:Loc X.env.scope x:=by exact TR Xb)(d:swapsWith e (Ga (.Name x pos')) pos.line X.env=pure Gp:=by rfl)(c:X.fn x=Ge\/X.env.scope.names.lookup x=Ga .local:=by first|exact .inl rfl|exact .inr rfl|assumption):PS X (.Assign [.Name x pos'] e pos) (Qs9 te (V2 i)):=Vg a hi f b d c
end
section
variable{X:Cx}{pos:E6}
def Qsa(c:TT)(tb:TS):TS:=λD σ H=>∃W:Nat->St->Hp->Prop,(∃m,W m σ H)/\∀m σ H,W m σ H->
 c σ H λb H1=>if b=Ge then∃N:St->Hp->Prop,(∀a H',N a H'->∃d,d<m/\W d a H')/\tb {D with nx:=N,ct:=N,bk:=D.nx} σ H1 else D.nx σ H1
theorem Wn{c:TJ}{tc:TT}(r:PassesOwn (GO X.prog X.w) X.A X.env X.xe)(u:PT X c tc)(hb:PSs X body tb):PS X (.While c body [] pos) (Qsa tc tb):=by
 intro pins s σ H D I h;obtain⟨W,⟨m0,x⟩,turn⟩:=h;refine wpAny_While (codeAny_whileLoop (λn s'=>∃g H',Inv X pins g H' s'/\W n g H') ?_ m0 ⟨σ,H,I,x⟩);rintro n s1 ⟨d,H1,t,y⟩;refine Dz r (Yz (u pins s1 d H1 _ t (turn n d H1 y)) λb s2⟨H2,p,i⟩=>?_);cases b with
 |true=>
  obtain⟨N,q,i⟩:=i;rw[Gk rfl];refine Dz r (Yz (hb pins s2 d H2 _ p i) λf z j=>?_);cases f with
  |next=>obtain⟨a,e,k,n3⟩:=j;obtain⟨m,l,o⟩:=q a e n3;exact⟨m,l,a,e,k,o⟩
  |cont=>obtain⟨a,e,k,n3⟩:=j;obtain⟨m,l,o⟩:=q a e n3;exact⟨m,l,a,e,k,o⟩
  |brk=>exact j
  |ret v=>exact j
 |false=>rw[Gg Gv];exact Eo ⟨d,H2,p,i⟩
end
structure It where
 go:Nat->Hp->Prop
 yld:Nat->Hp->V->Hp->Prop
 stop:Nat->Hp->Prop
def Qap(X:Cx)(pins:List (Gc×DJ))(H:Hp)(b:Gc):Prop:=
 H b=Gf/\b≠X.env.locals/\b∉X.fs/\(b∈X.ex\/X.s₀.heap.objs.size<=b)/\(∀x c,X.env.cells.lookup x=Ga c->c≠b)/\∀p∈X.pn++pins,p.1≠b
theorem Inv.Qiv{H':Hp}(I:Inv X pins σ H s)(hb:s.heap.objs.size<=b)(a:H' b=Gf):Qap X pins H' b:=by
 refine⟨a,Tn (Tb I.lt hb),I.Q0z hb,.inr (TD I.sz hb),λx c e z=>?_,λp d z=>?_⟩
 ·obtain⟨v,q⟩:=I.cell x c e;exact absurd (Tb q.lt (by rw[z];exact hb)) (Dw _)
 ·exact absurd (Tb (Heap.lt_size (I.pin p d).1) (by rw[z];exact hb)) (Dw _)
structure Qfs(P:Gj)(w:Gu)(K:PySem.W.Frag)(tg:TJ)(J:It)(fp:List Gc)(it:Gc)(tn:Nat->Heap->Prop):Prop where
 mem:it∈fp
 obj:∀i h,tn i h->∀b∈fp,∃o,h.get? b=Ga o/\∀v,o.data≠.cell v
 keep:∀i h h',tn i h->(∀b∈fp,∀o,h.get? b=Ga o->h'.get? b=Ga o)->tn i h'
 item:∀(X:Cx),X.prog=P->X.w=w->X.K=K->X.calm=Ge->∀(i:Nat)(pins:List (Gc×DJ))(s:Gi)(σ:St)(H:Hp)(E:Value->Gi->Prop),Inv X pins σ H s->(∀b∈fp,Qap X pins H b)->tn i s.heap->J.go i H->
  wpAny (GO P w) X.A (pyNext (.ref it)) (λr s1=>∃u,r=Ga u/\
   wpAny (GO P w) X.A (letOwnedTupleGo tg (.ref it) u) (λ_ s2=>∃x H',Inv X pins σ H' s2/\RelV x u/\J.yld i H x H'/\tn (i+1) s2.heap/\∀b∈fp,H' b=Gf) E s1) E s
 done:∀(X:Cx),X.prog=P->X.w=w->X.K=K->X.calm=Ge->∀(i:Nat)(pins:List (Gc×DJ))(s:Gi)(σ:St)(H:Hp)(E:Value->Gi->Prop),Inv X pins σ H s->(∀b∈fp,Qap X pins H b)->tn i s.heap->J.stop i H->
  wpAny (GO P w) X.A (pyNext (.ref it)) (λr s1=>r=Gf/\Inv X pins σ H s1) E s
 self:∀(A:Tz)(i:Nat)(s:Gi)(Q:Value->Gi->Prop)(E:Value->Gi->Prop),tn i s.heap->Q (.ref it) s->wpAny (GO P w) A (pyIter (.ref it)) Q E s
abbrev TI:=St->Hp->(It->Hp->Prop)->Prop
def PIE(X:Cx)(pins:List (Gc×DJ))(σ:St)(tg:TJ)(R:It->Hp->Prop)(a:Value)(s2:Gi):Prop:=
 ∃(it:Gc)(fp:List Gc)(tn:Nat->Heap->Prop)(J:It)(H':Hp),a=.ref it/\Inv X pins σ H' s2/\Qfs X.prog X.w X.K tg J fp it tn/\tn 0 s2.heap/\(∀b∈fp,Qap X pins H' b)/\R J H'
def PI(X:Cx)(tg iter:TJ)(wi:TI):Prop:=
 ∀(pins:List (Gc×DJ))(s:Gi)(σ:St)(H:Hp)(R:It->Hp->Prop),Inv X pins σ H s->wi σ H R->
  wpAny (GO X.prog X.w) X.A (eval iter X.env) (λv s1=>wpAny (GO X.prog X.w) X.A (pyIter v) (PIE X pins σ tg R) X.xe s1) X.xe s
theorem Qep      {it : Gc}   {n : String} {vs : Array Value} {Q : Unit -> Gi -> Prop} (d : s.heap.get? it = Ga o) (b : o.cls = .type n) (hd : o.data = .fields vs)
    (c : ["enumerate", "zip", "dict_itemiterator", "dict_reverseitemiterator", "odict_iterator", "itertools.zip_longest", "itertools.pairwise"].contains n = Gp) (a : Q () s) : wpAny M A (letOwnedTupleGo tg (.ref it) u) Q E s := by
  unfold letOwnedTupleGo
  cases tg <;> first
    | exact Gd a
    | (cases u <;> first
        | exact Gd a
        | (refine Gb (wpAny_load d ?_)
           rw [b, hd]
           show wpAny M A (if (["enumerate", "zip", "dict_itemiterator", "dict_reverseitemiterator", "odict_iterator", "itertools.zip_longest", "itertools.pairwise"].contains n && vs[0]? == Ga (rawInt _)) = Ge then _ else _) Q E s
           rw [Gg (by intro h; rw [c, Bool.false_and] at h; cases h)]
           exact Gd a))
def Itl(K:PySem.W.Frag)(a:Gc):It:=
 ⟨λi H=>∃xs x,Zc K H a xs/\xs[i]?=Ga x,λi H x H'=>H'=H/\∀xs,Zc K H a xs->xs[i]?=Ga x,λi H=>∃xs,Zc K H a xs/\xs.length<=i⟩
def Itt(K:PySem.W.Frag)(a:Gc):It:=
 ⟨λi H=>∃xs x,Q9 K H a xs/\xs[i]?=Ga x,λi H x H'=>H'=H/\∀xs,Q9 K H a xs->xs[i]?=Ga x,λi H=>∃xs,Q9 K H a xs/\xs.length<=i⟩
def Itr(lo:Int)(n:Nat):It:=⟨λi _=>i<n,λi H x H'=>H'=H/\x=.int (lo+i),λi _=>n<=i⟩
theorem Qm6(a it:Gc):Qfs P w K tg (Itl K a) [it] it (λi h=>h.IsListIter it a i) where
 mem:=by simp
 obj:=λi h st b hb=>by
  have e:b=it:=by simpa using hb
  subst e;obtain⟨o,e,c,d⟩:=st;exact⟨o,e,λv z=>by rw[d]at z;cases z⟩
 keep:=λi h h' st k=>st.at λo e=>k it (by simp) o e
 item:=by intro X y hw t C i pins s σ H E I g st A;subst y hw t;obtain⟨xs,x,j,B⟩:=A;obtain⟨its,rv,p,hz⟩:=I.list j;obtain⟨u,J,M⟩:=rv.get B;obtain⟨l,m,G,n,q,r⟩:=g it (by simp);refine wpAny_pyNext_list_item st p.isList (x:=u) (by simpa using J) λh' f N=>?_;have D:Inv X pins σ H {s with heap:=h'}:=I.turned (t':=s.toks) (λb o hb e=>(N.2 b hb).trans e) l m n q r;obtain⟨o,e,c,d⟩:=id f;exact⟨u,Xb,Qep (s:={s with heap:=h'}) e c d (by decide) ⟨x,H,D,M,⟨Xb,λys L=>by rw[I.Qc6 L j];exact B⟩,f,λb hb=>(g b hb).1⟩⟩
 done:=by intro X y hw t C i pins s σ H E I g st A;subst y hw t;obtain⟨xs,j,B⟩:=A;obtain⟨its,rv,p,hz⟩:=I.list j;obtain⟨l,m,G,n,q,r⟩:=g it (by simp);have O:=rv.length;exact wpAny_pyNext_list_end (I.ok.hd C) st p.isList (by simp;omega) λh' F=>⟨Xb,I.turned (t':=s.toks) (λb o hb e=>F b o hb e) l m n q r⟩
 self:=λ_ _ _ _ _ st h=>wpAny_pyIter_listiter st h
theorem Qks(a it:Gc):Qfs P w K tg (Itt K a) [it] it (λi h=>h.IsTupleIter it a i) where
 mem:=by simp
 obj:=λi h st b hb=>by
  have e:b=it:=by simpa using hb
  subst e;obtain⟨o,e,c,d⟩:=st;exact⟨o,e,λv z=>by rw[d]at z;cases z⟩
 keep:=λi h h' st k=>st.at λo e=>k it (by simp) o e
 item:=by intro X y hw t C i pins s σ H E I g st A;subst y hw t;obtain⟨xs,x,j,B⟩:=A;obtain⟨its,rv,p,hz⟩:=I.tuple j;obtain⟨u,J,M⟩:=rv.get B;obtain⟨l,m,G,n,q,r⟩:=g it (by simp);refine wpAny_pyNext_tuple_item st (show s.heap.IsTuple a its.toArray from p) (x:=u) (by simpa using J) λh' f N=>?_;have D:Inv X pins σ H {s with heap:=h'}:=I.turned (t':=s.toks) (λb o hb e=>(N.2 b hb).trans e) l m n q r;obtain⟨o,e,c,d⟩:=id f;exact⟨u,Xb,Qep (s:={s with heap:=h'}) e c d (by decide) ⟨x,H,D,M,⟨Xb,λys L=>by rw[I.Qm4 L j];exact B⟩,f,λb hb=>(g b hb).1⟩⟩
 done:=by intro X y hw t C i pins s σ H E I g st A;subst y hw t;obtain⟨xs,j,B⟩:=A;obtain⟨its,rv,p,hz⟩:=I.tuple j;obtain⟨l,m,G,n,q,r⟩:=g it (by simp);have O:=rv.length;exact wpAny_pyNext_tuple_end (I.ok.hd C) st (show s.heap.IsTuple a its.toArray from p) (by simp;omega) λh' F=>⟨Xb,I.turned (t':=s.toks) (λb o hb e=>F b o hb e) l m n q r⟩
 self:=λ_ _ _ _ _ st h=>wpAny_pyIter_tupleiter st h
theorem Qky(it:Gc)(lo:Int)(n:Nat):Qfs P w K tg (Itr lo n) [it] it (λi h=>Sd h it (lo+(i:Nat)*1) ((n:Int) - (i:Nat)) 1) where
 mem:=by simp
 obj:=λi h st b hb=>by
  have e:b=it:=by simpa using hb
  subst e;exact⟨_,st,λv z=>by have C:LY _=Fq v:=z;cases C⟩
 keep:=λi h h' st k=>k it (by simp) _ st
 item:=by intro X p hw m q i pins s σ H E I c st r;subst p hw m;obtain⟨d,f,y,g,j,l⟩:=c it (by simp);have W:=Walks.range (prog:=X.prog) (w:=X.w) (I.ok.hd q) it lo 1 n;refine W.item i s _ _ r st λv h' tk A a B=>?_;obtain⟨t,rfl⟩:=A;have u:Inv X pins σ H {s with heap:=h',toks:=tk}:=I.turned (λb o hb e=>B b o (by simpa using hb) e) d f g j l;refine⟨_,Xb,Qep (s:={s with heap:=h',toks:=tk}) (n:="range_iterator") a rfl rfl (by decide) ⟨.int (lo+i),H,u,⟨t,?_⟩,⟨Xb,Xb⟩,a,λb hb=>(c b hb).1⟩⟩;rw[Int.mul_one]
 done:=by intro X p hw m q i pins s σ H E I c st r;subst p hw m;obtain⟨d,f,y,g,j,l⟩:=c it (by simp);exact EW (I.ok.hd q) st (by have:n<=i:=r;omega) λh' x=>⟨Xb,I.turned (t':=s.toks) (λb o hb e=>x b o hb e) d f g j l⟩
 self:=λ_ _ _ _ _ st h=>EX st h
section
variable{X:Cx}{tg:TJ}
def Qx8(K:PySem.W.Frag)(tl:TE):TI:=λσ H R=>tl σ H λx H1=>∃a,x=.ref a/\(∃xs,Zc K H1 a xs)/\R (Itl K a) H1
def Q1i(K:PySem.W.Frag)(tl:TE):TI:=λσ H R=>tl σ H λx H1=>∃a,x=.ref a/\(∃xs,Q9 K H1 a xs)/\R (Itt K a) H1
theorem Z9{l:TJ}{tl:TE}(d:PE X l tl):PI X tg l (Qx8 X.K tl):=by
 intro pins s σ H R I h;refine Yz (d pins s σ H _ I h) λv s1⟨x,H1,c,i,g⟩=>?_;obtain⟨a,e,⟨xs,f⟩,q⟩:=g;subst e;cases i;obtain⟨its,rv,p,hz⟩:=c.list f;refine wpAny_pyIter_list p.isList ?_;refine⟨s1.heap.objs.size,[s1.heap.objs.size],_,_,H1,Xb,c.kept (t':=s1.toks) λb o e=>Heap.get?_push_of_some _ e,Qm6 a _,⟨_,Heap.get?_push_size _ Xb,Xb,Xb⟩,λb hb=>?_,q⟩;have e:b=s1.heap.objs.size:=by simpa using hb
 subst e;exact c.Qiv (Gn _) (c.Z4.fresh (Gn _))
theorem Uj{l:TJ}{tl:TE}(d:PE X l tl):PI X tg l (Q1i X.K tl):=by
 intro pins s σ H R I h;refine Yz (d pins s σ H _ I h) λv s1⟨x,H1,c,i,g⟩=>?_;obtain⟨a,e,⟨xs,f⟩,q⟩:=g;subst e;cases i;obtain⟨its,rv,p,hz⟩:=c.tuple f;refine Ew (show s1.heap.IsTuple a its.toArray from p) ?_;refine⟨s1.heap.objs.size,[s1.heap.objs.size],_,_,H1,Xb,c.kept (t':=s1.toks) λb o e=>Heap.get?_push_of_some _ e,Qks a _,⟨_,Heap.get?_push_size _ Xb,Xb,Xb⟩,λb hb=>?_,q⟩;have e:b=s1.heap.objs.size:=by simpa using hb
 subst e;exact c.Qiv (Gn _) (c.Z4.fresh (Gn _))
theorem Qrn{R:It->Hp->Prop}{lo hi:Int}{t u v:FA}{tk:Nat}(I:Inv X pins σ H s)(h1: -(2^62)<=lo)(h2:lo<2^62)(f: -(2^62)<=hi)(g:hi<2^62)
  (q:R (Itr lo (hi - lo).toNat) H):wpAny (GO X.prog X.w) X.A (pyIter (.ref s.heap.objs.size)) (PIE X pins σ tg R) E {s with heap:=s.heap.push {cls:=.type "range",data:=.fields #[.int lo t,.int hi u,.int 1 v]},toks:=tk}:=by
 refine Ss (LZ ..) (small_one h1 h2 f g) ?_;have a:Inv X pins σ H {s with heap:=s.heap.push {cls:=.type "range",data:=.fields #[.int lo t,.int hi u,.int 1 v]},toks:=tk}:=I.kept λb o e=>Heap.get?_push_of_some _ e;refine⟨(s.heap.push {cls:=.type "range",data:=.fields #[.int lo t,.int hi u,.int 1 v]}).objs.size,[(s.heap.push {cls:=.type "range",data:=.fields #[.int lo t,.int hi u,.int 1 v]}).objs.size],_,_,H,Xb,
  a.kept (t':=tk) λb o e=>Heap.get?_push_of_some _ e,Qky _ lo (hi - lo).toNat,?_,λb hb=>?_,q⟩
 ·have c:lo+((0:Nat):Int)*1=lo:=by simp
  have d:(((hi - lo).toNat:Nat):Int) - ((0:Nat):Int)=Builtin.Range.rangeSize lo hi 1:=by rw[rangeSize_one];split<;>omega
  show Sd _ _ (lo+((0:Nat):Int)*1) ((((hi - lo).toNat:Nat):Int) - ((0:Nat):Int)) 1;rw[c,d];exact Heap.get?_push_size _ rfl
 ·have e:b=(s.heap.push {cls:=.type "range",data:=.fields #[.int lo t,.int hi u,.int 1 v]}).objs.size:=by simpa using hb
  subst e;exact a.Qiv (Gn _) (a.Z4.fresh (Gn _))
def Qyo(ta:TA):TI:=λσ H R=>ta σ H λvs H1=>∃j:Int,vs=[.int j]/\ -(2^62)<=j/\j<2^62/\R (Itr 0 j.toNat) H1
theorem Vp{a:TJ}{ta:TA}{p:E6}(f:Gl X "range")(g:X.mg "range"=Gf)(d:PA X [a] ta)(i:GY [a] X.env=[(Gp,eval a X.env)]:=by rfl):PI X tg (.Call (.Name "range" p) [a] [] pos) (Qyo ta):=by
 intro pins s σ H R I h;refine Fw (V5 I f g Fg (T9 (Yz (d pos pins s σ H _ I h) λus s1⟨vs,H1,c,l,b⟩=>?_) i Xb));obtain⟨j,e,b,k,q⟩:=b;subst e;cases l with
 |cons r m=>cases m;obtain⟨t,rfl⟩:=r;exact call_range_1 (Qrn c (by omega) (by omega) b k (by simpa using q))
def Q05(wi:TI)(g:TG)(tb:TS):TS:=λD σ H=>wi σ H λJ H1=>∃W:Nat->Nat->St->Hp->Prop,(∃m,W 0 m σ H1)/\∀i m σ H,W i m σ H->
 (J.stop i H/\D.nx σ H)\/(J.go i H/\∃N:St->Hp->Prop,(∀a H',N a H'->∃c,c<m/\W (i+1) c a H')/\∀x H',J.yld i H x H'->g x σ H' λb H2=>tb {D with nx:=N,ct:=N,bk:=D.nx} b H2)
def Qcl(fp:List Gc)(h:Heap):List (Gc×DJ):=fp.filterMap λb=>(h.get? b).map λo=>(b,o)
theorem U9{h:Heap}(hb:b∈fp)(e:h.get? b=Ga o):(b,o)∈Qcl fp h:=List.mem_filterMap.mpr ⟨b,hb,by rw[e];rfl⟩
theorem Qm2{h:Heap}{p:Gc×DJ}(c:p∈Qcl fp h):p.1∈fp/\h.get? p.1=Ga p.2:=by
 obtain⟨b,hb,e⟩:=List.mem_filterMap.mp c;cases q:h.get? b with
 |none=>rw[q]at e;cases e
 |some o=>rw[q]at e;have a:(b,o)=p:=Tc e;subst a;exact⟨hb,q⟩
theorem Inv.pinned(I:Inv X pins σ H s)(h:∀b∈fp,Qap X pins H b)(i:∀b∈fp,∃o,s.heap.get? b=Ga o/\∀v,o.data≠.cell v):Inv X (pins++Qcl fp s.heap) σ H s:=
 I.Ql3 λp j=>(List.mem_append.mp j).elim (λz=>I.pin p (List.mem_append_right _ z)) λz=>by obtain⟨hb,e⟩:=Qm2 z;obtain⟨c,f,g,_⟩:=h p.1 hb;obtain⟨o,a,d⟩:=i p.1 hb;rw[e]at a;cases a;exact⟨e,c,f,g,d⟩
theorem Inv.R4{pl:List (Gc×DJ)}(I:Inv X (pins++pl) σ H s):Inv X pins σ H s:=I.Ql3 λp a=>I.pin p (List.mem_append_right _ (List.mem_append_left _ a))
theorem Z5{iter:TJ}{wi:TI}(z:PassesOwn (GO X.prog X.w) X.A X.env X.xe)(S:X.calm=Ge)(hi:PI X tg iter wi)(hg:PG X tg g)(hb:PSs X body tb)
  (hs:∀x,foldedSetIterable iter X.env x=pure x:=by intro _;rfl):PS X (.For tg iter body [] pos) (Q05 wi g tb):=by
 intro pins s σ H D I h;refine wpAny_For (Yz (hi pins s σ H _ I h) λv s1 h1=>Yz h1 λaa s2 h2=>?_) hs;obtain⟨it,fp,tn,J,H2,e,Z,T,M,R,W,⟨m0,w0⟩,turn⟩:=h2;subst e;have k:∀{H':Hp},(∀b∈fp,H' b=Gf)->∀b∈fp,Qap X pins H' b:=λhn b hb=>⟨hn b hb,(R b hb).2⟩;refine codeAny_forLoop_any (λn s'=>∃i l H',Inv X pins l H' s'/\tn i s'.heap/\(∀b∈fp,H' b=Gf)/\W i n l H') ?_ m0 ⟨0,σ,H2,Z,M,λb hb=>(R b hb).1,w0⟩;rintro n U ⟨i,p,E,Q,C,y,w3⟩;rcases turn i n p E w3 with⟨stop,qn⟩|⟨go,N,hN,step⟩
 ·refine Dz z (Yz (T.done X rfl rfl rfl S i pins U p E X.xe Q (k y) C stop) λr s4⟨K,I4⟩=>?_);subst K;exact Eo ⟨p,E,I4,qn⟩
 ·refine Dz z (Yz (T.item X rfl rfl rfl S i pins U p E X.xe Q (k y) C go) λr s4⟨u,K,h4⟩=>?_);subst K;refine Dz z (Yz h4 λ_ V⟨x,P,I5,r5,y5,t,G⟩=>?_);have F:=I5.pinned (k G) (T.obj _ _ t);refine Dz z (Yz (hg _ V p P x u _ F r5 (step x P y5)) λ_ s6⟨O,Y,I6,q6⟩=>?_);refine Dz z (Yz (hb _ s6 O Y _ I6 q6) λf L q=>?_);have again:∀{a:St}{c:Hp},Inv X (pins++Qcl fp V.heap) a c L->N a c->∃m,m<n/\∃i l H',Inv X pins l H' L/\tn i L.heap/\(∀b∈fp,H' b=Gf)/\W i m l H':=λ{a c}j B=>by obtain⟨m',hm,w7⟩:=hN a c B;refine⟨m',hm,i+1,a,c,j.R4,T.keep _ _ _ t λb hb o e=>(j.pin (b,o) (List.mem_append_right _ (List.mem_append_right _ (U9 hb e)))).1,λb hb=>?_,w7⟩;obtain⟨o,e,d⟩:=T.obj _ _ t b hb;exact(j.pin (b,o) (List.mem_append_right _ (List.mem_append_right _ (U9 hb e)))).2.1
  cases f with
  |next=>obtain⟨a,c,j,B⟩:=q;exact again j B
  |cont=>obtain⟨a,c,j,B⟩:=q;exact again j B
  |brk=>obtain⟨a,c,j,q⟩:=q;exact⟨a,c,j.R4,q⟩
  |ret v=>obtain⟨x7,a,c,j,r7,q⟩:=q;exact⟨x7,a,c,j.R4,r7,q⟩
end
theorem Ys(Pv:Nat->St->Hp->Prop)(h:Pv 0 σ H)(j:∀i σ H,i<=xs.length->Pv i σ H->Zc K H a xs)
  (k:∀i x σ H,xs[i]?=Ga x->Pv i σ H->g x σ H λc H2=>tb {D with nx:=Pv (i+1),ct:=Pv (i+1),bk:=D.nx} c H2)(hd:∀σ H,Pv xs.length σ H->D.nx σ H):
  ∃W:Nat->Nat->St->Hp->Prop,(∃m,W 0 m σ H)/\∀i m σ H,W i m σ H->
   ((Itl K a).stop i H/\D.nx σ H)\/((Itl K a).go i H/\∃N:St->Hp->Prop,(∀b H',N b H'->∃f,f<m/\W (i+1) f b H')/\∀x H',(Itl K a).yld i H x H'->g x σ H' λc H2=>tb {D with nx:=N,ct:=N,bk:=D.nx} c H2):=by
 refine⟨λi m σ H=>m=xs.length - i/\i<=xs.length/\Pv i σ H,⟨xs.length,by simp,Gx _,h⟩,?_⟩;rintro i m σ H ⟨rfl,hi,p⟩;have q:=j i σ H hi p;by_cases d:i<xs.length
 ·refine .inr ⟨⟨xs,xs[i],q,by simp[d]⟩,Pv (i+1),λb H' l=>⟨xs.length - (i+1),by omega,Xb,d,l⟩,λx H' y=>?_⟩;obtain⟨e,y⟩:=y;subst e;exact k i x σ _ (y xs q) p
 ·have e:i=xs.length:=by omega
  subst e;exact .inl ⟨⟨xs,q,Gn _⟩,hd σ H p⟩
theorem Qgf(Pv:Nat->St->Hp->Prop)(h:Pv 0 σ H)(j:∀i σ H,i<=xs.length->Pv i σ H->Q9 K H a xs)
  (k:∀i x σ H,xs[i]?=Ga x->Pv i σ H->g x σ H λc H2=>tb {D with nx:=Pv (i+1),ct:=Pv (i+1),bk:=D.nx} c H2)(hd:∀σ H,Pv xs.length σ H->D.nx σ H):
  ∃W:Nat->Nat->St->Hp->Prop,(∃m,W 0 m σ H)/\∀i m σ H,W i m σ H->
   ((Itt K a).stop i H/\D.nx σ H)\/((Itt K a).go i H/\∃N:St->Hp->Prop,(∀b H',N b H'->∃f,f<m/\W (i+1) f b H')/\∀x H',(Itt K a).yld i H x H'->g x σ H' λc H2=>tb {D with nx:=N,ct:=N,bk:=D.nx} c H2):=by
 refine⟨λi m σ H=>m=xs.length - i/\i<=xs.length/\Pv i σ H,⟨xs.length,by simp,Gx _,h⟩,?_⟩;rintro i m σ H ⟨rfl,hi,p⟩;have q:=j i σ H hi p;by_cases d:i<xs.length
 ·refine .inr ⟨⟨xs,xs[i],q,by simp[d]⟩,Pv (i+1),λb H' l=>⟨xs.length - (i+1),by omega,Xb,d,l⟩,λx H' y=>?_⟩;obtain⟨e,y⟩:=y;subst e;exact k i x σ _ (y xs q) p
 ·have e:i=xs.length:=by omega
  subst e;exact .inl ⟨⟨xs,q,Gn _⟩,hd σ H p⟩
theorem Vo{lo:Int}(Pv:Nat->St->Hp->Prop)(f:Pv 0 σ H)
  (h:∀i σ H,i<n->Pv i σ H->g (.int (lo+i)) σ H λc H2=>tb {D with nx:=Pv (i+1),ct:=Pv (i+1),bk:=D.nx} c H2)(hd:∀σ H,Pv n σ H->D.nx σ H):
  ∃W:Nat->Nat->St->Hp->Prop,(∃m,W 0 m σ H)/\∀i m σ H,W i m σ H->
   ((Itr lo n).stop i H/\D.nx σ H)\/((Itr lo n).go i H/\∃N:St->Hp->Prop,(∀b H',N b H'->∃d,d<m/\W (i+1) d b H')/\∀x H',(Itr lo n).yld i H x H'->g x σ H' λc H2=>tb {D with nx:=N,ct:=N,bk:=D.nx} c H2):=by
 refine⟨λi m σ H=>m=n - i/\i<=n/\Pv i σ H,⟨n,by simp,Gx _,f⟩,?_⟩;rintro i m σ H ⟨rfl,hi,p⟩;by_cases a:i<n
 ·refine .inr ⟨a,Pv (i+1),λb H' j=>⟨n - (i+1),by omega,Xb,a,j⟩,λx H' y=>?_⟩;obtain⟨e,y⟩:=y;subst e y;exact h i σ _ a p
 ·have e:i=n:=by omega
  subst e;exact .inl ⟨Gn _,hd σ H p⟩
abbrev R2:=V->V->Hp->VK->Prop
variable{r:R2}
def Rz(X:Cx)(f:Value->Value->Fz Value)(r:R2):Prop:=
 ∀(pins:List (Gc×DJ))(s:Gi)(σ:St)(H:Hp)(x y:V)(v u:Value)(Q:VK),Inv X pins σ H s->RelV x v->RelV y u->r x y H Q->
  wpAny (GO X.prog X.w) X.A (f v u) (EP X pins σ Q) X.xe s
def UnR(X:Cx)(f:Value->Fz Value)(r:V->Hp->VK->Prop):Prop:=
 ∀(pins:List (Gc×DJ))(s:Gi)(σ:St)(H:Hp)(x:V)(v:Value)(Q:VK),Inv X pins σ H s->RelV x v->r x H Q->
  wpAny (GO X.prog X.w) X.A (f v) (EP X pins σ Q) X.xe s
def V1(X:Cx)(f:Value)(r:List V->Hp->VK->Prop):Prop:=
 ∀(pins:List (Gc×DJ))(s:Gi)(σ:St)(H:Hp)(xs:List V)(us:List Value)(Q:VK),Inv X pins σ H s->Z0 xs us->r xs H Q->
  wpAny (GO X.prog X.w) X.A (call f us) (EP X pins σ Q) X.xe s
def Q1e(X:Cx)(r:V->Hp->(Bool->Hp->Prop)->Prop):Prop:=
 ∀(pins:List (Gc×DJ))(s:Gi)(σ:St)(H:Hp)(x:V)(v:Value)(Q:Bool->Hp->Prop),Inv X pins σ H s->RelV x v->r x H Q->
  wpAny (GO X.prog X.w) X.A (truthy v) (TP X pins σ Q) X.xe s
def tOp(r:R2)(ta tb:TE):TE:=λσ H Q=>ta σ H λx H1=>tb σ H1 λy H2=>r x y H2 Q
def tUn(r:V->Hp->VK->Prop)(ta:TE):TE:=λσ H Q=>ta σ H λx H1=>r x H1 Q
def rI(C:Int->Int->Prop)(g:Int->Int->V):R2:=λx y H Q=>∃i j,x=.int i/\y=.int j/\C i j/\Q (g i j) H
def rI0(g:Int->Int->V):R2:=λx y H Q=>∃i j,x=.int i/\y=.int j/\Q (g i j) H
def rU(g:Int->V):V->Hp->VK->Prop:=λx H Q=>∃i,x=.int i/\Q (g i) H
section
variable{X:Cx}{a b c:TJ}{ta tb tc:TE}{pos:E6}
theorem Qwc(i:PE X a ta)(hb:PE X b tb){R:V->V->Hp->Prop}(I:Inv X pins σ H s)
  (h:ta σ H λx H1=>tb σ H1 λy H2=>R x y H2)
  (j:∀v u s2 x y H2,Inv X pins σ H2 s2->RelV x v->RelV y u->R x y H2->wpAny (GO X.prog X.w) X.A (f v u) Q X.xe s2):
  wpAny (GO X.prog X.w) X.A (eval a X.env) (λv c=>wpAny (GO X.prog X.w) X.A (eval b X.env) (λu d=>wpAny (GO X.prog X.w) X.A (f v u) Q X.xe d) X.xe c) X.xe s:=by
 refine Yz (i pins s σ H _ I h) λv s1⟨x,H1,e,m,k⟩=>?_;refine Yz (hb pins s1 σ H1 _ e k) λu s2⟨y,H2,g,n,l⟩=>?_;exact j v u s2 x y H2 g m n l
theorem Zs{c:Operator}(f:Rz X (binaryOp c) r)(e:PE X a ta)(hb:PE X b tb):PE X (.BinOp a c b pos) (tOp r ta tb):=by intro pins s σ H Q I h;exact wpAny_BinOp (Qwc e hb I h λv u s2 x y H2 d g i q=>f pins s2 σ H2 x y v u Q d g i q)
theorem Jl{b:UnaryOp}{r:V->Hp->VK->Prop}(e:UnR X (unaryOp b) r)(d:PE X a ta):PE X (.UnaryOp b a pos) (tUn r ta):=by intro pins s σ H Q I h;exact UnaryOp_ (Yz (d pins s σ H _ I h) λv s1⟨x,H1,c,g,f⟩=>e pins s1 σ H1 x v Q c g f)
theorem opI{C:Int->Int->Prop}{g:Int->Int->Int}
  (rule:∀(i j:Int)(t u:FA)(s:Gi)(Q:Value->Gi->Prop)(E:Value->Gi->Prop),C i j->Q (.int (g i j) s.toks) {s with toks:=s.toks+1}->wpAny (GO X.prog X.w) X.A (f (.int i t) (.int j u)) Q E s):
  Rz X f (rI C λi j=>.int (g i j)):=by
 intro pins s σ H x y v u Q I b c h;obtain⟨i,j,rfl,rfl,a,q⟩:=h;obtain⟨t,rfl⟩:=b;obtain⟨t',rfl⟩:=c;exact rule i j t t' s _ _ a ⟨.int (g i j),H,I.tok _,⟨_,Xb⟩,q⟩
theorem Qyh{g:Int->Int->Int}
  (rule:∀(i j:Int)(t u:FA)(s:Gi)(Q:Value->Gi->Prop)(E:Value->Gi->Prop),Q (.int (g i j) s.toks) {s with toks:=s.toks+1}->wpAny (GO X.prog X.w) X.A (f (.int i t) (.int j u)) Q E s):
  Rz X f (rI0 λi j=>.int (g i j)):=by
 intro pins s σ H x y v u Q I a b h;obtain⟨i,j,rfl,rfl,q⟩:=h;obtain⟨t,rfl⟩:=a;obtain⟨t',rfl⟩:=b;exact rule i j t t' s _ _ ⟨.int (g i j),H,I.tok _,⟨_,Xb⟩,q⟩
theorem Qto{g:Int->Int->Bool}
  (rule:∀(i j:Int)(t u:FA)(s:Gi)(Q:Value->Gi->Prop)(E:Value->Gi->Prop),Q (.bool (g i j)) s->wpAny (GO X.prog X.w) X.A (f (.int i t) (.int j u)) Q E s):
  Rz X f (rI0 λi j=>.bl (g i j)):=by
 intro pins s σ H x y v u Q I a b h;obtain⟨i,j,rfl,rfl,q⟩:=h;obtain⟨t,rfl⟩:=a;obtain⟨t',rfl⟩:=b;exact rule i j t t' s _ _ ⟨.bl (g i j),H,I,Xb,q⟩
def Q03(i j:Int):Prop:=0<j/\j<1073741824
def Q1s(i j:Int):Prop:=0<=j/\j<=1000000/\i.natAbs<2^64
def Qww(i j:Int):Prop:=(-(2^64)<i/\i<2^64)\/(-(2^64)<j/\j<2^64)
theorem Qww.ok{i j:Int}(h:Qww i j):IntMulOk i j:=by
 rcases h with⟨h1,h2⟩|⟨h1,h2⟩
 ·exact .of_left (Lz h1 h2)
 ·exact .of_right (Lz h1 h2)
theorem Qaz:Rz X (binaryOp .Add) (rI0 λi j=>.int (i+j)):=Qyh λ_ _ _ _ _ _ _ q=>add_int q
theorem Qck:Rz X (binaryOp .Sub) (rI0 λi j=>.int (i - j)):=Qyh λ_ _ _ _ _ _ _ q=>sub_int q
theorem Qp9:Rz X (binaryOp .Mult) (rI Qww λi j=>.int (i*j)):=opI λ_ _ _ _ _ _ _ a q=>mul_int q a.ok
theorem Vm:Rz X (binaryOp .FloorDiv) (rI Q03 λi j=>.int (i / j)):=opI λi j _ _ _ _ _ a q=>by have h1:(0:Int)<j:=a.1;have h2:j<1073741824:=a.2;exact floordiv_int (by omega) (by rw[Int.fdiv_eq_ediv_of_nonneg i (by omega)];exact q) (.inl (EY (by omega)))
theorem Wq:Rz X (binaryOp .Mod) (rI (λ_ j=>0<j) λi j=>.int (i % j)):=opI λi j _ _ _ _ _ a q=>by have h1:(0:Int)<j:=a;exact mod_int' (by omega) (by rw[Int.fmod_eq_emod_of_nonneg i (by omega)];exact q)
theorem Qri:Rz X (binaryOp .Pow) (rI Q1s λi j=>.int (i^j.toNat)):=opI λ_ _ _ _ _ _ _ a q=>pow_int_small a.1 a.2.1 a.2.2 q
theorem unI{f:Value->Fz Value}{g:Int->Int}
  (rule:∀(i:Int)(t:FA)(s:Gi)(Q:Value->Gi->Prop)(E:Value->Gi->Prop),Q (.int (g i) s.toks) {s with toks:=s.toks+1}->wpAny (GO X.prog X.w) X.A (f (.int i t)) Q E s):
  UnR X f (rU λi=>.int (g i)):=by
 intro pins s σ H x v Q I a h;obtain⟨i,rfl,q⟩:=h;obtain⟨t,rfl⟩:=a;exact rule i t s _ _ ⟨.int (g i),H,I.tok _,⟨_,Xb⟩,q⟩
theorem Vj:UnR X (unaryOp .USub) (rU λi=>.int (-i)):=unI λ_ _ _ _ _ q=>neg_int q
end
def Qzz:V->V->Bool
 |.non,.non=>Ge|.non,.int _=>Ge|.int _,.non=>Ge|.non,.bl _=>Ge|.bl _,.non=>Ge|.non,.str _=>Ge|.str _,.non=>Ge
 |.int _,.int _=>Ge|.bl _,.bl _=>Ge|.str _,.str _=>Ge|.byt _,.byt _=>Ge
 |.int _,.str _=>Ge|.str _,.int _=>Ge|.bl _,.str _=>Ge|.str _,.bl _=>Ge
 |_,_=>Gp
def rEq:R2:=λx y H Q=>Qzz x y=Ge/\Q (.bl (decide (x=y))) H
def rNe:R2:=λx y H Q=>Qzz x y=Ge/\Q (.bl (!decide (x=y))) H
theorem V9{i j:Int}:decide (V.int i=V.int j)=(i==j):=by rw[DZ];simp
theorem Qrx{i j:Bool}:decide (V.bl i=V.bl j)=(i==j):=by rw[DZ];simp
theorem Q8{i j:GJ}:decide (V.str i=V.str j)=(i==j):=by rw[DZ];simp
theorem Ql1{i j:Array UInt8}:decide (V.byt i=V.byt j)=(i.toList==j.toList):=by rw[DZ];cases i;cases j;simp
section
variable{X:Cx}{a b c:TJ}{ta tb tc:TE}{pos:E6}
theorem Z8{Q:VK}{k a:Bool}(I:Inv X pins σ H s)(q:Q (.bl k) H)(e:k=a):EP X pins σ Q (.bool a) s:=by subst e;exact⟨.bl k,H,I,Xb,q⟩
theorem Xi:Rz X (TU .Eq) rEq:=by
 intro pins s σ H x y v u Q I c a h;obtain⟨b,q⟩:=h;cases x with
 |non=>
  cases c;cases y with
  |non=>cases a;exact PySem.EqNone.eq_none_none (Z8 I q (by simp))
  |bl j=>cases a;exact PySem.EqNone.eq_none_bool (Z8 I q (by simp))
  |int j=>obtain⟨t',rfl⟩:=a;exact PySem.EqNone.eq_none_int (Z8 I q (by simp))
  |str j=>obtain⟨t',rfl⟩:=a;exact PySem.EqNone.eq_none_str (Z8 I q (by simp))
  |_=>exact absurd (show Gp=Ge from b) Gv
 |bl i=>
  cases c;cases y with
  |non=>cases a;exact PySem.EqNone.eq_bool_none (Z8 I q (by simp))
  |bl j=>cases a;exact eq_bool (Z8 I q Qrx)
  |str j=>obtain⟨t',rfl⟩:=a;exact PySem.EqMixed.eq_bool_str (Z8 I q (by simp))
  |_=>exact absurd (show Gp=Ge from b) Gv
 |int i=>
  obtain⟨t,rfl⟩:=c;cases y with
  |non=>cases a;exact PySem.EqNone.eq_int_none (Z8 I q (by simp))
  |int j=>obtain⟨t',rfl⟩:=a;exact eq_int (Z8 I q V9)
  |str j=>obtain⟨t',rfl⟩:=a;exact PySem.EqMixed.eq_int_str (Z8 I q (by simp))
  |_=>exact absurd (show Gp=Ge from b) Gv
 |str i=>
  obtain⟨t,rfl⟩:=c;cases y with
  |non=>cases a;exact PySem.EqNone.eq_str_none (Z8 I q (by simp))
  |bl j=>cases a;exact PySem.EqMixed.eq_str_bool (Z8 I q (by simp))
  |int j=>obtain⟨t',rfl⟩:=a;exact PySem.EqMixed.eq_str_int (Z8 I q (by simp))
  |str j=>obtain⟨t',rfl⟩:=a;exact eq_str (Z8 I q Q8)
  |_=>exact absurd (show Gp=Ge from b) Gv
 |byt i=>
  obtain⟨t,rfl⟩:=c;cases y with
  |byt j=>obtain⟨t',rfl⟩:=a;exact PySem.W.eq_bytes (Z8 I q Ql1)
  |_=>exact absurd (show Gp=Ge from b) Gv
 |_=>cases y<;>exact absurd (show Gp=Ge from b) Gv
theorem Vq:Rz X (TU .NotEq) rNe:=by
 intro pins s σ H x y v u Q I c a h;obtain⟨b,q⟩:=h;cases x with
 |non=>
  cases c;cases y with
  |non=>cases a;exact PySem.EqNone.ne_none_none (Z8 I q (by simp))
  |bl j=>cases a;exact PySem.EqNone.ne_none_bool (Z8 I q (by simp))
  |int j=>obtain⟨t',rfl⟩:=a;exact PySem.EqNone.ne_none_int (Z8 I q (by simp))
  |str j=>obtain⟨t',rfl⟩:=a;exact PySem.EqNone.ne_none_str (Z8 I q (by simp))
  |_=>exact absurd (show Gp=Ge from b) Gv
 |bl i=>
  cases c;cases y with
  |non=>cases a;exact PySem.EqNone.ne_bool_none (Z8 I q (by simp))
  |bl j=>cases a;exact ne_bool (Z8 I q (congrArg not Qrx))
  |str j=>obtain⟨t',rfl⟩:=a;exact PySem.EqMixed.ne_bool_str (Z8 I q (by simp))
  |_=>exact absurd (show Gp=Ge from b) Gv
 |int i=>
  obtain⟨t,rfl⟩:=c;cases y with
  |non=>cases a;exact PySem.EqNone.ne_int_none (Z8 I q (by simp))
  |int j=>obtain⟨t',rfl⟩:=a;exact ne_int (Z8 I q (congrArg not V9))
  |str j=>obtain⟨t',rfl⟩:=a;exact PySem.EqMixed.ne_int_str (Z8 I q (by simp))
  |_=>exact absurd (show Gp=Ge from b) Gv
 |str i=>
  obtain⟨t,rfl⟩:=c;cases y with
  |non=>cases a;exact PySem.EqNone.ne_str_none (Z8 I q (by simp))
  |bl j=>cases a;exact PySem.EqMixed.ne_str_bool (Z8 I q (by simp))
  |int j=>obtain⟨t',rfl⟩:=a;exact PySem.EqMixed.ne_str_int (Z8 I q (by simp))
  |str j=>obtain⟨t',rfl⟩:=a;exact ne_str (Z8 I q (congrArg not Q8))
  |_=>exact absurd (show Gp=Ge from b) Gv
 |byt i=>
  obtain⟨t,rfl⟩:=c;cases y with
  |byt j=>obtain⟨t',rfl⟩:=a;exact PySem.W.ne_bytes (Z8 I q (congrArg not Ql1))
  |_=>exact absurd (show Gp=Ge from b) Gv
 |_=>cases y<;>exact absurd (show Gp=Ge from b) Gv
theorem Ug:Rz X (TU .Lt) (rI0 λi j=>.bl (decide (i<j))):=Qto λ_ _ _ _ _ _ _ q=>lt_int q
theorem Qq4:Rz X (TU .LtE) (rI0 λi j=>.bl (decide (i<=j))):=Qto λ_ _ _ _ _ _ _ q=>le_int q
theorem Qp6:Rz X (TU .Gt) (rI0 λi j=>.bl (decide (j<i))):=Qto λ_ _ _ _ _ _ _ q=>gt_int q
theorem Qh8:Rz X (TU .GtE) (rI0 λi j=>.bl (decide (j<=i))):=Qto λ_ _ _ _ _ _ _ q=>ge_int q
theorem Qwg:Rz X (TU .Is) (λx y H Q=>y=.non/\Q (.bl (decide (x=.non))) H):=by
 intro pins s σ H x y v u Q I a b h;obtain⟨rfl,q⟩:=h;cases b;refine is_none_gen (Z8 I q ?_);cases x<;>first
  |(cases a;rfl)
  |(obtain⟨t,rfl⟩:=a;rfl)
theorem Oc:Rz X (TU .IsNot) (λx y H Q=>y=.non/\Q (.bl (!decide (x=.non))) H):=by
 intro pins s σ H x y v u Q I a b h;obtain⟨rfl,q⟩:=h;cases b;refine isnot_none_gen (Z8 I q ?_);cases x<;>first
  |(cases a;rfl)
  |(obtain⟨t,rfl⟩:=a;rfl)
theorem Qs(b:TJ)(h:op≠.In:=by decide)(h2:op≠.NotIn:=by decide):behindInMarks op b=Gp:=by
 have a:(op==CmpOp.In)=Gp:=by cases op<;>first|rfl|exact absurd rfl h
 have c:(op==CmpOp.NotIn)=Gp:=by cases op<;>first|rfl|exact absurd rfl h2
 cases b<;>simp[behindInMarks,a,c]
theorem Wm(f:Rz X (TU op) r)(d:PE X a ta)(hb:PE X b tb)(e:behindInMarks op b=Gp):PE X (.Compare a [op] [b] pos) (tOp r ta tb):=by intro pins s σ H Q I h;exact wpAny_Compare1 (Qwc d hb I h λv u s2 x y H2 c g i q=>f pins s2 σ H2 x y v u Q c g i q) e
def Qvr(t:TE):TT:=λσ H Q=>t σ H λx H'=>∃k,x=.bl k/\Q k H'
theorem Qo(m:Rz X (TU op) r)(j:PE X a ta)(hb:PE X b tb)(l:behindInMarks op b=Gp):PT X (.Compare a [op] [b] pos) (Qvr (tOp r ta tb)):=by
 intro pins s σ H Q I h;refine E7 (Yz (j pins s σ H _ I h) λv s1⟨x,H1,f,q,n⟩=>Yz (hb pins s1 σ H1 _ f n) λu s2⟨y,H2,g,t,o⟩=>Yz (m pins s2 σ H2 x y v u _ g q t o) λc A⟨z,d,i,w,k,e,p⟩=>?_) l
 subst e;cases w;exact Db ⟨d,i,p⟩
def Qwn(r c:R2)(ta tb tc:TE):TE:=λσ H Q=>ta σ H λx H1=>tb σ H1 λy H2=>r x y H2 λz a=>∃k,z=.bl k/\
 (if k=Ge then tc σ a λd b=>c y d b Q else Q (.bl Gp) a)
theorem Qph{f:CmpOp}{m:R2}(G:Rz X (TU op) r)(g:Rz X (TU f) m)(D:PE X a ta)(hb:PE X b tb)(E:PE X c tc)
  (F:lastMarks [op,f] [b,c]=Gp:=by with_unfolding_all rfl):PT X (.Compare a [op,f] [b,c] pos) (Qvr (Qwn r m ta tb tc)):=by
 intro pins s σ H Q I h;refine isTrue_chain (Yz (D pins s σ H _ I h) λv s1⟨x,H1,q,O,K⟩=>test_link (Yz (hb pins s1 σ H1 _ q K) λu s2⟨y,H2,t,n,L⟩=>Yz (G pins s2 σ H2 x y v u _ t O n L) λd T⟨z,i,j,P,k,e,l⟩=>?_)) F
 subst e;cases P;refine Db ?_;cases k with
 |false=>obtain⟨W,B,J⟩:=l;cases B;exact ite_ff ⟨i,j,J⟩
 |true=>refine ite_tt (test_last (Yz (E pins T σ i _ j l) λU s4⟨V,o,w,R,M⟩=>Yz (g pins s4 σ o y V u U _ w n R M) λd' Z⟨z2,p,A,S,Y,C,N⟩=>?_));subst C;cases S;exact Db ⟨p,A,N⟩
def Qzp(K:PySem.W.Frag)(x:V)(H:Hp)(k:Bool):Prop:=
 match x with
 |.non=>k=Gp
 |.bl b=>k=b
 |.int i=>k=(i !=0)
 |.str y=>y.length<=Gh/\k=((y.length:Int) !=0)
 |.byt y=>y.size<=Gh/\k=((y.size:Int) !=0)
 |.ref p=>(∃xs,Zc K H p xs/\k= !xs.isEmpty)\/(∃xs,Q9 K H p xs/\k= !xs.isEmpty)\/∃kvs,H p=Ga (.dK kvs)/\k= !kvs.isEmpty
 |_=>False
theorem Qj9{κ:Type}{kvs:List (κ×V)}{vs:List (κ×Value)}(r:KV kvs vs):(!vs.isEmpty)= !kvs.isEmpty:=by cases r<;>rfl
theorem Qcb{its:List Value}(r:Z0 xs its):(!its.toArray.isEmpty)= !xs.isEmpty:=by cases r<;>simp
theorem Ri:(Gh:Nat)<2^63:=by rw[Gy];decide
theorem Qxr:Q1e X (λx H Q=>∃k,Qzp X.K x H k/\Q k H):=by
 intro pins s σ H x v Q I d h;obtain⟨k,e,q⟩:=h;have j:=Ri;have l:Gh=16777216:=Gy;cases x with
 |non=>cases d;have a:k=Gp:=e;subst a;exact truthy_none ⟨H,I,q⟩
 |bl b=>cases d;have a:k=b:=e;subst a;exact Db ⟨H,I,q⟩
 |int i=>obtain⟨t,rfl⟩:=d;have a:k=(i !=0):=e;subst a;exact PySem.P.truthy_int ⟨H,I,q⟩
 |str y=>obtain⟨t,rfl⟩:=d;obtain⟨g,a⟩:y.length<=Gh/\k=((y.length:Int) !=0):=e;subst a;exact PySem.P.truthy_str (by omega) ⟨H,I.tok _,q⟩
 |byt y=>obtain⟨t,rfl⟩:=d;obtain⟨g,a⟩:y.size<=Gh/\k=((y.size:Int) !=0):=e;subst a;exact PySem.W.truthy_bytes (by omega) ⟨H,I.tok _,q⟩
 |ref p=>
  cases d;have a:(∃xs,Zc X.K H p xs/\k= !xs.isEmpty)\/(∃xs,Q9 X.K H p xs/\k= !xs.isEmpty)\/∃kvs,H p=Ga (.dK kvs)/\k= !kvs.isEmpty:=e;rcases a with⟨xs,f,a⟩|⟨xs,f,a⟩|⟨kvs,f,a⟩
  ·subst a;obtain⟨its,r,pl,hz⟩:=I.list f;have c:=r.length;exact wpAny_truthy_list pl.isList (by simp only[List.size_toArray];omega) ⟨H,I.tok _,by rw[Qcb r];exact q⟩
  ·subst a;obtain⟨its,r,pl,hz⟩:=I.tuple f;have c:=r.length;exact truthy_tuple pl (by simp only[List.size_toArray];omega) ⟨H,I.tok _,by rw[Qcb r];exact q⟩
  ·subst a;obtain⟨hz,hS,vs,r,m⟩:kvs.length<=Gh/\(p==TV)=Gp/\∃vs,KV kvs vs/\s.heap.DictOf (Yp X.prog X.w) p vs:=I.Z4 p _ f;have c:kvs.length=vs.length:=Paired.length r;exact wpAny_truthy_dict hS m (by omega) ⟨H,I.tok _,by rw[Qj9 r];exact q⟩
 |_=>exact(show False from e).elim
theorem Qqk(d:PE X a ta)(e:∀b,isTrue a X.env b=(do let v<-b;standAt a.pos;holding [v] (truthy v))):
  PT X a (λσ H Q=>ta σ H λx H'=>∃k,Qzp X.K x H' k/\Q k H'):=by
 intro pins s σ H Q I h;exact LK (Yz (d pins s σ H _ I h) λv s1⟨x,H1,c,g,f⟩=>Qxr pins s1 σ H1 x v Q c g f) (e _)
theorem Qjd:Rz X (binaryOp .Add) (λx y H Q=>∃i j,x=.str i/\y=.str j/\i.length+j.length<=Gh/\Q (.str (i++j)) H):=by intro pins s σ H x y v u Q I a b h;obtain⟨i,j,rfl,rfl,hz,q⟩:=h;obtain⟨t,rfl⟩:=a;obtain⟨t',rfl⟩:=b;exact add_str (λt' tk=>⟨.str (i++j),H,I.tok _,⟨_,Xb⟩,q⟩) hz
theorem vals1{x:V}(r:Z0 [x] us):∃u,us=[u]/\RelV x u:=by
 cases r with
 |cons a b=>cases b;exact⟨_,Xb,a⟩
theorem vals2{x y:V}(r:Z0 [x,y] us):∃u a,us=[u,a]/\RelV x u/\RelV y a:=by
 cases r with
 |cons b c=>
  cases c with
  |cons d e=>cases e;exact⟨_,_,Xb,b,d⟩
theorem Qp8:V1 X (.builtin "abs") (λxs H Q=>∃i,xs=[.int i]/\Q (.int (if i<0 then -i else i)) H):=by intro pins s σ H xs us Q I r h;obtain⟨i,rfl,q⟩:=h;obtain⟨u,rfl,t,rfl⟩:=vals1 r;exact call_abs_int λu tk=>⟨.int (if i<0 then -i else i),H,I.tok _,⟨_,Xb⟩,q⟩
theorem Qn5(b:X.calm=Ge):V1 X (.builtin "min") (λxs H Q=>∃i j,xs=[.int i,.int j]/\Q (.int (if j<i then j else i)) H):=by
 intro pins s σ H xs us Q I r h;obtain⟨i,j,rfl,q⟩:=h;obtain⟨u,c,rfl,⟨t,rfl⟩,⟨t',rfl⟩⟩:=vals2 r;refine min_two_ints (I.ok.hd b) λh' tk k=>⟨_,H,I.kept k,?_,q⟩;by_cases a:j<i
 ·rw[Gk a,Gk a];exact⟨_,Xb⟩
 ·rw[Gg a,Gg a];exact⟨_,Xb⟩
theorem Qoi:V1 X (.type "int") (λxs H Q=>(∃i,xs=[.int i]/\Q (.int i) H)\/∃k,xs=[.bl k]/\Q (.int (if k then 1 else 0)) H):=by
 intro pins s σ H xs us Q I r h;rcases h with⟨i,rfl,q⟩|⟨k,rfl,q⟩
 ·obtain⟨u,rfl,t,rfl⟩:=vals1 r;exact call_int_int ⟨.int i,H,I,⟨_,Xb⟩,q⟩
 ·obtain⟨u,rfl,a⟩:=vals1 r;cases a;exact call_int_bool ⟨.int (if k then 1 else 0),H,I.tok _,⟨_,Xb⟩,q⟩
def Q0w(K:PySem.W.Frag)(x:V)(H:Hp)(n:Nat):Prop:=
 match x with
 |.str y=>y.length<=Gh/\n=y.length
 |.byt y=>y.size<=Gh/\n=y.size
 |.ref p=>(∃xs,Zc K H p xs/\n=xs.length)\/∃xs,Q9 K H p xs/\n=xs.length
 |_=>False
theorem Zm:V1 X (.builtin "len") (λxs H Q=>∃x n,xs=[x]/\Q0w X.K x H n/\Q (.int n) H):=by
 intro pins s σ H xs us Q I r h;obtain⟨x,n,rfl,e,q⟩:=h;obtain⟨u,rfl,f⟩:=vals1 r;have i:=Ri;have j:Gh=16777216:=Gy;cases x with
 |str y=>obtain⟨t,rfl⟩:=f;obtain⟨g,b⟩:y.length<=Gh/\n=y.length:=e;subst b;exact len_str (by omega) ⟨.int _,H,I.tok _,⟨_,Xb⟩,q⟩
 |byt y=>obtain⟨t,rfl⟩:=f;obtain⟨g,b⟩:y.size<=Gh/\n=y.size:=e;subst b;exact PySem.W.len_bytes (by omega) ⟨.int _,H,I.tok _,⟨_,Xb⟩,q⟩
 |ref p=>
  cases f;have b:(∃xs,Zc X.K H p xs/\n=xs.length)\/∃xs,Q9 X.K H p xs/\n=xs.length:=e;rcases b with⟨xs,c,b⟩|⟨xs,c,b⟩
  ·subst b;obtain⟨its,d,pl,hz⟩:=I.list c;have a:=d.length;exact Sk pl.isList (by simp only[List.size_toArray];omega) ⟨.int xs.length,H,I.tok _,⟨_,by simp only[List.size_toArray];rw[a]⟩,q⟩
  ·subst b;obtain⟨its,d,pl,hz⟩:=I.tuple c;have a:=d.length;exact len_tuple pl (by simp only[List.size_toArray];omega) ⟨.int xs.length,H,I.tok _,⟨_,by simp only[List.size_toArray];rw[a]⟩,q⟩
 |_=>exact(show False from e).elim
end
structure Qka(h:Heap)(x dx C:Gc)(mA:GJ->Option Value):Prop where
 obj:h.get? x=Ga (PySem.W.instObj C dx)
 ns:h.Ns1 dx mA
 ne:dx≠x
theorem Qnu{h:Heap}{dx:Gc}{mA:GJ->Option Value}(n:h.Ns1 dx mA):∃od,h.get? dx=Ga od/\∀name,PySem.W.lookIn name od=Ga (mA name):=by
 obtain⟨o,es,ep,g,hd,d,_,f⟩:=n;refine⟨o,g,λname=>?_⟩;have e:=f name;unfold nsFind findBy at e;rw[<-Array.find?_toList]at e;unfold PySem.W.lookIn;rw[hd];dsimp only;split
 ·rename_i y q
  rw[q]at e;exact congrArg Ga e
 ·rename_i q
  rw[q]at e;have a:es.toList.any (·.refKey)=Gp:=by rw[List.any_eq_false];intro y i;obtain⟨z,t,b⟩:=d y (Array.mem_toList_iff.mp i);simp[Fs,b]
  have c:¬es.toList.any (·.refKey)=Ge:=by rw[a];exact Gv
  rw[Gg c];exact congrArg Ga e
theorem Qka.look{h:Heap}{x dx:Gc}{mA:GJ->Option Value}(I:Qka h x dx C mA):∃od,PySem.W.InstAt h x (PySem.W.instObj C dx) C (Ga od)/\∀name,PySem.W.lookIn name od=Ga (mA name):=
 let⟨od,ho,hl⟩:=Qnu I.ns
 ⟨od,⟨I.obj,Xb,Xb,ho⟩,hl⟩
section
variable{prog:Gj}{w:Gu}{A:Tz}{E:Value->Gi->Prop}{s:Gi}{K:PySem.W.Frag}{x dx C f:Gc}{mA:GJ->Option Value}{name:GJ}{v:Value}
theorem Qs4{a:Bool}(X:K.In s.heap)(I:Qka s.heap x dx C mA)(d:PySem.W.plainGet K C name=Ge)(e:PySem.W.hasDictIn K C=Ge)
  (c:PySem.W.findIn K (.ref C) name=Ga Gf)(g:mA name=Ga v)(b:PySem.W.handedIn v=Ge)(h:Q v {s with toks:=s.toks+1}):
  wpAny (GO prog w) A (getAttr (.ref x) name a) Q E s:=by
 obtain⟨od,J,f⟩:=I.look;exact PySem.W.get_value X J (PySem.W.plainGet_of d).1 (PySem.W.findObj_own e c rfl (by rw[f,g])) b h
theorem Qr1{Q:Value×List Value->Gi->Prop}(X:K.In s.heap)(I:Qka s.heap x dx C mA)(a:PySem.W.plainGet K C name=Ge)
  (b:PySem.W.findIn K (.ref C) name=Ga (Ga (.ref f)))(d:PySem.W.isFn K (.ref f)=Ge)(e:mA name=Gf)(h:Q (.ref f,[.ref x]) s):
  wpAny (GO prog w) A (getMethod (.ref x) name pl) Q E s:=by
 obtain⟨od,J,c⟩:=I.look;exact PySem.W.method_fn X J (PySem.W.plainGet_of a).1 (PySem.W.plainGet_of a).2 b (Ey.mp d) (by show(PySem.W.lookIn name od).map (·.isSome)=Ga Gp;rw[c,e];rfl) h
theorem Qul{ns:List GJ}{Q:Unit->Gi->Prop}(X:K.In s.heap)(I:Qka s.heap x dx C mA)
  (o:PySem.W.findIn K (.ref C) "__setattr__"=Ga (Ga (.builtin "object.__setattr__")))(n:PySem.W.plainOver K C=Ge)(p:PySem.W.takerIn K C name=Ga Gf)(m:PySem.W.hasDictIn K C=Ge)
  (hw:PySem.Within mA ns)(hsz:ns.length<=Gh)
  (h:∀h',Qka h' x dx C (λy=>if y=name then Ga v else mA y)->Heap.SameBut dx s.heap h'->Q () {s with heap:=h',toks:=s.toks+2}):
  wpAny (GO prog w) A (setAttr (.ref x) name v) Q E s:=by
 obtain⟨od,J,u⟩:=I.look;refine PySem.W.set_plain X J o (PySem.W.osa_open (s:={s with toks:=s.toks+1}) (r:=Gf) X J n p λb=>?_);obtain⟨t,l,f⟩:=PySem.W.any_some m;have q:s.heap.get? x=Ga ⟨.ref C,Ga dx,.plain,#[]⟩:=I.obj;refine Gb (Gd (Gb (Gb (wpAny_loadPart q (Gb (PySem.W.Looks.here (s:={s with toks:=s.toks+1}) (PySem.W.looks_clsIn X l) ?_))))));rw[f];refine Gd (a:=Ga dx) (Gb (Gd (Gb ?_)));refine wpAny_nsSet1 (s:={s with toks:=s.toks+1}) I.ns λh' c d=>?_;obtain⟨z,k,j,i,g,e⟩:=c.count (PySem.Within.cons name v hw);refine Gb (wpAny_lookBehind i (by rw[g];exact pastItsLine_dict (TD e (by rw[List.length_cons];omega))) ?_);exact Gd (h _ ⟨(d.2 _ (Gm I.ne)).trans I.obj,c,I.ne⟩ d)
theorem Qq0{R:LM->Gi->Prop}{vs:List Value}(X:K.In s.heap)(b:PySem.W.makesIn K C=Ge)
  (hi:PySem.W.findIn K (.ref C) "__init__"=Ga (Ga (.ref f)))(a:PySem.W.typeIn K (.ref f)=Ga (.type "function"))
  (h:codeAny (GO prog w) (A.under (.builtin "type.__call__" ⟨.ref C::vs,kw⟩)) (.call (.ref f) ⟨.ref (s.heap.objs.size+1)::vs,kw⟩) (PySem.W.InitBack (s.heap.objs.size+1) R)
   {s with heap:=(s.heap.push PySem.W.emptyDict).push (PySem.W.instObj C s.heap.objs.size)}):
  codeAny (GO prog w) A (.call (.ref C) ⟨vs,kw⟩) R s:=by
 obtain⟨c,g,d,t,os⟩:=s;exact PySem.W.make_core (PySem.W.makes_of X b) (PySem.W.looks_findIn X hi) (λself=>PySem.W.bind_fn X self a) (.inl Xb) h
end
def Yv(f:GJ)(v:V):List (GJ×V)->List (GJ×V)
 |[]=>[(f,v)]
 |(g,x)::r=>if g=f then(g,v)::r else(g,x)::Yv f v r
theorem Qa4(f g:GJ)(v:V):∀fs:List (GJ×V),(Yv f v fs).lookup g=if g=f then Ga v else fs.lookup g
 |[]=>by
  show List.lookup g [(f,v)]=_;by_cases h:g=f
  ·have hb:(g==f)=Ge:=Ey.mpr h;simp only[List.lookup,hb,Gk h]
  ·have hb:(g==f)=Gp:=Df.mpr h;simp only[List.lookup,hb,Gg h]
 |(k,x)::r=>by
  have b:=Qa4 f g v r;rw[show Yv f v ((k,x)::r)=(if k=f then(k,v)::r else(k,x)::Yv f v r)from rfl];by_cases a:k=f
  ·rw[Gk a];by_cases h:g=k
   ·have hb:(g==k)=Ge:=Ey.mpr h;simp only[List.lookup,hb,Gk (h.trans a)]
   ·have hb:(g==k)=Gp:=Df.mpr h;simp only[List.lookup,hb,Gg (λe:g=f=>h (e.trans a.symm))]
  ·rw[Gg a];by_cases h:g=k
   ·have hb:(g==k)=Ge:=Ey.mpr h;simp only[List.lookup,hb,Gg (λe:g=f=>a (h.symm.trans e))]
   ·have hb:(g==k)=Gp:=Df.mpr h;simp only[List.lookup,hb];exact b
theorem Qaq(f:GJ)(v:V):∀fs:List (GJ×V),f∈(Yv f v fs).map (·.1)/\∀g,g∈fs.map (·.1)->g∈(Yv f v fs).map (·.1)
 |[]=>⟨by simp[Yv],λg h=>by simp at h⟩
 |(k,x)::r=>by
  obtain⟨i1,i2⟩:=Qaq f v r;rw[show Yv f v ((k,x)::r)=(if k=f then(k,v)::r else(k,x)::Yv f v r)from rfl];by_cases a:k=f
  ·rw[Gk a];subst a;exact⟨by simp,λg h=>by simpa using h⟩
  ·rw[Gg a];refine⟨?_,λg h=>?_⟩
   ·rw[List.map_cons];exact List.mem_cons_of_mem _ i1
   ·rw[List.map_cons]at h⊢;rcases List.mem_cons.mp h with e|e
    ·exact List.mem_cons.mpr (.inl e)
    ·exact List.mem_cons_of_mem _ (i2 g e)
theorem Qa7(f:GJ)(v:V):∀fs:List (GJ×V),(Yv f v fs).length<=fs.length+1
 |[]=>by simp[Yv]
 |(k,x)::r=>by
  have b:=Qa7 f v r;rw[show Yv f v ((k,x)::r)=(if k=f then(k,v)::r else(k,x)::Yv f v r)from rfl];by_cases a:k=f
  ·rw[Gk a,List.length_cons,List.length_cons];omega
  ·rw[Gg a,List.length_cons,List.length_cons];omega
theorem Ib.some_of{o:Option Value}(r:Ib (Ga v) o):∃u,o=Ga u/\RelV v u:=by
 cases o with
 |none=>exact(show False from r).elim
 |some u=>exact⟨u,Xb,r⟩
theorem Ib.none_of{o:Option Value}(r:Ib Gf o):o=Gf:=by
 cases o with
 |none=>rfl
 |some u=>exact(show False from r).elim
theorem Qn2(r:RelV v u):PySem.W.handedIn u=Ge:=by
 cases v with
 |non=>cases(show u=Value.none from r);rfl
 |bl b=>cases(show u=Value.bool b from r);rfl
 |int i=>obtain⟨t,e⟩:=(show∃t,u=Value.int i t from r);cases e;rfl
 |str x=>obtain⟨t,e⟩:=(show∃t,u=Value.str x t from r);cases e;rfl
 |byt b=>obtain⟨t,e⟩:=(show∃t,u=Value.bytes b t from r);cases e;rfl
 |flt b=>obtain⟨t,e⟩:=(show∃t,u=Value.float b t from r);cases e;rfl
 |ref a=>cases(show u=Value.ref a from r);rfl
 |ty n=>cases(show u=Value.type n from r);rfl
section
variable{P:Gj}{w:Gu}{H H':Hp}{h h':Heap}{a C dx:Gc}{fs fs':List (GJ×V)}
theorem Qb7(Z4:Rf P w H h)(e:H a=Ga (.ins C dx fs)):∃mA,Qka h a dx C mA/\(∀f,Ib (fs.lookup f) (mA f))/\PySem.Within mA (fs.map (·.1))/\fs.length<=1000/\H dx=Ga (.own a):=by obtain⟨d,z,ne,ob,mA,n,r,q⟩:=(show Yk P w H h a (.ins C dx fs)from Z4 a _ e);exact⟨mA,⟨ob,n,ne⟩,r,q,z,d⟩
end
structure Cls(K:PySem.W.Frag)(C:Gc):Prop where
 pg:PySem.W.plainGet K C DU=Ge
 hd:PySem.W.hasDictIn K C=Ge
 po:PySem.W.plainOver K C=Ge
 sa:PySem.W.findIn K (.ref C) "__setattr__"=Ga (Ga (.builtin "object.__setattr__"))
theorem Cls.get(c:Cls K C)(f:GJ):PySem.W.plainGet K C f=Ge:=c.pg
def Yx(K:PySem.W.Frag)(C:Gc)(f:GJ):Prop:=PySem.W.findIn K (.ref C) f=Ga Gf
theorem Yx.Qz2{f:GJ}(n:Yx K C f):PySem.W.takerIn K C f=Ga Gf:=by unfold PySem.W.takerIn;rw[show PySem.W.findIn K (.ref C) f=Ga Gf from n];rfl
structure Yd(K:PySem.W.Frag)(C:Gc)(m:GJ)(f:Gc):Prop where
 at_:PySem.W.findIn K (.ref C) m=Ga (Ga (.ref f))
 fn:PySem.W.isFn K (.ref f)=Ge
 kp:PySem.W.keepIn K (.ref f)=Ge
section
variable{X:Cx}{pins:List (Gc×DJ)}{σ:St}{H:Hp}{s:Gi}{a C dx:Gc}{fs:List (GJ×V)}{f:GJ}{v:V}{A:Tz}{E:Value->Gi->Prop}
theorem Qkw{b:Bool}(I:Inv X pins σ H s)(e:H a=Ga (.ins C dx fs))(c:Cls X.K C)(n:Yx X.K C f)(l:fs.lookup f=Ga v)
  (h:∀u s',Inv X pins σ H s'->RelV v u->Q u s'):wpAny (GO X.prog X.w) A (getAttr (.ref a) f b) Q E s:=by
 obtain⟨mA,O,r,_,_,_⟩:=Qb7 I.Z4 e;obtain⟨u,g,d⟩:=Ib.some_of (v:=v) (o:=mA f) (by rw[<-l];exact r f);exact Qs4 I.kIn O (c.get f) c.hd n g (Qn2 d) (h u _ (I.tok _) d)
theorem Rk{m:GJ}{g:Gc}{Q:Value×List Value->Gi->Prop}(I:Inv X pins σ H s)(e:H a=Ga (.ins C dx fs))(c:Cls X.K C)(k:Yd X.K C m g)(l:fs.lookup m=Gf)
  (h:Q (.ref g,[.ref a]) s):wpAny (GO X.prog X.w) A (getMethod (.ref a) m pl) Q E s:=by
 obtain⟨mA,O,r,_,_,_⟩:=Qb7 I.Z4 e;have b:mA m=Gf:=Ib.none_of (by rw[<-l];exact r m);exact Qr1 I.kIn O (c.get m) k.at_ k.fn b h
theorem Qke{y:V}{Q:Unit->Gi->Prop}(I:Inv X pins σ H s)(e:H a=Ga (.ins C dx fs))(c:Cls X.K C)(n:Yx X.K C f)(m:fs.length<1000)(k:RelV y u)
  (h:∀s',Inv X pins σ (upd H a (.ins C dx (Yv f y fs))) s'->Q () s'):wpAny (GO X.prog X.w) A (setAttr (.ref a) f u) Q E s:=by
 obtain⟨mA,O,r,wi,_,i⟩:=Qb7 I.Z4 e;have hz:(fs.map (·.1)).length<=Gh:=by rw[List.length_map,Gy];omega
 refine Qul I.kIn O c.sa c.po n.Qz2 c.hd wi hz λh' d l=>h _ ?_;have hd:∃o,h'.get? dx=Ga o:=let⟨o,_,_,e',_⟩:=d.ns;⟨o,e'⟩;refine I.write (x:=a) (e:=dx) (by rw[e];exact TW) (.inr i) (λb q hb z=>(l.2 b hb).trans z) hd ?_;refine⟨by rw[Qg O.ne];exact i,?_,O.ne,d.obj,_,d.ns,λg=>?_,λg j=>?_⟩
 ·have:=Qa7 f y fs;omega
 ·show Ib ((Yv f y fs).lookup g) (if g=f then Ga u else mA g);rw[Qa4];by_cases q:g=f
  ·rw[Gk q,Gk q];exact k
  ·rw[Gg q,Gg q];exact r g
 ·by_cases q:g=f
  ·rw[q];exact(Qaq f y fs).1
  ·refine(Qaq f y fs).2 g (wi g λz=>j ?_);show(if g=f then Ga u else mA g)=Gf;rw[Gg q];exact z
theorem Inv.made(I:Inv X pins σ H s):Inv X pins σ (upd (upd H s.heap.objs.size (.own (s.heap.objs.size+1))) (s.heap.objs.size+1) (.ins C s.heap.objs.size []))
  {s with heap:=(s.heap.push PySem.W.emptyDict).push (PySem.W.instObj C s.heap.objs.size)}:=by
 have c:(s.heap.push PySem.W.emptyDict).get? s.heap.objs.size=Ga PySem.W.emptyDict:=Heap.get?_push_size s.heap rfl;have f:((s.heap.push PySem.W.emptyDict).push (PySem.W.instObj C s.heap.objs.size)).get? (s.heap.objs.size+1)=Ga (PySem.W.instObj C s.heap.objs.size):=by have:=Heap.get?_push_size (s.heap.push PySem.W.emptyDict) (o:=PySem.W.instObj C s.heap.objs.size) rfl;rwa[Heap.size_push]at this
 have g:(s.heap.push PySem.W.emptyDict).Ns s.heap.objs.size (λ_=>Gf):=⟨PySem.W.emptyDict,#[],_,c,Xb,(λe h=>absurd h (by simp)),λ_=>rfl⟩;have d:=I.laid (a:=s.heap.objs.size) (o:=.own (s.heap.objs.size+1)) (h':=s.heap.push PySem.W.emptyDict) (t':=s.toks) (λb u q=>Heap.get?_push_of_some _ q) (Gn _) ⟨_,c⟩;refine d.laid (a:=s.heap.objs.size+1) (o:=.ins C s.heap.objs.size []) (t':=s.toks) (λb u q=>Heap.get?_push_of_some _ q) (SF (Heap.size_push _ _)) ?_;have ne:s.heap.objs.size≠s.heap.objs.size+1:=GV (Dx _);refine⟨by rw[Qg ne,Qb],Gx _,ne,f,λ_=>Gf,(Heap.Ns1.of_empty g).at λo q=>Heap.get?_push_of_some _ q,λ_=>TW,λy i=>absurd rfl i⟩
theorem Qs3{prog:Gj}{env:SW}{f:GJ}{s:Gi}(hb:attributeBase e f env (eval e env)=eval e env)
  (h:wpAny (GO prog w) A (eval e env) (λo a=>wpAny (GO prog w) A (getAttr o f Ge) Q E a) E s):wpAny (GO prog w) A (eval (.Attribute e f pos) env) Q E s:=
 Attribute_any_ h (by rw[arm_eval_Attribute,hb])
end
def Qtg(K:PySem.W.Frag)(ta:TE)(f:GJ):TE:=λσ H Q=>ta σ H λx H1=>∃a C dx fs v,x=.ref a/\H1 a=Ga (.ins C dx fs)/\Cls K C/\Yx K C f/\fs.lookup f=Ga v/\Q v H1
def Q0o(K:PySem.W.Frag)(ta tv:TE)(f:GJ):TS:=λD σ H=>tv σ H λy H1=>ta σ H1 λx H2=>∃a C dx fs,x=.ref a/\H2 a=Ga (.ins C dx fs)/\Cls K C/\Yx K C f/\fs.length<1000/\
 D.nx σ (upd H2 a (.ins C dx (Yv f y fs)))
section
variable{X:Cx}{o e value:TJ}{f:GJ}{pos pos' tpos:E6}{ta tv:TE}
theorem Qu(g:PE X e ta)(hb:attributeBase e f X.env (eval e X.env)=eval e X.env):PE X (.Attribute e f pos) (Qtg X.K ta f):=by intro pins s σ H Q I h;refine Qs3 hb (Yz (g pins s σ H _ I h) λu s1⟨x,H1,b,j,a,C,dx,fs,v,ex,ea,c,n,l,q⟩=>?_);subst ex;obtain rfl:u=Value.ref a:=j;exact Qkw b ea c n l λk s2 d i=>⟨v,H1,d,i,q⟩
theorem Xj(g:PE X o ta)(j:PE X value tv)(i:swapsWith value (Ga (.Attribute o f pos')) pos.line X.env=pure Gp):PS X (.Assign [.Attribute o f pos'] value pos) (Q0o X.K ta tv f):=by intro pins s σ H D I h;refine plainObj_wpAny_Assign_Attribute (Yz (j pins s σ H _ I h) λu s1⟨y,H1,b,p,q⟩=>Yz (g pins s1 σ H1 _ b q) λov s2⟨x,H2,d,m,a,C,dx,fs,ex,ea,c,n,l,k⟩=>?_) i;subst ex;obtain rfl:ov=Value.ref a:=m;exact Qke d ea c n l p λr e=>⟨σ,_,e,k⟩
theorem Qv4{m:GJ}{apos:E6}{args:List TJ}(d:PE X e te)(I:Inv X pins σ H s)
  (h:te σ H λx H1=>∃a C dx fs g,x=.ref a/\H1 a=Ga (.ins C dx fs)/\Cls X.K C/\Yd X.K C m g/\fs.lookup m=Gf/\
   ∀s1,Inv X pins σ H1 s1->wpAny (GO X.prog X.w) X.A (callWith pos (.ref g) [.ref a] (Ds pos (GY args X.env)) (backToKw pos (keywordEach [] X.env))) Q X.xe s1)
  (i:eval (.Call (.Attribute e m apos) args [] pos) X.env=(do
   let ov<-eval e X.env
   standAt apos.atName
   let(f,first)<-holding [ov] (getMethod ov m pl)
   callWith pos f first (Ds pos (GY args X.env)) (backToKw pos (keywordEach [] X.env)))):
  wpAny (GO X.prog X.w) X.A (eval (.Call (.Attribute e m apos) args [] pos) X.env) Q X.xe s:=by
 refine PySem.W.methodCall_KW (pl:=pl) (Yz (d pins s σ H _ I h) λu s1⟨x,H1,b,j,a,C,dx,fs,g,ex,ea,c,k,l,q⟩=>?_) i;subst ex;obtain rfl:u=Value.ref a:=j;exact Rk b ea c k l (q s1 b)
end
section
variable{X:Cx}{pins:List (Gc×DJ)}{σ:St}{H:Hp}{s:Gi}{A:Tz}{E:Value->Gi->Prop}{Q:Value->Gi->Prop}{c:Value}{b:Bool}
inductive Oz(K:PySem.W.Frag)(H:Hp):V->Value->Prop where
 |non:Oz K H .non (.type "NoneType")
 |bl (x:Bool):Oz K H (.bl x) (.type "bool")
 |int (i:Int):Oz K H (.int i) (.type "int")
 |str (x:GJ):Oz K H (.str x) (.type "str")
 |flt (x:UInt64):Oz K H (.flt x) (.type "float")
 |lst {a:Gc} {xs:List V} (e:H a=Ga (.lst xs)):Oz K H (.ref a) (.type "list")
 |frz {a:Gc} {o:DJ} {xs:List V} (e:H a=Ga (.frz o (.lst xs))):Oz K H (.ref a) (.type "list")
 |tup {a:Gc} {xs:List V} (e:H a=Ga (.tup xs)):Oz K H (.ref a) (.type "tuple")
 |dK {a:Gc} {kvs:List (Xz×V)} (e:H a=Ga (.dK kvs)):Oz K H (.ref a) (.type "dict")
 |dT {a:Gc} {kvs:List (List Xz×V)} (e:H a=Ga (.dT kvs)):Oz K H (.ref a) (.type "dict")
 |ins {a C dx:Gc} {fs:List (GJ×V)} (e:H a=Ga (.ins C dx fs)) (cl:Cls K C) (ha:PySem.W.findIn K (.ref C) "__class__"=Ga (Ga (.builtin "object.__class__")))
   (hn:PySem.W.specialIn K (.builtin "object.__class__") "__get__"=Ga (Ga (.builtin "getset_descriptor.__get__"))) (htk:PySem.W.takesIn K (.builtin "object.__class__")=Ga Ge)
   (hm:PySem.W.mroIn K C (.type "object")=Ga Ge):Oz K H (.ref a) (.ref C)
theorem Qod{x:V}{t:Value}(I:Inv X pins σ H s)(d:RelV x u)(ty:Oz X.K H x t)(e:PySem.W.kitOne X.K t c=Ga b)(h:∀tk,Q (.bool b) {s with toks:=tk}):
  wpAny (GO X.prog X.w) A (call (.builtin "isinstance") [u,c]) Q E s:=by
 cases ty with
 |non=>cases(show u=Value.none from d);exact PySem.W.kia_one PySem.W.kitx_none I.kIn TW e nofun h
 |bl y=>cases(show u=Value.bool y from d);exact PySem.W.kia_one PySem.W.kitx_bool I.kIn TW e nofun h
 |int i=>obtain⟨t,q⟩:=(show∃t,u=Value.int i t from d);cases q;exact PySem.W.kia_one PySem.W.kitx_int I.kIn TW e nofun h
 |str y=>obtain⟨t,q⟩:=(show∃t,u=Value.str y t from d);cases q;exact PySem.W.kia_one PySem.W.kitx_str I.kIn TW e nofun h
 |flt y=>obtain⟨t,q⟩:=(show∃t,u=Value.float y t from d);cases q;exact PySem.W.kia_one PySem.W.kitx_float I.kIn TW e nofun h
 |@lst a xs ea=>cases(show u=Value.ref a from d);obtain⟨_,_,n,_,h1⟩:=(show Yk X.prog X.w H s.heap a (.lst xs)from I.Z4 a _ ea);exact PySem.W.kia_one PySem.W.kitx_list I.kIn ⟨_,h1,Xb⟩ e nofun h
 |@frz a ob xs ea=>cases(show u=Value.ref a from d);obtain⟨_,_,_,n,_,h1⟩:=(show Yk X.prog X.w H s.heap a (.frz ob (.lst xs))from I.Z4 a _ ea);exact PySem.W.kia_one PySem.W.kitx_list I.kIn ⟨_,h1,Xb⟩ e nofun h
 |@tup a xs ea=>cases(show u=Value.ref a from d);obtain⟨_,_,_,p⟩:=(show Yk X.prog X.w H s.heap a (.tup xs)from I.Z4 a _ ea);obtain⟨o,h1,h2,_⟩:=p;exact PySem.W.kia_one PySem.W.kitx_tuple I.kIn ⟨o,h1,h2⟩ e nofun h
 |@dK a kvs ea=>cases(show u=Value.ref a from d);obtain⟨_,_,vs,_,p⟩:=(show Yk X.prog X.w H s.heap a (.dK kvs)from I.Z4 a _ ea);obtain⟨o,es,ep,h1,h2,_⟩:=p;exact PySem.W.kia_one PySem.W.kitx_dict I.kIn ⟨o,h1,h2.1⟩ e nofun h
 |@dT a kvs ea=>cases(show u=Value.ref a from d);obtain⟨_,_,xs,_,o,es,ep,h1,h2,_⟩:=(show Yk X.prog X.w H s.heap a (.dT kvs)from I.Z4 a _ ea);exact PySem.W.kia_one PySem.W.kitx_dict I.kIn ⟨o,h1,h2.1⟩ e nofun h
 |@ins a C dx fs ea cl g k f j=>cases(show u=Value.ref a from d);obtain⟨mA,O,_⟩:=Qb7 I.Z4 ea;obtain⟨od,J,_⟩:=O.look;exact PySem.W.kia_one (PySem.W.kitx_own (cl.get _) cl.hd g k f j) I.kIn J e nofun h
end
structure Yf(k:Nat)(A:Tz):Prop where
 hd:A.handled=Gf
 dp:A.depth+3*k+5<recursionLimit
 un:A.units+16*k+200<Dg
variable{Q:VK}
theorem Yf.mono{j:Nat}(r:Yf k A)(h:j<=k):Yf j A:=⟨r.hd,by have:=r.dp;omega,by have:=r.un;omega⟩
theorem Yf.deeper{k:Nat}{A:Tz}(r:Yf (k+1) A)(env:SW):Yf k (A.deeper env):=
 ⟨r.hd,by have:=r.dp;show A.depth+1+3*k+5<_;omega,by have:=r.un;show A.units+3+16*k+200<_;omega⟩
theorem Qjr:(A.under (.builtin "type.__call__" ⟨.ref C::us,kw⟩)).depth=A.depth+1:=by first|rfl|simp[SG,Code.weight,Code.isCreation,Code.isGuard,Code.isCaller,L4,SH,guardIds]
theorem Qkq:(A.under (.builtin "type.__call__" ⟨.ref C::us,kw⟩)).units=A.units+1:=by first|rfl|simp[SG,Code.cUnits,L4,SH]
theorem Yf.make(r:Yf (k+1) A)(C:Gc)(us:List Value)(a:List (GJ×Value)):Yf k (A.under (.builtin "type.__call__" ⟨.ref C::us,a⟩)):=
 ⟨r.hd,by have:=r.dp;rw[Qjr];omega,by have:=r.un;rw[Qkq];omega⟩
theorem Yf.depth{k:Nat}{A:Tz}(r:Yf k A):A.depth<recursionLimit:=by have:=r.dp;omega
theorem Yf.units{k:Nat}{A:Tz}(r:Yf k A):A.units+64<Dg:=by have:=r.un;omega
def Qjx:TA:=λ_ H Q=>Q [] H
def Qa8(ta:TE)(a:TA):TA:=λσ H Q=>ta σ H λx H1=>a σ H1 λxs H2=>Q (x::xs) H2
section
variable{X:Cx}{e:TJ}{es:List TJ}{te:TE}{t:TA}{pos:E6}
theorem Qe:PA X [] Qjx:=λ_ _ _ _ H Q I h=>D2 ⟨[],H,I,.nil,h⟩
theorem Qa(c:PE X e te)(d:PA X es t)(f:GY (e::es) X.env=(Gp,eval e X.env)::GY es X.env:=by rfl):PA X (e::es) (Qa8 te t):=by intro pos pins s σ H Q I h;rw[f];show wpAny _ _ (spliced ((Gp,eval e X.env)::Ds pos (GY es X.env))) _ _ s;refine Ez (Yz (c pins s σ H _ I h) λu s1⟨x,H1,a,j,g⟩=>?_);exact Yz (d pos pins s1 σ H1 _ a g) λus s2⟨xs,H2,b,k,i⟩=>⟨x::xs,H2,b,.cons j k,i⟩
def Q0x(t:TA):TE:=λσ H Q=>t σ H λxs H1=>xs.length<=Gh/\∀p,H1 p=Gf->Q (.ref p) (upd H1 p (.tup xs))
def Q1t(t:TA):TE:=λσ H Q=>t σ H λxs H1=>xs.length<=Gh/\∀p,H1 p=Gf->Q (.ref p) (upd H1 p (.lst xs))
theorem Zf{f}(h:PA X es t):PE X (.Tuple es f pos) (Q0x t):=by intro pins s σ H Q I d;refine wpAny_Tuple_spliced (Yz (h pos pins s σ H _ I d) λus s1⟨xs,H1,a,r,z,q⟩=>⟨by rw[<-r.length];exact z,?_⟩);have c:H1 s1.heap.objs.size=Gf:=a.Z4.fresh (Gn _);refine⟨.ref s1.heap.objs.size,upd H1 s1.heap.objs.size (.tup xs),a.laid (t':=s1.toks) (λb u e=>Heap.get?_push_of_some _ e) (Gn _) ?_,Xb,q _ c⟩;exact⟨z,us,r,⟨_,Heap.get?_push_size _ Xb,Xb,_,Xb⟩⟩
theorem Zr(h:PA X es t):PE X (.List es pos) (Q1t t):=by intro pins s σ H Q I d;refine wpAny_List_spliced (Yz (h pos pins s σ H _ I d) λus s1⟨xs,H1,a,r,z,q⟩=>⟨by rw[<-r.length];exact z,?_⟩);have c:H1 s1.heap.objs.size=Gf:=a.Z4.fresh (Gn _);refine⟨.ref s1.heap.objs.size,upd H1 s1.heap.objs.size (.lst xs),a.laid (t':=s1.toks) (λb u e=>Heap.get?_push_of_some _ e) (Gn _) ?_,Xb,q _ c⟩;exact⟨z,us,0,r,Heap.get?_push_size _ Xb⟩
end
abbrev Sp:=List V->Hp->VK->XK->Prop
abbrev CXT:=List SW->Hp->Gi->XK->Value->Gi->Prop
structure Qi4(P:Gj)(w:Gu)(K:PySem.W.Frag)(mg:GJ->Option Value)(base:Heap)(A:Tz)(outer:List SW)(s:Gi)(H:Hp):Prop where
 frames:A.frames=Ga outer
 mod:Mod K mg base
 bs:∀b o,base.get? b=Ga o->s.heap.get? b=Ga o/\H b=Gf
 bsz:base.objs.size<=s.heap.objs.size
 Qbn:s.heap.FunFrames base outer
 frf:∀b∈frs outer,H b=Gf
 Z4:Rf P w H s.heap
 bare:EF s.gens
def CE(outer:List SW)(P:Gj)(w:Gu)(H:Hp)(s:Gi)(Q:VK)(u:Value)(s':Gi):Prop:=
 ∃v H',s'.os=s.os/\EF s'.gens/\Un (frs outer) [] H H' s.heap s'.heap/\Rf P w H' s'.heap/\RelV v u/\Q v H'
def CR(CX:CXT)(outer:List SW)(P:Gj)(w:Gu)(H:Hp)(s:Gi)(Q:VK)(E:XK)(r:LM)(s':Gi):Prop:=
 match r with
 |.ok (.ret u)=>CE outer P w H s Q u s'
 |.ok _=>False
 |.error e=>CX outer H s E e s'
structure Qz(P:Gj)(w:Gu)(K:PySem.W.Frag)(mg:GJ->Option Value)(base:Heap)(CX:CXT)(k:Nat)(f:Gc)(fd:Tf)(ps:List GJ)(sp:Sp):Prop where
 len:∀vs H Q E,sp vs H Q E->vs.length=ps.length
 run:∀(A:Tz)(outer:List SW)(s:Gi)(H:Hp)(args:Args)(us:List Value)(vs:List V)(Q:VK)(E:XK),Yf k A->Qi4 P w K mg base A outer s H->SI s fd args (ps.zip us)->Z0 vs us->sp vs H Q E->
  codeAny (GO P w) A (.call (.ref f) args) (CR CX outer P w H s Q E) s
theorem Qi4.make{base:Heap}{outer:List SW}(e:Qi4 P w K mg base A outer s H)(C:Gc)(us:List Value)(a:List (GJ×Value)):
  Qi4 P w K mg base (A.under (.builtin "type.__call__" ⟨.ref C::us,a⟩)) outer s H:=⟨by first|exact e.frames|(simpa[SG,Code.envs,SH,pushEnvs]using e.frames),e.mod,e.bs,e.bsz,e.Qbn,e.frf,e.Z4,e.bare⟩
section
variable{X:Cx}{pins:List (Gc×DJ)}{σ:St}{H:Hp}{s s':Gi}
theorem Inv.Qzj(I:Inv X pins σ H s):Qi4 X.prog X.w X.K X.mg X.base X.A X.stack s H:=
 ⟨I.ok.frames,I.ok.mod,I.bs,TD I.ok.bsz I.sz,I.stack,I.Ql5,I.Z4,I.bare⟩
theorem Inv.after(I:Inv X pins σ H s)(h:CE X.stack X.prog X.w H s Q u s'):EP X pins σ Q u s':=by obtain⟨v,H',os,bare,un,Z4,r,q⟩:=h;obtain⟨c,g,d,t,a⟩:=s';obtain rfl:a=s.os:=os;exact⟨v,H',I.call (h':=c) (g':=g) (d':=d) (t':=t) (ch:=[]) un Z4 bare (λb z=>absurd z (by simp)),r,q⟩
end
def Qyf(sp:Sp)(dvs:List V)(E:XK)(t:TA):TE:=λσ H Q=>t σ H λvs H1=>sp (vs++dvs) H1 Q E
def Qhz(C:Gc)(m:GJ)(sp:Sp)(dvs:List V)(E:XK)(ta:TE)(t:TA):TE:=λσ H Q=>ta σ H λx H1=>∃a dx fs,x=.ref a/\H1 a=Ga (.ins C dx fs)/\fs.lookup m=Gf/\
 t σ H1 λvs H2=>sp (x::(vs++dvs)) H2 Q E
def Qvh(C:Gc)(sp:Sp)(dvs:List V)(E:XK)(t:TA):TE:=λσ H Q=>t σ H λvs H1=>∀x dx,H1 x=Gf->H1 dx=Gf->dx≠x->
 sp (.ref x::(vs++dvs)) (upd (upd H1 dx (.own x)) x (.ins C dx [])) (λv H2=>v=.non/\Q (.ref x) H2) E
def Binds(K:PySem.W.Frag)(fd:Tf)(ps:List GJ)(ds:List Value):Prop:=
 ∀(s:Gi)(us:List Value),K.In s.heap->(us++ds).length=ps.length->SI s fd ⟨us,[]⟩ (ps.zip (us++ds))
theorem Binds.all{fd:Tf}(h:∀us:List Value,us.length=ps.length->bindArgs fd ⟨us,[]⟩=pure (ps.zip us)):Binds K fd ps []:=λs us _ a=>by rw[List.append_nil]at a⊢;exact .of_eq (h us a)
def Ia(CX:CXT)(X:Cx)(E:XK):Prop:=∀(pins:List (Gc×DJ))(σ:St)(H:Hp)(s:Gi)(e:Value)(s':Gi),Inv X pins σ H s->CX X.stack H s E e s'->X.xe e s'
section
variable{X:Cx}{CX:CXT}{k:Nat}{f C:Gc}{fd:Tf}{ps:List GJ}{sp:Sp}{dvs:List V}{ds:List Value}{E:XK}{x m:GJ}{p pos apos:E6}{e o:TJ}{es:List TJ}{ta:TE}{t:TA}
theorem Qjj(F:Qz X.prog X.w X.K X.mg X.base CX k f fd ps sp)(g:Yf k X.A)(hb:Binds X.K fd ps ds)(hd:Z0 dvs ds)(i:Ia CX X E)
  (I:Inv X pins σ H s)(r:Z0 vs us)(h:sp (vs++dvs) H Q E):wpAny (GO X.prog X.w) X.A (call (.ref f) us) (EP X pins σ Q) X.xe s:=by
 have b:Z0 (vs++dvs) (us++ds):=r.append hd;have d:(us++ds).length=ps.length:=by rw[<-b.length];exact F.len _ _ _ _ h
 refine Fh (EZ (F.run X.A X.stack s H ⟨us,[]⟩ (us++ds) (vs++dvs) Q E g I.Qzj (hb s us I.kIn d) b h) λr s' a=>?_);cases r with
 |error e=>exact i pins σ H s e s' I a
 |ok c=>
  cases c with
  |ret u=>exact I.after a
  |next=>exact False.elim a
  |brk=>exact False.elim a
  |cont=>exact False.elim a
theorem Zo(F:Qz X.prog X.w X.K X.mg X.base CX k f fd ps sp)(m:Yf k X.A)(i:Gl X x)(l:X.mg x=Ga (.ref f))(j:PySem.W.keepIn X.K (.ref f)=Ge)(hb:Binds X.K fd ps ds)(hd:Z0 dvs ds)(n:Ia CX X E)
  (d:PA X (e::es) t)(a:(x==("__debug__":GJ))=Gp:=by decide)(g:GY (e::es) X.env=(Gp,eval e X.env)::GY es X.env:=by rfl)(b:(Ds pos (GY es X.env)).any (·.1)=Gp:=by rfl):
  PE X (.Call (.Name x p) (e::es) [] pos) (Qyf sp dvs E t):=by
 intro pins s σ H Q I h;refine TX (Qb0 I i l ?_ a);refine PySem.W.callWith_K (h₀:=X.base) I.ok.mod.kin j (Yz (d pos pins s σ H _ I h) λus s1⟨vs,H1,c,r,q⟩=>⟨c.kIn,?_⟩) g b;exact Qjj F m hb hd n c r q
theorem Zg(p:PE X o ta)(c:Cls X.K C)(j:Yd X.K C m f)(F:Qz X.prog X.w X.K X.mg X.base CX k f fd ps sp)(v:Yf k X.A)(hb:Binds X.K fd ps ds)(hd:Z0 dvs ds)(z:Ia CX X E)(n:PA X (e::es) t)
  (d:GY (e::es) X.env=(Gp,eval e X.env)::GY es X.env:=by rfl)(b:(Ds pos (GY es X.env)).any (·.1)=Gp:=by rfl)
  (y:eval (.Call (.Attribute o m apos) (e::es) [] pos) X.env=(do
   let ov<-eval o X.env
   standAt apos.atName
   let(f,first)<-holding [ov] (getMethod ov m pl)
   callWith pos f first (Ds pos (GY (e::es) X.env)) (backToKw pos (keywordEach [] X.env))):=by rfl):
  PE X (.Call (.Attribute o m apos) (e::es) [] pos) (Qhz C m sp dvs E ta t):=by
 intro pins s σ H Q I h;refine PySem.W.methodCall_KW (pl:=pl) (Yz (p pins s σ H _ I h) λu s1⟨x,H1,g,D,a,dx,fs,ex,ea,l,q⟩=>?_) y;subst ex;obtain rfl:u=Value.ref a:=D;refine Rk g ea c j l ?_;refine PySem.W.callWith_K (first:=[.ref a]) (h₀:=X.base) I.ok.mod.kin j.kp (Yz (n pos pins s1 σ H1 _ g q) λus s2⟨vs,H2,i,r,B⟩=>⟨i.kIn,?_⟩) d b;exact Qjj (us:=.ref a::us) (vs:=.ref a::vs) F v hb hd z i (.cons rfl r) B
theorem Qig(e:PE X o ta)(c:Cls X.K C)(d:Yd X.K C m f)(F:Qz X.prog X.w X.K X.mg X.base CX k f fd ps sp)(g:Yf k X.A)(hb:Binds X.K fd ps ds)(hd:Z0 dvs ds)(j:Ia CX X E)
  (i:eval (.Call (.Attribute o m apos) [] [] pos) X.env=(do
   let ov<-eval o X.env
   standAt apos.atName
   let(f,first)<-holding [ov] (getMethod ov m pl)
   callWith pos f first (Ds pos (GY [] X.env)) (backToKw pos (keywordEach [] X.env))):=by rfl):
  PE X (.Call (.Attribute o m apos) [] [] pos) (Qhz C m sp dvs E ta Qjx):=by
 intro pins s σ H Q I h;refine PySem.W.methodCall_KW (pl:=pl) (Yz (e pins s σ H _ I h) λu s1⟨x,H1,b,n,a,dx,fs,ex,ea,l,q⟩=>?_) i;subst ex;obtain rfl:u=Value.ref a:=n;refine Rk b ea c d l ?_;exact PySem.W.callWith_K0 (first:=[.ref a]) b.kIn d.kp (Qjj (us:=[.ref a]) (vs:=[.ref a]) F g hb hd j b (.cons rfl .nil) q)
structure Mk(K:PySem.W.Frag)(C f:Gc):Prop where
 makes:PySem.W.makesIn K C=Ge
 init:PySem.W.findIn K (.ref C) "__init__"=Ga (Ga (.ref f))
 fn:PySem.W.isFn K (.ref f)=Ge
 kp:PySem.W.keepIn K (.ref C)=Ge
theorem Qhe(M:Mk X.K C f)(F:Qz X.prog X.w X.K X.mg X.base CX k f fd ps sp)(l:Yf (k+1) X.A)(hb:Binds X.K fd ps ds)(hd:Z0 dvs ds)
  (m:Ia CX X E)(I:Inv X pins σ H s)(r:Z0 vs us)
  (h:∀x dx,H x=Gf->H dx=Gf->dx≠x->sp (.ref x::(vs++dvs)) (upd (upd H dx (.own x)) x (.ins C dx [])) (λv H2=>v=.non/\Q (.ref x) H2) E):
  wpAny (GO X.prog X.w) X.A (call (.ref C) us) (EP X pins σ Q) X.xe s:=by
 have c:=h (s.heap.objs.size+1) s.heap.objs.size (I.Z4.fresh (D1 _)) (I.Z4.fresh (Gn _)) (GV (Dx _));have b:=Inv.made (C:=C) I;have d:Z0 (V.ref (s.heap.objs.size+1)::(vs++dvs)) (Value.ref (s.heap.objs.size+1)::(us++ds)):=.cons rfl (r.append hd);have j:(Value.ref (s.heap.objs.size+1)::us++ds).length=ps.length:=by have e:=d.length;rw[F.len _ _ _ _ c]at e;exact e.symm
 refine Fh (Qq0 (f:=f) I.kIn M.makes M.init (Ey.mp M.fn) (EZ (F.run _ X.stack _ _ ⟨Value.ref (s.heap.objs.size+1)::us,[]⟩ (Value.ref (s.heap.objs.size+1)::(us++ds)) _ _ E (l.make C us [])
  (b.Qzj.make C us []) (hb _ (Value.ref (s.heap.objs.size+1)::us) b.kIn j) d c) λr s' a=>?_))
 cases r with
 |error e=>exact m pins σ _ _ e s' b a
 |ok i=>
  cases i with
  |ret u=>obtain⟨v,H',g,rv,ev,n⟩:=b.after a;subst ev;exact⟨rv,⟨V.ref (s.heap.objs.size+1),H',g,Xb,n⟩⟩
  |next=>exact False.elim a
  |brk=>exact False.elim a
  |cont=>exact False.elim a
theorem Qlq(M:Mk X.K C f)(F:Qz X.prog X.w X.K X.mg X.base CX k f fd ps sp)(l:Yf (k+1) X.A)(i:Gl X x)(j:X.mg x=Ga (.ref C))(hb:Binds X.K fd ps ds)(hd:Z0 dvs ds)(m:Ia CX X E)
  (d:PA X (e::es) t)(a:(x==("__debug__":GJ))=Gp:=by decide)(g:GY (e::es) X.env=(Gp,eval e X.env)::GY es X.env:=by rfl)(b:(Ds pos (GY es X.env)).any (·.1)=Gp:=by rfl):
  PE X (.Call (.Name x p) (e::es) [] pos) (Qvh C sp dvs E t):=by
 intro pins s σ H Q I h;refine TX (Qb0 I i j ?_ a);refine PySem.W.callWith_K (h₀:=X.base) I.ok.mod.kin M.kp (Yz (d pos pins s σ H _ I h) λus s1⟨vs,H1,c,r,q⟩=>⟨c.kIn,?_⟩) g b;exact Qhe M F l hb hd m c r q
theorem Qhj(M:Mk X.K C f)(F:Qz X.prog X.w X.K X.mg X.base CX k f fd ps sp)(d:Yf (k+1) X.A)(b:Gl X x)(c:X.mg x=Ga (.ref C))(hb:Binds X.K fd ps ds)(hd:Z0 dvs ds)(e:Ia CX X E)
  (a:(x==("__debug__":GJ))=Gp:=by decide):PE X (.Call (.Name x p) [] [] pos) (Qvh C sp dvs E Qjx):=by
 intro pins s σ H Q I h;refine TX (Qb0 I b c ?_ a);exact PySem.W.callWith_K0 I.kIn M.kp (Qhe (us:=[]) M F d hb hd e I .nil h)
end
structure Q3(N P:List GJ)(sc:EO):Prop where
 kind:sc.kind=.function
 co:sc.isCoroutine=Gp
 gen:sc.isGenerator=Gp
 nd:N.Nodup
 pre:N.take P.length=P
 par:∀x∈P,sc.names.lookup x=Ga .local\/sc.names.lookup x=Ga .cell
 Qwi:∀y∈sc.names,y.2≠.free
theorem Qe9{kindOf:GJ->Option Ej}{x:GJ}:∀{binds:List (GJ×Value)}{m:GJ->Option Value},(∀v,(x,v)∉binds)->bindL kindOf binds m x=m x
 |[],_,_=>rfl
 |(n,v)::r,m,h=>by
  unfold bindL;rw[Qe9 λw hw=>h w (List.mem_cons_of_mem _ hw)];split
  ·have:x≠n:=by rintro rfl;exact h v List.mem_cons_self
   simp[this]
  ·rfl
theorem Qea{kindOf:GJ->Option Ej}{x:GJ}:∀{binds:List (GJ×Value)}{m:GJ->Option Value},(∀v,(x,v)∉binds)->bindC kindOf binds m x=m x
 |[],_,_=>rfl
 |(n,v)::r,m,h=>by
  unfold bindC;rw[Qea λw hw=>h w (List.mem_cons_of_mem _ hw)];split
  ·rfl
  ·have:x≠n:=by rintro rfl;exact h v List.mem_cons_self
   simp[this]
theorem Qet{kindOf:GJ->Option Ej}{x:GJ}{v:Value}:∀{P:List GJ}{vs:List Value}{i:Nat}{m:GJ->Option Value},P.Nodup->P[i]?=Ga x->vs[i]?=Ga v->kindOf x=Ga .local->
  bindL kindOf (P.zip vs) m x=Ga v
 |[],_,_,_,_,h,_,_=>by simp at h
 |_::_,[],_,_,_,_,h,_=>by simp at h
 |p::P,w::vs,0,m,nd,h1,h2,a=>by simp at h1 h2;subst h1;subst h2;show bindL kindOf ((p,w)::P.zip vs) m p=_;unfold bindL;rw[Qe9 λv b=>(List.nodup_cons.mp nd).1 (List.of_mem_zip b).1,Gk a];simp
 |p::P,w::vs,i+1,m,nd,h1,h2,a=>by show bindL kindOf ((p,w)::P.zip vs) m x=_;unfold bindL;exact Qet (i:=i) (List.nodup_cons.mp nd).2 (by simpa using h1) (by simpa using h2) a
theorem Qed{kindOf:GJ->Option Ej}{x:GJ}{v:Value}:∀{P:List GJ}{vs:List Value}{i:Nat}{m:GJ->Option Value},P.Nodup->P[i]?=Ga x->vs[i]?=Ga v->kindOf x≠Ga .local->
  bindC kindOf (P.zip vs) m x=Ga v
 |[],_,_,_,_,h,_,_=>by simp at h
 |_::_,[],_,_,_,_,h,_=>by simp at h
 |p::P,w::vs,0,m,nd,h1,h2,a=>by simp at h1 h2;subst h1;subst h2;show bindC kindOf ((p,w)::P.zip vs) m p=_;unfold bindC;rw[Qea λv b=>(List.nodup_cons.mp nd).1 (List.of_mem_zip b).1,Gg a];simp
 |p::P,w::vs,i+1,m,nd,h1,h2,a=>by show bindC kindOf ((p,w)::P.zip vs) m x=_;unfold bindC;exact Qed (i:=i) (List.nodup_cons.mp nd).2 (by simpa using h1) (by simpa using h2) a
def start(N:List GJ)(vs:List V):St:=vs.map Ga++List.replicate (N.length - vs.length) Gf
def Qkb(CX:CXT)(P:Gj)(w:Gu)(K:PySem.W.Frag)(mg:GJ->Option Value)(base:Heap)(N:List GJ)(qual:GJ)(scope:EO)(f:Gc)(b:Value)(A:Tz)(outer:List SW)(s:Gi)(H:Hp)(E:XK):Cx where
 prog:=P
 w:=w
 K:=K
 mg:=mg
 base:=base
 A:=A.deeper (envOfC qual scope s.heap.objs.size f b)
 N:=N
 s₀:=s
 H₀:=H
 env:=envOfC qual scope s.heap.objs.size f b
 outer:=outer
 stack:=envOfC qual scope s.heap.objs.size f b::outer
 ex:=[]
 calm:=Ge
 fn:=λ_=>Ge
 pn:=[]
 xe:=λe s'=>wpAny (GO P w) (A.deeper (envOfC qual scope s.heap.objs.size f b)) (leaving (envOfC qual scope s.heap.objs.size f b) e) (λ_ a=>CX outer H s E e a) (λc a=>CX outer H s E c a) s'
theorem Qih{a:EO}(h:a.names.lookup x=Ga .cell):∃c,(cellsFrom n a.names []).lookup x=Ga c:=by have q:=PySem.W.cellsFrom_some a.names n [] (.inl h);exact EK.mp q
theorem Qnw{CX:CXT}{base:Heap}{qual:GJ}{scope:EO}{f:Gc}{o:Value}{outer:List SW}{s1:Gi}{E:XK}
  (S:Q3 N ps scope)(hd:A.handled=Gf)(d:Qi4 P w K mg base A outer s H)(G:vs.length=ps.length)(r:Z0 vs us)
  (x:InCallC s s.heap.objs.size (bindL (envOfC qual scope s.heap.objs.size f o).kindOf (ps.zip us) λ_=>Gf) (cellsFrom (s.heap.objs.size+1) scope.names []) (bindC (envOfC qual scope s.heap.objs.size f o).kindOf (ps.zip us) λ_=>Gf) s1):
  Inv (Qkb CX P w K mg base N qual scope f o A outer s H E) [] (start N vs) H s1:=by
 have D:ps.length<=N.length:=by have:=congrArg List.length S.pre;rw[List.length_take]at this;omega
 obtain⟨h1,tk,rfl,t⟩:=x.done;have j:∀b:Gc,b∉(Qkb CX P w K mg base N qual scope f o A outer s H E).ex:=λb z=>absurd (show b∈([]:List Gc)from z) (by simp);refine⟨⟨d.mod,S.kind,Xb,Xb,Gn _,λy z c h1 h2=>?_,λy g=>?_,λy c _ h=>?_,λ_=>hd,Around.frames_deeper d.frames,.inr ⟨Xb,Xb⟩,λb z=>absurd z (j b),d.bs,d.bsz,λb _ _=>j b,λb z=>absurd z (j b),d.Qbn,d.frf⟩,
  Xb,d.bare,Un.kept t,⟨_,x.toInCall.ns,λi y v h1 h2 F=>?_⟩,λy c h=>⟨_,x.cell y c h⟩,d.Z4.fresh (Gn _),λy c h=>?_,λp l=>absurd (show p∈([]:List (Gc×DJ))from l) (by simp),d.Z4.kept t,?_⟩
 ·exact name_of_addr x.apart (PySem.mem_of_lookup h1) (PySem.mem_of_lookup h2)
 ·have g:scope.names.lookup y=Ga .cell\/scope.names.lookup y=Ga .free:=g;rcases g with g|g
  ·exact Qih g
  ·exact absurd rfl (S.Qwi _ (PySem.mem_of_lookup g))
 ·exact EV (x.above y c (PySem.mem_of_lookup h))
 ·have hi:i<vs.length:=by
   unfold start at h2;by_cases hi:i<vs.length
   ·exact hi
   ·rw[List.getElem?_append_right (by simpa using hi)]at h2;rw[List.getElem?_replicate]at h2;split at h2<;>cases h2
  have C:vs[i]?=Ga v:=by
   unfold start at h2;rw[List.getElem?_append_left (by simpa using hi),List.getElem?_map]at h2;cases e:vs[i]? with
   |none=>rw[e]at h2;cases h2
   |some a=>rw[e]at h2;cases h2;rfl
  obtain⟨u,B,rv⟩:=r.get C;have l:ps[i]?=Ga y:=by rw[<-S.pre,List.getElem?_take_of_lt (by omega)];exact h1
  have m:ps.Nodup:=by rw[<-S.pre];exact S.nd.sublist (List.take_sublist _ _)
  refine⟨u,rv,?_⟩;rcases S.par y (List.mem_of_getElem? l)with k|k
  ·exact .inl ⟨k,Qet m l B k⟩
  ·obtain⟨c,e⟩:=Qih (n:=s.heap.objs.size+1) k;refine .inr ⟨.inl k,c,e,?_⟩;have q:=x.cell y c e;rw[Qed m l B (by show scope.names.lookup y≠_;rw[k];decide)]at q;exact q
 ·exact d.Z4.fresh (EV (x.above y c (PySem.mem_of_lookup h)))
 ·unfold start;show _=N.length;rw[List.length_append,List.length_map,List.length_replicate];omega
theorem Qza{CX:CXT}{base:Heap}{f:Gc}{name qual:GJ}{a:Arguments}{scope:EO}{z kV doc pm cdv ct oc:Value}{an od:Option Gc}
  {osl:Array (Option Value)}{sp:Sp}(lk:K.lookup f=Ga ⟨oc,od,.func (PySem.W.fnOf name qual a body scope z kV doc pm an cdv ct),osl⟩)(l:PySem.W.codeIn K cdv qual=Ge)(S:Q3 N ps scope)
  (len:∀vs H Q E,sp vs H Q E->vs.length=ps.length)
  (d:∀(A:Tz)(outer:List SW)(s:Gi)(H:Hp)(vs:List V)(Q:VK)(E:XK),Yf k (A.deeper (envOfC qual scope s.heap.objs.size f cdv))->sp vs H Q E->
   ∃t,PSs (Qkb CX P w K mg base N qual scope f cdv A outer s H E) body t/\t {nx:=λ_ H'=>Q .non H',rt:=Q} (start N vs) H):
  Qz P w K mg base CX (k+1) f (PySem.W.fnOf name qual a body scope z kV doc pm an cdv ct) ps sp:=by
 refine⟨len,λA outer s H args us vs Q E m i hb r j=>?_⟩;have D:=len _ _ _ _ j;have KX:K.In s.heap:=i.mod.kin.keeps λb o e=>(i.bs b o e).1;have p:s.heap.NoLimit:=i.mod.nolimit.keeps λb o e=>(i.bs b o e).1;have g:∀y∈ps.zip us,scope.names.lookup y.1=Ga .local\/(scope.names.lookup y.1=Ga .cell/\((cellsFrom (s.heap.objs.size+1) scope.names []).lookup y.1).isSome=Ge):=λ⟨n,v⟩L=>by
  rcases S.par n (List.of_mem_zip L).1 with q|q
  ·exact .inl q
  ·exact .inr ⟨q,PySem.W.cellsFrom_some _ _ _ (.inl q)⟩
 refine codeAny_call_function m.depth (KX _ _ lk) rfl S.co S.gen rfl (PySem.W.codeRec_of KX l) (hb _ _ _ _ ?_);refine wpAny_newFunctionEnv_cells S.kind g λenv C s1 x=>?_;subst C;refine⟨p.keeps x.toInCall.keep,codeAny_func ?_⟩;obtain⟨t,G,F⟩:=d A outer s H vs Q E (m.deeper _) j;have I:Inv (Qkb CX P w K mg base N qual scope f cdv A outer s H E) [] (start N vs) H s1:=Qnw S m.hd i D r x;refine Dh (G [] s1 (start N vs) H _ I F) (λB s' h=>?_) λe s' h=>h;have fin:∀{c:St}{H':Hp}{v:V}{u:Value},Inv (Qkb CX P w K mg base N qual scope f cdv A outer s H E) [] c H' s'->RelV v u->Q v H'->CE outer P w H s Q u s':=
  λ{c H' v u}J rv q=>⟨v,H',J.os,J.bare,J.base,J.Z4,rv,q⟩
 cases B with
 |ret u=>obtain⟨v,c,H',J,rv,q⟩:=h;exact fin J rv q
 |next=>obtain⟨c,H',J,q⟩:=h;exact fin (v:=V.non) (u:=Value.none) J rfl q
 |brk=>obtain⟨_,_,_,q⟩:=h;exact False.elim q
 |cont=>obtain⟨_,_,_,q⟩:=h;exact False.elim q
section
variable{X:Cx}{x:GJ}{p pos:E6}{e:TJ}{es:List TJ}{t:TA}{id T:String}{r:List V->Hp->VK->Prop}
def tCB(r:List V->Hp->VK->Prop)(t:TA):TE:=λσ H Q=>t σ H λvs H1=>r vs H1 Q
theorem Qp(f:V1 X (.builtin id) r)(i:Gl X x)(j:X.mg x=Gf)(l:bootBuiltins x=Ga (.builtin id))(d:PA X (e::es) t)(k:x≠"__name__":=by decide)(a:(x==("__debug__":GJ))=Gp:=by decide)
  (g:GY (e::es) X.env=(Gp,eval e X.env)::GY es X.env:=by rfl)(b:(Ds pos (GY es X.env)).any (·.1)=Gp:=by rfl):PE X (.Call (.Name x p) (e::es) [] pos) (tCB r t):=by
 intro pins s σ H Q I h;refine TX (V5 I i j l ?_ k a);exact SY (Yz (d pos pins s σ H _ I h) λus s1⟨vs,H1,c,n,m⟩=>f pins s1 σ H1 vs us Q c n m) g b
theorem Xh(f:V1 X (.type T) r)(i:Gl X x)(j:X.mg x=Gf)(l:bootBuiltins x=Ga (.type T))(d:PA X (e::es) t)(k:x≠"__name__":=by decide)(a:(x==("__debug__":GJ))=Gp:=by decide)
  (g:GY (e::es) X.env=(Gp,eval e X.env)::GY es X.env:=by rfl)(b:(Ds pos (GY es X.env)).any (·.1)=Gp:=by rfl):PE X (.Call (.Name x p) (e::es) [] pos) (tCB r t):=by
 intro pins s σ H Q I h;refine TX (V5 I i j l ?_ k a);exact T9 (Yz (d pos pins s σ H _ I h) λus s1⟨vs,H1,c,n,m⟩=>f pins s1 σ H1 vs us Q c n m) g b
end
end L2
namespace HT
open PySem PyProof.Rows
section
variable{prog:Gj}{w:Gu}{A:Tz}{E:Value->Gi->Prop}{s:Gi}
def Wh(n d:Nat):Option Int->Nat
 |none=>d
 |some v=>if v<0 then(v+(n:Int)).toNat else min v.toNat n
theorem R8(n d:Nat):Wh n d Gf=d:=rfl
theorem Ir(n d k:Nat):Wh n d (Ga (k:Int))=min k n:=by show(if(k:Int)<0 then((k:Int)+(n:Int)).toNat else min (k:Int).toNat n)=min k n;rw[Gg (by omega),T5]
theorem Qwh(n d:Nat)(hd:d<=n)(o:Option Int):Wh n d o<=n:=by
 cases o with
 |none=>exact hd
 |some v=>
  show(if v<0 then(v+(n:Int)).toNat else min v.toNat n)<=n;by_cases a:v<0
  ·rw[Gk a];omega
  ·rw[Gg a];exact S0 _ _
theorem Qlc(v:Int)(n d:Nat):(if v<0 then max (v+(n:Int)) 0 else min v (n:Int))=((Wh n d (Ga v):Nat):Int):=by
 show(if v<0 then max (v+(n:Int)) 0 else min v (n:Int))=(((if v<0 then(v+(n:Int)).toNat else min v.toNat n):Nat):Int);by_cases a:v<0
 ·simp only[Gk a];omega
 ·simp only[Gg a];omega
theorem Qjg(lo hi:Option Int)(n:Nat):Builtin.Slice.sliceAdjust lo hi 1 (n:Int)=(((Wh n 0 lo:Nat):Int),((Wh n n hi:Nat):Int)):=by
 have h1:¬((1:Int)<0):=by omega
 unfold Builtin.Slice.sliceAdjust;simp only[h1,T8];refine SJ ?_ ?_
 ·cases lo with
  |none=>rfl
  |some v=>exact Qlc v n 0
 ·cases hi with
  |none=>rfl
  |some v=>exact Qlc v n n
theorem Qkg(i j:Nat):Builtin.Slice.slicePlaces (i:Int) (j:Int) 1=j - i:=by
 unfold Builtin.Slice.slicePlaces;have h1:(1:Int)>0:=by omega
 simp only[h1,E1,LN];split<;>omega
theorem Qdz{v:Value}{o:Option Int}{Q:Option Int->Gi->Prop}(p:Su v o)(h:Q o s):wpAny (GO prog w) A (Builtin.Slice.slicePartIndex v) Q E s:=by
 cases p with
 |none=>exact Lp h
 |int i t=>exact slicePart_int h
theorem Qas{sl:Gc}{c d:Value}{lo hi:Option Int}{n:Nat}{Q:Int×Int×Nat->Gi->Prop}(f:s.heap.IsSliceOf sl c d .none)(pl:Su c lo)(g:Su d hi)
  (h:Q (((Wh n 0 lo:Nat):Int),1,Wh n n hi - Wh n 0 lo) s):wpAny (GO prog w) A (Builtin.Slice.sliceApplied (.ref sl) (pure (n:Int))) Q E s:=by
 obtain⟨os,b,e,a⟩:=id f;unfold Builtin.Slice.sliceApplied Builtin.Slice.sliceFields;refine Gb (Gb (Tt b a (x:=c) rfl (Gb (Tt b a (x:=d) rfl (Gb (Tt b a (x:=.none) rfl (Gd ?_)))))));refine Gb (Lp ?_);show wpAny _ _ (if((1:Int)==0)=Ge then _ else _) _ _ s;rw[Gg (by decide)];refine Gb (Qdz pl (Gb (Qdz g (Gb (Gd ?_)))));show wpAny _ _ (match Builtin.Slice.sliceAdjust lo hi 1 (n:Int)with|(lo,hi)=>pure (lo,(1:Int),Builtin.Slice.slicePlaces lo hi 1)) _ _ s;rw[Qjg lo hi n];show wpAny _ _ (pure (((Wh n 0 lo:Nat):Int),(1:Int),Builtin.Slice.slicePlaces ((Wh n 0 lo:Nat):Int) ((Wh n n hi:Nat):Int) 1)) _ _ s;rw[Qkg];exact Gd h
theorem Qqd(xs:Array Value)(i k:Nat):((List.range k).filterMap λ(m:Nat)=>xs[((i:Int)+(m:Int)*1).toNat]?).toArray=((xs.toList.drop i).take k).toArray:=by
 have e:(λ(m:Nat)=>xs[((i:Int)+(m:Int)*1).toNat]?)=λm=>xs[i+m]?:=by
  funext m
  have:((i:Int)+(m:Int)*1).toNat=i+m:=by omega
  rw[this]
 rw[e];have:=pick_run xs i k;rw[List.filterMap_map]at this;have a:((λx=>xs[x]?)∘λx=>i+x)=λm=>xs[i+m]?:=rfl;rw[a]at this;rw[this]
theorem Oo{t sl:Gc}{a:Array Value}{j k:Value}{lo hi:Option Int}{Q:Value->Gi->Prop}(c:IsTup s.heap t a)(i:s.heap.IsSliceOf sl j k .none)(pl:Su j lo)(n:Su k hi)
  (hw:¬(Wh a.size 0 lo=0/\Wh a.size a.size hi=a.size))
  (h:Q (.ref s.heap.objs.size) {s with heap:=s.heap.push {cls:=.type "tuple",data:=.seq ((a.toList.drop (Wh a.size 0 lo)).take (Wh a.size a.size hi - Wh a.size 0 lo)).toArray}})
  (hsz:a.size<=Gh):wpAny (GO prog w) A (getItem (.ref t) (.ref sl)) Q E s:=by
 have b:sizeOk (.seq ((a.toList.drop (Wh a.size 0 lo)).take (Wh a.size a.size hi - Wh a.size 0 lo)).toArray):=by show((a.toList.drop (Wh a.size 0 lo)).take (Wh a.size a.size hi - Wh a.size 0 lo)).toArray.size<=Gh;rw[List.size_toArray,List.length_take,List.length_drop,Ts];omega
 have o:Wh a.size a.size hi<=a.size:=Qwh _ _ (Gn _) hi;obtain⟨os,g,e,l⟩:=id i;have d:s.TypeIs (.ref sl) "slice":=⟨os,g,e⟩;unfold getItem;try with_reducible refine TL ?_
 first|refine Gb (Gd ?_)|skip
 refine Gb (wpAny_sequenceKey c.typeIs (by decide) ?_);refine Gb (Tw (name:=Dc "__getitem__") c.typeIs DG
  (To DG c.typeIs entry_tuple_getitem ?_ (args_tuple_getitem _ _)))
 show wpAny _ _ (Builtin.Tuple.tupleItemsOf (.ref t)>>=_) _ _ s;refine Gb (tupleItemsOf_ c ?_);refine Gb (LO d ?_);rw[Gk (by decide)];refine Gb (Qas i pl n ?_);have f:¬((((Wh a.size 0 lo:Nat):Int)==0&&(1:Int)==1&&(Wh a.size a.size hi - Wh a.size 0 lo)==a.size)=Ge):=by intro q;rw[Td,Td]at q;have p:((Wh a.size 0 lo:Nat):Int)=0:=eq_of_beq q.1.1;have r:Wh a.size a.size hi - Wh a.size 0 lo=a.size:=eq_of_beq q.2;exact hw ⟨by omega,by omega⟩
 show wpAny _ _ (if(((Wh a.size 0 lo:Nat):Int)==0&&(1:Int)==1&&(Wh a.size a.size hi - Wh a.size 0 lo)==a.size)=Ge then _ else _) _ _ s;rw[Gg f,Qqd];first
  |exact Gb (m:=Builtin.Tuple.tupleExact _) (Tp (Gd ⟨_,Xb,Gd h⟩) b)
  |exact Gb (m:=Builtin.Tuple.tupleExact _) (Tp (Gb (Gd (Gd ⟨_,Xb,Gd h⟩))) b)
  |exact Gb (Gb (m:=Builtin.Tuple.tupleExact _) (Tp (Gd (Gd ⟨_,Xb,Gd h⟩)) b))
  |exact Gb (Gb (m:=Builtin.Tuple.tupleExact _) (Tp (Gd ⟨_,Xb,Gd h⟩) b))
end
end HT
namespace L2
open PySem PySem.Spec PyProof.Rows
variable{n t':Nat}{α:Type}{H H':Hp}{s:Gi}{u:Value}{y:V}{P:Gj}{w:Gu}{kvs:List (List Xz×V)}{xs:List (List Xz×Gc×Value)}{b a:Gc}{Q:Value->Gi->Prop}
abbrev TO:=St->Hp->(Option Int->Hp->Prop)->Prop
def PO(X:Cx)(e:Option TJ)(t:TO):Prop:=
 ∀(pins:List (Gc×DJ))(s:Gi)(σ:St)(H:Hp)(Q:Option Int->Hp->Prop),Inv X pins σ H s->t σ H Q->
  wpAny (GO X.prog X.w) X.A (evalPart e X.env) (λu s'=>∃o H',Inv X pins σ H' s'/\Su u o/\Q o H') X.xe s
def Qt7:TO:=λ_ H Q=>Q Gf H
def Qyx(t:TE):TO:=λσ H Q=>t σ H λx H1=>∃i,x=.int i/\Q (Ga i) H1
section
variable{X:Cx}{e:TJ}{te:TE}{lo hi:Option TJ}{tl th:TO}{pos p2:E6}
theorem Xl:PO X Gf Qt7:=by intro pins s σ H Q I h;rw[LA];exact Gd ⟨Gf,H,I,.none,h⟩
theorem Yn(h:PE X e te):PO X (Ga e) (Qyx te):=by intro pins s σ H Q I hw;rw[evalPart_some];refine Yz (h pins s σ H _ I hw) λu s1⟨x,H1,a,c,b⟩=>?_;obtain⟨i,rfl,q⟩:=b;obtain⟨t,rfl⟩:=c;exact⟨Ga i,H1,a,.int i t,q⟩
def SlR(X:Cx)(r:V->Option Int->Option Int->Hp->VK->Prop):Prop:=
 ∀(pins:List (Gc×DJ))(s:Gi)(σ:St)(H:Hp)(x:V)(v a b:Value)(lo hi:Option Int)(sl:Gc)(Q:VK),Inv X pins σ H s->RelV x v->s.heap.IsSliceOf sl a b .none->Su a lo->Su b hi->r x lo hi H Q->
  ∃T id,typeLookup (.type T) "__getitem__"=pure (Ga (.builtin id))/\s.TypeIs v T/\wpAny (GO X.prog X.w) X.A (getItem v (.ref sl)) (EP X pins σ Q) X.xe s
def tSl(r:V->Option Int->Option Int->Hp->VK->Prop)(te:TE)(tl th:TO):TE:=λσ H Q=>te σ H λx H1=>tl σ H1 λl H2=>th σ H2 λu a=>r x l u a Q
theorem Yl{r:V->Option Int->Option Int->Hp->VK->Prop}(t:SlR X r)(n:PE X e te)(p:PO X lo tl)(z:PO X hi th):PE X (.Subscript e (.Slice lo hi Gf p2) pos) (tSl r te tl th):=by intro pins s σ H Q I h;refine Lq (Yz (n pins s σ H _ I h) λv s1⟨x,H1,g,F,C⟩=>?_);refine wpAny_Slice (Yz (p pins s1 σ H1 _ g C) λc s2⟨l,H2,i,pl,D⟩=>Yz (z pins s2 σ H2 _ i D) λd a⟨u,f,j,B,E⟩=>?_);rw[LA];refine Gd ?_;have k:Inv X pins σ f {a with heap:=a.heap.push {cls:=.type "slice",data:=.fields #[c,d,.none]}}:=j.kept (t':=a.toks) λb ob q=>Heap.get?_push_of_some _ q;obtain⟨T,id,m,y,o⟩:=t pins {a with heap:=a.heap.push {cls:=.type "slice",data:=.fields #[c,d,.none]}} σ f x v c d l u a.heap.objs.size Q k F (Heap.IsSliceOf.new ..) pl B E;show wpAny (GO X.prog X.w) X.A (subscriptTail e (.Slice lo hi Gf p2) v (.ref a.heap.objs.size)) (EP X pins σ Q) X.xe {a with heap:=a.heap.push {cls:=.type "slice",data:=.fields #[c,d,.none]}};exact tail_any (ops:=[.ref a.heap.objs.size,v]) y m o (by with_unfolding_all rfl)
def Uq(xs:List V)(lo hi:Option Int):List V:=(xs.drop (HT.Wh xs.length 0 lo)).take (HT.Wh xs.length xs.length hi - HT.Wh xs.length 0 lo)
theorem Qbe(xs:List V)(lo hi:Option Int):(Uq xs lo hi).length<=xs.length:=by unfold Uq;rw[List.length_take,List.length_drop];omega
def Qzu(K:PySem.W.Frag):V->Option Int->Option Int->Hp->VK->Prop:=λx lo hi H Q=>∃a xs,x=.ref a/\Q9 K H a xs/\
 ¬(HT.Wh xs.length 0 lo=0/\HT.Wh xs.length xs.length hi=xs.length)/\∀p,H p=Gf->Q (.ref p) (upd H p (.tup (Uq xs lo hi)))
theorem V3:SlR X (Qzu X.K):=by
 intro pins s σ H x v j k lo hi sl Q I i e pl g h;obtain⟨a,xs,rfl,f,hw,q⟩:=h;cases i;obtain⟨its,r,d,hz⟩:=I.tuple f;have c:its.toArray.size=xs.length:=by rw[List.size_toArray];exact r.length.symm
 refine⟨"tuple",_,DG.lookup,d.typeIs,?_⟩;refine HT.Oo d e pl g (by rw[c];exact hw) ?_ (by rw[c];exact hz);rw[c];refine⟨.ref s.heap.objs.size,_,I.laid (t':=s.toks) (o:=.tup (Uq xs lo hi)) (λb ob q=>Heap.get?_push_of_some _ q) (Gn _) ?_,Xb,q _ (I.Z4.fresh (Gn _))⟩;exact⟨TD (Qbe xs lo hi) hz,_,(r.drop (HT.Wh xs.length 0 lo)).take (HT.Wh xs.length xs.length hi - HT.Wh xs.length 0 lo),Ft _ _⟩
end
def ixN(n:Nat)(i:Int):Option Nat:=if 0<=i then(if i<n then Ga i.toNat else Gf)else if -(n:Int)<=i then Ga (i+n).toNat else Gf
def atI{α:Type}(xs:List α)(i:Int):Option α:=(ixN xs.length i).bind λj=>xs[j]?
theorem Qup{i:Int}{j:Nat}(h:ixN n i=Ga j):seqIndex? i n=Ga j/\j<n/\ -(n:Int)<=i/\i<n:=by
 unfold ixN at h;by_cases a:0<=i
 ·rw[Gk a]at h;by_cases h1:i<n
  ·rw[Gk h1]at h;have e:i.toNat=j:=Tc h;exact⟨by rw[L6 a h1,e],by omega,by omega,h1⟩
  ·rw[Gg h1]at h;cases h
 ·rw[Gg a]at h;by_cases h1: -(n:Int)<=i
  ·rw[Gk h1]at h;have e:(i+n).toNat=j:=Tc h;exact⟨by rw[LP (by omega) h1,e],by omega,h1,by omega⟩
  ·rw[Gg h1]at h;cases h
theorem Qgh{xs:List α}{i:Int}{v:α}(h:atI xs i=Ga v):∃j,seqIndex? i xs.length=Ga j/\xs[j]?=Ga v/\j<xs.length/\ -(xs.length:Int)<=i/\i<xs.length:=by
 unfold atI at h;cases e:ixN xs.length i with
 |none=>rw[e]at h;cases h
 |some j=>rw[e]at h;obtain⟨h1,h2,a,b⟩:=Qup e;exact⟨j,h1,h,h2,a,b⟩
theorem Qj{xs:List α}{j:Nat}{v:α}(h:xs[j]?=Ga v):atI xs (j:Int)=Ga v:=by
 have a:j<xs.length:=(List.getElem?_eq_some_iff.mp h).1;have e:ixN xs.length (j:Int)=Ga j:=by unfold ixN;rw[Gk (by omega),Gk (by omega)];simp
 unfold atI;rw[e];exact h
theorem Qpx(xs:List α)(v:α):atI (xs++[v]) (-1)=Ga v:=by
 have a:(xs++[v]).length=xs.length+1:=by simp
 have e:ixN (xs++[v]).length (-1)=Ga xs.length:=by unfold ixN;rw[a,Gg (by decide),Gk (by omega)];congr 1;omega
 unfold atI;rw[e];show(xs++[v])[xs.length]?=Ga v;simp
def Qu6(b:TJ):Prop:=∀o i,subscripted b Gp o i=operate [o,i] (getItem o i)
def IxR(X:Cx)(r:R2):Prop:=
 ∀(value a:TJ)(pins:List (Gc×DJ))(s:Gi)(σ:St)(H:Hp)(x y:V)(v u:Value)(Q:VK),Inv X pins σ H s->RelV x v->RelV y u->r x y H Q->
  subscripted a Gp v u=operate [v,u] (getItem v u)->wpAny (GO X.prog X.w) X.A (subscriptTail value a v u) (EP X pins σ Q) X.xe s
def MtR(X:Cx)(id:String)(r:V->List V->Hp->VK->Prop):Prop:=
 ∀(pins:List (Gc×DJ))(s:Gi)(σ:St)(H:Hp)(x:V)(xs:List V)(v:Value)(us:List Value)(Q:VK),Inv X pins σ H s->RelV x v->Z0 xs us->r x xs H Q->
  wpAny (GO X.prog X.w) X.A (call (.builtin id) (v::us)) (EP X pins σ Q) X.xe s
section
variable{X:Cx}{a b:TJ}{ta tb:TE}{pos:E6}
theorem Ql{r:R2}(e:IxR X r)(d:PE X a ta)(hb:PE X b tb)(f:Qu6 b:=by exactλ_ _=>rfl):PE X (.Subscript a b pos) (tOp r ta tb):=by intro pins s σ H Q I h;exact Lq (Qwc d hb I h λv u s2 x y H2 c g i q=>e a b pins s2 σ H2 x y v u Q c g i q (f _ _))
def Qx3(K:PySem.W.Frag):R2:=λx y H Q=>∃p xs i v,x=.ref p/\y=.int i/\Zc K H p xs/\atI xs i=Ga v/\Q v H
def Qkl(K:PySem.W.Frag):R2:=λx y H Q=>∃p xs i v,x=.ref p/\y=.int i/\Q9 K H p xs/\atI xs i=Ga v/\Q v H
def Q0s:R2:=λx y H Q=>∃z i c,x=.str z/\y=.int i/\z.length<=Gh/\atI z.cps.toList i=Ga c/\Q (.str ⟨#[c]⟩) H
theorem Ze:IxR X (Qx3 X.K):=by
 intro value c pins s σ H x y v u Q I o A h f;obtain⟨p,xs,i,z,rfl,rfl,n,l,q⟩:=h;cases o;obtain⟨t,rfl⟩:=A;obtain⟨its,r,pl,hz⟩:=I.list n;obtain⟨j,h1,h2,B,g,k⟩:=Qgh l;obtain⟨w,d,b⟩:=r.get h2;have m:=r.length;have C:=Ri;have fin:EP X pins σ Q w s:=⟨z,H,I,b,q⟩;by_cases e:0<=i
 ·have a:i.toNat=j:=by rw[L6 e k]at h1;exact Tc h1
  exact item_listR pl.isList e (by omega) (by rw[a];simpa using d) fin f
 ·have a:(i+(its.toArray.size:Int)).toNat=j:=by rw[LP (by omega) g]at h1;rw[List.size_toArray,<-m];exact Tc h1
  exact D4 (x:=w) pl.isList.typeIs slot_list_getitem.lookup
   (wpAny_getItem_list_neg (Q:=λr s'=>r=w/\EP X pins σ Q r s') pl.isList (by omega) (by rw[List.size_toArray]<;>omega) (by omega) (by rw[a];simpa using d) ⟨Xb,fin⟩) f
theorem Qm:IxR X (Qkl X.K):=by
 intro value b pins s σ H x y v u Q I k l h g;obtain⟨p,xs,i,z,rfl,rfl,f,d,q⟩:=h;cases k;obtain⟨t,rfl⟩:=l;obtain⟨its,r,pl,hz⟩:=I.tuple f;obtain⟨j,h1,h2,m,n,o⟩:=Qgh d;obtain⟨w,c,a⟩:=r.get h2;have e:=r.length;have A:=Ri;have fin:EP X pins σ Q w s:=⟨z,H,I,a,q⟩;exact D4 (x:=w) pl.typeIs slot_tuple_getitem.lookup
  (getItem_tuple (j:=j) (Q:=λr s'=>r=w/\EP X pins σ Q r s') pl (by omega) (by omega) (by rw[List.size_toArray,<-e];exact h1) (by simpa using c) ⟨Xb,fin⟩) g
theorem Qxf:IxR X Q0s:=by
 intro value a pins s σ H x y v u Q I m n h l;obtain⟨z,i,c,rfl,rfl,hz,g,q⟩:=h;obtain⟨t,rfl⟩:=m;obtain⟨t',rfl⟩:=n;obtain⟨j,h1,h2,o,e,f⟩:=Qgh g;have k:z.cps.toList.length=z.length:=by simp[Str.length]
 rw[k]at h1 e f;have p:=Ri;exact tail_any (Fi s z t) slot_str_getitem.lookup (getItem_str (c:=c) (by have b:decide (i< -(2^63:Int))=Gp:=Gq (by omega);have d:decide (i>=2^63)=Gp:=Gq (by omega);rw[b,d,LB]) (by rw[h1];simpa using h2) ⟨.str ⟨#[c]⟩,H,I.tok _,⟨_,Xb⟩,q⟩) l
theorem Qgd(lo hi:Option Int)(n:Nat):(sliceBounds lo hi Gf n).1=((HT.Wh n 0 lo:Nat):Int)/\(sliceBounds lo hi Gf n).2.1=((HT.Wh n n hi:Nat):Int)/\(sliceBounds lo hi Gf n).2.2=1:=by
 refine⟨?_,?_,Xb⟩
 ·cases lo with
  |none=>simp[sliceBounds,HT.Wh]
  |some i=>
   simp only[sliceBounds,HT.Wh,S9,show(1:Int)>0 by decide,E1];by_cases h:i<0
   ·simp only[h,E1]<;>omega
   ·simp only[h,T8]<;>omega
 ·cases hi with
  |none=>simp[sliceBounds,HT.Wh]
  |some i=>
   simp only[sliceBounds,HT.Wh,S9,show(1:Int)>0 by decide,E1];by_cases h:i<0
   ·simp only[h,E1]<;>omega
   ·simp only[h,T8]<;>omega
theorem Qd3(its:List Value)(lo hi:Option Int):slicePick its.toArray lo hi Gf=((its.drop (HT.Wh its.length 0 lo)).take (HT.Wh its.length its.length hi - HT.Wh its.length 0 lo)).toArray:=by obtain⟨h1,h2,a⟩:=Qgd lo hi its.toArray.size;unfold slicePick;rw[h1,h2,a];simp only[sliceRange_one,pick_run,List.size_toArray]<;>rfl
def Q1z(K:PySem.W.Frag):V->Option Int->Option Int->Hp->VK->Prop:=λx lo hi H Q=>∃a xs,x=.ref a/\Zc K H a xs/\∀p,H p=Gf->Q (.ref p) (upd H p (.lst (Uq xs lo hi)))
theorem Ub:SlR X (Q1z X.K):=by intro pins s σ H x v j k lo hi sl Q I i e pl g h;obtain⟨a,xs,rfl,f,q⟩:=h;cases i;obtain⟨its,r,d,hz⟩:=I.list f;have c:=r.length;refine⟨"list",_,slot_list_getitem.lookup,d.isList.typeIs,?_⟩;refine wpAny_getItem_list_slice d.isList e pl g .none (by simp) ?_ (by rw[List.size_toArray]<;>omega);rw[Qd3,<-c];refine⟨.ref s.heap.objs.size,_,I.laid (t':=s.toks) (o:=.lst (Uq xs lo hi)) (λb ob q=>Heap.get?_push_of_some _ q) (Gn _) ?_,Xb,q _ (I.Z4.fresh (Gn _))⟩;exact⟨TD (Qbe xs lo hi) hz,_,0,(r.drop (HT.Wh xs.length 0 lo)).take (HT.Wh xs.length xs.length hi - HT.Wh xs.length 0 lo),Heap.get?_push_size _ Xb⟩
theorem Z2:V1 X (.builtin "len") (λxs H Q=>∃p ys,xs=[.ref p]/\(Zc X.K H p ys\/Q9 X.K H p ys)/\Q (.int ys.length) H):=by
 intro pins s σ H xs us Q I r h;obtain⟨p,ys,rfl,b,q⟩:=h;obtain⟨u,rfl,d⟩:=vals1 r;cases d;have e:=Ri;rcases b with b|b
 ·obtain⟨its,c,pl,hz⟩:=I.list b;have a:=c.length;exact Sk pl.isList (by simp only[List.size_toArray]<;>omega) ⟨.int ys.length,H,I.tok _,⟨s.toks+1,by rw[List.size_toArray,a]⟩,q⟩
 ·obtain⟨its,c,pl,hz⟩:=I.tuple b;have a:=c.length;exact len_tuple pl (by simp only[List.size_toArray]<;>omega) ⟨.int ys.length,H,I.tok _,⟨s.toks+1,by rw[List.size_toArray,a]⟩,q⟩
theorem Wv:V1 X (.type "list") (λxs H Q=>∃p ys,xs=[.ref p]/\(Zc X.K H p ys\/Q9 X.K H p ys)/\∀l,H l=Gf->Q (.ref l) (upd H l (.lst ys))):=by
 intro pins s σ H xs us Q I r h;obtain⟨p,ys,rfl,f,q⟩:=h;obtain⟨u,rfl,j⟩:=vals1 r;cases j;have fin:∀(its:List Value),Z0 ys its->ys.length<=Gh->∀(h':Heap)(a:Nat),(∀b o',s.heap.get? b=Ga o'->h'.get? b=Ga o')->
   h'.get? s.heap.objs.size=Ga {cls:=.type "list",dict:=Gf,data:=.seq its.toArray a,slots:=#[]}->EP X pins σ Q (.ref s.heap.objs.size) {s with heap:=h'}:=λits c hz h' a kp e=>
  ⟨.ref s.heap.objs.size,_,I.laid (t':=s.toks) kp (Gn _) (show Yk X.prog X.w _ h' _ (.lst ys)from⟨hz,its,a,c,e⟩),Xb,q _ (I.Z4.fresh (Gn _))⟩
 rcases f with f|f
 ·obtain⟨its,c,pl,hz⟩:=I.list f;have d:=c.length;obtain⟨o,i,g,n,hd⟩:=pl.isList;exact LC p (.inl Xb) i g hd (λh' a kp e=>fin its c hz h' a kp e) (by simp only[List.size_toArray]<;>omega)
 ·obtain⟨its,c,pl,hz⟩:=I.tuple f;have d:=c.length;obtain⟨o,i,g,n,hd⟩:=pl;exact LC p (.inr Xb) i g hd (λh' a kp e=>fin its c hz h' a kp e) (by simp only[List.size_toArray]<;>omega)
theorem Vd:V1 X (.type "tuple") (λxs H Q=>∃p ys,xs=[.ref p]/\((Zc X.K H p ys/\∀l,H l=Gf->Q (.ref l) (upd H l (.tup ys)))\/(Q9 X.K H p ys/\Q (.ref p) H))):=by
 intro pins s σ H xs us Q I r h;obtain⟨p,ys,rfl,h⟩:=h;obtain⟨u,rfl,i⟩:=vals1 r;cases i;rcases h with⟨a,q⟩|⟨a,q⟩
 ·obtain⟨its,c,pl,hz⟩:=I.list a;have f:=c.length;refine call_tuple_list pl.isList (λh' kp=>?_) (by simp only[List.size_toArray]<;>omega);have d:Inv X pins σ H {s with heap:=h'}:=I.kept (t':=s.toks) kp;have g:Inv X pins σ (upd H h'.objs.size (.tup ys)) {s with heap:=h'.push {cls:=.type "tuple",data:=.seq its.toArray}}:=
   d.laid (t':=s.toks) (λb o e=>Heap.get?_push_of_some _ e) (Gn _) (show Yk X.prog X.w _ _ _ (.tup ys)from⟨hz,its,c,Ft _ _⟩)
  exact⟨.ref h'.objs.size,_,g,Xb,q _ (d.Z4.fresh (Gn _))⟩
 ·obtain⟨its,c,pl,hz⟩:=I.tuple a;exact call_tuple_same pl ⟨.ref p,H,I,Xb,q⟩
def tyV(K:PySem.W.Frag)(T:String)(x:V)(H:Hp):Prop:=match x with
 |.str _=>T="str"
 |.int _=>T="int"
 |.ref p=>(T="list"/\∃xs,Zc K H p xs)\/(T="tuple"/\∃o,K.lookup p=Ga o/\o.cls=.type "tuple"/\o.dict=Gf)\/
   (T="dict"/\((∃kvs,H p=Ga (.dK kvs))\/∃kvs,H p=Ga (.dT kvs)))\/(T="set"/\∃S n,H p=Ga (.set S n))
 |_=>False
theorem Qqh{pins:List (Gc×DJ)}{σ:St}{T:String}{x:V}{v:Value}(I:Inv X pins σ H s)(r:RelV x v)(ty:tyV X.K T x H):
  s.TypeIs v T/\∀a,v=.ref a->∃ob,s.heap.get? a=Ga ob/\ob.dict=Gf:=by
 cases x with
 |str z=>obtain⟨t,rfl⟩:=r;cases(show T="str"from ty);exact⟨Fi s z t,λ_ e=>nomatch e⟩
 |int i=>obtain⟨t,rfl⟩:=r;cases(show T="int"from ty);exact⟨typeIs_int s i t,λ_ e=>nomatch e⟩
 |ref p=>
  cases r;rcases ty with⟨rfl,xs,g⟩|⟨rfl,o,b,f,hd⟩|⟨rfl,b⟩|⟨rfl,S,n,b⟩
  ·obtain⟨its,_,pl,_⟩:=I.list g;refine⟨pl.isList.typeIs,λa e=>?_⟩;cases e;obtain⟨o,n,e,c,hd,_⟩:=pl;exact⟨o,e,hd⟩
  ·refine⟨⟨o,I.kIn p o b,f⟩,λa e=>?_⟩;cases e;exact⟨o,I.kIn _ o b,hd⟩
  ·have z:∃o,s.heap.get? p=Ga o/\o.ExactDict:=by
    rcases b with⟨kvs,b⟩|⟨kvs,b⟩
    ·obtain⟨_,_,_,_,o,_,_,e,ex,_⟩:=I.Z4 p _ b;exact⟨o,e,ex⟩
    ·obtain⟨_,_,_,_,o,_,_,e,ex,_⟩:=I.Z4 p _ b;exact⟨o,e,ex⟩
   obtain⟨o,e,ex⟩:=z;refine⟨⟨o,e,ex.1⟩,λa d=>?_⟩;cases d;exact⟨o,e,ex.2.1⟩
  ·obtain⟨o,_,_,_,e,ex,_⟩:=I.Z4 p _ b;refine⟨⟨o,e,ex.1⟩,λa d=>?_⟩;cases d;exact⟨o,e,ex.2.1⟩
 |_=>exact False.elim ty
def Q1y(K:PySem.W.Frag)(T:String)(r:V->List V->Hp->VK->Prop)(to:TE):TE:=λσ H Q=>to σ H λx H1=>tyV K T x H1/\r x [] H1 Q
def tBM(K:PySem.W.Frag)(T:String)(r:V->List V->Hp->VK->Prop)(to:TE)(t:TA):TE:=λσ H Q=>to σ H λx H1=>tyV K T x H1/\t σ H1 λxs H2=>r x xs H2 Q
variable{o e:TJ}{es:List TJ}{to:TE}{t:TA}{name:GJ}{apos cpos:E6}{T id:String}{r:V->List V->Hp->VK->Prop}
theorem Qab(i:Fj T)(slot:Slot T name id)(c:typeOf (.builtin id)=pure (.type "method_descriptor"))(f:MtR X id r)(g:PE X o to)
  (a:attributeBase o name X.env (eval o X.env)=eval o X.env:=by rfl)(b:(apos.endLine==cpos.line)=Ge:=by rfl):PE X (.Call (.Attribute o name apos) [] [] cpos) (Q1y X.K T r to):=by
 intro pins s σ H Q I h;refine ER a b (Yz (g pins s σ H _ I h) λv s1⟨x,H1,d,e,ty,j⟩=>?_);obtain⟨h1,h2⟩:=Qqh d e ty;exact⟨T,id,i,slot,c,h1,h2,DL rfl (PySem.evalArgs_none (f pins s1 σ H1 x [] v [] Q d e .nil j))⟩
theorem X0(q:Fj T)(slot:Slot T name id)(f:typeOf (.builtin id)=pure (.type "method_descriptor"))(m:MtR X id r)(n:PE X o to)(l:PA X (e::es) t)
  (b:attributeBase o name X.env (eval o X.env)=eval o X.env:=by rfl)
  (d:((Ds cpos (GY (e::es) X.env)).all (λx=>!x.1)&&(backToKw cpos (keywordEach [] X.env)).all (λx=>x.1.isSome)
   &&decide ((e::es).length+([]:List SK).length+(if([]:List SK).isEmpty then 0 else 1)<30))=Ge:=by rfl)
  (c:(apos.endLine==cpos.line)=Ge:=by rfl)(p:GY (e::es) X.env=(Gp,eval e X.env)::GY es X.env:=by rfl)(a:(Ds cpos (GY es X.env)).any (·.1)=Gp:=by rfl):
  PE X (.Call (.Attribute o name apos) (e::es) [] cpos) (tBM X.K T r to t):=by
 intro pins s σ H Q I h;refine E2 b d c rfl (Yz (n pins s σ H _ I h) λv s1⟨x,H1,g,j,ty,u⟩=>?_);obtain⟨h1,h2⟩:=Qqh g j ty;refine⟨T,id,q,slot,f,h1,h2,?_⟩;have i:=l cpos pins s1 σ H1 _ g u;rw[p]at i⊢;refine DL (by show(Gp||(Ds cpos (GY es X.env)).any (·.1))=Gp;rw[a]<;>rfl) (Se ?_);exact Yz i λus s2⟨vs,H2,k,y,w⟩=>m pins s2 σ H2 x vs v us Q k j y w
end
def MtM(X:Cx)(id:String)(r:V->List V->Hp->VK->Prop):Prop:=
 ∀(pins:List (Gc×DJ))(s:Gi)(σ:St)(H:Hp)(x:V)(xs:List V)(v:Value)(us:List Value)(Q:VK),Inv X pins σ H s->RelV x v->Z0 xs us->r x xs H Q->
  wpAny (GO X.prog X.w) X.A (call (.builtin id) (v::us)) (EP X pins σ Q) X.xe s
theorem Z0.one:∀{x:V}{us:List Value},Z0 [x] us->∃u,us=[u]/\RelV x u
 |_,_,.cons r .nil=>⟨_,Xb,r⟩
theorem Z0.zero:∀{us:List Value},Z0 [] us->us=[]
 |_,.nil=>rfl
theorem Z0.dropLast{xs:List V}{us:List Value}(h:Z0 xs us):Z0 xs.dropLast us.dropLast:=by
 induction h with
 |nil=>exact .nil
 |cons r t a=>
  cases t with
  |nil=>exact .nil
  |cons q t'=>exact .cons r a
theorem Qi6(l:List α):l.eraseIdx (l.length - 1)=l.dropLast:=by
 induction l with
 |nil=>rfl
 |cons a r c=>
  cases r with
  |nil=>rfl
  |cons b r=>
   have e:(a::b::r).length - 1=((b::r).length - 1)+1:=by have h1:(a::b::r).length=r.length+2:=rfl;have h2:(b::r).length=r.length+1:=rfl;omega
   rw[e,List.eraseIdx_cons_succ,c];all_goals rfl
section
variable{X:Cx}{pins:List (Gc×DJ)}{σ:St}{H:Hp}{s:Gi}{l b:Gc}{xs ys zs:List V}
theorem Inv.Qtf{its its':List Value}{f:Array Value->Array Value}(I:Inv X pins σ H s)(a:H l=Ga (.lst xs))
  (e:s.heap.get? l=Ga {cls:=.type "list",data:=.seq its.toArray n})(b:f its.toArray=its'.toArray)(d:Z0 ys its')(hz:ys.length<=Gh):
  Inv X pins σ (upd H l (.lst ys)) {s with heap:=s.heap.update l (DR f),toks:=t'}:=by
 have q:=PySem.IsL.update e f;rw[b]at q;refine I.write (x:=l) (e:=l) (by rw[a];exact trivial) (.inl Xb) (λg u hb c=>(Heap.get?_update_other s.heap (DR f) (Gm hb)).trans c) ⟨_,q⟩ ?_;exact⟨hz,its',_,d,q⟩
theorem Inv.Qyj{its:List Value}(I:Inv X pins σ H s)(a:Z0 ys its)(hz:ys.length<=Gh):
  Inv X pins σ (upd H s.heap.objs.size (.lst ys)) {s with heap:=s.heap.push {cls:=.type "list",data:=.seq its.toArray},toks:=t'}:=
 I.laid (λ_ _ q=>Heap.get?_push_of_some _ q) (Gn _) ⟨hz,its,0,a,Heap.get?_push_size _ Xb⟩
theorem Inv.fresh(I:Inv X pins σ H s):H s.heap.objs.size=Gf:=I.Z4.fresh (Gn _)
theorem Inv.Qjn(I:Inv X pins σ H s)(a:H l=Ga (.lst xs)):xs.length<=Gh/\∃(its:List Value)(n:Nat),Z0 xs its/\xs.length=its.length/\s.heap.get? l=Ga {cls:=.type "list",data:=.seq its.toArray n}:=by obtain⟨z,its,n,r,e⟩:=I.Z4 l _ a;exact⟨z,its,n,r,r.length,e⟩
theorem Qp2(h:n<=Gh):Builtin.List.listTooLong n=Gp:=by unfold Builtin.List.listTooLong;exact Gq (by omega)
end
section
variable{X:Cx}
def Qu1:V->List V->Hp->VK->Prop:=λx vs H Q=>∃l xs y,x=.ref l/\vs=[y]/\H l=Ga (.lst xs)/\xs.length<Gh/\Q .non (upd H l (.lst (xs++[y])))
theorem Z3:MtM X "list.append" Qu1:=by intro pins s σ H x vs v us Q I c rv h;obtain⟨l,xs,y,rfl,rfl,a,hz,q⟩:=h;cases c;obtain⟨u,rfl,b⟩:=rv.one;obtain⟨z,its,n,r,d,e⟩:=I.Qjn a;refine Sw F.slot_list_append ⟨_,e,Xb⟩ F.entry_list_append (F.args_list_append_2 _ _) (PySem.list_append l its.toArray n u (by rw[List.size_toArray];omega)) ⟨e,?_⟩;refine⟨.non,_,I.Qtf (its':=its++[u]) a e (by simp) (r.append (.cons b .nil)) ?_,Xb,q⟩;rw[List.length_append,List.length_singleton];omega
def Qs5:V->List V->Hp->VK->Prop:=λx vs H Q=>∃l b xs zs,x=.ref l/\vs=[.ref b]/\H l=Ga (.lst xs)/\H b=Ga (.lst zs)/\xs.length+zs.length<=Gh/\Q .non (upd H l (.lst (xs++zs)))
theorem O3:MtM X "list.extend" Qs5:=by
 intro pins s σ H x vs v us Q I m rv h;obtain⟨l,b,xs,zs,rfl,rfl,d,g,hz,q⟩:=h;cases m;obtain⟨u,rfl,k⟩:=rv.one;cases k;obtain⟨z,its,n,r,o,e⟩:=I.Qjn d;obtain⟨p,a,n2,j,i,f⟩:=I.Qjn g;have hsz:its.toArray.size+a.toArray.size<=Gh:=by rw[List.size_toArray,List.size_toArray];omega
 have c:¬(!its.toArray.isEmpty&&Builtin.List.listTooLong (its.toArray.size+a.toArray.size))=Ge:=by rw[Qp2 hsz,Bool.and_false];exact Gv
 refine Sw F.slot_list_extend ⟨_,e,Xb⟩ F.entry_list_extend (F.args_list_extend_2 _ _)
  (SM l its.toArray n b a.toArray n2 c (by rw[List.size_toArray];omega) (by omega)) ⟨e,f,?_⟩
 refine⟨.non,_,I.Qtf (its':=its++a) d e (by simp) (r.append j) ?_,Xb,q⟩;rw[List.length_append];omega
def Q0r:V->List V->Hp->VK->Prop:=λx vs H Q=>∃l xs y,x=.ref l/\vs=[]/\H l=Ga (.lst xs)/\xs[xs.length - 1]?=Ga y/\Q y (upd H l (.lst xs.dropLast))
theorem Qav:MtM X "list.pop" Q0r:=by
 intro pins s σ H x vs v us Q I j rv h;obtain⟨l,xs,y,rfl,rfl,c,g,q⟩:=h;cases j;have a:=rv.zero;subst a;obtain⟨z,its,n,r,d,e⟩:=I.Qjn c;obtain⟨u,f,i⟩:=r.get g;have b:its.toArray[its.toArray.size - 1]?=Ga u:=by show its.toArray[its.length - 1]?=Ga u;rw[<-TM,<-d];exact f
 refine Sw F.slot_list_pop ⟨_,e,Xb⟩ F.entry_list_pop (F.args_list_pop_1 _) (LQ l its.toArray n u b (by rw[List.size_toArray];omega)) ⟨e,?_⟩;refine⟨y,_,I.Qtf (its':=its.dropLast) c e ?_ r.dropLast ?_,i,q⟩
 ·show its.toArray.eraseIdxIfInBounds (its.toArray.size - 1)=its.dropLast.toArray;rw[List.size_toArray,List.eraseIdxIfInBounds_toArray,Qi6]
 ·rw[List.length_dropLast];omega
def Q1n:R2:=λx y H Q=>∃l b xs zs,x=.ref l/\y=.ref b/\H l=Ga (.lst xs)/\H b=Ga (.lst zs)/\xs.length+zs.length<=Gh/\∀p,H p=Gf->Q (.ref p) (upd H p (.lst (xs++zs)))
theorem Vi:Rz X (binaryOp .Add) Q1n:=by
 intro pins s σ H x y v u Q I j k h;obtain⟨l,b,xs,zs,rfl,rfl,f,d,hz,q⟩:=h;cases j;cases k;obtain⟨z,its,n,r,m,e⟩:=I.Qjn f;obtain⟨o,a,n2,i,g,c⟩:=I.Qjn d;refine PySem.P.add_list e c ?_ (by rw[List.size_toArray,List.size_toArray];omega);have ea:its.toArray++a.toArray=(its++a).toArray:=by simp
 rw[ea];exact⟨.ref _,_,I.Qyj (t':=s.toks) (r.append i) (by rw[List.length_append];omega),Xb,q _ I.fresh⟩
end
section
variable{κ:Type}[DecidableEq κ]
def Y9(kvs:List (κ×V))(k:κ):Option V:=(kvs.find? λa=>decide (a.1=k)).map (·.2)
def W8(kvs:List (κ×V))(k:κ)(v:V):List (κ×V):=
 if(kvs.any λa=>decide (a.1=k))=Ge then kvs.map (λa=>if a.1=k then(a.1,v)else a)else kvs++[(k,v)]
theorem Qg4{k:κ}:Y9 ([]:List (κ×V)) k=Gf:=rfl
theorem Xu{p:κ×V}{r:List (κ×V)}{k:κ}(e:p.1=k):Y9 (p::r) k=Ga p.2:=by simp[Y9,List.find?_cons,e]
theorem Xn{p:κ×V}{r:List (κ×V)}{k:κ}(e:¬p.1=k):Y9 (p::r) k=Y9 r k:=by simp[Y9,List.find?_cons,e]
theorem U1(k:κ):∀kvs:List (κ×V),(kvs.any λa=>decide (a.1=k))=(Y9 kvs k).isSome
 |[]=>rfl
 |p::r=>by
  rw[List.any_cons];by_cases e:p.1=k
  ·simp only[Xu e,Gr e,Bool.true_or,Sx]
  ·rw[Xn e,Gq e,Bool.false_or];exact U1 k r
theorem Qg6(k j:κ)(y:V):∀kvs:List (κ×V),Y9 (kvs.map λa=>if a.1=k then(a.1,y)else a) j=(Y9 kvs j).map λx=>if j=k then y else x
 |[]=>rfl
 |p::r=>by
  have b:=Qg6 k j y r;rw[List.map_cons];by_cases h:p.1=k
  ·rw[Gk h];by_cases e:p.1=j
   ·rw[Xu (p:=(p.1,y)) e,Xu e,TF,Gk (e.symm.trans h)]
   ·rw[Xn (p:=(p.1,y)) e,Xn e,b]
  ·rw[Gg h];by_cases e:p.1=j
   ·rw[Xu (p:=p) e,Xu e,TF,Gg (λz=>h (e.trans z))]
   ·rw[Xn (p:=p) e,Xn e,b]
theorem O6(k j:κ)(y:V):∀kvs:List (κ×V),Y9 kvs k=Gf->Y9 (kvs++[(k,y)]) j=if j=k then Ga y else Y9 kvs j
 |[],_=>by
  by_cases e:k=j
  ·rw[Gk e.symm];exact Xu (p:=(k,y)) e
  ·rw[Gg (λz=>e z.symm)];exact Xn (p:=(k,y)) e
 |p::r,a=>by
  rw[List.cons_append];have b:¬p.1=k:=λz=>by rw[Xu z]at a;cases a
  rw[Xn b]at a;have c:=O6 k j y r a;by_cases e:p.1=j
  ·rw[Xu e,Xu e,Gg (λz=>b (e.trans z))]
  ·rw[Xn e,Xn e,c]
theorem Qdl(kvs:List (κ×V))(k j:κ)(y:V):Y9 (W8 kvs k y) j=if j=k then Ga y else Y9 kvs j:=by
 unfold W8;by_cases a:(kvs.any λc=>decide (c.1=k))=Ge
 ·rw[Gk a,Qg6];rw[U1]at a;by_cases e:j=k
  ·obtain⟨x,b⟩:=EK.mp a;rw[Gk e,e,b,TF,Gk rfl]
  ·rw[Gg e];cases Y9 kvs j with
   |none=>rfl
   |some x=>rw[TF,Gg e]
 ·rw[Gg a];refine O6 k j y kvs ?_;rw[U1]at a;cases q:Y9 kvs k with
  |none=>rfl
  |some x=>rw[q]at a;exact(a Xb).elim
theorem Wg(kvs:List (κ×V))(k:κ)(v:V):(W8 kvs k v).length<=kvs.length+1:=by
 unfold W8;split
 ·rw[List.length_map];omega
 ·rw[List.length_append,List.length_cons,List.length_nil];omega
theorem Qq3{kvs:List (κ×V)}{k:κ}(v:V)(h:Y9 kvs k=Gf):W8 kvs k v=kvs++[(k,v)]:=by unfold W8;rw[U1,h];exact Gg (by decide)
theorem Ib.Wf{o:Option V}{u:Option Value}(r:Ib o u):o.isSome=u.isSome:=by
 cases o with
 |none=>cases u with
  |none=>rfl
  |some _=>exact(show False from r).elim
 |some _=>cases u with
  |none=>exact(show False from r).elim
  |some _=>rfl
theorem KV.val{kvs:List (κ×V)}{vs:List (κ×Value)}(r:KV kvs vs)(k:κ):Ib (Y9 kvs k) (valueAt vs k):=by
 unfold KV at r;induction r with
 |nil=>exact TW
 |@cons p q ps c h t d=>
  obtain⟨h1,h2⟩:=h;by_cases e:p.1=k
  ·have a:q.1=k:=h1.symm.trans e;have b:valueAt (q::c) k=Ga q.2:=by simp[valueAt,List.find?_cons,a]
   rw[Xu e,b];exact h2
  ·have a:¬q.1=k:=λz=>e (h1.trans z);have b:valueAt (q::c) k=valueAt c k:=by simp[valueAt,List.find?_cons,a]
   rw[Xn e,b];exact d
theorem KV.any{kvs:List (κ×V)}{vs:List (κ×Value)}(r:KV kvs vs)(k:κ):(kvs.any λa=>decide (a.1=k))=vs.any λa=>decide (a.1=k):=by
 unfold KV at r;induction r with
 |nil=>rfl
 |cons h t b=>rw[List.any_cons,List.any_cons,b,h.1]
theorem KV.Qwp{kvs:List (κ×V)}{vs:List (κ×Value)}(r:KV kvs vs)(k:κ)(c:RelV y u):
  KV (kvs.map λa=>if a.1=k then(a.1,y)else a) (vs.map λa=>if a.1=k then(a.1,u)else a):=by
 unfold KV at r⊢;induction r with
 |nil=>exact .nil
 |@cons p q ps d h t b=>
  rw[List.map_cons,List.map_cons];refine .cons ?_ b;obtain⟨h1,h2⟩:=h;by_cases e:p.1=k
  ·rw[Gk e,Gk (h1.symm.trans e)];exact⟨h1,c⟩
  ·rw[Gg e,Gg (λz=>e (h1.trans z))];exact⟨h1,h2⟩
theorem KV.put{kvs:List (κ×V)}{vs:List (κ×Value)}(r:KV kvs vs)(k:κ)(a:RelV y u):KV (W8 kvs k y) (stored vs k u):=by
 unfold W8 stored;rw[r.any k];by_cases e:(vs.any λb=>decide (b.1=k))=Ge
 ·rw[Gk e,Gk e];exact r.Qwp k a
 ·rw[Gg e,Gg e];exact Paired.snoc r ⟨Xb,a⟩
theorem KV.length{kvs:List (κ×V)}{vs:List (κ×Value)}(r:KV kvs vs):kvs.length=vs.length:=Paired.length r
end
theorem Qej{k:Xz}(r:RelV (kV k) u):(Yp P w).is k u=Ge:=by
 cases k with
 |inl i=>obtain⟨t,e⟩:=(show∃t,u=Value.int i t from r);subst e;exact Qim P w i t
 |inr x=>obtain⟨t,e⟩:=(show∃t,u=Value.str x t from r);subst e;exact Qgv P w x t
theorem Qff{P:Gj}{w:Gu}:∀{a:List Xz}{us:List Value},Z0 (a.map kV) us->ItemsAre (Yp P w) a us
 |[],_,r=>by rw[List.map_nil]at r;cases r;exact .nil
 |k::a,_,r=>by
  rw[List.map_cons]at r;cases r with
  |cons h t=>exact .cons (Qej h) (Qff t)
abbrev KT(H:Hp):List (List Xz×V)->List (List Xz×Gc×Value)->Prop:=Paired λp q=>p.1=q.1/\H q.2.1=Ga (.tup (p.1.map kV))/\RelV p.2 q.2.2
theorem KT.val(r:KT H kvs xs)(k:List Xz):Ib (Y9 kvs k) ((atKey xs k).map (·.2)):=by
 induction r with
 |nil=>exact TW
 |@cons p q ps c h t d=>
  obtain⟨h1,_,h2⟩:=h;by_cases e:p.1=k
  ·have a:q.1=k:=h1.symm.trans e;have b:atKey (q::c) k=Ga q.2:=by simp[atKey,List.find?_cons,a]
   rw[Xu e,b];exact h2
  ·have a:¬q.1=k:=λz=>e (h1.trans z);have b:atKey (q::c) k=atKey c k:=by simp[atKey,List.find?_cons,a]
   rw[Xn e,b];exact d
theorem KT.Qwp(r:KT H kvs xs)(k:List Xz)(d:RelV y u):
  KT H (kvs.map λa=>if a.1=k then(a.1,y)else a) (xs.map (putAt k u)):=by
 induction r with
 |nil=>exact .nil
 |@cons p q ps f h t c=>
  rw[List.map_cons,List.map_cons];refine .cons ?_ c;obtain⟨h1,h2,b⟩:=h;unfold putAt;by_cases e:p.1=k
  ·rw[Gk e,Gk (h1.symm.trans e)];exact⟨h1,h2,d⟩
  ·rw[Gg e,Gg (λz=>e (h1.trans z))];exact⟨h1,h2,b⟩
theorem KT.put(r:KT H kvs xs)(k:List Xz)(hb:H b=Ga (.tup (k.map kV)))(a:RelV y u):
  KT H (W8 kvs k y) (storedH xs k b u):=by
 have e:(kvs.any λc=>decide (c.1=k))=(atKey xs k).isSome:=by rw[U1,(r.val k).Wf,DA]
 unfold W8 storedH;rw[e];by_cases q:(atKey xs k).isSome=Ge
 ·rw[Gk q,Gk q];exact r.Qwp k a
 ·rw[Gg q,Gg q];exact Paired.snoc r ⟨Xb,hb,a⟩
theorem KT.keeps(r:KT H kvs xs)(a:∀b ys,H b=Ga (.tup ys)->H' b=Ga (.tup ys)):KT H' kvs xs:=
 Paired.Z7 r λ_ _ z=>⟨z.1,a _ _ z.2.1,z.2.2⟩
section
variable{P:Gj}{w:Gu}{H:Hp}{h:Heap}{a:Gc}
theorem Qv5{u:HO}(ok:Rf P w H h)(e:Rd H a u):Yk P w H h a u:=e.ok ok
theorem Qfc{kvs:List (Xz×V)}(ok:Rf P w H h)(e:Rd H a (.dK kvs)):kvs.length<=Gh/\(a==TV)=Gp/\∃vs,KV kvs vs/\h.DictOf (Yp P w) a vs:=
 show Yk P w H h a (.dK kvs)from Qv5 ok e
theorem Qla{kvs:List (Xz×V)}(ok:Rf P w H h)(e:H a=Ga (.dK kvs)):kvs.length<=Gh/\(a==TV)=Gp/\∃vs,KV kvs vs/\h.DictOf (Yp P w) a vs:=Qfc ok (.inl e)
theorem Qaw{b:List Xz}(ok:Rf P w H h)(e:H a=Ga (.tup (b.map kV))):(tupleKind (Yp P w)).is h b a:=by obtain⟨_,its,r,o,h1,h2,n,c⟩:=(show Yk P w H h a (.tup (b.map kV))from ok a _ e);exact⟨o,its.toArray,n,h1,h2,c,by simpa using Qff r⟩
theorem Qho(ok:Rf P w H h)(e:Rd H a (.dT kvs)):kvs.length<=Gh/\(a==TV)=Gp/\
  ∃xs,KT H kvs xs/\h.DictOfH (tupleKind (Yp P w)) a xs:=by
 obtain⟨z,y,xs,r,o,es,ep,h1,h2,d,f,g⟩:=(show Yk P w H h a (.dT kvs)from Qv5 ok e);refine⟨z,y,xs,r,o,es,ep,h1,h2,d,f,λx b=>?_,g⟩;have all:∀{l:List (List Xz×V)}{m:List (List Xz×Gc×Value)},KT H l m->∀x∈m,(tupleKind (Yp P w)).is h x.1 x.2.1:=by
  intro l m q;induction q with
  |nil=>intro x b;exact nomatch b
  |@cons p q ps j c t i=>
   intro x b;rcases List.mem_cons.mp b with e|b
   ·subst e;exact Qaw ok (by rw[<-c.1];exact c.2.1)
   ·exact i x b
 exact all r x b
theorem Qv7(ok:Rf P w H h)(e:H a=Ga (.dT kvs)):kvs.length<=Gh/\(a==TV)=Gp/\
  ∃xs,KT H kvs xs/\h.DictOfH (tupleKind (Yp P w)) a xs:=Qho ok (.inl e)
end
def Wy(H:Hp)(a:Gc)(y:V)(r:Option V):Prop:=
 (∃kvs k,Rd H a (.dK kvs)/\y=kV k/\r=Y9 kvs k)\/∃kvs k b,Rd H a (.dT kvs)/\y=.ref b/\H b=Ga (.tup (k.map kV))/\r=Y9 kvs k
def I9(H:Hp)(a:Gc)(y v:V)(H':Hp):Prop:=
 (∃kvs k,H a=Ga (.dK kvs)/\y=kV k/\kvs.length<Gh/\H'=upd H a (.dK (W8 kvs k v)))\/
 ∃kvs k b,H a=Ga (.dT kvs)/\y=.ref b/\H b=Ga (.tup (k.map kV))/\kvs.length<Gh/\H'=upd H a (.dT (W8 kvs k v))
theorem Wy.k{H:Hp}{a:Gc}{kvs:List (Xz×V)}{k:Xz}(e:H a=Ga (.dK kvs)):Wy H a (kV k) (Y9 kvs k):=.inl ⟨kvs,k,.inl e,Xb,Xb⟩
theorem Wy.t{k:List Xz}(e:H a=Ga (.dT kvs))(c:H b=Ga (.tup (k.map kV))):Wy H a (.ref b) (Y9 kvs k):=.inr ⟨kvs,k,b,.inl e,Xb,c,Xb⟩
theorem I9.k{H:Hp}{a:Gc}{kvs:List (Xz×V)}{k:Xz}{v:V}(e:H a=Ga (.dK kvs))(b:kvs.length<Gh):I9 H a (kV k) v (upd H a (.dK (W8 kvs k v))):=.inl ⟨kvs,k,e,Xb,b,Xb⟩
theorem I9.t{k:List Xz}{v:V}(e:H a=Ga (.dT kvs))(c:H b=Ga (.tup (k.map kV)))(d:kvs.length<Gh):
  I9 H a (.ref b) v (upd H a (.dT (W8 kvs k v))):=.inr ⟨kvs,k,b,e,Xb,c,d,Xb⟩
section
variable{X:Cx}{pins:List (Gc×DJ)}{σ:St}{H:Hp}{s:Gi}{a:Gc}{y v:V}{u r:Value}{o:Option V}{A:Tz}{E:Value->Gi->Prop}
theorem Inv.big(I:Inv X pins σ H s):TV<s.heap.objs.size:=by have h:T6<s.heap.objs.size:=(I.mod.glob.keeps I.bk).lt;exact LR (by decide) h
theorem Qna(r:A.units+1<Dg)(I:Inv X pins σ H s)(g:Wy H a y (Ga v))(m:RelV y u)(h:∀d s',Inv X pins σ H s'->RelV v d->Q d s'):
  wpAny (GO X.prog X.w) A (getItem (.ref a) u) Q E s:=by
 rcases g with⟨kvs,k,e,i,l⟩|⟨kvs,k,b,e,i,n,l⟩
 ·subst i;obtain⟨z,hd,vs,rel,f⟩:=Qfc I.Z4 e;obtain⟨d,hw,c⟩:=Ib.some_of (v:=v) (o:=valueAt vs k) (by rw[l];exact rel.val k);exact wpAny_getItem_of (Qej m) f.mapOf hw (h d _ (I.tok _) c)
 ·subst i;cases(show u=Value.ref b from m);obtain⟨z,hd,xs,rel,f⟩:=Qho I.Z4 e;obtain⟨d,hw,c⟩:=Ib.some_of (v:=v) (o:=(atKey xs k).map (·.2)) (by rw[l];exact rel.val k);obtain⟨p,q,j⟩:=D9.mp hw;refine Sy (DM r) (Qaw I.Z4 n) f q ?_;rw[j];exact h d _ (I.tok _) c
theorem Q1o(j:A.units+1<Dg)(I:Inv X pins σ H s)(g:Wy H a y o)(f:RelV y u)(h:∀s',Inv X pins σ H s'->Q (.bool o.isSome) s'):
  wpAny (GO X.prog X.w) A (TU .In u (.ref a)) Q E s:=by
 rcases g with⟨kvs,k,e,d,l⟩|⟨kvs,k,b,e,d,i,l⟩
 ·subst d;obtain⟨z,hd,vs,rel,c⟩:=Qfc I.Z4 e;refine wpAny_in_of (Qej f) hd c.mapOf ?_;rw[<-(rel.val k).Wf,<-l];exact h _ (I.tok _)
 ·subst d;cases(show u=Value.ref b from f);obtain⟨z,hd,xs,rel,c⟩:=Qho I.Z4 e;refine LD (DM j) (Qaw I.Z4 i) hd c ?_;have q:=(rel.val k).Wf;rw[DA]at q;rw[<-q,<-l];exact h _ (I.tok _)
theorem Qus(j:A.units+1<Dg)(I:Inv X pins σ H s)(g:Wy H a y o)(f:RelV y u)(h:∀s',Inv X pins σ H s'->Q (.bool (!o.isSome)) s'):
  wpAny (GO X.prog X.w) A (TU .NotIn u (.ref a)) Q E s:=by
 rcases g with⟨kvs,k,e,d,l⟩|⟨kvs,k,b,e,d,i,l⟩
 ·subst d;obtain⟨z,hd,vs,rel,c⟩:=Qfc I.Z4 e;refine wpAny_notIn_of (Qej f) hd c.mapOf ?_;rw[<-(rel.val k).Wf,<-l];exact h _ (I.tok _)
 ·subst d;cases(show u=Value.ref b from f);obtain⟨z,hd,xs,rel,c⟩:=Qho I.Z4 e;refine La (DM j) (Qaw I.Z4 i) hd c ?_;have q:=(rel.val k).Wf;rw[DA]at q;rw[<-q,<-l];exact h _ (I.tok _)
theorem Io{h':Heap}{ob:HO}(I:Inv X pins σ H s)(mu:Mut (H a))(d:Heap.SameBut a s.heap h')(c:∃q,h'.get? a=Ga q)(new:Yk X.prog X.w (upd H a ob) h' a ob):
  Inv X pins σ (upd H a ob) {s with heap:=h',toks:=t'}:=
 I.write (x:=a) (e:=a) mu (.inl Xb) (λb q hb z=>(d.2 b hb).trans z) c new
theorem Qq6{h':Heap}{kvs:List (Xz×V)}{vs:List (Xz×Value)}(z:kvs.length<=Gh)(hd:(a==TV)=Gp)(rel:KV kvs vs)(b:h'.DictOf (Yp P w) a vs):
  Yk P w H' h' a (.dK kvs):=⟨z,hd,vs,rel,b⟩
theorem Qnt{Q:Unit->Gi->Prop}(G:A.units+1<Dg)(I:Inv X pins σ H s)(g:I9 H a y v H')(x:RelV y u)(rv:RelV v r)(h:∀s',Inv X pins σ H' s'->Q () s'):
  wpAny (GO X.prog X.w) A (setItem (.ref a) u r) Q E s:=by
 rcases g with⟨kvs,k,e,m,l,j⟩|⟨kvs,k,b,e,m,p,l,j⟩
 ·subst m j;obtain⟨z,hd,vs,rel,i⟩:=Qla I.Z4 e;have hz:vs.length<=Gh:=by rw[<-rel.length];exact z
  have n:(W8 kvs k v).length<=Gh:=by have:=Wg kvs k v;omega
  refine wpAny_setItem_pairs (hsz:=hz) (Qej x) i λh' d o=>h _ ?_;have F:∃q,h'.get? a=Ga q:=let⟨q,_,_,f,_⟩:=d;⟨q,f⟩;exact Io I (by rw[e];exact TW) o F (Qq6 n hd (rel.put k rv) d)
 ·subst m j;cases(show u=Value.ref b from x);obtain⟨z,hd,xs,rel,i⟩:=Qv7 I.Z4 e;have hz:xs.length<=Gh:=by rw[<-Paired.length rel];exact z
  have n:(W8 kvs k v).length<=Gh:=by have:=Wg kvs k v;omega
  refine Sz (hsz:=hz) (DM G) (Qaw I.Z4 p) i λh' d o=>h _ ?_;obtain⟨q,es,ep,f,h2,B,C,_,D⟩:=d;refine Io I (by rw[e];exact TW) o ⟨q,f⟩ ⟨n,hd,_,(rel.put k p rv).keeps λc ys t=>?_,q,es,ep,f,h2,B,C,D⟩;rw[Qg (Zy t e nofun)];exact t
end
section
variable{X:Cx}{pins:List (Gc×DJ)}{σ:St}{H:Hp}{s:Gi}{a:Gc}{kvs:List (Xz×V)}{k:Xz}{u:Value}{A:Tz}{E:Value->Gi->Prop}
theorem Qy8(I:Inv X pins σ H s)(e:Rd H a (.dK kvs))(h:∀t s',Inv X pins σ H s'->Q (.int kvs.length t) s'):wpAny (GO X.prog X.w) A (call (.builtin "len") [.ref a]) Q E s:=by obtain⟨z,hd,vs,rel,b⟩:=Qfc I.Z4 e;refine call_len_dict hd b (by rw[<-rel.length];rw[Gy]at z;omega) ?_;rw[<-rel.length];exact h _ _ (I.tok _)
end
def Qy5(i:TJ):Prop:=∀ov a,subscripted i Gp ov a=operate [ov,a] (getItem ov a)
theorem Quq{prog:Gj}{A:Tz}{E:Value->Gi->Prop}{env:SW}{value a:TJ}{pos:E6}{T id:String}
  (j:typeLookup (.type T) "__getitem__"=pure (Ga (.builtin id)))(k:Qy5 a)
  (h:wpAny (GO prog w) A (eval value env) (λo d=>wpAny (GO prog w) A (eval a env) (λi b=>b.TypeIs o T/\wpAny (GO prog w) A (getItem o i) Q E b) E d) E s):
  wpAny (GO prog w) A (eval (.Subscript value a pos) env) Q E s:=by
 refine Lq (Dh h (λo d h₁=>Dh h₁ (λi b c=>?_) λ_ _ x=>x) λ_ _ x=>x);obtain⟨g,c⟩:=c;unfold subscriptTail;refine Gb ?_;rw[getitemInPython_of_ne g.not_modules];refine Gb (Do g j ?_);have fin:wpAny (GO prog w) A (subscripted a Gp o i) (λr e=>wpAny (GO prog w) A (letTemporaryGo value o r>>=λ_=>pure r) Q E e) E b:=by rw[k o i];exact wpAny_operating (Dh c (λr e f=>Gb (wpAny_letTemporaryGo (Gd f))) λ_ _ x=>x)
 first
  |exact Gd (Gb fin)
  |exact Gb (Gd (Gb fin))
  |exact Gb fin
theorem Qia{X:Cx}{pins:List (Gc×DJ)}{σ:St}{o:Option V}(I:Inv X pins σ H s)(g:Wy H a y o):s.TypeIs (.ref a) "dict":=by
 rcases g with⟨kvs,k,e,_,_⟩|⟨kvs,k,b,e,_,_,_⟩
 ·obtain⟨_,_,vs,_,c⟩:=Qfc I.Z4 e;exact c.typeIs
 ·obtain⟨_,_,xs,_,c⟩:=Qho I.Z4 e;exact c.typeIs
def Qhr(td ty:TE):TE:=λσ H Q=>td σ H λx H1=>ty σ H1 λy H2=>∃a v,x=.ref a/\Wy H2 a y (Ga v)/\Q v H2
def Q0q(ty td:TE):TE:=λσ H Q=>ty σ H λy H1=>td σ H1 λx H2=>∃a o,x=.ref a/\Wy H2 a y o/\Q (.bl o.isSome) H2
def Qur(ty td:TE):TE:=λσ H Q=>ty σ H λy H1=>td σ H1 λx H2=>∃a o,x=.ref a/\Wy H2 a y o/\Q (.bl (!o.isSome)) H2
def Qvo(td ty tv:TE):TS:=λD σ H=>tv σ H λv H1=>td σ H1 λx H2=>ty σ H2 λy c=>∃a b,x=.ref a/\I9 c a y v b/\D.nx σ b
section
variable{X:Cx}{o i e value:TJ}{pos pos' tpos:E6}{td ty tv:TE}
theorem Zv(k:X.A.units+1<Dg)(f:PE X o td)(hi:PE X i ty)(j:Qy5 i):PE X (.Subscript o i pos) (Qhr td ty):=by intro pins s σ H Q I h;refine Quq PySem.F.slot_dict_getitem.lookup j (Yz (f pins s σ H _ I h) λu s1⟨x,H1,d,n,l⟩=>Yz (hi pins s1 σ H1 _ d l) λq s2⟨y,H2,c,p,a,v,ex,g,m⟩=>?_);subst ex;obtain rfl:u=Value.ref a:=n;exact⟨Qia c g,Qna k c g p λt r e b=>⟨v,H2,e,b,m⟩⟩
theorem Qj7(f:X.A.units+1<Dg)(hi:PE X i ty)(e:PE X o td):PC X .In i o (Q0q ty td):=by intro pins s σ H Q I h;refine Yz (hi pins s σ H _ I h) λn s1⟨y,H1,b,m,j⟩=>Yz (e pins s1 σ H1 _ b j) λu s2⟨x,H2,c,l,a,ov,ex,g,k⟩=>?_;subst ex;obtain rfl:u=Value.ref a:=l;exact Q1o f c g m λp d=>⟨.bl ov.isSome,H2,d,Xb,k⟩
theorem Qm7(f:X.A.units+1<Dg)(hi:PE X i ty)(e:PE X o td):PC X .NotIn i o (Qur ty td):=by intro pins s σ H Q I h;refine Yz (hi pins s σ H _ I h) λn s1⟨y,H1,b,m,j⟩=>Yz (e pins s1 σ H1 _ b j) λu s2⟨x,H2,c,l,a,ov,ex,g,k⟩=>?_;subst ex;obtain rfl:u=Value.ref a:=l;exact Qus f c g m λp d=>⟨.bl (!ov.isSome),H2,d,Xb,k⟩
theorem Ww(l:X.A.units+1<Dg)(j:PE X o td)(hi:PE X i ty)(m:PE X value tv)(k:swapsWith value (Ga (.Subscript o i pos')) pos.line X.env=pure Gp):
  PS X (.Assign [.Subscript o i pos'] value pos) (Qvo td ty tv):=by
 intro pins s σ H D I h;refine wpAny_Assign_Subscript (Yz (m pins s σ H _ I h) λr s1⟨v,H1,c,rv,n⟩=>Yz (j pins s1 σ H1 _ c n) λu s2⟨x,H2,d,t,p⟩=>Yz (hi pins s2 σ H2 _ d p) λB C⟨y,z,e,w,a,b,ex,g,q⟩=>?_) k;subst ex;obtain rfl:u=Value.ref a:=t;exact Qnt l e g w rv λs4 f=>⟨σ,b,f,q⟩
end
theorem Qrd(h:Heap)(hb:TV<h.objs.size):Yk P w H (h.push {cls:=.type "dict",data:=.dict #[]}) h.objs.size (.dK []):=
 ⟨Gx _,Df.mpr (Gm (GV hb)),[],.nil,Heap.DictOf.new h⟩
theorem Qr7(h:Heap)(hb:TV<h.objs.size):Yk P w H (h.push {cls:=.type "dict",data:=.dict #[]}) h.objs.size (.dT []):=
 ⟨Gx _,Df.mpr (Gm (GV hb)),[],.nil,_,#[],0,Heap.get?_push_size _ Xb,⟨Xb,Xb,Xb⟩,Xb,Xb,List.nodup_nil⟩
def Qw1:TE:=λ_ H Q=>∀p,H p=Gf->Q (.ref p) (upd H p (.dK []))
def Qw2:TE:=λ_ H Q=>∀p,H p=Gf->Q (.ref p) (upd H p (.dT []))
section
variable{X:Cx}{pos:E6}
theorem Ux:PE X (.Dict [] [] pos) Qw1:=λpins s σ H Q I h=>ES ⟨.ref s.heap.objs.size,_,I.laid (a:=s.heap.objs.size) (o:=.dK []) (t':=s.toks) (λ_ _ q=>Heap.get?_push_of_some _ q) (Gn _) (Qrd s.heap I.big),Xb,h _ (I.Z4.fresh (Gn _))⟩
theorem Qdb:PE X (.Dict [] [] pos) Qw2:=λpins s σ H Q I h=>ES ⟨.ref s.heap.objs.size,_,I.laid (a:=s.heap.objs.size) (o:=.dT []) (t':=s.toks) (λ_ _ q=>Heap.get?_push_of_some _ q) (Gn _) (Qr7 s.heap I.big),Xb,h _ (I.Z4.fresh (Gn _))⟩
end
structure M2(X:Cx)(o:TJ)(m:GJ)(apos:E6)(e f:TJ)(cpos:E6):Prop where
 base:attributeBase o m X.env (eval o X.env)=eval o X.env
 few:((Ds cpos (GY [e,f] X.env)).all (λx=>!x.1)&&(backToKw cpos (keywordEach [] X.env)).all (λx=>x.1.isSome)
  &&decide (([e,f]:List TJ).length+([]:List SK).length+(if([]:List SK).isEmpty then 0 else 1)<30))=Ge
 line:(apos.endLine==cpos.line)=Ge
 trees:Ds cpos (GY [e,f] X.env)=[(Gp,eval e X.env),(Gp,eval f X.env)]
end L2
namespace Att
open PySem PySem.W PySem.Calls PyProof.Rows
theorem Qbi{P:Fk}{h:Heap}:∀(ns:List Int)(vs:List Value),WellAll P h vs (ns.map Fu)->E3 vs ns:=by
 intro ns;induction ns with
 |nil=>intro vs w;rw[List.map_nil]at w;cases w;exact .nil
 |cons n ns c=>
  intro vs w;rw[List.map_cons]at w;cases w with
  |cons a b=>cases a;exact .cons _ _ (c _ b)
theorem Qoq{l:Fo}{n:Nat}(p:l.most=Ga n){P:Fk}{h:Heap}{args:List WData}{c:List Value}
  (b:l.row.toRowW.claim.pre args=Ge)(k:WellAll P h c args):
  ∃a vs ns,c=[Value.ref a]/\args=[WData.list (ns.map Fu)]/\h.get? a=Ga {cls:=.type "list",data:=.seq vs.toArray}/\E3 vs ns/\ns.length<=n:=by
 have j:WShape.hasAll [] args [.list .int]=Ge:=(Fl b).1;have m:l.pre.holds [] {args:=args}=Ge:=(Fl b).2;obtain⟨d,r,rfl,h1,h2⟩:=hasAllW_cons j;obtain rfl:=hasAllW_nil h2;obtain⟨xs,rfl,o⟩:=hasW_list h1;obtain⟨ns,rfl⟩:=items_int o;have f:ns.length<=n:=by
  unfold FE at m;have g:(WTm.not (.lt (.lit (.int (n:Int))) (.len (.arg 0)))).holds [] {args:=[.list (ns.map .int)]}=Ge:=by have g:=(holds_andW m).1;rw[p]at g;exact g
  have i:=condW_of g (w_not (w_lt w_lit (w_len_list (w_arg Xb))));rw[List.length_map]at i;refine Lb λq=>?_;have t:(n:Int)<((ns.length:Nat):Int):=by omega
  first
   |(rw[Gr t]at i;exact absurd i (by decide))
   |(simp at i;omega)
 cases k with
 |cons u v=>
  cases v;cases u with
  |list s e=>exact⟨_,_,ns,Xb,Xb,s,Qbi ns _ e,f⟩
theorem Qob(l:Fo)(args:List WData):l.row.toRowW.claim.post args (.bool Ge) args=Ge:=
 postW_of (r:=l.row.toRowW) (X:=(Ge==Ge))
  (show Fn [] (.bool Ge) .bool=Ge by first|rfl|decide|simp[Fn,WShape.arms,WShape.armsAll])
  (show(WTm.eq .res (.lit (.bool Ge))).value [] {args:=args,res:=Ga (.bool Ge),after:=args}=Ga (.bool (Ge==Ge))from w_eq_bool (w_res Xb) w_lit) rfl
theorem Qhc{l:Fo}{n:Nat}{q:Gj}{c:List GJ}{v:(GJ->Option Value)->Heap->Prop}{x:Gu->Heap->Prop}{d:Fx}
  (I:l.most=Ga n)(p:d.params.defaults=[])
  (call:∀(w:Gu)(s₀ b:Gi)(mg u:GJ->Option Value)(g:Gc)(o:DJ)(pm k doc:Value)(a:Gc)(vs:List Value)(ns:List Int),
   Ground q c [] v w s₀ mg u b.heap->x w b.heap->
   b.heap.get? g=Ga o->o.data=.func (docDef d.name d.params d.body d.scope pm k doc)->b.heap.CodeRec k d.name->mg d.name=Ga (.ref g)->
   b.heap.get? a=Ga {cls:=.type "list",data:=.seq vs.toArray}->E3 vs ns->ns.length<=n->b.gens=#[]->
   codeAny (GO l.prog w) callerA (.call (.ref g) ⟨[.ref a],[]⟩) (λr s'=>r=.ok (.ret (.bool Ge))/\OldK b.heap s'.heap/\s'.os=b.os/\EF s'.gens) b):
  WalkO q c v x l.row.toRowW d [] (λf vs=>PySem.call f vs):=by
 intro w s₀ b mg u G Y g o pm k doc B kV J hd m y s E args A M j z L t F;obtain rfl:B=.none:=Dflts.none y p;obtain rfl:kV=.none:=Dflts.noKw y;obtain⟨a,vs,ns,rfl,rfl,i,e,h⟩:=Qoq I j t;refine enter_call (EZ (call w s₀ b mg u g o pm k doc a vs ns G Y J (fd_plain hd) m s i e h E) λr s' K=>?_);obtain⟨rfl,h2,C,D⟩:=K;exact⟨.inl ⟨.bool Ge,.bool Ge,[],Xb,λ_=>rfl,.bool Ge,Qob l _,λ_=>⟨List.Pairwise.nil,λ_ H=>(nomatch H)⟩⟩,h2,C,D⟩
end Att
namespace L2
open PySem PySem.Spec PyProof.Rows
variable{K:PySem.W.Frag}{k:Nat}{a f:Gc}{fd:Tf}{x qual:GJ}{X:Cx}{st:T2}{A B:Prop}{H:Hp}{xs:List V}{scope:EO}{pins:List (Gc×DJ)}{σ:St}{own:List GJ}{fv:List (Nat×GJ)}
theorem Qe8:∀{vs:List Value}{ns:List Int},E3 vs ns->Z0 (ns.map V.int) vs
 |_,_,.nil=>.nil
 |_,_,.cons n t h=>.cons ⟨t,Xb⟩ (Qe8 h)
def Qw9(H:Hp):Prop:=∀b,H b=Gf\/∃o xs,H b=Ga (.frz o (.lst xs))
theorem Qo8{P:Gj}{w:Gu}{mg M:GJ->Option Value}{CX:CXT}{E:Gc}{sp:Sp}{c:Gi}{vs:List Value}{ns:List Int}
  (KX:K.In c.heap)(t:c.heap.Ns T6 mg)(hb:c.heap.Ns builtinsNs M)(I:∀x:GJ,x≠"__name__"->M x=bootBuiltins x)(p:c.heap.NoLimit)(Z:c.gens=#[])
  (C:c.heap.get? a=Ga {cls:=.type "list",data:=.seq vs.toArray})(hi:E3 vs ns)(S:ns.length<=Gh)(hr:Yf k callerA)
  (F:∀base:Heap,K.In base->base.Ns T6 mg->Qz P w K mg base CX k E fd [x] sp)(j:∀(s:Gi)(u:Value),SI s fd ⟨[u],[]⟩ [(x,u)])
  (L:∀H:Hp,Qw9 H->Zc K H a (ns.map V.int)->sp [.ref a] H (λv _=>v=.bl Ge) λ_ _ _=>False)
  (G:∀H e s',CX [] H c (λ_ _ _=>False) e s'->False):
  codeAny (GO P w) callerA (.call (.ref E) ⟨[.ref a],[]⟩) (λr s'=>r=.ok (.ret (.bool Ge))/\OldK c.heap s'.heap/\s'.os=c.os/\EF s'.gens) c:=by
 have rv:=Qe8 hi;have A:=hi.length;have i:∀H:Hp,Qw9 H->Zc K H a (ns.map V.int)->Rf P w H c.heap->(∀b,H b≠Gf->b=a)->(H a≠Gf->K.lookup a=Gf)->
   codeAny (GO P w) callerA (.call (.ref E) ⟨[.ref a],[]⟩) (λr s'=>r=.ok (.ret (.bool Ge))/\OldK c.heap s'.heap/\s'.os=c.os/\EF s'.gens) c:=by
  intro H R hS Z4 Q X;have f:∀{b:Gc}{o:DJ},c.heap.get? b=Ga o->H b=Gf->(Qgn c.heap H).get? b=Ga o:=λe n=>Qq8 e n;have N:∀{b:Gc}{o:DJ}{es:Array DO}{ep:Nat},c.heap.get? b=Ga o->o.data=.dict es ep->H b=Gf:=λ{b o es ep}e d=>by
   cases q:H b with
   |none=>rfl
   |some u=>have D:b=a:=Q b (by rw[q];simp);subst D;rw[C]at e;cases e;have d':Data.seq vs.toArray _=Data.dict es ep:=d;cases d'
  have g:∀{b:Gc}{m:GJ->Option Value},c.heap.Ns b m->(Qgn c.heap H).Ns b m:=λ{b m}⟨o,es,ep,e,d,r⟩=>⟨o,es,ep,f e (N e d),d,r⟩;have l:K.In (Qgn c.heap H):=λb o e=>f (KX b o e) (by
   cases q:H b with
   |none=>rfl
   |some u=>have D:b=a:=Q b (by rw[q];simp);subst D;rw[X (by rw[q];simp)]at e;cases e)
  have Y:Mod K mg (Qgn c.heap H):=⟨l,g t,⟨M,g hb,I⟩,let⟨mc,h1,h2⟩:=p;⟨mc,g h1,h2⟩⟩;have T:Qi4 P w K mg (Qgn c.heap H) callerA [] c H:=⟨Xb,Y,λb o e=>Qtt e,SF (Qmw _ _),trivial,λb hb=>absurd (show b∈([]:List Gc)from hb) (by simp),Z4,.of_eq Z⟩;refine EZ ((F _ l (g t)).run callerA [] c H ⟨[.ref a],[]⟩ [.ref a] [.ref a] _ _ hr T (j c (.ref a)) (.cons rfl .nil) (L H R hS)) λr s' h=>?_;cases r with
  |error e=>exact(G H e s' h).elim
  |ok W=>
   cases W with
   |next=>exact False.elim h
   |brk=>exact False.elim h
   |cont=>exact False.elim h
   |ret u=>
    obtain⟨v,H',os,bare,un,y,r',q⟩:=h;have q':v=.bl Ge:=q;subst q';obtain rfl:u=Value.bool Ge:=r';refine⟨Xb,OldK.of_keep λb o e=>?_,os,bare⟩;cases q:H b with
    |none=>exact un.keep b o e q (by intro z;exact absurd (show b∈([]:List Gc)from z) (by simp)) (by simp)
    |some u=>
     rcases R b with z|⟨ob,xs,z⟩
     ·rw[q]at z;cases z
     ·have z2:=un.Of b ob _ z;obtain⟨O,_⟩:=Z4 b _ z;obtain⟨U,_⟩:=y b _ z2;rw[e]at O;cases O;exact U
 cases J:K.lookup a with
 |some o=>have e:=KX a o J;rw[C]at e;cases e;refine i (λ_=>Gf) (λ_=>.inl Xb) (.inr ⟨_,vs.toArray,_,J,Xb,Xb,Xb,by rw[List.size_toArray,A];exact S,by simpa using rv⟩) (λb u z=>by have B:(Gf:Option HO)=Ga u:=z;cases B) (λb z=>absurd rfl z) λz=>absurd rfl z
 |none=>
  refine i (λb=>if b=a then Ga (.frz {cls:=.type "list",data:=.seq vs.toArray} (.lst (ns.map V.int)))else Gf) (λb=>?_) (.inl (.inr ⟨{cls:=.type "list",data:=.seq vs.toArray},Gk Xb⟩)) (λb u z=>?_) (λb z=>?_) λ_=>J
  ·by_cases hb:b=a
   ·exact .inr ⟨_,_,Gk hb⟩
   ·exact .inl (Gg hb)
  ·by_cases hb:b=a
   ·have B:=(Gk hb).symm.trans z;cases B;subst hb;exact⟨C,by rw[List.length_map];exact S,vs,_,rv,C⟩
   ·have B:=(Gg hb).symm.trans z;cases B
  ·by_cases hb:b=a
   ·exact hb
   ·exact absurd (Gg hb) z
theorem Qtm{l:PySem.W.OpenLaw}{n:Nat}{q:Gj}{j:List GJ}{D:(GJ->Option Value)->Heap->Prop}{C:Gu->Heap->Prop}{d:Fx}{K:Fk->PySem.W.Frag}{CX:Gu->CXT}{sp:Gu->Sp}
  (N:l.most=Ga n)(A:n<=Gh)(y:d.params.defaults=[])(O:Yf k callerA)
  (J:∀(w:Gu)(h:Heap),C w h->(K w.params).In h)
  (F:∀(w:Gu)(mg:GJ->Option Value)(r:Gc)(h:Heap),(K w.params).In h->h.Ns T6 mg->mg d.name=Ga (.ref r)->
   ∃fd:Tf,(∀(s:Gi)(u:Value),SI s fd ⟨[u],[]⟩ [(x,u)])/\
    ∀base:Heap,(K w.params).In base->base.Ns T6 mg->Qz l.prog w (K w.params) mg base (CX w) k r fd [x] (sp w))
  (B:∀(w:Gu)(H:Hp)(a:Gc)(ns:List Int),ns.length<=n->Qw9 H->Zc (K w.params) H a (ns.map V.int)->sp w [.ref a] H (λv _=>v=.bl Ge) λ_ _ _=>False)
  (t:∀(w:Gu)(H:Hp)(s:Gi)(e:Value)(s':Gi),CX w [] H s (λ_ _ _=>False) e s'->False):
  PySem.W.WalkO q j D C l.row.toRowW d [] (λf vs=>PySem.call f vs):=by
 refine Att.Qhc N y λw s₀ p mg R r o pm P doc a vs ns G Y Q hd L z m i c M=>?_;have KX:=J w _ Y;obtain⟨fd,hb,E⟩:=F w mg r _ KX G.T.g z;exact Qo8 KX G.T.g G.T.b G.T.builtins G.T.nolimit M m i (TD c A) O E hb (λH I hS=>B w H a ns c I hS) λH e s'=>t w H p e s'
def Ya(s:T2)(j:Nat):T2:=match s with
 |.ClassDef _ _ _ a _ _ _ _ _ _ _=>a.getD j (.Pass ⟨0,0,0,0⟩)
 |_=>.Pass ⟨0,0,0,0⟩
def Iu(s:T2):Arguments:=match s with
 |.FunctionDef _ a _ _ _ _ _ _ _ _=>a
 |_=>{posonlyargs:=[],args:=[],vararg:=Gf,kwonlyargs:=[],kw_defaults:=[],kwarg:=Gf,defaults:=[]}
def Ua(s:T2):List T2:=match s with
 |.FunctionDef _ _ b _ _ _ _ _ _ _=>b
 |_=>[]
def Qn(s:T2):EO:=match s with
 |.FunctionDef _ _ _ _ _ _ a _ _ _=>a
 |_=>{kind:=.function,names:=[],isGenerator:=Gp,isCoroutine:=Gp}
abbrev Yb:CXT:=λ_ _ _ _ _ _=>False
abbrev E0:XK:=λ_ _ _=>False
theorem Q7:Ia Yb X E0:=λ_ _ _ _ _ _ _ h=>h.elim
structure Wz(K:PySem.W.Frag)(x qual:GJ)(st:T2)(f:Gc)(fd:Tf):Prop where
 ex:∃(oc:Value)(od:Option Gc)(kV doc pm:Value)(an:Option Gc)(cdv ct:Value)(osl:Array (Option Value)),
  fd=PySem.W.fnOf x qual (Iu st) (Ua st) (Qn st) .none kV doc pm an cdv ct/\K.lookup f=Ga ⟨oc,od,.func fd,osl⟩/\PySem.W.codeIn K cdv qual=Ge
 kp:PySem.W.keepIn K (.ref f)=Ge
section
variable{P:Gj}{w:Gu}{K:PySem.W.Frag}{mg:GJ->Option Value}{base:Heap}
theorem Wz.ok{N ps:List GJ}{sp:Sp}(F:Wz K x qual st f fd)(S:Q3 N ps (Qn st))(len:∀vs H Q E,sp vs H Q E->vs.length=ps.length)
  (a:∀(cdv:Value)(A:Tz)(outer:List SW)(s:Gi)(H:Hp)(vs:List V)(Q:VK)(E:XK),Yf k (A.deeper (envOfC qual (Qn st) s.heap.objs.size f cdv))->sp vs H Q E->
   ∃t,PSs (Qkb Yb P w K mg base N qual (Qn st) f cdv A outer s H E).nox (Ua st) t/\t {nx:=λ_ H'=>Q .non H',rt:=Q} (start N vs) H):Qz P w K mg base Yb (k+1) f fd ps sp:=by
 obtain⟨oc,od,kV,doc,pm,an,cdv,ct,osl,rfl,lk,b⟩:=F.ex;refine Qza lk b S len λA outer s H vs Q E d c=>?_;obtain⟨t,h,q⟩:=a cdv A outer s H vs Q E d c;exact⟨t,h.nox,q⟩
theorem Wz.binds{ps:List GJ}(F:Wz K x qual st f fd)
  (h:∀(kV doc pm:Value)(an:Option Gc)(cdv ct:Value)(us:List Value),us.length=ps.length->bindArgs (PySem.W.fnOf x qual (Iu st) (Ua st) (Qn st) .none kV doc pm an cdv ct) ⟨us,[]⟩=pure (ps.zip us)):Binds K fd ps []:=by
 obtain⟨oc,od,kV,doc,pm,an,cdv,ct,osl,rfl,lk,a⟩:=F.ex;exact .all (h kV doc pm an cdv ct)
theorem Zi{oc:Value}{od an:Option Gc}{osl:Array (Option Value)}{kV doc pm cdv ct:Value}(l:K.lookup f=Ga ⟨oc,od,.func (PySem.W.fnOf x qual (Iu st) (Ua st) (Qn st) .none kV doc pm an cdv ct),osl⟩)
  (c:PySem.W.codeIn K cdv qual=Ge)(k:PySem.W.keepIn K (.ref f)=Ge):Wz K x qual st f (PySem.W.fnOf x qual (Iu st) (Ua st) (Qn st) .none kV doc pm an cdv ct):=⟨⟨oc,od,kV,doc,pm,an,cdv,ct,osl,Xb,l,c⟩,k⟩
end
theorem Ur{A:Tz}(a:Yf k A):A.units+1<Dg:=EA (Nat.add_le_add_left (by decide:1<=64) _) a.units
section
variable{X:Cx}
theorem pv(i:Nat){pos:E6}(b:X.N[i]?=Ga x:=by rfl)(c:Vis X.env.scope x:=by first|exact TR rfl|exact Dp (TR Xb)|exact Dp (Dp Xb))(hd:(x==("__debug__":GJ))=Gp:=by decide)
  (a:(x==("__classdict__":GJ))=Gp:=by decide):PE X (.Name x pos) (Vv i):=Qw7 b c hd a
end
theorem Q6(h:B):if Gp=Ge then A else B:=by rw[Gg Gv];exact h
theorem Yy(h:A):if Ge=Ge then A else B:=by rw[Gk rfl];exact h
theorem Iz{c:Prop}[Decidable c](h1:c->A)(h2:¬c->B):if c then A else B:=by
 by_cases h:c
 ·rw[Gk h];exact h1 h
 ·rw[Gg h];exact h2 h
def Q5(H H':Hp):Prop:=∀b o,H b=Ga o->H' b=Ga o
theorem Q5.trans{H1 H2:Hp}(a:Q5 H H1)(b:Q5 H1 H2):Q5 H H2:=λc o h=>b c o (a c o h)
theorem Q5.free{H':Hp}(e:Q5 H H'){l:Gc}(h:H' l=L8):H l=L8:=by
 cases q:H l with
 |none=>rfl
 |some o=>rw[e l o q]at h;cases h
theorem Q5.seq{H':Hp}(e:Q5 H H')(h:Zc K H a xs):Zc K H' a xs:=by
 rcases h with(h|⟨o,h⟩)|h
 ·exact .inl (.inl (e _ _ h))
 ·exact .inl (.inr ⟨o,e _ _ h⟩)
 ·exact .inr h
section
variable{X:Cx}
theorem Qn0:V1 X (.builtin "len") (λxs H Q=>∃a kvs,xs=[V.ref a]/\H a=Ga (.dK kvs)/\Q (.int kvs.length) H):=by intro pins s σ H xs us Q I r h;obtain⟨a,kvs,rfl,c,q⟩:=h;obtain⟨u,rfl,d⟩:=vals1 r;cases d;exact Qy8 I (.inl c) λt s' b=>⟨.int kvs.length,H,b,⟨t,Xb⟩,q⟩
end
def ccx(X:Cx)(N:List GJ)(scope:EO)(cl:List (GJ×Gc))(C:Gc)(fp:List Gc)(s:Gi)(H:Hp):Cx where
 prog:=X.prog
 w:=X.w
 K:=X.K
 mg:=X.mg
 base:=X.base
 A:=X.A
 N:=N
 s₀:=s
 H₀:=H
 env:=compEnvC scope cl C X.env
 outer:=X.stack
 stack:=X.stack
 ex:=fp
 calm:=X.calm
 fn:=λ_=>Gp
 pn:=[]
 xe:=λ_ _=>False
inductive FV(X:Cx)(scope:EO):List (Nat×GJ)->Prop
 |nil:FV X scope []
 |cons {j:Nat} {x:GJ} {r:List (Nat×GJ)}:X.N[j]?=Ga x->(X.env.scope.names.lookup x=Ga .cell\/X.env.scope.names.lookup x=Ga .free)->scope.names.lookup x=Ga .free->FV X scope r->FV X scope ((j,x)::r)
theorem FV.get{X:Cx}{scope:EO}:∀{fv:List (Nat×GJ)}{k j:Nat}{x:GJ},FV X scope fv->fv[k]?=Ga (j,x)->
  X.N[j]?=Ga x/\(X.env.scope.names.lookup x=Ga .cell\/X.env.scope.names.lookup x=Ga .free)/\scope.names.lookup x=Ga .free
 |_,_,_,_,.nil,e=>by simp at e
 |_,0,_,_,.cons a b c _,e=>by simp at e;obtain⟨rfl,rfl⟩:=e;exact⟨a,b,c⟩
 |_,k+1,_,_,.cons _ _ _ r,e=>FV.get (k:=k) r (by simpa using e)
theorem Vk{env:SW}:∀{names:List (GJ×Ej)}{x:GJ},names.lookup x=Ga .free->
  (names.map λ(n,k)=>if(k==Tk&&env.scope.kind==.function&&env.kindOf n==Ga .cell)then(n,EL)else(n,k)).lookup x=Ga .cell\/
  (names.map λ(n,k)=>if(k==Tk&&env.scope.kind==.function&&env.kindOf n==Ga .cell)then(n,EL)else(n,k)).lookup x=Ga .free
 |[],_,h=>by simp at h
 |(n,k)::r,x,h=>by
  have b:=@Vk env r x;rw[List.map_cons];dsimp only;cases hx:x==n with
  |true=>
   simp only[List.lookup_cons,hx]at h;cases h;by_cases a:(Tk==Tk&&env.scope.kind==.function&&env.kindOf n==Ga .cell)=Ge
   ·left;rw[Gk a];simp only[List.lookup_cons,hx]
   ·right;rw[Gg a];simp only[List.lookup_cons,hx]
  |false=>
   simp only[List.lookup_cons,hx]at h;by_cases a:(k==Tk&&env.scope.kind==.function&&env.kindOf n==Ga .cell)=Ge
   ·rw[Gk a];simp only[List.lookup_cons,hx];exact b h
   ·rw[Gg a];simp only[List.lookup_cons,hx];exact b h
theorem Ue{env:SW}:∀{names:List (GJ×Ej)}{x:GJ},
  ((names.map λ(n,k)=>if(k==Tk&&env.scope.kind==.function&&env.kindOf n==Ga .cell)then(n,EL)else(n,k)).lookup x=Ga .cell\/
  (names.map λ(n,k)=>if(k==Tk&&env.scope.kind==.function&&env.kindOf n==Ga .cell)then(n,EL)else(n,k)).lookup x=Ga .free)->
  names.lookup x=Ga .cell\/names.lookup x=Ga .free
 |[],_,h=>by simp at h
 |(n,k)::r,x,h=>by
  have c:=@Ue env r x;rw[List.map_cons]at h;dsimp only at h;cases hx:x==n with
  |true=>
   by_cases a:(k==Tk&&env.scope.kind==.function&&env.kindOf n==Ga .cell)=Ge
   ·right;have d:(k==Tk)=Ge:=(DS.mp (DS.mp a).1).1;have b:k=.free:=by simpa using d
    simp only[List.lookup_cons,hx,b]
   ·rw[Gg a]at h;simp only[List.lookup_cons,hx]at h⊢;exact h
  |false=>
   by_cases a:(k==Tk&&env.scope.kind==.function&&env.kindOf n==Ga .cell)=Ge
   ·rw[Gk a]at h;simp only[List.lookup_cons,hx]at h⊢;exact c h
   ·rw[Gg a]at h;simp only[List.lookup_cons,hx]at h⊢;exact c h
theorem Rp{env:SW}:∀(names:List (GJ×Ej))(b:List (GJ×Gc)),(∀x,(x,Tk)∈names->∃c,env.cells.lookup x=Ga c)->(∀x c,b.lookup x=Ga c->env.cells.lookup x=Ga c)->
  ∃cl:List (GJ×Gc),(forIn names b (λ(x:GJ×Ej)(b:List (GJ×Gc))=>if x.2==Tk then(cellOf env x.1>>=λc=>pure (Dq ((x.1,c)::b)))else pure (Dq b)):Fz (List (GJ×Gc)))=pure cl/\
   (∀x c,cl.lookup x=Ga c->env.cells.lookup x=Ga c)/\(∀x,(∃c,b.lookup x=Ga c)\/(x,Tk)∈names->∃c,cl.lookup x=Ga c)
 |[],b,_,h2=>⟨b,Xb,h2,λx h=>h.elim id λz=>nomatch z⟩
 |(n,k)::r,b,h1,h2=>by
  rw[List.forIn_cons];by_cases j:k=.free
  ·subst j;obtain⟨c,l⟩:=h1 n List.mem_cons_self;have e:cellOf env n=pure c:=by unfold cellOf;rw[l]
   obtain⟨cl,f,g,i⟩:=Rp r ((n,c)::b) (λx a=>h1 x (List.mem_cons_of_mem _ a)) (λx d a=>by
    rw[List.lookup_cons]at a;cases q:x==n with
    |true=>
     rw[q]at a;have m:x=n:=by simpa using q
     rw[m,l];exact a
    |false=>rw[q]at a;exact h2 x d a)
   refine⟨cl,?_,g,λx a=>i x ?_⟩
   ·simp only[DV,E1,e,pure_bind];exact f
   ·rcases a with⟨d,hd⟩|a
    ·left;rw[List.lookup_cons];cases q:x==n with
     |true=>exact⟨_,Xb⟩
     |false=>exact⟨d,hd⟩
    ·rcases List.mem_cons.mp a with z|z
     ·left;have:x=n:=congrArg Prod.fst z;subst this;exact⟨c,by simp[List.lookup_cons]⟩
     ·exact .inr z
  ·have hb:(k==Tk)=Gp:=by simpa using j
   obtain⟨cl,f,g,i⟩:=Rp r b (λx a=>h1 x (List.mem_cons_of_mem _ a)) h2;refine⟨cl,?_,g,λx a=>i x ?_⟩
   ·simp only[hb,Tu,T8,pure_bind];exact f
   ·rcases a with z|z
    ·exact .inl z
    ·rcases List.mem_cons.mp z with z|z
     ·exact absurd (congrArg Prod.snd z).symm j
     ·exact .inr z
theorem Qd6{env:SW}(h1:∀x,(x,Tk)∈scope.names->∃c,env.cells.lookup x=Ga c):
  ∃cl:List (GJ×Gc),closureFor scope env=pure cl/\(∀x c,cl.lookup x=Ga c->env.cells.lookup x=Ga c)/\(∀x,(x,Tk)∈scope.names->∃c,cl.lookup x=Ga c):=by
 obtain⟨cl,b,d,f⟩:=Rp (env:=env) scope.names [] h1 (λx c h=>by simp at h);refine⟨cl,?_,d,λx g=>f x (.inr g)⟩;have e:closureFor scope env=((forIn scope.names ([]:List (GJ×Gc)) (λ(x:GJ×Ej)(a:List (GJ×Gc))=>if x.2==Tk then(cellOf env x.1>>=λc=>pure (Dq ((x.1,c)::a)))else pure (Dq a)):Fz (List (GJ×Gc)))>>=λa=>pure a):=rfl;rw[e,b];rfl
def Jb(n:Nat)(fv:List (Nat×GJ))(σ:St):St:=List.replicate n Gf++fv.map λq=>(σ[q.1]?).join
theorem Qrt{s:Gi}{cl:List (GJ×Gc)}{fp:List Gc}{h1:Heap}{ob:DJ}{m:GJ->Option Value}{t':Nat}
  (I:Inv X pins σ H s)(N:scope.kind=.function)(F:FV X scope fv)(k:∀x c,cl.lookup x=Ga c->X.env.cells.lookup x=Ga c)(E:∀x,(x,Tk)∈scope.names->∃c,cl.lookup x=Ga c)
  (B:∀y∈scope.names,y.2≠.cell)(g:∀b∈fp,Qap X pins H b)(A:∀b∈fp,b<s.heap.objs.size)
  (O:h1.Ns s.heap.objs.size m)(D:Heap.SameBut s.heap.objs.size (s.heap.push ob) h1):
  Inv (ccx X (own++fv.map (·.2)) scope cl s.heap.objs.size fp s H) [] (Jb own.length fv σ) H {s with heap:=h1,toks:=t'}:=by
 have keep:∀b u,s.heap.get? b=Ga u->h1.get? b=Ga u:=λb u e=>(D.2 b (GV (Heap.lt_size e))).trans (Heap.get?_push_of_some _ e);have f:∀x,(scope.names.lookup x=Ga .cell\/scope.names.lookup x=Ga .free)->(x,Tk)∈scope.names:=λx h=>by
  rcases h with h|h
  ·exact absurd rfl (B _ (PySem.mem_of_lookup h))
  ·exact PySem.mem_of_lookup h
 refine⟨⟨I.ok.mod,N,I.ok.glob,I.ok.blt,Gn _,λx y c d a=>I.ok.inj x y c (k x c d) (k y c a),λx h=>E x (f x (Ue (env:=X.env) h)),λ_ _ h _=>(Gv h).elim,
   I.ok.hd,I.ok.frames,.inl Xb,λb hb=>⟨GV (A b hb),λx c e=>(g b hb).2.2.2.2.1 x c (k x c e)⟩,I.bs,TD I.ok.bsz I.sz,λb o e hb=>?_,λb hb M=>?_,I.stack,I.Ql5⟩,
  Xb,I.bare,Un.kept keep,⟨m,O,λi x v d a U=>?_⟩,λx c e=>?_,I.Z4.fresh (Gn _),λx c e=>I.Jk x c (k x c e),λp Q=>absurd (show p∈([]:List (Gc×DJ))from Q) (by simp),I.Z4.kept keep,?_⟩
 ·rcases(g b hb).2.2.2.1 with z|z
  ·exact I.ok.Qo1 b o e z
  ·exact absurd (Tb (Heap.lt_size e) (TD I.ok.bsz z)) (Dw _)
 ·rcases List.mem_cons.mp (I.Qge b M)with z|z
  ·exact(g b hb).2.1 z
  ·exact(g b hb).2.2.1 z
 ·have d:(own++fv.map (·.2))[i]?=Ga x:=d;by_cases hi:i<own.length
  ·have a:(Jb own.length fv σ)[i]?=Ga (Ga v):=a;unfold Jb at a;rw[List.getElem?_append_left (by simpa using hi),List.getElem?_replicate]at a;split at a<;>cases a
  ·have a:(Jb own.length fv σ)[i]?=Ga (Ga v):=a;unfold Jb at a;rw[List.getElem?_append_right (by simpa using hi),List.length_replicate,List.getElem?_map]at a;rw[List.getElem?_append_right (by omega),List.getElem?_map]at d;cases q:fv[i - own.length]? with
   |none=>rw[q]at d;cases d
   |some p=>
    obtain⟨j,y⟩:=p;rw[q]at d a;have d:Ga y=Ga x:=d;cases d;have a:Ga (σ[j]?).join=Ga (Ga v):=a;have a:=Tc a;obtain⟨L,l,G⟩:=F.get q;have K:σ[j]?=Ga (Ga v):=by
     cases r:σ[j]? with
     |none=>rw[r]at a;cases a
     |some z=>rw[r]at a;exact congrArg Ga a
    obtain⟨m0,P,w⟩:=I.loc;obtain⟨u,T,lk⟩:=w j x v L K (.inr l);refine⟨u,T,?_⟩;rcases lk with⟨t,_⟩|⟨t,c,R,S⟩
    ·exfalso;have t:X.env.scope.names.lookup x=Ga .local:=t;rcases l with l|l<;>(rw[t]at l;cases l)
    ·obtain⟨J,n⟩:=E x (PySem.mem_of_lookup G);have:=k x J n;rw[R]at this;cases this;refine .inr ⟨Vk (env:=X.env) G,c,n,?_⟩;obtain⟨o,C,hd⟩:=S;exact⟨o,keep _ _ C,hd⟩
 ·obtain⟨v,o,C,hd⟩:=I.cell x c (k x c e);exact⟨v,o,keep _ _ C,hd⟩
 ·show(Jb own.length fv σ).length=(own++fv.map (·.2)).length;unfold Jb;simp
def Qjy(X:Cx)(ifs:List TJ)(t:TT):Prop:=
 ∀(pins:List (Gc×DJ))(s:Gi)(σ:St)(H:Hp)(Q:Bool->Hp->Prop),Inv X pins σ H s->t σ H Q->
  wpAny (GO X.prog X.w) X.A (forIn ifs Ge λc r=>if r=Ge then do let ok<-isTrue c X.env (eval c X.env);pure (Dq ok)else pure (Dq r)) (TP X pins σ Q) X.xe s
def Que:TT:=λ_ H Q=>Q Ge H
theorem X6:Qjy X [] Que:=λpins s σ H Q I h=>wpAny_tests_nil ⟨H,I,h⟩
theorem Qdt{c:TJ}{t:TT}(h:PT X c t):Qjy X [c] t:=λpins s σ H Q I hw=>wpAny_tests_one (h pins s σ H Q I hw)
section
variable{prog:Gj}{w:Gu}{A:Tz}{R:LM->Gi->Prop}{s:Gi}
theorem Qf2{elt a iter:TJ}{ifs:List TJ}{pos:E6}{it acc:Value}{env:SW}(I:Nat->Gi->Prop)
  (turn:∀n s,I n s->wpAny (GO prog w) A (pyNext it) (λr b=>match r with
   |none=>R (.ok .next) b
   |some v=>wpAny (GO prog w) A (letOwnedTupleGo a it v) (λ_ b=>wpAny (GO prog w) A (assign a env v) (λ_ f=>
     wpAny (GO prog w) A (forIn ifs Ge λc r=>if r=Ge then do let ok<-isTrue c env (eval c env);pure (Dq ok)else pure (Dq r)) (λok d=>
      if ok=Ge then wpAny (GO prog w) A (eval elt env) (λx g=>wpAny (GO prog w) A (call (.builtin "list.append") [acc,x]) (λ_ i=>∃m,m<n/\I m i) (λ_ _=>False) g) (λ_ _=>False) d
      else∃m,m<n/\I m d) (λ_ _=>False) f) (λ_ _=>False) b) (λ_ _=>False) b) (λ_ _=>False) s)
  (n:Nat)(h:I n s):
  codeAny (GO prog w) A (.compLoop (.ListComp elt [⟨a,iter,ifs,0⟩] scope pos) 0 it acc env) R s:=by
 refine codeAny_loop rfl I (λn s o=>?_) n h;show wpAny _ A ((compTurn (.ListComp elt [⟨a,iter,ifs,0⟩] scope pos) 0 it acc env).onRaise (λx=>do noteFrame x env;theTreesLotGoes x)) _ _ s;refine wpAny_noted ?_;rw[compTurn_list];refine Gb (Sm (Gb (Dh (turn n s o) (λr b h₁=>?_) λ_ _ h'=>h'.elim)));cases r with
 |none=>exact Gd h₁
 |some v=>
  refine Gb (Dh h₁ (λ_ b h₁=>?_) λ_ _ h'=>h'.elim);refine Gb (Dh h₁ (λ_ f j=>Gb (Dh j (λok d e=>?_) λ_ _ h'=>h'.elim)) λ_ _ h'=>h'.elim);cases ok with
  |false=>exact Gd ⟨Xb,e⟩
  |true=>exact Gb (Gb (Dh e (λx g k=>Gb (Dh k (λ_ i l=>Gd (Gd ⟨Xb,l⟩)) λ_ _ h'=>h'.elim)) λ_ _ h'=>h'.elim))
end
def Qex(p:Gc)(J:It)(g:TG)(tt:TT)(te:TE)(Q:Hp->Prop)(e:St)(H0:Hp):Prop:=
 ∃W:Nat->Nat->St->Hp->Prop,(∃m,W 0 m e H0)/\∀i m σ H,W i m σ H->
  (J.stop i H/\Q H)\/(J.go i H/\∃(N:V->St->Hp->Prop)(h:St->Hp->Prop),(∀v a H',N v a H'->∃ys,H' p=Ga (.lst ys)/\ys.length<Gh/\∃d,d<m/\W (i+1) d a (upd H' p (.lst (ys++[v]))))/\
   (∀a H',h a H'->∃d,d<m/\W (i+1) d a H')/\
   ∀x H',J.yld i H x H'->g x σ H' λc H2=>tt c H2 λb f=>if b=Ge then te c f λv j=>N v c j else h c f)
def Qvu(n:Nat)(fv:List (Nat×GJ))(wi:TI)(g:TG)(tt:TT)(te:TE):TE:=λσ H Q=>wi σ H λJ H1=>∀p,H1 p=Gf->Qex p J g tt te (λH'=>Q (.ref p) H') (Jb n fv σ) (upd H1 p (.lst []))
section
variable{X:Cx}{elt tg iter:TJ}{ifs:List TJ}{scope:EO}{pos:E6}{wi:TI}{g:TG}{tt:TT}{te:TE}
structure Xx(esc scope:EO):Prop where
 kind:scope.kind=.function
 Qr5:∀y∈scope.names,y.2≠.cell
 loc:∀x∈scope.names,x.2=.local->scope.names.lookup x.1=Ga .local
 fre:∀y∈scope.names,y.2=.free->esc.names.lookup y.1=Ga .cell\/esc.names.lookup y.1=Ga .free
theorem Qdu{H2:Hp}{s2:Gi}{it:Gc}{fp:List Gc}{tn:Nat->Heap->Prop}{J:It}{cl:List (GJ×Gc)}{Q:VK}{RR:Value->Gc->LM->Gi->Prop}{E:Value->Gi->Prop}
  (hc:X.calm=Ge)(S:Xx X.env.scope scope)(F:FV X scope fv)(c1:∀x c,cl.lookup x=Ga c->X.env.cells.lookup x=Ga c)(c2:∀x,(x,Tk)∈scope.names->∃c,cl.lookup x=Ga c)
  (hg:∀cl C fp s H,PG (ccx X (own++fv.map (·.2)) scope cl C fp s H) tg g)(ht:∀cl C fp s H,Qjy (ccx X (own++fv.map (·.2)) scope cl C fp s H) ifs tt)(he:∀cl C fp s H,PE (ccx X (own++fv.map (·.2)) scope cl C fp s H) elt te)
  (I2:Inv X pins σ H2 s2)(T:Qfs X.prog X.w X.K tg J fp it tn)(P:tn 0 s2.heap)(f2:∀b∈fp,Qap X pins H2 b)
  (q:∀p,H2 p=Gf->Qex p J g tt te (λH'=>Q (.ref p) H') (Jb own.length fv σ) (upd H2 p (.lst [])))
  (ai:∀(p C:Gc)(H':Hp)(s':Gi),Inv X pins σ H' s'->(∃m,s'.heap.Ns C m)->Qap X pins H' C->Q (.ref p) H'->RR (.ref p) C (.ok .next) s'):
  wpAny (GO X.prog X.w) X.A (newList []) (λacc ad=>wpAny (GO X.prog X.w) X.A (newFunctionEnv scope X.env.globals cl [] X.env.qual Gf .none (Ga X.env)) (λD ae=>codeAny (GO X.prog X.w) X.A (.compStart (.ListComp elt [⟨tg,iter,ifs,0⟩] scope pos) 0 (.ref it) acc {D with scope:=relabel scope X.env}) (RR acc D.locals) ae) E ad) E s2:=by
 have q:=q s2.heap.objs.size (I2.Z4.fresh (Gn _));have I3:=I2.Qyj (ys:=[]) (its:=[]) (t':=s2.toks) .nil (Gx _);have aj:H2 s2.heap.objs.size=Gf:=I2.Z4.fresh (Gn _);refine Tp (wpAny_newFunctionEnv S.Qr5 (by intro y hy;simp at hy) (λh₁ t a=>?_) S.kind);have l:∀b∈fp,Qap X pins (upd H2 s2.heap.objs.size (.lst [])) b:=λb hb=>by obtain⟨o,e,_⟩:=T.obj 0 _ P b hb;exact⟨by rw[Qg (GV (Heap.lt_size e))];exact(f2 b hb).1,(f2 b hb).2⟩
 have O:∀b∈fp,b<(s2.heap.push {cls:=.type "list",data:=.seq ([]:List Value).toArray}).objs.size:=λb hb=>by obtain⟨o,e,_⟩:=T.obj 0 _ P b hb;exact Heap.lt_size (Heap.get?_push_of_some _ e)
 have ac:tn 0 h₁:=T.keep 0 _ _ P λb hb o e=>(a.2 b (GV (O b hb))).trans (Heap.get?_push_of_some _ (Heap.get?_push_of_some _ e));have I4:=Qrt (own:=own) (fv:=fv) (t':=s2.toks+([]:List (GJ×Value)).length) I3 S.kind F c1 c2 S.Qr5 l O t a;obtain⟨W,⟨m0,w0⟩,turn⟩:=q;generalize hC:(s2.heap.push {cls:=.type "list",data:=.seq ([]:List Value).toArray}).objs.size=C at*;have G:codeAny (GO X.prog X.w) X.A (.compLoop (.ListComp elt [⟨tg,iter,ifs,0⟩] scope pos) 0 (.ref it) (.ref s2.heap.objs.size) (compEnvC scope cl C X.env)) (RR (.ref s2.heap.objs.size) C)
   {s2 with heap:=h₁,toks:=s2.toks+([]:List (GJ×Value)).length}:=by
  generalize f:ccx X (own++fv.map (·.2)) scope cl C fp {s2 with heap:=s2.heap.push {cls:=.type "list",data:=.seq ([]:List Value).toArray}} (upd H2 s2.heap.objs.size (.lst []))=Y at I4;have h:∀{H':Hp},(∀b∈fp,H' b=Gf)->∀b∈fp,Qap Y [] H' b:=λ{H'}hn b hb=>by
   subst f;refine⟨hn b hb,GV (O b hb),λz=>?_,.inl hb,λx c e=>(l b hb).2.2.2.2.1 x c (c1 x c e),λp hp=>absurd (show p∈([]:List (Gc×DJ))from hp) (by simp)⟩;rcases List.mem_cons.mp (I3.Qge b z)with z|z
   ·exact(l b hb).2.1 z
   ·exact(l b hb).2.2.1 z
  have eP:Y.prog=X.prog:=by subst f;rfl
  have ew:Y.w=X.w:=by subst f;rfl
  have eK:Y.K=X.K:=by subst f;rfl
  have eA:Y.A=X.A:=by subst f;rfl
  have eC:Y.calm=Ge:=by subst f;exact hc
  have eE:Y.env=compEnvC scope cl C X.env:=by subst f;rfl
  have ex:Y.xe=λ_ _=>False:=by subst f;rfl
  have L:PG Y tg g:=by subst f;exact hg _ _ _ _ _
  have M:Qjy Y ifs tt:=by subst f;exact ht _ _ _ _ _
  have I:PE Y elt te:=by subst f;exact he _ _ _ _ _
  unfold PG at L;unfold Qjy at M;unfold PE at I;rw[eP,ew,eA,eE,ex]at L M I;refine Qf2 (λn s'=>∃i j H',Inv Y [] j H' s'/\tn i s'.heap/\(∀b∈fp,H' b=Gf)/\W i n j H') ?_ m0 ⟨0,_,_,I4,ac,λb hb=>(l b hb).1,w0⟩;rintro n s3 ⟨i,B,U,J3,ab,aa,w3⟩;rcases turn i n B U w3 with⟨stop,qn⟩|⟨go,N,N',hN,ah,step⟩
  ·have d:=T.done Y eP ew eK eC i [] s3 B U (λ_ _=>False) J3 (h aa) ab stop;rw[eA]at d;refine Yz d λr s4⟨hr,V⟩=>?_;subst hr;show RR _ C (.ok .next) s4;have u:=V.base;have Z4:=V.Z4;have os:=V.os;have bare:=V.bare;obtain⟨m4,n4,_⟩:=V.loc;have fC:=V.free;subst f;have I5:Inv X pins σ U s4:=I3.Qyc (ch:=fp) os u Z4 bare λb hb=>⟨(l b hb).2.2.2.1,(l b hb).2.1,(l b hb).2.2.2.2.1,(l b hb).2.2.2.2.2⟩;refine ai _ C U s4 I5 ⟨m4,n4⟩ ?_ qn;rw[<-hC];exact I3.Qiv (Gn _) (by show U _=Gf;rw[hC];exact fC)
  ·have d:=T.item Y eP ew eK eC i [] s3 B U (λ_ _=>False) J3 (h aa) ab go;rw[eA]at d;refine Yz d λr s4⟨u,hr,h4⟩=>?_;subst hr;refine Yz h4 λ_ s5⟨x,H5,J5,r5,y5,R,ag⟩=>?_;have af:=J5.pinned (h ag) (T.obj _ _ R);refine Yz (L _ s5 B H5 x u _ af r5 (step x H5 y5)) λ_ s6⟨k,H6,J6,q6⟩=>?_;refine Yz (M _ s6 k H6 _ J6 q6) λok s7⟨H7,J7,q7⟩=>?_;have again:∀{s8:Gi}{H8:Hp},Inv Y ([]++Qcl fp s5.heap) k H8 s8->(∃m',m'<n/\W (i+1) m' k H8)->∃m,m<n/\∃i j H',Inv Y [] j H' s8/\tn i s8.heap/\(∀b∈fp,H' b=Gf)/\W i m j H':=λ{s8 H8}Z⟨m',hm,w8⟩=>by refine⟨m',hm,i+1,k,H8,Z.R4,T.keep _ _ _ R λb hb o e=>(Z.pin (b,o) (List.mem_append_right _ (List.mem_append_right _ (U9 hb e)))).1,λb hb=>?_,w8⟩;obtain⟨o,e,d⟩:=T.obj _ _ R b hb;exact(Z.pin (b,o) (List.mem_append_right _ (List.mem_append_right _ (U9 hb e)))).2.1
   cases ok with
   |false=>rw[Gg Gv]at q7⊢;exact again J7 (ah _ _ q7)
   |true=>rw[Gk rfl]at q7⊢;refine Yz (I _ s7 k H7 _ J7 q7) λxv s8⟨v,H8,Z,r8,q8⟩=>?_;obtain⟨ys,hy,hz,q8⟩:=hN _ _ _ q8;obtain⟨z,its,n',r,hl,e⟩:=Z.Qjn hy;refine Sw PySem.F.slot_list_append ⟨_,e,Xb⟩ PySem.F.entry_list_append (PySem.F.args_list_append_2 _ _) (PySem.list_append s2.heap.objs.size its.toArray n' xv (by rw[List.size_toArray];omega)) ⟨e,?_⟩;refine again (Z.Qtf (its':=its++[xv]) (t':=s8.toks) hy e (by simp) (r.append (.cons r8 .nil)) ?_) q8;rw[List.length_append,List.length_singleton];omega
 exact codeAny_compStart_list G (T.self X.A 0 _ _ _ ac G)
theorem O0{s:Gi}(S:Xx X.env.scope scope)(I:Inv X pins σ H s):
  ∃cl:List (GJ×Gc),closureFor scope X.env=pure cl/\(∀x c,cl.lookup x=Ga c->X.env.cells.lookup x=Ga c)/\(∀x,(x,Tk)∈scope.names->∃c,cl.lookup x=Ga c):=
 Qd6 λx a=>I.ok.has x (S.fre (x,.free) a Xb)
theorem Vl(t:X.calm=Ge)(S:Xx X.env.scope scope)(F:FV X scope fv)(hi:PI X tg iter wi)
  (y:∀cl C fp s H,PG (ccx X (own++fv.map (·.2)) scope cl C fp s H) tg g)(D:∀cl C fp s H,Qjy (ccx X (own++fv.map (·.2)) scope cl C fp s H) ifs tt)(u:∀cl C fp s H,PE (ccx X (own++fv.map (·.2)) scope cl C fp s H) elt te)
  (B:∀x,foldedSetIterable iter X.env x=pure x:=by intro _;rfl):PE X (.ListComp elt [⟨tg,iter,ifs,0⟩] scope pos) (Qvu own.length fv wi g tt te):=by
 intro pins s σ H Q I h;rw[eval_ListComp];obtain⟨cl,c,l,n⟩:=O0 S I;refine EM (use:=Gf) rfl B c S.kind S.loc (Yz (hi pins s σ H _ I h) λv s1 h1=>Yz h1 λE s2 h2=>?_);obtain⟨it,fp,tn,J,H2,e,k,T,i,r,q⟩:=h2;subst e;refine Qdu (Q:=Q) (RR:=λacc C=>compPost (GO X.prog X.w) X.A X.xe Gf (EP X pins σ Q) acc C) t S F l n y D u k T i r q λp C H' s' j d a z=>?_;obtain⟨m,d⟩:=d;refine⟨m,d,λh' f=>⟨.ref p,H',?_,Xb,z⟩⟩;exact j.turned (t':=s'.toks) (λb o hb e=>(f.2 b hb).trans e) a.1 a.2.1 a.2.2.2.1 a.2.2.2.2.1 a.2.2.2.2.2
theorem V0{i:Nat}{y:GJ}{f c:E6}(W:X.N.Nodup)(r:X.N[i]?=Ga y)(M:X.env.scope.names.lookup y=Ga .local)(Y:X.calm=Ge)(S:Xx X.env.scope scope)(F:FV X scope fv)(hi:PI X tg iter wi)
  (hg:∀cl C fp s H,PG (ccx X (own++fv.map (·.2)) scope cl C fp s H) tg g)(ht:∀cl C fp s H,Qjy (ccx X (own++fv.map (·.2)) scope cl C fp s H) ifs tt)(Z:∀cl C fp s H,PE (ccx X (own++fv.map (·.2)) scope cl C fp s H) elt te)
  (E:swapsWith (.ListComp elt [⟨tg,iter,ifs,0⟩] scope pos) (Ga (.Name y f)) c.line X.env=pure Ge:=by rfl)
  (hs:∀x,foldedSetIterable iter X.env x=pure x:=by intro _;rfl):PS X (.Assign [.Name y f] (.ListComp elt [⟨tg,iter,ifs,0⟩] scope pos) c) (Qs9 (Qvu own.length fv wi g tt te) (V2 i)):=by
 intro pins s σ H D I h;rw[exec_Assign_Name_used _ _ _ _ E];obtain⟨cl,n,R,U⟩:=O0 S I;refine Gb (Sm (Gb ?_));show wpAny _ X.A (do let _<-comprehension (.ListComp elt [⟨tg,iter,ifs,0⟩] scope pos) scope X.env _ (newList []) Gp (eval iter X.env) (Ga (assign (.Name y f) X.env))) _ _ s;refine Gb (Dh (EM (use:=Ga (assign (.Name y f) X.env)) (Q:=λ_ s'=>SP X pins D .next s') rfl hs n S.kind S.loc (Yz (hi pins s σ H _ I h) λv s1 h1=>Yz h1 λaa s2 h2=>?_)) (λ_ s' u=>Gd (Gd u)) λ_ _ e=>e);obtain⟨it,fp,tn,J,H2,e,P,T,L,V,q⟩:=h2;subst e;refine Qdu (Q:=λx H1=>V2 i x σ H1 D.nx) (RR:=λacc C=>compPost (GO X.prog X.w) X.A X.xe (Ga (assign (.Name y f) X.env)) (λ_ s'=>SP X pins D .next s') acc C) Y S F R U hg ht Z P T L V q λp C H' s' O t d u=>?_;obtain⟨m,t⟩:=t;show wpAny _ X.A (assign (.Name y f) X.env (.ref p)) _ _ _;refine SE (Qew O W r (.inl M) (v:=.ref p) rfl (λG k K=>?_) (.inr M));obtain⟨a,K,j⟩:=K;have l:C≠a:=by
  rcases j with j|j
  ·rw[j];exact d.2.1
  ·exactλz=>d.2.2.2.2.1 y a j z.symm
 refine⟨m,t.sameBut K l,λh' B=>⟨_,H',?_,u⟩⟩;exact k.turned (t':=G.toks) (λb o hb e=>(B.2 b hb).trans e) d.1 d.2.1 d.2.2.2.1 d.2.2.2.2.1 d.2.2.2.2.2
end
theorem Uu{p:Gc}{g:TG}{te:TE}{Q:Hp->Prop}{d:St}{H0:Hp}(t:xs.length<=Gh)(Pv:Nat->List V->St->Hp->Prop)(o:Pv 0 [] d (upd H0 p (.lst [])))
  (r:∀i ys σ H,i<=xs.length->Pv i ys σ H->Q9 K H a xs)
  (s:∀i x ys σ H,xs[i]?=Ga x->ys.length=i->Pv i ys σ H->H p=Ga (.lst ys)->g x σ H λf H2=>te f H2 λv j=>j p=Ga (.lst ys)/\Pv (i+1) (ys++[v]) f (upd j p (.lst (ys++[v]))))
  (hd:∀ys σ H,ys.length=xs.length->Pv xs.length ys σ H->H p=Ga (.lst ys)->Q H):Qex p (Itt K a) g Que te Q d (upd H0 p (.lst [])):=by
 refine⟨λi m σ H=>m=xs.length - i/\i<=xs.length/\∃ys,ys.length=i/\Pv i ys σ H/\H p=Ga (.lst ys),⟨xs.length,by simp,Gx _,[],Xb,o,Qb⟩,?_⟩;rintro i m σ H ⟨rfl,hi,ys,h,pv,k⟩;have q:=r i ys σ H hi pv;by_cases b:i<xs.length
 ·refine .inr ⟨⟨xs,xs[i],q,by simp[b]⟩,λv c H'=>H' p=Ga (.lst ys)/\Pv (i+1) (ys++[v]) c (upd H' p (.lst (ys++[v]))),λ_ _=>False,λv c H'⟨l,n⟩=>⟨ys,l,by omega,xs.length - (i+1),by omega,Xb,b,ys++[v],by simp[h],n,Qb⟩,λ_ _ z=>z.elim,λx H' y=>?_⟩;obtain⟨e,y⟩:=y;subst e;exact s i x ys σ _ (y xs q) h pv k
 ·have e:i=xs.length:=by omega
  subst e;exact .inl ⟨⟨xs,q,Gn _⟩,hd ys σ H h pv k⟩
theorem Ip{p:Gc}{g:TG}{te:TE}{Q:Hp->Prop}{d:St}{H0:Hp}(t:xs.length<=Gh)(Pv:Nat->List V->St->Hp->Prop)(o:Pv 0 [] d (upd H0 p (.lst [])))
  (r:∀i ys σ H,i<=xs.length->Pv i ys σ H->Zc K H a xs)
  (s:∀i x ys σ H,xs[i]?=Ga x->ys.length=i->Pv i ys σ H->H p=Ga (.lst ys)->g x σ H λf H2=>te f H2 λv j=>j p=Ga (.lst ys)/\Pv (i+1) (ys++[v]) f (upd j p (.lst (ys++[v]))))
  (hd:∀ys σ H,ys.length=xs.length->Pv xs.length ys σ H->H p=Ga (.lst ys)->Q H):Qex p (Itl K a) g Que te Q d (upd H0 p (.lst [])):=by
 refine⟨λi m σ H=>m=xs.length - i/\i<=xs.length/\∃ys,ys.length=i/\Pv i ys σ H/\H p=Ga (.lst ys),⟨xs.length,by simp,Gx _,[],Xb,o,Qb⟩,?_⟩;rintro i m σ H ⟨rfl,hi,ys,h,pv,k⟩;have q:=r i ys σ H hi pv;by_cases b:i<xs.length
 ·refine .inr ⟨⟨xs,xs[i],q,by simp[b]⟩,λv c H'=>H' p=Ga (.lst ys)/\Pv (i+1) (ys++[v]) c (upd H' p (.lst (ys++[v]))),λ_ _=>False,λv c H'⟨l,n⟩=>⟨ys,l,by omega,xs.length - (i+1),by omega,Xb,b,ys++[v],by simp[h],n,Qb⟩,λ_ _ z=>z.elim,λx H' y=>?_⟩;obtain⟨e,y⟩:=y;subst e;exact s i x ys σ _ (y xs q) h pv k
 ·have e:i=xs.length:=by omega
  subst e;exact .inl ⟨⟨xs,q,Gn _⟩,hd ys σ H h pv k⟩
mutual
inductive Dt(H:Hp):V->DD->Prop
 |non:Dt H .non .none
 |bl (b:Bool):Dt H (.bl b) (.bool b)
 |int (i:Int):Dt H (.int i) (.int i)
 |str (x:GJ):Dt H (.str x) (.str x)
 |lst {a:Gc} {xs:List V} {ds:List DD}:H a=Ga (.lst xs)->Dts H xs ds->Dt H (.ref a) (.list ds)
 |tup {a:Gc} {xs:List V} {ds:List DD}:H a=Ga (.tup xs)->Dts H xs ds->Dt H (.ref a) (.tuple ds)
inductive Dts(H:Hp):List V->List DD->Prop
 |nil:Dts H [] []
 |cons {x:V} {xs:List V} {d:DD} {ds:List DD}:Dt H x d->Dts H xs ds->Dts H (x::xs) (d::ds)
end
mutual
theorem Dt.same{H H':Hp}(e:Q5 H H'):∀{v:V}{d:DD},Dt H v d->Dt H' v d
 |_,_,.non=>.non
 |_,_,.bl b=>.bl b
 |_,_,.int i=>.int i
 |_,_,.str x=>.str x
 |_,_,.lst h t=>.lst (e _ _ h) (Dts.same e t)
 |_,_,.tup h t=>.tup (e _ _ h) (Dts.same e t)
theorem Dts.same{H H':Hp}(e:Q5 H H'):∀{xs:List V}{ds:List DD},Dts H xs ds->Dts H' xs ds
 |_,_,.nil=>.nil
 |_,_,.cons h t=>.cons (Dt.same e h) (Dts.same e t)
end
theorem Dts.length{H:Hp}:∀{xs:List V}{ds:List DD},Dts H xs ds->xs.length=ds.length
 |_,_,.nil=>rfl
 |_,_,.cons _ t=>by rw[List.length_cons,List.length_cons,t.length]
mutual
theorem Dt.reads{P:Gj}{w:Gu}{H:Hp}{h:Heap}(ok:Rf P w H h):∀{v:V}{d:DD}{u:Value},Dt H v d->RelV v u->∃c,Sn h u d c
 |_,_,u,.non,r=>⟨[],by cases(show u=Value.none from r);exact .none⟩
 |_,_,u,.bl b,r=>⟨[],by cases(show u=Value.bool b from r);exact .bool b⟩
 |_,_,u,.int i,r=>⟨[],by obtain⟨t,e⟩:=(show∃t,u=Value.int i t from r);cases e;exact .int i t⟩
 |_,_,u,.str x,r=>⟨[],by obtain⟨t,e⟩:=(show∃t,u=Value.str x t from r);cases e;exact .str x t⟩
 |_,_,u,.lst (a:=a) (xs:=xs) e t,r=>by obtain⟨_,its,n,rv,f⟩:=(show Yk P w H h a (.lst xs)from ok a _ e);obtain⟨c,g⟩:=Dts.reads ok t rv;cases(show u=Value.ref a from r);exact⟨a::c,.list f rfl rfl (by simpa using g)⟩
 |_,_,u,.tup (a:=a) (xs:=xs) e t,r=>by obtain⟨_,its,rv,o,f,j,n,hd⟩:=(show Yk P w H h a (.tup xs)from ok a _ e);obtain⟨c,g⟩:=Dts.reads ok t rv;cases(show u=Value.ref a from r);exact⟨c,.tuple f j hd (by simpa using g)⟩
theorem Dts.reads{P:Gj}{w:Gu}{H:Hp}{h:Heap}(ok:Rf P w H h):∀{xs:List V}{ds:List DD}{us:List Value},Dts H xs ds->Z0 xs us->∃a,Ek h us ds a
 |_,_,_,.nil,.nil=>⟨[],.nil⟩
 |_,_,_,.cons d t,.cons r e=>by obtain⟨a,b⟩:=Dt.reads ok d r;obtain⟨bs,c⟩:=Dts.reads ok t e;exact⟨a++bs,.cons b c⟩
end
def Qnv(f:Bool->Bool):R2:=λx y H Q=>∃dx a,Dt H x dx/\Dt H y a/\dx.canLay0=Ge/\a.canLay0=Ge/\min dx.depth a.depth<=64/\Q (.bl (f (GX dx a))) H
def Qrm(f:Bool->Bool):R2:=λx y H Q=>∃dx ds,Dt H x dx/\Dt H y (.list ds)/\dx.canLay0=Ge/\Gw ds=Ge/\min (Tj ds) dx.depth<=63/\Q (.bl (f (ds.any λd=>GX d dx))) H
section
variable{X:Cx}
theorem Uk(l:X.A.units+64<Dg):Rz X (TU .Eq) (Qnv λb=>b):=by intro pins s σ H x y v u Q I f g h;obtain⟨dx,j,h1,h2,a,c,k,q⟩:=h;obtain⟨i,d⟩:=h1.reads I.Z4 f;obtain⟨bs,e⟩:=h2.reads I.Z4 g;exact PySem.SeqAt.compareEq_reads d e a c (by omega) ⟨.bl _,H,I,Xb,q⟩
theorem Qan(l:X.A.units+64<Dg):Rz X (TU .NotEq) (Qnv λb=>!b):=by intro pins s σ H x y v u Q I f g h;obtain⟨dx,j,h1,h2,a,c,k,q⟩:=h;obtain⟨i,d⟩:=h1.reads I.Z4 f;obtain⟨bs,e⟩:=h2.reads I.Z4 g;exact PySem.SeqAt.compareNe_reads d e a c (by omega) ⟨.bl _,H,I,Xb,q⟩
theorem Qxx(k:X.A.units+64<Dg):Rz X (TU .In) (Qrm λb=>b):=by intro pins s σ H x y v u Q I f g h;obtain⟨dx,ds,h1,h2,a,c,j,q⟩:=h;obtain⟨i,d⟩:=h1.reads I.Z4 f;obtain⟨bs,e⟩:=h2.reads I.Z4 g;exact PySem.SeqAt.in_list_reads e d c a (by omega) ⟨.bl _,H,I,Xb,q⟩
theorem Qno(k:X.A.units+64<Dg):Rz X (TU .NotIn) (Qrm λb=>!b):=by intro pins s σ H x y v u Q I f g h;obtain⟨dx,ds,h1,h2,a,c,j,q⟩:=h;obtain⟨i,d⟩:=h1.reads I.Z4 f;obtain⟨bs,e⟩:=h2.reads I.Z4 g;exact PySem.SeqAt.notIn_list_reads e d c a (by omega) ⟨.bl _,H,I,Xb,q⟩
def Q1r(K:PySem.W.Frag):List V->Hp->VK->Prop:=λxs H Q=>∃x n t b,xs=[x,.ty n]/\Oz K H x t/\PySem.W.kitOne K t (.type n)=Ga b/\Q (.bl b) H
theorem Yw:V1 X (.builtin "isinstance") (Q1r X.K):=by intro pins s σ H xs us Q I r h;obtain⟨x,n,t,b,rfl,ty,e,q⟩:=h;obtain⟨u,d,rfl,a,c⟩:=vals2 r;cases(show d=Value.type n from c);exact Qod I a ty e λtk=>⟨.bl b,H,I.tok tk,Xb,q⟩
end
theorem Qdk:PySem.W.kitOne K (.type "list") (.type "list")=Ga Ge:=by rfl
theorem Rx:PySem.W.kitOne K (.type "tuple") (.type "tuple")=Ga Ge:=by rfl
theorem O8:PySem.W.kitOne K (.type "str") (.type "str")=Ga Ge:=by rfl
theorem Qaf:PySem.W.kitOne K (.type "int") (.type "bool")=Ga Gp:=by kernel_rfl
theorem O4:PySem.W.kitOne K (.type "int") (.type "int")=Ga Ge:=by rfl
end L2
namespace PySem
section
variable{prog:Gj}{w:Gu}{A:Tz}{E:Value->Gi->Prop}{s:Gi}
open PyProof.Rows
def Heap.Qj8(h:Heap)(a l:Gc)(i:Int):Prop:=∃o,h.get? a=Ga o/\o.cls=.type "reversed"/\o.data=.fields #[.ref l,rawInt i]
theorem Heap.Qj8.at{h h':Heap}{a l:Gc}{i:Int}(x:h.Qj8 a l i)(e:∀o,h.get? a=Ga o->h'.get? a=Ga o):h'.Qj8 a l i:=let⟨o,ho,r⟩:=x;⟨o,e _ ho,r⟩
end
section
variable{prog:Gj}{w:Gu}{K:Type}[DecidableEq K]{knd:L9 prog w K}{A:Tz}{E:Value->Gi->Prop}{s:Gi}
theorem V8{d a:Gc}{xs:List (K×Gc×Value)}{k:K}{dflt:Value}{Q:Value->Gi->Prop}(u:knd.room A)(b:knd.is s.heap k a)(B:s.heap.DictOfH knd d xs)
  (c:∀p,atKey xs k=Ga p->Q p.2 {s with toks:=s.toks+knd.draws k})
  (l:atKey xs k=Gf->∀h',h'.DictOfH knd d (xs++[(k,a,dflt)])->Heap.SameBut d s.heap h'->Q dflt {s with heap:=h',toks:=s.toks+knd.draws k})
  (hsz:xs.length<=Gh):
  wpAny (GO prog w) A (dictSetDefault d (.ref a) dflt) Q E s:=by
 obtain⟨o,es,ep,h,z,hd,q,i,r⟩:=B;unfold dictSetDefault;try with_reducible refine TL ?_
 refine Gb (knd.pyHash u b ?_);refine Gb (wpAny_dictFind_heap (s:={s with toks:=s.toks+knd.draws k}) u b h hd q i r ?_ ?_)
 ·intro m;have n:k∉xs.map (·.1):=not_mem_keys_of_get m;have g:=atKey_none_of_get m;refine Gb (Ee (Gb (wpAny_updateDictKeys (hz:=by have e:=size_of_entries q;omega) (s:={s with toks:=s.toks+knd.draws k}) h hd (Gd (l g _ ⟨_,_,ep+1,Heap.get?_update_self _ h (Obj.isFreed_of_dict (Sf hd _)),
   z.mapDictKeys _,Sf hd _,?_,?_,?_⟩ (Heap.SameBut.update ..))))))
  ·simp[q,entryOfKey]
  ·intro x f;rcases List.mem_append.mp f with f|f
   ·exact knd.keeps (i x f) h hd (Heap.SameBut.update ..)
   ·simp only[List.mem_singleton]at f;subst f;exact knd.keeps b h hd (Heap.SameBut.update ..)
  ·rw[List.map_append,List.nodup_append];refine⟨r,by simp,?_⟩;intro x f y v;simp only[List.map_cons,List.map_nil,List.mem_singleton]at v;subst v;exactλe=>n (e▸f)
 ·intro j p t;have g:=atKey_of_get r t;refine Gb (De (s:={s with toks:=s.toks+knd.draws k}) h hd ?_);rw[entry_at q j,t];exact Gb (Ee (Gd (c p g)))
theorem Wi(knd:L9 prog w K)(d a:Gc)(hd:(d==TV)=Gp)(dflt:Value):
  MeetsIn prog w (Builtin.«dict.setdefault» ⟨[.ref d,.ref a,dflt],[]⟩) (λA R s=>knd.room A.in1/\∃k xs,knd.is s.heap k a/\s.heap.DictOfH knd d xs/\xs.length<=Gh/\
   (∀p,atKey xs k=Ga p->R (.ok (.ret p.2)) {s with toks:=s.toks+knd.draws k})/\
   (atKey xs k=Gf->∀h',h'.DictOfH knd d (xs++[(k,a,dflt)])->Heap.SameBut d s.heap h'->R (.ok (.ret dflt)) {s with heap:=h',toks:=s.toks+knd.draws k})):=
 .of_wp λA R s⟨h,k,xs,b,f,hz,h1,h2⟩=>by unfold Builtin.«dict.setdefault»;refine Gb ?_;unfold Builtin.Dict.keyAndDefault;refine Gb (Ea f.typeIs ?_);show wpAny _ _ (pure (d,Value.ref a,Ga dflt)) _ _ s;refine Gd ?_;show wpAny _ _ (if(d==TV)=Ge then _ else(dictSetDefault d (.ref a) dflt>>=_)) _ _ s;rw[Gg (by rw[hd];exact Gv)];exact Gb (V8 h b f (λp i=>Gd ⟨p.2,Xb,h1 p i⟩) (λg h' c e=>Gd ⟨dflt,Xb,h2 g h' c e⟩) hz)
end
end PySem
namespace L2
open PySem PySem.Spec PyProof.Rows
section
variable{X:Cx}{tg:TJ}
def Qtr:V->List V->Hp->VK->Prop:=λx vs H Q=>∃d b a kvs k,x=.ref d/\vs=[.ref b,a]/\H d=Ga (.dT kvs)/\H b=Ga (.tup (k.map kV))/\kvs.length<Gh/\
 (∀v,Y9 kvs k=Ga v->Q v H)/\(Y9 kvs k=Gf->Q a (upd H d (.dT (kvs++[(k,a)]))))
theorem Qnh(G:X.A.units+1<Dg):MtR X "dict.setdefault" Qtr:=by
 intro pins s σ H x vs v us Q I N rv h;obtain⟨d,b,i,kvs,k,rfl,rfl,e,l,hz,K,L⟩:=h;cases(show v=Value.ref d from N);obtain⟨O,r,rfl,M,o⟩:=vals2 rv;cases(show O=Value.ref b from M);obtain⟨z,hd,xs,rel,j⟩:=Qv7 I.Z4 e;have J:kvs.length=xs.length:=Paired.length rel;refine E4 F.slot_dict_setdefault j.typeIs F.entry_dict_setdefault (F.args_dict_setdefault_3 _ _ _) (Wi (tupleKind (Yp X.prog X.w)) d b hd r) ⟨DM G,k,xs,Qaw I.Z4 l,j,by omega,λp D=>?_,λC h' g E=>?_⟩
 ·have a:=rel.val k;rw[D]at a;cases q:Y9 kvs k with
  |none=>rw[q]at a;exact(show False from a).elim
  |some y=>rw[q]at a;exact⟨y,H,I.tok _,a,K y q⟩
 ·have a:=rel.val k;rw[C]at a;cases q:Y9 kvs k with
  |some y=>rw[q]at a;exact(show False from a).elim
  |none=>obtain⟨ob,es,ep,n,h2,t,u,_,B⟩:=g;have f:KT H (kvs++[(k,i)]) (xs++[(k,b,r)]):=Paired.snoc rel ⟨Xb,l,o⟩;refine⟨i,_,Io (ob:=.dT (kvs++[(k,i)])) I (by rw[e];exact TW) E ⟨ob,n⟩ ⟨by rw[List.length_append,List.length_singleton];omega,hd,_,f.keeps λc ys m=>?_,ob,es,ep,n,h2,t,u,B⟩,o,L q⟩;rw[Qg (Zy m e nofun)];exact m
end
theorem Qf{H:Hp}{p:Gc}(h:H p=Gf)(o:HO):Q5 H (upd H p o):=λb u q=>by rw[Qg (Qd q h)];exact q
theorem nd1(x:GJ):[x].Nodup:=by simp
theorem small{n:Nat}(h:n<=16000000):n<=Gh:=by rw[Gy];omega
end L2
namespace Sb
open PySem
inductive Th where
 |mk (w:GJ) (ps:List Th)
mutual
def Th.size:Th->Nat
 |.mk _ ps=>Qx ps+1
def Qx:List Th->Nat
 |[]=>0
 |p::r=>p.size+Qx r
end
mutual
def Th.depth:Th->Nat
 |.mk _ ps=>Wo ps+1
def Wo:List Th->Nat
 |[]=>0
 |p::r=>max p.depth (Wo r)
end
mutual
def Th.inside:Th->List Th
 |.mk w ps=>Zt ps++[.mk w ps]
def Zt:List Th->List Th
 |[]=>[]
 |p::r=>p.inside++Zt r
end
mutual
def Th.toD:Th->DD
 |.mk w ps=>.tuple (.str w::X5 ps)
def X5:List Th->List DD
 |[]=>[]
 |p::r=>p.toD::X5 r
end
mutual
def Th.ok:Th->Bool
 |.mk w ps=>TC w&&okL ps
def okL:List Th->Bool
 |[]=>Ge
 |p::r=>p.ok&&okL r
end
def Rg(w:GJ):Bool:=TC w&&decide (w.length<=200)
theorem Rg.str{w:GJ}(h:Rg w=Ge):TC w=Ge:=(DS.mp h).1
theorem Rg.len{w:GJ}(h:Rg w=Ge):w.length<=200:=Tq (DS.mp h).2
mutual
def Th.short:Th->Bool
 |.mk w ps=>decide (w.length<=200)&&Qah ps
def Qah:List Th->Bool
 |[]=>Ge
 |p::r=>p.short&&Qah r
end
def Th.word:Th->GJ
 |.mk w _=>w
def Th.parts:Th->List Th
 |.mk _ ps=>ps
theorem Jh:∀ts:List Th,okL ts=ts.all Th.ok
 |[]=>by simp[okL]
 |t::r=>by simp[okL,Jh r]
mutual
theorem Qj1:∀t:Th,t.inside.length=t.size
 |.mk w ps=>by simp[Th.inside,Th.size,Ui ps]
theorem Ui:∀ts:List Th,(Zt ts).length=Qx ts
 |[]=>by simp[Zt,Qx]
 |p::r=>by simp[Zt,Qx,Qj1 p,Ui r]
end
theorem Ju(t:Th):1<=t.size:=by cases t;simp[Th.size]
theorem Qax(t:Th):1<=t.depth:=by cases t;simp[Th.depth]
theorem Qd8:∀{ts:List Th}{t:Th},t∈ts->t.size<=Qx ts
 |p::r,t,h=>by
  rcases List.mem_cons.mp h with rfl|h
  ·simp[Qx]
  ·have:=Qd8 h;simp only[Qx];omega
theorem W5:∀{ts:List Th}{t:Th},t∈ts->t.depth<=Wo ts
 |p::r,t,h=>by
  rcases List.mem_cons.mp h with rfl|h
  ·simp only[Wo];omega
  ·have:=W5 h;simp only[Wo];omega
theorem Zd:∀ts:List Th,ts.length<=Qx ts
 |[]=>by simp[Qx]
 |p::r=>by have:=Ju p;have:=Zd r;simp only[Qx,List.length_cons];omega
mutual
theorem Qgw:∀(t:Th){s:Th},s∈t.inside->s.size<=t.size
 |.mk w ps,s,h=>by
  simp only[Th.inside,List.mem_append,List.mem_singleton]at h;rcases h with h|rfl
  ·have:=Oj ps h;simp only[Th.size];omega
  ·exact Gn _
theorem Oj:∀(ts:List Th){s:Th},s∈Zt ts->s.size<=Qx ts
 |p::r,s,h=>by
  simp only[Zt,List.mem_append]at h;rcases h with h|h
  ·have:=Qgw p h;simp only[Qx];omega
  ·have:=Oj r h;simp only[Qx];omega
 |[],s,h=>by simp[Zt]at h
end
theorem Qlu(t:Th):t∈t.inside:=by cases t;simp[Th.inside]
theorem Xs:∀ts:List Th,Zt ts=ts.flatMap Th.inside
 |[]=>by simp[Zt]
 |p::r=>by simp[Zt,Xs r]
theorem Qun{x y:GJ}:(x==y)=decide (x=y):=by
 by_cases h:x=y
 ·subst h;simp
 ·simp[h]
mutual
theorem Jj:∀s t:Th,GX s.toD t.toD=Ge↔s=t
 |.mk w ps,.mk v a=>by simp only[Th.toD,GX,Tg,Td,Th.mk.injEq];rw[Qgy ps a,Qun,decide_eq_true_iff]
theorem Qgy:∀a ts:List Th,Tg (X5 a) (X5 ts)=Ge↔a=ts
 |[],[]=>by simp[X5,Tg]
 |[],t::r=>by simp[X5,Tg]
 |s::r,[]=>by simp[X5,Tg]
 |s::r,t::q=>by simp only[X5,Tg,Td,List.cons.injEq];rw[Jj s t,Qgy r q]
end
instance:DecidableEq Th:=λs t=>if h:GX s.toD t.toD=Ge then .isTrue ((Jj s t).mp h)else .isFalse λe=>h ((Jj s t).mpr e)
theorem Qbx(s t:Th):GX s.toD t.toD=decide (s=t):=by
 by_cases h:s=t
 ·rw[Gr h];exact(Jj s t).mpr h
 ·rw[Gq h];exact EG.mpr λe=>h ((Jj s t).mp e)
mutual
theorem Wx:∀t:Th,t.ok=Ge->t.toD.canLay0=Ge
 |.mk w ps,h=>by simp only[Th.ok,Td]at h;simp only[Th.toD,GQ,Gw,Td];exact⟨h.1,Oe ps h.2⟩
theorem Oe:∀ts:List Th,okL ts=Ge->Gw (X5 ts)=Ge
 |[],_=>by simp[X5,Gw]
 |t::r,h=>by simp only[okL,Td]at h;simp only[X5,Gw,Td];exact⟨Wx t h.1,Oe r h.2⟩
end
mutual
theorem Xw:∀t:Th,t.toD.depth=t.depth
 |.mk w ps=>by simp only[Th.toD,TQ,Tj,Th.depth,Qcc ps];omega
theorem Qcc:∀ts:List Th,Tj (X5 ts)=Wo ts
 |[]=>by simp[X5,Tj,Wo]
 |t::r=>by simp[X5,Tj,Wo,Xw t,Qcc r]
end
def Xq(acc:List Th)(xs:List Th):List Th:=xs.foldl (λacc x=>if x∈acc then acc else acc++[x]) acc
theorem Ic(acc:List Th):Xq acc []=acc:=rfl
theorem Iq(acc:List Th)(x:Th)(r:List Th):Xq acc (x::r)=Xq (if x∈acc then acc else acc++[x]) r:=rfl
theorem Uh(acc xs ys:List Th):Xq acc (xs++ys)=Xq (Xq acc xs) ys:=by unfold Xq;rw[List.foldl_append]
theorem Qm8(acc xs:List Th)(y:Th):Xq acc (xs++[y])=if y∈Xq acc xs then Xq acc xs else Xq acc xs++[y]:=by rw[Uh];rfl
theorem Qch:∀(xs acc:List Th)(y:Th),y∈Xq acc xs↔y∈acc\/y∈xs
 |[],acc,y=>by simp[Ic]
 |x::r,acc,y=>by
  rw[Iq,Qch r];by_cases h:x∈acc
  ·rw[Gk h];constructor
   ·rintro(h1|h1)
    ·exact .inl h1
    ·exact .inr (List.mem_cons_of_mem _ h1)
   ·rintro(h1|h1)
    ·exact .inl h1
    ·rcases List.mem_cons.mp h1 with rfl|h1
     ·exact .inl h
     ·exact .inr h1
  ·rw[Gg h];simp only[List.mem_append,List.mem_cons,List.not_mem_nil,EB];constructor
   ·rintro((h1|h1)|h1)
    ·exact .inl h1
    ·exact .inr (.inl h1)
    ·exact .inr (.inr h1)
   ·rintro(h1|h1|h1)
    ·exact .inl (.inl h1)
    ·exact .inl (.inr h1)
    ·exact .inr h1
theorem Qec:∀(xs acc:List Th),(∀x∈xs,x∈acc)->Xq acc xs=acc
 |[],_,_=>rfl
 |x::r,acc,h=>by rw[Iq,Gk (h x List.mem_cons_self)];exact Qec r acc λy a=>h y (List.mem_cons_of_mem _ a)
theorem Qcg:∀(xs acc:List Th),(Xq acc xs).length<=acc.length+xs.length
 |[],acc=>by simp[Ic]
 |x::r,acc=>by
  rw[Iq];have:=Qcg r (if x∈acc then acc else acc++[x]);split at this
  ·rename_i h
   rw[Gk h];simp only[List.length_cons];omega
  ·rename_i h
   rw[Gg h];simp only[List.length_append,List.length_cons,List.length_nil]at this⊢;omega
def Vw(ts:List Th):Prop:=∀t∈ts,∀s∈t.inside,s∈ts
theorem Qi8:Vw []:=λ_ h=>by simp at h
theorem Qts{ts:List Th}{t:Th}(h:Vw ts)(a:t∈ts):Xq ts t.inside=ts:=Qec _ _ λx b=>h t a x b
theorem Vf:∀(xs acc:List Th),∃m,Xq acc xs=acc++m
 |[],acc=>⟨[],by simp[Ic]⟩
 |x::r,acc=>by
  rw[Iq];split
  ·exact Vf r acc
  ·obtain⟨m,e⟩:=Vf r (acc++[x]);exact⟨x::m,by rw[e];simp⟩
def Qc4(t:Th):List GJ:=t.word::t.parts.map Th.word
end Sb
namespace L2
open PySem PySem.Spec PyProof.Rows
theorem Qc5(x:V)(vs:List V):Uq (x::vs) (Ga 1) Gf=vs:=by
 have e:HT.Wh (x::vs).length 0 (Ga 1)=1:=by have q:=HT.Ir (x::vs).length 0 1;rw[List.length_cons]at q⊢;refine q.trans ?_;omega
 unfold Uq;rw[e,HT.R8];simp
theorem Wb(x:V)(vs:List V):¬(HT.Wh (x::vs).length 0 (Ga 1)=0/\HT.Wh (x::vs).length (x::vs).length Gf=(x::vs).length):=by
 have e:HT.Wh (x::vs).length 0 (Ga 1)=1:=by have q:=HT.Ir (x::vs).length 0 1;rw[List.length_cons]at q⊢;refine q.trans ?_;omega
 rw[e];rintro⟨h,_⟩;exact absurd h (by decide)
end L2
namespace Sb
open PySem PySem.Spec PyProof.Rows L2
variable{H H':Hp}{v:V}{t:Th}
mutual
inductive Zu(H:Hp):V->Th->Prop
 |mk {a:Gc} {w:GJ} {vs:List V} {ps:List Th}:H a=Ga (.tup (.str w::vs))->Zq H vs ps->Zu H (.ref a) (.mk w ps)
inductive Zq(H:Hp):List V->List Th->Prop
 |nil:Zq H [] []
 |cons {v:V} {vs:List V} {t:Th} {ts:List Th}:Zu H v t->Zq H vs ts->Zq H (v::vs) (t::ts)
end
def Q4(H H':Hp):Prop:=∀b xs,H b=Ga (.tup xs)->H' b=Ga (.tup xs)
theorem Q4.of(e:Q5 H H'):Q4 H H':=λb xs h=>e b _ h
theorem Q4.trans{H1 H2:Hp}(a:Q4 H H1)(b:Q4 H1 H2):Q4 H H2:=λc xs h=>b c xs (a c xs h)
theorem Zz{a:Gc}{o:HO}(h:∀xs,H a≠Ga (.tup xs)):Q4 H (upd H a o):=λb xs e=>by
 by_cases hb:b=a
 ·subst hb;exact absurd e (h xs)
 ·rw[Qg hb];exact e
mutual
theorem Zu.Qr{H H':Hp}(e:Q4 H H'):∀{v:V}{t:Th},Zu H v t->Zu H' v t
 |_,_,.mk h r=>.mk (e _ _ h) (Zq.Qr e r)
theorem Zq.Qr{H H':Hp}(e:Q4 H H'):∀{vs:List V}{ts:List Th},Zq H vs ts->Zq H' vs ts
 |_,_,.nil=>.nil
 |_,_,.cons h r=>.cons (Zu.Qr e h) (Zq.Qr e r)
end
theorem Zu.same(e:Q5 H H')(h:Zu H v t):Zu H' v t:=h.Qr (Q4.of e)
theorem Zq.same(e:Q5 H H'){vs:List V}{ts:List Th}(h:Zq H vs ts):Zq H' vs ts:=h.Qr (Q4.of e)
mutual
theorem Zu.dt{H:Hp}:∀{v:V}{t:Th},Zu H v t->Dt H v t.toD
 |_,_,.mk (w:=w) (ps:=ps) h r=>by
  have e:(Th.mk w ps).toD=.tuple (.str w::X5 ps):=by simp[Th.toD]
  rw[e];exact .tup h (.cons (.str w) (Zq.dts r))
theorem Zq.dts{H:Hp}:∀{vs:List V}{ts:List Th},Zq H vs ts->Dts H vs (X5 ts)
 |_,_,.nil=>by simp only[X5];exact .nil
 |_,_,.cons h r=>by simp only[X5];exact .cons (Zu.dt h) (Zq.dts r)
end
theorem Zu.inv(h:Zu H v t):∃a w vs ps,v=.ref a/\t=.mk w ps/\H a=Ga (.tup (.str w::vs))/\Zq H vs ps:=by
 cases h with
 |mk h r=>exact⟨_,_,_,_,Xb,Xb,h,r⟩
theorem Zq.length{H:Hp}:∀{vs:List V}{ts:List Th},Zq H vs ts->vs.length=ts.length
 |_,_,.nil=>rfl
 |_,_,.cons _ t=>by rw[List.length_cons,List.length_cons,t.length]
theorem Zq.append{H:Hp}:∀{vs us:List V}{ts a:List Th},Zq H vs ts->Zq H us a->Zq H (vs++us) (ts++a)
 |_,_,_,_,.nil,t=>t
 |_,_,_,_,.cons h r,t=>.cons h (r.append t)
theorem Zq.one(h:Zu H v t):Zq H [v] [t]:=.cons h .nil
theorem Zq.get{H:Hp}:∀{vs:List V}{ts:List Th}{i:Nat}{v:V},Zq H vs ts->vs[i]?=Ga v->∃t,ts[i]?=Ga t/\Zu H v t
 |_,_,_,_,.nil,e=>by simp at e
 |_,_,0,_,.cons h _,e=>by simp at e;subst e;exact⟨_,Xb,h⟩
 |_,_,i+1,_,.cons _ t,e=>by obtain⟨d,h1,h2⟩:=Zq.get (i:=i) t (by simpa using e);exact⟨d,by simpa using h1,h2⟩
theorem Zq.at{H:Hp}{vs:List V}{ts:List Th}{i:Nat}{t:Th}(h:Zq H vs ts)(e:ts[i]?=Ga t):∃v,vs[i]?=Ga v/\Zu H v t:=by
 have hi:i<ts.length:=(List.getElem?_eq_some_iff.mp e).1;have a:i<vs.length:=by rw[h.length];exact hi
 obtain⟨t',h1,h2⟩:=h.get (List.getElem?_eq_getElem a);rw[e]at h1;cases h1;exact⟨_,List.getElem?_eq_getElem a,h2⟩
theorem Jw:∀(ts:List Th)(n:Nat),(∀t∈ts,t.size<=n)->Qx ts<=ts.length*n
 |[],n,_=>by simp[Qx]
 |t::r,n,h=>by have h1:=h t List.mem_cons_self;have h2:=Jw r n λs a=>h s (List.mem_cons_of_mem _ a);simp only[Qx,List.length_cons];rw[DK];omega
structure Drawn(ts:List Th)(m:Nat):Prop where
 len:ts.length=3+m
 ok:∀t∈ts,t.ok=Ge
 dep:∀(j:Nat)t,ts[j]?=Ga t->t.depth<=j+1
 one:∀(j:Nat)t,ts[j]?=Ga t->j<=2->t.size<=1
 two:∀(j:Nat)t,ts[j]?=Ga t->j<=3->t.size<=4
 tri:∀(j:Nat)t,ts[j]?=Ga t->j<=4->t.size<=10
 any:∀(j:Nat)t,ts[j]?=Ga t->t.size<=12*j+1
 sh:∀t∈ts,t.short=Ge
 tab:ts[1]?=Ga (.mk "tab" [])
 cl:∀t∈ts,∀p∈t.parts,p∈ts
def Qmr(K:PySem.W.Frag):Sp:=λvs H Q _=>∃(a:Gc)(ns:List Int),vs=[.ref a]/\Zc K H a (ns.map V.int)/\ns.length<=63/\
 ∀(r:Gc)(us:List V)(ts:List Th)(H':Hp),Q5 H H'->H r=Gf->H' r=Ga (.lst us)->Zq H' us ts->Drawn ts ns.length->Q (.ref r) H'
def Qrc:Sp:=λvs H Q _=>∃(n:Int),vs=[.int n]/\∀(x:GJ),Rg x=Ge->Q (.str x) H
def Ql9(K:PySem.W.Frag):Sp:=λvs H Q _=>∃(a:Gc)(ns:List Int),vs=[.ref a]/\Zc K H a (ns.map V.int)/\ns.length<=63/\∀H',Q (.bl Ge) H'
end Sb
namespace L2
open PySem PySem.Spec PyProof.Rows
inductive KD where
 |int (i:Int)
 |str (x:GJ)
 |tup (xs:List KD)
mutual
def KD.toD:KD->DD
 |.int i=>.int i
 |.str x=>.str x
 |.tup xs=>.tuple (Um xs)
def Um:List KD->List DD
 |[]=>[]
 |x::r=>x.toD::Um r
end
mutual
def KD.depth:KD->Nat
 |.int _=>0
 |.str _=>0
 |.tup xs=>J2 xs+1
def J2:List KD->Nat
 |[]=>0
 |x::r=>max x.depth (J2 r)
end
mutual
def KD.hash(w:Gu):KD->Int
 |.int i=>hashInt i
 |.str x=>hashStr w x
 |.tup xs=>reduceHash (Builtin.Tuple.tupleHashOf (Vs w xs))
def Vs(w:Gu):List KD->List Int
 |[]=>[]
 |x::r=>x.hash w::Vs w r
end
mutual
def KD.draws:KD->Nat
 |.int _=>1
 |.str _=>1
 |.tup xs=>Xy xs+1
def Xy:List KD->Nat
 |[]=>0
 |x::r=>x.draws+Xy r
end
theorem Qve:∀xs:List KD,Um xs=xs.map KD.toD
 |[]=>by simp[Um]
 |x::r=>by simp[Um,Qve r]
theorem Qcs(w:Gu):∀xs:List KD,Vs w xs=xs.map (KD.hash w)
 |[]=>by simp[Vs]
 |x::r=>by simp[Vs,Qcs w r]
theorem J9:∀xs ys:List KD,Xy (xs++ys)=Xy xs+Xy ys
 |[],ys=>by simp[Xy]
 |x::r,ys=>by simp only[List.cons_append,Xy,J9 r ys];omega
theorem O7:∀{xs:List KD}{x:KD},x∈xs->x.depth<=J2 xs
 |y::r,x,h=>by
  simp only[J2];rcases List.mem_cons.mp h with rfl|h
  ·omega
  ·have:=O7 h;omega
mutual
theorem Qcu:∀a b:KD,GX a.toD b.toD=Ge↔a=b
 |.int i,.int j=>by simp[KD.toD,GX]
 |.int i,.str y=>by simp[KD.toD,GX]
 |.int i,.tup ys=>by simp[KD.toD,GX]
 |.str x,.int j=>by simp[KD.toD,GX]
 |.str x,.str y=>by simp[KD.toD,GX]
 |.str x,.tup ys=>by simp[KD.toD,GX]
 |.tup xs,.int j=>by simp[KD.toD,GX]
 |.tup xs,.str y=>by simp[KD.toD,GX]
 |.tup xs,.tup ys=>by simp only[KD.toD,GX,KD.tup.injEq];exact Qmc xs ys
theorem Qmc:∀xs ys:List KD,Tg (Um xs) (Um ys)=Ge↔xs=ys
 |[],[]=>by simp[Um,Tg]
 |[],_::_=>by simp[Um,Tg]
 |_::_,[]=>by simp[Um,Tg]
 |x::r,y::q=>by simp only[Um,Tg,Td,List.cons.injEq];rw[Qcu x y,Qmc r q]
end
instance:DecidableEq KD:=λa b=>if h:GX a.toD b.toD=Ge then .isTrue ((Qcu a b).mp h)else .isFalse λe=>h ((Qcu a b).mpr e)
theorem Qj2(a b:KD):GX a.toD b.toD=decide (a=b):=by
 by_cases h:a=b
 ·rw[Gr h];exact(Qcu a b).mpr h
 ·rw[Gq h];exact EG.mpr λe=>h ((Qcu a b).mp e)
mutual
theorem Oi:∀a:KD,a.toD.depth=a.depth
 |.int _=>by simp[KD.toD,TQ,KD.depth]
 |.str _=>by simp[KD.toD,TQ,KD.depth]
 |.tup xs=>by simp only[KD.toD,TQ,KD.depth,Qei xs]
theorem Qei:∀xs:List KD,Tj (Um xs)=J2 xs
 |[]=>by simp[Um,Tj,J2]
 |x::r=>by simp only[Um,Tj,J2,Oi x,Qei r]
end
theorem Im{h:Heap}{v:Value}{xs:List DD}{b:List Gc}(r:Sn h v (.tuple xs) b):∃a o vs n,v=.ref a/\h.get? a=Ga o/\o.cls=.type "tuple"/\o.data=.seq vs n/\Ek h vs.toList xs b:=by
 cases r with
 |tuple h1 h2 c d=>exact⟨_,_,_,_,Xb,h1,h2,c,d⟩
mutual
theorem Qeu{h h':Heap}{d:Gc}{o:DJ}{es:Array DO}{ep:Nat}(f:h.get? d=Ga o)(hd:o.data=.dict es ep)(g:Heap.SameBut d h h'):∀{v:Value}{x:DD}{k:List Gc},Sn h v x k->x.canLay0=Ge->Sn h' v x k
 |_,_,_,.none,_=>.none
 |_,_,_,.bool b,_=>.bool b
 |_,_,_,.int i t,_=>.int i t
 |_,_,_,.str x t,_=>.str x t
 |_,_,_,.list (a:=a) h1 h2 c j,e=>by simp only[GQ]at e;refine .list ((g.2 a ?_).trans h1) h2 c (Jd f hd g j e);rintro rfl;rw[f]at h1;cases h1;rw[hd]at c;cases c
 |_,_,_,.tuple (a:=a) h1 h2 c j,e=>by simp only[GQ]at e;refine .tuple ((g.2 a ?_).trans h1) h2 c (Jd f hd g j e);rintro rfl;rw[f]at h1;cases h1;rw[hd]at c;cases c
 |_,_,_,.dict _ _ _ _ _,e=>by simp[GQ]at e
theorem Jd{h h':Heap}{d:Gc}{o:DJ}{es:Array DO}{ep:Nat}(c:h.get? d=Ga o)(hd:o.data=.dict es ep)(e:Heap.SameBut d h h'):∀{vs:List Value}{xs:List DD}{b:List Gc},Ek h vs xs b->Gw xs=Ge->Ek h' vs xs b
 |_,_,_,.nil,_=>.nil
 |_,_,_,.cons h1 h2,a=>by simp only[Gw,Td]at a;exact .cons (Qeu c hd e h1 a.1) (Jd c hd e h2 a.2)
end
mutual
theorem Qd9{h:Heap}:∀(a b:KD){v:Value}{f bs:List Gc},Sn h v a.toD f->Sn h v b.toD bs->a=b
 |.int i,.int j,_,_,_,r,q=>by simp only[KD.toD]at r q;cases r;cases q;rfl
 |.int i,.str y,_,_,_,r,q=>by simp only[KD.toD]at r q;cases r;cases q
 |.int i,.tup ys,_,_,_,r,q=>by simp only[KD.toD]at r q;cases r;cases q
 |.str x,.int j,_,_,_,r,q=>by simp only[KD.toD]at r q;cases r;cases q
 |.str x,.str y,_,_,_,r,q=>by simp only[KD.toD]at r q;cases r;cases q;rfl
 |.str x,.tup ys,_,_,_,r,q=>by simp only[KD.toD]at r q;cases r;cases q
 |.tup xs,.int j,_,_,_,r,q=>by simp only[KD.toD]at r q;cases q;cases r
 |.tup xs,.str y,_,_,_,r,q=>by simp only[KD.toD]at r q;cases q;cases r
 |.tup xs,.tup ys,_,_,_,r,q=>by simp only[KD.toD]at r q;obtain⟨a,o,vs,n,rfl,h1,h2,g,k⟩:=Im r;obtain⟨p,o',m,t,e,c,s,d,l⟩:=Im q;cases e;rw[h1]at c;cases c;rw[g]at d;cases d;rw[Ow xs ys k l]
theorem Ow{h:Heap}:∀(xs ys:List KD){vs:List Value}{b bs:List Gc},Ek h vs (Um xs) b->Ek h vs (Um ys) bs->xs=ys
 |[],[],_,_,_,_,_=>rfl
 |[],y::q,_,_,_,r,t=>by simp only[Um]at r t;cases r;cases t
 |x::a,[],_,_,_,r,t=>by simp only[Um]at r t;cases t;cases r
 |x::a,y::q,_,_,_,r,t=>by
  simp only[Um]at r t;cases r with
  |cons h1 h2=>
   cases t with
   |cons c d=>rw[Qd9 x y h1 c,Ow a q h2 d]
end
section
variable{prog:Gj}{w:Gu}
mutual
theorem Qer:∀(k:KD){A:Tz}{E:Value->Gi->Prop}{s:Gi}{v:Value}{j:List Gc}{Q:Int->Gi->Prop},A.units+k.depth<Dg->Sn s.heap v k.toD j->Q (k.hash w) {s with toks:=s.toks+k.draws}->
  wpAny (GO prog w) A (pyHash v) Q E s
 |.int i,A,E,s,v,j,Q,_,r,h=>by simp only[KD.toD]at r;cases r;simp only[KD.hash,KD.draws]at h;exact SU h
 |.str x,A,E,s,v,j,Q,_,r,h=>by simp only[KD.toD]at r;cases r;simp only[KD.hash,KD.draws]at h;exact SV h
 |.tup xs,A,E,s,v,j,Q,D,r,h=>by
  simp only[KD.toD]at r;simp only[KD.depth]at D;simp only[KD.hash,KD.draws]at h;obtain⟨a,o,u,n,rfl,z,C,hd,hi⟩:=Im r;have p:s.TypeIs (.ref a) "tuple":=⟨o,z,C⟩;have m:=λ(k:KD)(y:k∈xs)=>@Qdf xs k y;unfold pyHash;first|unfold pyHashByItsType|skip
  first|refine Gb (wpAny_cRoomFor_or (.inr (by omega)) ?_)|skip
  refine Gb (Do p F.slot_tuple_hash.lookup ?_);show wpAny _ _ (if(Ga (Value.builtin "tuple.__hash__")==Ga Value.none)=Ge then _ else _) Q E s;rw[Gg (by rw[beq_builtin_none];exact Gv)];refine Gb (Do p F.slot_tuple_hash.lookup ?_);show wpAny _ _ (callSpecialIfBoundUnlessNone? (.ref a) "__hash__" _>>=_) Q E s;refine Gb (wpAny_callSpecialIfBoundUnlessNone?_slot p F.slot_tuple_hash (To F.slot_tuple_hash p F.entry_tuple_hash ?_ (F.args_tuple_hash_1 _)));show wpAny _ _ (Builtin.Tuple.tupleItemsOf (.ref a)>>=_) _ _ s;refine Gb (wpAny_tupleItemsOf z hd ?_);refine Gb ?_;rw[<-D0];refine Lc _
   (λX8(b:Array Int)s'=>∃done left f,xs=done++left/\Ek s.heap X8 (Um left) f/\b.toList=Vs w done/\s'={s with toks:=s.toks+Xy done})
   _ ?_ ?_ _ _ ⟨[],xs,j,Xb,hi,Xb,Xb⟩
  ·rintro x X8 b s' ⟨done,left,f,rfl,g,hb,rfl⟩;cases left with
   |nil=>simp only[Um]at g;cases g
   |cons k e=>
    simp only[Um]at g;cases g with
    |cons h1 t=>
     have y:=O7 (xs:=done++k::e) (x:=k) (by simp);refine Gb (m k (by simp) (A:=A.in1) (s:={s with toks:=s.toks+Xy done}) (by show A.units+1+k.depth<Dg;omega) h1 ?_);have B:s.toks+Xy done+k.draws=s.toks+Xy (done++[k]):=by rw[J9];simp only[Xy];omega
     have fin:∃c d l,done++k::e=c++d/\Ek s.heap X8 (Um d) l/\(b.push (k.hash w)).toList=Vs w c/\({s with toks:=s.toks+Xy done+k.draws}:Gi)={s with toks:=s.toks+Xy c}:=
      ⟨done++[k],e,_,by simp,t,by simp[hb,Qcs],by rw[B]⟩
     first
      |exact Gd fin
      |exact Gb (Gd (Gd fin))
  ·rintro b s' ⟨done,left,f,rfl,g,hb,rfl⟩;cases left with
   |cons k e=>simp only[Um]at g;cases g
   |nil=>
    rw[List.append_nil]at h;show wpAny _ _ (retInt (Builtin.Tuple.tupleHashOf b.toList)) _ _ _;rw[hb];refine Lj ?_;show wpAny _ _ (if(decide (-(2:Int)^63<=Builtin.Tuple.tupleHashOf (Vs w done))&&decide (Builtin.Tuple.tupleHashOf (Vs w done)<2^63))=Ge then _ else _) Q E _;unfold reduceHash at h;by_cases q:(decide (-(2:Int)^63<=Builtin.Tuple.tupleHashOf (Vs w done))&&decide (Builtin.Tuple.tupleHashOf (Vs w done)<2^63))=Ge
    ·rw[Gk q];rw[Gk q]at h;exact Gd (by simpa[LF]using h)
    ·rw[Gg q];rw[Gg q]at h;exact Gb (Ee (Gd (by simpa[LF]using h)))
theorem Qdf:∀(xs:List KD)(k:KD),k∈xs->∀{A:Tz}{E:Value->Gi->Prop}{s:Gi}{v:Value}{b:List Gc}{Q:Int->Gi->Prop},A.units+k.depth<Dg->Sn s.heap v k.toD b->Q (k.hash w) {s with toks:=s.toks+k.draws}->
  wpAny (GO prog w) A (pyHash v) Q E s
 |[],_,h=>by simp at h
 |x::r,k,h=>by
  intro h1 h2 a;by_cases e:k=x
  ·rw[e]at h1 h2 a;exact Qer x h1 h2 a
  ·exact Qdf r k ((List.mem_cons.mp h).resolve_left e) h1 h2 a
end
mutual
theorem Qhp:∀(k:KD)(n:Nat){A:Tz}{E:Value->Gi->Prop}{s:Gi}{v:Value}{d:List Gc}{Q:Bool->Gi->Prop},k.depth<=n->Sn s.heap v k.toD d->Q Ge s->wpAny (GO prog w) A (eqIsQuiet n v) Q E s
 |.int i,n,A,E,s,v,d,Q,_,r,h=>by simp only[KD.toD]at r;cases r;rw[SN n rfl];exact Gd h
 |.str x,n,A,E,s,v,d,Q,_,r,h=>by simp only[KD.toD]at r;cases r;rw[SN n rfl];exact Gd h
 |.tup xs,0,A,E,s,v,d,Q,l,r,h=>by simp[KD.depth]at l
 |.tup xs,n+1,A,E,s,v,d,Q,l,r,h=>by
  simp only[KD.toD]at r;simp only[KD.depth]at l;obtain⟨a,o,c,m,rfl,y,B,hd,hi⟩:=Im r;have t:s.TypeIs (.ref a) "tuple":=⟨o,y,B⟩;have f:=λ(k:KD)(u:k∈xs)(n:Nat)=>@Qe7 xs k u n;unfold eqIsQuiet;refine Gb (Do t F.slot_tuple_eq.lookup ?_);show wpAny _ _ (isInstance (.ref a) (.type "tuple")>>=_) _ _ s;refine Gb (DW t isSubtype_tuple_tuple ?_);simp only[LG,Tu,T8];refine Gb (TY y hd ?_);refine Gb ?_;show wpAny _ _ (forIn c _ _) _ _ s;rw[<-D0];refine Lc _ (λX8 r s'=>r.1=Gf/\s'=s/\∃left e,(∀k∈left,k∈xs)/\Ek s.heap X8 (Um left) e) _ ?_ ?_ _ _ ⟨Xb,Xb,xs,d,λ_ z=>z,hi⟩
  ·rintro v X8 r s' ⟨p,rfl,left,e,b,g⟩;cases left with
   |nil=>simp only[Um]at g;cases g
   |cons k q=>
    simp only[Um]at g;cases g with
    |cons h1 j=>have u:=O7 (b k (by simp));refine Gb (f k (b k (by simp)) n (by omega) h1 ?_);simp only[LG,Tu,T8];exact Gd ⟨Xb,Xb,q,_,λz hz=>b z (List.mem_cons_of_mem _ hz),j⟩
  ·rintro⟨C,D⟩ s' ⟨p,rfl,_⟩;simp only at p;subst p;exact Gd h
theorem Qe7:∀(xs:List KD)(k:KD),k∈xs->∀(n:Nat){A:Tz}{E:Value->Gi->Prop}{s:Gi}{v:Value}{b:List Gc}{Q:Bool->Gi->Prop},k.depth<=n->Sn s.heap v k.toD b->Q Ge s->wpAny (GO prog w) A (eqIsQuiet n v) Q E s
 |[],_,h=>by simp at h
 |x::r,k,h=>by
  intro n _ _ _ _ _ _ h1 h2 a;by_cases e:k=x
  ·rw[e]at h1 h2;exact Qhp x n h1 h2 a
  ·exact Qe7 r k ((List.mem_cons.mp h).resolve_left e) n h1 h2 a
end
def Vc(prog:Gj)(w:Gu):L9 prog w KD where
 is:=λh k a=>(∃c,Sn h (.ref a) k.toD c)/\k.toD.canLay0=Ge/\k.depth<=8
 hash:=KD.hash w
 draws:=KD.draws
 room:=λA=>A.units+10<Dg
 inj:=λ⟨⟨_,h1⟩,_⟩⟨⟨_,h2⟩,_⟩=>Qd9 _ _ h1 h2
 keeps:=λ⟨⟨c,h1⟩,h2,d⟩e hd f=>⟨⟨c,Qeu e hd f h1 h2⟩,h2,d⟩
 pyHash:=λ{A E s k a Q}g⟨⟨c,h1⟩,_,d⟩h=>Qer k (by omega) h1 h
 eqBool:=λ{A E s x y a b Q}g⟨⟨c,h1⟩,h2,d⟩⟨⟨bs,i⟩,j,l⟩h=>PySem.SeqAt.eqAt_reads x.toD y.toD A s _ _ _ _ h1 i h2 j (by rw[Oi,Oi];omega) prog w E Q (by rw[Qj2];exact h)
 quiet:=λ{A E s k a Q}⟨⟨c,h1⟩,_,d⟩h=>Qhp k 8 d h1 h
end
end L2
namespace PySem
def Heap.Jp(h:Heap)(d:Gc)(es:Array DO)(ep:Nat):Prop:=∃o,h.get? d=Ga o/\o.ExactDict/\o.data=.dict es ep
section
variable{prog:Gj}{w:Gu}{A:Tz}{E:Value->Gi->Prop}{s:Gi}{d:Gc}{es:Array DO}{ep:Nat}
theorem Heap.Jp.typeIs(x:s.heap.Jp d es ep):s.TypeIs (.ref d) "dict":=let⟨o,ho,hc,_⟩:=x;⟨o,ho,hc.1⟩
theorem Heap.Jp.at{h h':Heap}(x:h.Jp d es ep)(e:∀o,h.get? d=Ga o->h'.get? d=Ga o):h'.Jp d es ep:=let⟨o,ho,r⟩:=x;⟨o,e _ ho,r⟩
theorem Heap.Jp.lt{h:Heap}(x:h.Jp d es ep):d<h.objs.size:=let⟨_,ho,_⟩:=x;Heap.lt_size ho
theorem Qqf{Q:Value->Gi->Prop}(hd:(d==TV)=Gp)(b:s.heap.Jp d es ep)(c:(es.size:Int)<2^63)
  (h:Q (.int es.size (s.toks+1)) {s with toks:=s.toks+1+1}):wpAny (GO prog w) A (call (.builtin "len") [.ref d]) Q E s:=by
 obtain⟨o,e,f,a⟩:=id b;refine EE kind_len plain_len entry_len (args_len1 _) ?_;unfold Builtin.«len»;refine Gb (m:=oneArg "len" _) (Gd ?_);refine Gb (m:=callSpecial? (.ref d) (Dc "__len__")) (Tw (name:=Dc "__len__") b.typeIs F.slot_dict_len
  (To F.slot_dict_len b.typeIs F.entry_dict_len ?_ (F.args_dict_len_1 _)))
 show wpAny _ _ (dictSize d>>=_) _ _ s;unfold dictSize;refine Gb (Gb (De e a (Gd ?_)));show wpAny _ _ (Builtin.Dict.pendingCount d>>=_) _ _ s;refine Gb (wpAny_pendingCount_other hd ?_);refine Lj ?_;rw[SO];show wpAny _ _ _ _ _ {s with toks:=s.toks+1};refine Gb (TL (Gd ?_));refine Gb (EH ?_);show wpAny _ _ (if((es.size:Nat):Int)<0 then _ else _) _ _ _;rw[Gg (by omega)];show wpAny _ _ (if((es.size:Nat):Int)>=2^63 then _ else _) _ _ _;rw[Gg (by omega)];exact Gb (wpAny_mkInt (Gd ⟨_,Xb,h⟩))
theorem Qm3{Q:Value->Gi->Prop}(hd:(d==TV)=Gp)(c:s.heap.Jp d es ep)
  (f:Q (.ref s.heap.objs.size) {s with heap:=s.heap.push {cls:=.type "dict_keyiterator",data:=.fields #[.ref d,.int 0 0,.int es.size 0,.int ep 0]}}):
  wpAny (GO prog w) A (pyIter (.ref d)) Q E s:=by
 obtain⟨o,e,g,a⟩:=id c;have b:=c.typeIs;refine EI b F.slot_dict_iter (To F.slot_dict_iter b F.entry_dict_iter ?_ (F.args_dict_iter_1 _));unfold Builtin.«dict.__iter__»;refine Gb ?_;unfold Builtin.Dict.dictSlotNone;refine Gb (Ea b ?_);show wpAny _ _ (pure (Value.ref d)) _ _ s;refine Gd ?_;show wpAny _ _ (Builtin.Dict.showsAll d>>=_) _ _ s;unfold Builtin.Dict.showsAll;rw[Gg (by rw[hd];exact Gv)];refine Gb (Gd ?_);refine Gb (De e a ?_);refine Gb (DN e a ?_);refine Gb (Tp (Gd ⟨_,Xb,"dict_keyiterator",_,⟨_,Heap.get?_push_size _ Xb,Xb⟩,F.slot_dict_keyiterator_next.lookup,?_⟩));simpa[rawInt]using f
theorem Qof{it:Gc}{i:Nat}{e:DO}{Q:Option Value->Gi->Prop}(a:s.heap.IsKeyIter it d i es.size ep)(r:s.heap.Jp d es ep)(k:es[i]?=Ga e)
  (m:∀h',h'.IsKeyIter it d (i+1) es.size ep->Heap.SameBut it s.heap h'->Q (Ga e.key) {s with heap:=h'}):
  wpAny (GO prog w) A (pyNext (.ref it)) Q E s:=by
 obtain⟨o,l,n,hd⟩:=id a;obtain⟨od,g,p,f⟩:=id r;unfold pyNext;refine Gb (Eh (Tw (name:=Dc "__next__") a.typeIs F.slot_dict_keyiterator_next
  (To F.slot_dict_keyiterator_next a.typeIs F.entry_dict_keyiterator_next ?_ (F.args_dict_keyiterator_next_1 _))))
 refine Gb (Gd ?_);refine Gb ?_;refine Gb ?_;first|refine Gb (Dj a.typeIs (Gd ?_))|refine Gb (DE a.typeIs (Gd ?_))
 refine Gb (EC l hd ?_);have j:Builtin.Dict_items.ownsTuple "dict_keyiterator"=Gp:=by decide
 simp only[j,Tu,T8];show wpAny _ _ (if(Value.ref d==Value.none)=Ge then _ else _) _ _ s;rw[Gg (show¬((Value.ref d==Value.none)=Ge)from Gv)];refine Gb (Gd ?_);refine Gb (De g f ?_);rw[Gg (by simp)];refine Gb (Gd ?_);refine Gb (DN g f ?_);rw[Gg (by simp)];refine Gd ?_;have c:i<es.size:=by
  rcases Te i es.size with h|h
  ·exact h
  ·rw[T3 h]at k;cases k
 have q:es[i]=e:=by rw[Ta c]at k;exact Tc k
 simp only[show¬((i:Int)<0)from by omega,T8,T5,Ta c];refine Gb ?_;first|refine Gb (Dj a.typeIs (Gd ?_))|refine Gb (DE a.typeIs (Gd ?_))
 refine Gb (E8 a.typeIs ?_);show wpAny _ _ (setField (.ref it) 1 (rawInt ((i:Int)+1))>>=_) _ _ s;refine Gb (DT l hd (by simp) ?_);have b:(s.heap.update it (Ei (·.setIfInBounds 1 (rawInt ((i:Int)+1))))).IsKeyIter it d (i+1) es.size ep:=
  ⟨_,Heap.get?_update_self _ l (Eb (Dy hd _)),(EJ ..).trans n,by rw[Dy hd];simp[rawInt]⟩
 refine Gb (TL ?_);refine Gb (E8 (s:={s with heap:=s.heap.update it (Ei (·.setIfInBounds 1 (rawInt ((i:Int)+1))))}) b.typeIs ?_);show wpAny _ _ (pure es[i].key) _ _ _;rw[q];exact Gd (Gd ⟨_,Xb,Gd (m _ b (Heap.SameBut.update ..))⟩)
theorem Qpw{it:Gc}{i:Nat}{Q:Option Value->Gi->Prop}(n:A.handled=Gf)(c:s.heap.IsKeyIter it d i es.size ep)(p:s.heap.Jp d es ep)(h:es.size<=i)
  (k:∀h',Heap.ExtBut it s.heap h'->Q Gf {s with heap:=h'}):wpAny (GO prog w) A (pyNext (.ref it)) Q E s:=by
 obtain⟨o,j,q,hd⟩:=id c;obtain⟨od,f,l,e⟩:=id p;unfold pyNext;refine Gb (Eh (Tw (name:=Dc "__next__") c.typeIs F.slot_dict_keyiterator_next
  (To F.slot_dict_keyiterator_next c.typeIs F.entry_dict_keyiterator_next ?_ (F.args_dict_keyiterator_next_1 _))))
 refine Gb (Gd ?_);refine Gb ?_;refine Gb ?_;first|refine Gb (Dj c.typeIs (Gd ?_))|refine Gb (DE c.typeIs (Gd ?_))
 refine Gb (EC j hd ?_);have g:Builtin.Dict_items.ownsTuple "dict_keyiterator"=Gp:=by decide
 simp only[g,Tu,T8];show wpAny _ _ (if(Value.ref d==Value.none)=Ge then _ else _) _ _ s;rw[Gg (show¬((Value.ref d==Value.none)=Ge)from Gv)];refine Gb (Gd ?_);refine Gb (De f e ?_);rw[Gg (by simp)];refine Gb (Gd ?_);refine Gb (DN f e ?_);rw[Gg (by simp)];refine Gd ?_;simp only[show¬((i:Int)<0)from by omega,T8,T5,T3 h];refine Gb ?_;first|refine Gb (Dj c.typeIs (Gd ?_))|refine Gb (DE c.typeIs (Gd ?_))
 show wpAny _ _ (setField (.ref it) 0 .none>>=_) _ _ s;refine Gb (DT j hd (by simp) ?_);show wpAny _ _ (newExc (.type "StopIteration") []>>=_) _ _ _;refine Gb ?_;simp only[newExc,newTuple];refine Gb (Tp ?_ (by size_fits));refine Gb (m:=firstArgMember _ _) (Lf (a:=Value.none) (by first|rfl|(simp only[firstArgMember];rfl)) ?_);refine Tp ?_ (by size_fits);simp only[raiseNew];refine Gb (So ?_);rw[show A.in1.handled=Gf from n];refine Gb (Gd (Lg ?_));refine Gb (DW (T:="StopIteration") (b:=Ge) ⟨_,Heap.get?_push_size _ Xb,Xb⟩ Sg ?_);exact Gd (k _ (((Heap.SameBut.update ..).extBut.push _).push _))
theorem Walks.Qtv(m:A.handled=Gf)(I d:Gc)(j:d≠I)(es:Array DO)(ep:Nat):
  Walks prog w A I [I,d] [I] es.size (λi v=>∃e,es[i]?=Ga e/\v=e.key) (λi h=>h.IsKeyIter I d i es.size ep/\h.Jp d es ep) where
 sub:=λb hb=>by simp at hb;simp[hb]
 frame:=λ_ _ _ st k=>⟨st.1.at λo e=>k I (by simp) o e,st.2.at λo e=>k d (by simp) o e⟩
 item:=λi s Q E hi st a=>by have l:es[i]?=Ga es[i]:=Ta hi;refine Qof st.1 st.2 l λh' c f=>?_;exact a _ h' s.toks ⟨_,l,Xb⟩ ⟨c,st.2.at λo e=>(f.2 d j).trans e⟩ λb o hb e=>f.extBut b o (λh=>hb (by simp[h])) e
 done:=λs Q E st a=>Qpw m st.1 st.2 (Gn _) λh' g=>a h' s.toks λb o hb e=>g b o (λh=>hb (by simp[h])) e
 self:=λ_ _ _ _ st a=>Sh st.1 a
theorem Qs6(lo:(d==TV)=Gp):PySem.W.KdlSrc prog w "dict" d d es.size (λi v=>∃e,es[i]?=Ga e/\v=e.key) (λh=>h.Jp d es ep) where
 type:=λ_ a=>a.typeIs
 there:=λ_ a=>⟨a.lt,a.lt⟩
 keep:=λ_ _ a f=>a.at λo e=>f d (.inl Xb) o e
 notList:=by decide
 notTuple:=by decide
 hint:=λ_ _ _ _ a b=>PySem.W.kdl_hint_dict a.typeIs b
 iter:=λ_ _ c a=>⟨_,_,(λ_ _ b=>Qm3 lo a b),Walks.Qtv c _ d (GV a.lt) es ep,⟨⟨_,Heap.get?_push_size _ Xb,Xb,Xb⟩,a.at λo e=>Heap.get?_push_of_some _ e⟩⟩
end
end PySem
namespace L2
open PySem PySem.Spec PyProof.Rows
variable{k:KD}
abbrev KE:=KD×Gc×V
variable{kvs:List KE}
def Yg(kvs:List KE)(k:KD):Option V:=(kvs.find? λp=>decide (p.1=k)).map (·.2.2)
def Wj(kvs:List KE)(k:KD)(b:Gc)(v:V):List KE:=if(Yg kvs k).isSome=Ge then kvs.map (λp=>if p.1=k then(p.1,p.2.1,v)else p)else kvs++[(k,b,v)]
abbrev KX:List KE->List (KD×Gc×Value)->Prop:=Paired λp q=>p.1=q.1/\p.2.1=q.2.1/\RelV p.2.2 q.2.2
def DKD(P:Gj)(w:Gu)(a:Gc)(kvs:List KE)(h:Heap):Prop:=
 kvs.length<=Gh/\(a==TV)=Gp/\∃xs,KX kvs xs/\∃o es ep,h.get? a=Ga o/\o.ExactDict/\o.data=.dict es ep/\es.toList=xs.map (entryOfKey (Vc P w))/\(xs.map (·.1)).Nodup
def Vn(P:Gj)(w:Gu)(a:Gc)(kvs:List KE):HO:=.ext (DKD P w a kvs)
def Vu(H:Hp)(kvs:List KE):Prop:=∀p∈kvs,Dt H (.ref p.2.1) p.1.toD/\p.1.toD.canLay0=Ge/\p.1.depth<=8
def Og(H:Hp)(b:Gc)(k:KD):Prop:=Dt H (.ref b) k.toD/\k.toD.canLay0=Ge/\k.depth<=8
theorem Qkh{P:Gj}{w:Gu}{H:Hp}{h:Heap}{a:Gc}(x:DKD P w a kvs h):Yk P w H h a (Vn P w a kvs):=by
 refine⟨x,?_,?_⟩
 ·obtain⟨_,_,_,_,o,_,_,e,_⟩:=x;exact⟨o,e⟩
 ·rintro h1 h2 ⟨b,c,xs,r,o,es,ep,e,q⟩ k;exact⟨b,c,xs,r,o,es,ep,k o e,q⟩
theorem KX.val{xs:List (KD×Gc×Value)}(r:KX kvs xs)(k:KD):Ib (Yg kvs k) ((atKey xs k).map (·.2)):=by
 induction r with
 |nil=>exact TW
 |@cons p q ps d h t f=>
  obtain⟨h1,_,h2⟩:=h;by_cases e:p.1=k
  ·have a:q.1=k:=h1.symm.trans e;have b:atKey (q::d) k=Ga q.2:=by simp[atKey,List.find?_cons,a]
   have c:Yg (p::ps) k=Ga p.2.2:=by simp[Yg,List.find?_cons,e]
   rw[c,b];exact h2
  ·have a:¬q.1=k:=λz=>e (h1.trans z);have b:atKey (q::d) k=atKey d k:=by simp[atKey,List.find?_cons,a]
   have c:Yg (p::ps) k=Yg ps k:=by simp[Yg,List.find?_cons,e]
   rw[c,b];exact f
theorem KX.put{xs:List (KD×Gc×Value)}(r:KX kvs xs)(k:KD)(b:Gc){v:V}{u:Value}(a:RelV v u):KX (Wj kvs k b v) (storedH xs k b u):=by
 have e:(Yg kvs k).isSome=(atKey xs k).isSome:=by rw[(r.val k).Wf,DA]
 unfold Wj storedH;rw[e];by_cases q:(atKey xs k).isSome=Ge
 ·rw[Gk q,Gk q];clear q e;induction r with
  |nil=>exact .nil
  |@cons p q ps f h t d=>
   rw[List.map_cons,List.map_cons];refine .cons ?_ d;obtain⟨h1,h2,c⟩:=h;unfold putAt;by_cases e:p.1=k
   ·rw[Gk e,Gk (h1.symm.trans e)];exact⟨h1,h2,a⟩
   ·rw[Gg e,Gg (λz=>e (h1.trans z))];exact⟨h1,h2,c⟩
 ·rw[Gg q,Gg q];exact Paired.snoc r ⟨Xb,Xb,a⟩
theorem Om(kvs:List KE)(k:KD)(b:Gc)(v:V):(Wj kvs k b v).length<=kvs.length+1:=by
 unfold Wj;split
 ·rw[List.length_map];omega
 ·rw[List.length_append,List.length_singleton];omega
theorem Qhq(b:Gc)(v:V)(h:Yg kvs k=Gf):Wj kvs k b v=kvs++[(k,b,v)]:=by unfold Wj;rw[h];exact Gg (by decide)
theorem Qgz{u:V}(b:Gc)(v:V)(h:Yg kvs k=Ga u):Wj kvs k b v=kvs.map (λp=>if p.1=k then(p.1,p.2.1,v)else p):=by unfold Wj;rw[h];exact Gk rfl
theorem Yr{p:KE}{r:List KE}(e:p.1=k):Yg (p::r) k=Ga p.2.2:=by simp[Yg,List.find?_cons,e]
theorem Yq{p:KE}{r:List KE}(e:¬p.1=k):Yg (p::r) k=Yg r k:=by simp[Yg,List.find?_cons,e]
theorem Qat(k j:KD)(b:Gc)(y:V):∀kvs:List KE,Yg kvs k=Gf->Yg (kvs++[(k,b,y)]) j=if j=k then Ga y else Yg kvs j
 |[],_=>by
  by_cases e:k=j
  ·rw[Gk e.symm];exact Yr (p:=(k,b,y)) e
  ·rw[Gg (λz=>e z.symm)];exact Yq (p:=(k,b,y)) e
 |p::r,a=>by
  rw[List.cons_append];have c:¬p.1=k:=λz=>by rw[Yr z]at a;cases a
  rw[Yq c]at a;have d:=Qat k j b y r a;by_cases e:p.1=j
  ·rw[Yr e,Yr e,Gg (λz=>c (e.trans z))]
  ·rw[Yq e,Yq e,d]
theorem Qii(k j:KD)(y:V):∀kvs:List KE,Yg (kvs.map λp=>if p.1=k then(p.1,p.2.1,y)else p) j=(Yg kvs j).map λx=>if j=k then y else x
 |[]=>rfl
 |p::r=>by
  have a:=Qii k j y r;rw[List.map_cons];by_cases h:p.1=k
  ·rw[Gk h];by_cases e:p.1=j
   ·rw[Yr (p:=(p.1,p.2.1,y)) e,Yr e,TF,Gk (e.symm.trans h)]
   ·rw[Yq (p:=(p.1,p.2.1,y)) e,Yq e,a]
  ·rw[Gg h];by_cases e:p.1=j
   ·rw[Yr (p:=p) e,Yr e,TF,Gg (λz=>h (e.trans z))]
   ·rw[Yq (p:=p) e,Yq e,a]
theorem Uw(kvs:List KE)(k j:KD)(b:Gc)(y:V):Yg (Wj kvs k b y) j=if j=k then Ga y else Yg kvs j:=by
 cases q:Yg kvs k with
 |none=>rw[Qhq b y q,Qat k j b y kvs q]
 |some u=>
  rw[Qgz b y q,Qii];by_cases e:j=k
  ·rw[Gk e,e,q,TF,Gk rfl]
  ·rw[Gg e];cases Yg kvs j with
   |none=>rfl
   |some x=>rw[TF,Gg e]
theorem Qn9(kvs:List KE)(k:KD)(b:Gc)(v:V):∀p∈Wj kvs k b v,(p.1=k/\p.2.1=b)\/∃u,(p.1,p.2.1,u)∈kvs:=λp a=>by
 unfold Wj at a;split at a
 ·obtain⟨q,c,e⟩:=List.mem_map.mp a;right;split at e
  ·subst e;exact⟨q.2.2,c⟩
  ·subst e;exact⟨q.2.2,c⟩
 ·rcases List.mem_append.mp a with h|h
  ·exact .inr ⟨p.2.2,h⟩
  ·rw[List.mem_singleton]at h;subst h;exact .inl ⟨Xb,Xb⟩
theorem Vu.put{H:Hp}{b:Gc}{v:V}(h:Vu H kvs)(d:Og H b k):Vu H (Wj kvs k b v):=λp e=>by
 rcases Qn9 kvs k b v p e with⟨a,c⟩|⟨u,f⟩
 ·rw[a,c];exact d
 ·exact h (p.1,p.2.1,u) f
section
variable{X:Cx}{pins:List (Gc×DJ)}{σ:St}{H:Hp}{s:Gi}{a b:Gc}{kvs:List KE}{k:KD}
theorem Og.is(I:Inv X pins σ H s)(h:Og H b k):(Vc X.prog X.w).is s.heap k b:=by obtain⟨h1,h2,c⟩:=h;obtain⟨a,r⟩:=h1.reads I.Z4 (u:=.ref b) rfl;exact⟨⟨a,r⟩,h2,c⟩
theorem Qad(I:Inv X pins σ H s)(e:H a=Ga (Vn X.prog X.w a kvs)):DKD X.prog X.w a kvs s.heap:=(I.Z4 a _ e).1
theorem Qfd(I:Inv X pins σ H s)(e:H a=Ga (Vn X.prog X.w a kvs))(i:Vu H kvs):kvs.length<=Gh/\(a==TV)=Gp/\∃xs,KX kvs xs/\s.heap.DictOfH (Vc X.prog X.w) a xs:=by
 obtain⟨z,y,xs,r,o,es,ep,h1,h2,d,f,g⟩:=Qad I e;refine⟨z,y,xs,r,o,es,ep,h1,h2,d,f,λx b=>?_,g⟩;have all:∀{l:List KE}{m:List (KD×Gc×Value)},KX l m->(∀p∈l,p∈kvs)->∀x∈m,(Vc X.prog X.w).is s.heap x.1 x.2.1:=by
  intro l m q;induction q with
  |nil=>intro _ x b;exact nomatch b
  |@cons p q ps n c t k=>
   intro sub x b;rcases List.mem_cons.mp b with e|b
   ·subst e;rw[<-c.1,<-c.2.1];exact Og.is I (i p (sub p (by simp)))
   ·exact k (λp j=>sub p (List.mem_cons_of_mem _ j)) x b
 exact all r (λ_ h=>h) x b
end
def Qjs(P:Gj)(w:Gu):TE:=λ_ H Q=>∀p,H p=Gf->Q (.ref p) (upd H p (Vn P w p []))
structure DH(P:Gj)(w:Gu)(H:Hp)(d:Gc)(kvs:List KE):Prop where
 at_:H d=Ga (Vn P w d kvs)
 keys:Vu H kvs
section
variable{X:Cx}
theorem Ig{pos:E6}:PE X (.Dict [] [] pos) (Qjs X.prog X.w):=λpins s σ H Q I h=>
 ES ⟨.ref s.heap.objs.size,_,I.laid (a:=s.heap.objs.size) (o:=Vn X.prog X.w s.heap.objs.size []) (t':=s.toks) (λ_ _ q=>Heap.get?_push_of_some _ q) (Gn _)
  (Qkh ⟨Gx _,Df.mpr (Gm (GV I.big)),[],.nil,_,#[],0,Heap.get?_push_size _ Xb,⟨Xb,Xb,Xb⟩,Xb,Xb,List.nodup_nil⟩),Xb,h _ (I.Z4.fresh (Gn _))⟩
def Qpo(P:Gj)(w:Gu)(f:Bool->Bool):R2:=λx y H Q=>∃b d k kvs,x=.ref b/\y=.ref d/\DH P w H d kvs/\Og H b k/\Q (.bl (f (Yg kvs k).isSome)) H
theorem Q0f(i:X.A.units+64<Dg):Rz X (TU .In) (Qpo X.prog X.w λb=>b):=by intro pins s σ H x y v u Q I f g h;obtain⟨b,d,k,kvs,rfl,rfl,D,c,q⟩:=h;cases(show v=Value.ref b from f);cases(show u=Value.ref d from g);obtain⟨z,hd,xs,rel,a⟩:=Qfd I D.at_ D.keys;refine LD (knd:=Vc X.prog X.w) (show X.A.units+1+10<Dg by omega) (c.is I) hd a ?_;have e:=(rel.val k).Wf;rw[DA]at e;rw[<-e];exact⟨.bl _,H,I.tok _,Xb,q⟩
theorem Qdp(i:X.A.units+64<Dg):Rz X (TU .NotIn) (Qpo X.prog X.w λb=>!b):=by intro pins s σ H x y v u Q I f g h;obtain⟨b,d,k,kvs,rfl,rfl,D,c,q⟩:=h;cases(show v=Value.ref b from f);cases(show u=Value.ref d from g);obtain⟨z,hd,xs,rel,a⟩:=Qfd I D.at_ D.keys;refine La (knd:=Vc X.prog X.w) (show X.A.units+1+10<Dg by omega) (c.is I) hd a ?_;have e:=(rel.val k).Wf;rw[DA]at e;rw[<-e];exact⟨.bl _,H,I.tok _,Xb,q⟩
def Qhf(P:Gj)(w:Gu):R2:=λx y H Q=>∃d b k kvs v,x=.ref d/\y=.ref b/\DH P w H d kvs/\Og H b k/\Yg kvs k=Ga v/\Q v H
theorem Ov(m:X.A.units+64<Dg):IxR X (Qhf X.prog X.w):=by
 intro value a pins s σ H x y v u Q I j l h g;obtain⟨d,b,k,kvs,r,rfl,rfl,D,f,i,q⟩:=h;cases(show v=Value.ref d from j);cases(show u=Value.ref b from l);obtain⟨z,hd,xs,rel,c⟩:=Qfd I D.at_ D.keys;have rv:=rel.val k;rw[i]at rv;cases e:atKey xs k with
 |none=>rw[e]at rv;exact(show False from rv).elim
 |some p=>rw[e]at rv;refine D4 (x:=p.2) c.typeIs PySem.F.slot_dict_getitem.lookup ?_ g;exact Sy (knd:=Vc X.prog X.w) (show X.A.units+1+10<Dg by omega) (f.is I) c e ⟨Xb,r,H,I.tok _,rv,q⟩
def Qgb(P:Gj)(w:Gu):Qtd:=λo i v H Q=>∃d b k kvs,o=.ref d/\i=.ref b/\DH P w H d kvs/\Og H b k/\kvs.length<Gh/\Q (upd H d (Vn P w d (Wj kvs k b v)))
theorem Qak(x:X.A.units+64<Dg):Qy9 X (Qgb X.prog X.w):=by
 intro pins s σ H o i v ov p u Q I t r rv h;obtain⟨d,b,k,kvs,rfl,rfl,D,l,hz,q⟩:=h;cases(show ov=Value.ref d from t);cases(show p=Value.ref b from r);obtain⟨z,hd,xs,rel,e⟩:=Qfd I D.at_ D.keys;have m:(Wj kvs k b v).length<=Gh:=by have:=Om kvs k b v;omega
 refine Sz (knd:=Vc X.prog X.w) (hsz:=by rw[<-Paired.length rel];exact z) (show X.A.units+1+10<Dg by omega) (l.is I) e λh' a n=>?_;obtain⟨ob,es,ep,c,h2,f,g,_,j⟩:=a;refine⟨_,Io (ob:=Vn X.prog X.w d (Wj kvs k b v)) I (by rw[D.at_];exact TW) n ⟨ob,c⟩ (Qkh ⟨m,hd,_,rel.put k b rv,ob,es,ep,c,h2,f,g,j⟩),q⟩
theorem Qi5:V1 X (.builtin "len") (λxs H Q=>∃d kvs,xs=[.ref d]/\DH X.prog X.w H d kvs/\Q (.int kvs.length) H):=by
 intro pins s σ H xs us Q I r h;obtain⟨d,kvs,rfl,D,q⟩:=h;obtain⟨u,rfl,c⟩:=vals1 r;cases(show u=Value.ref d from c);obtain⟨z,hd,ys,rel,o,es,ep,h1,h2,a,b,_⟩:=Qad I D.at_;have g:=Ri;have e:es.size=kvs.length:=by rw[Paired.length rel,<-List.length_map (f:=entryOfKey (Vc X.prog X.w)),<-b,Ts]
 refine Qqf hd ⟨o,h1,h2,a⟩ (by omega) ?_;rw[e];exact⟨.int kvs.length,H,I.tok _,⟨_,Xb⟩,q⟩
theorem Qhb(y:X.calm=Ge):V1 X (.type "list") (λxs H Q=>∃d kvs,xs=[.ref d]/\DH X.prog X.w H d kvs/\∀l,H l=Gf->Q (.ref l) (upd H l (.lst (kvs.map λp=>.ref p.2.1)))):=by
 intro pins s σ H xs us Q I r h;obtain⟨d,kvs,rfl,D,q⟩:=h;obtain⟨u,rfl,E⟩:=vals1 r;cases(show u=Value.ref d from E);obtain⟨z,hd,ys,rel,o,es,ep,h1,h2,x,k,nodup⟩:=Qad I D.at_;have e:es.size=kvs.length:=by rw[Paired.length rel,<-List.length_map (f:=entryOfKey (Vc X.prog X.w)),<-k,Ts]
 refine PySem.W.kdl_call (Qs6 (es:=es) (ep:=ep) hd) (I.ok.hd y) ⟨o,h1,h2,x⟩ (by rw[e];exact z) λh' tk a v kp hS b=>?_;have g:(kvs.map λp=>V.ref p.2.1).length<=Gh:=by rw[List.length_map];exact z
 have m:Z0 (kvs.map λp=>V.ref p.2.1) a.toList:=by
  have j:es.toList.map (·.key)=ys.map λq=>Value.ref q.2.1:=by rw[k,List.map_map];rfl
  have c:a.toList=es.toList.map (·.key):=by
   refine List.ext_getElem? λi=>?_;by_cases hi:i<a.size
   ·obtain⟨en,A,m⟩:=b.2 i a[i] (Ta hi);rw[TM,Ta hi,List.getElem?_map,TM,A,m];rfl
   ·have hsz:=b.1;rw[List.getElem?_eq_none (by simp;omega),List.getElem?_eq_none (by simp;omega)]
  rw[c,j];clear q z k j c g e b D nodup;induction rel with
  |nil=>exact .nil
  |@cons p q ps F B t C=>rw[List.map_cons,List.map_cons];refine .cons ?_ C;show Value.ref q.2.1=Value.ref p.2.1;rw[B.2.1]
 have n:Inv X pins σ (upd H s.heap.objs.size (.lst (kvs.map λp=>.ref p.2.1))) {s with heap:=h',toks:=tk}:=
  I.laid (t':=tk) kp (Gn _) (show Yk X.prog X.w _ h' _ (.lst _)from⟨g,a.toList,v,m,by rw[DB];exact hS⟩)
 exact⟨.ref s.heap.objs.size,_,n,Xb,q _ (I.Z4.fresh (Gn _))⟩
end
end L2
namespace Sb
open PySem
variable{S:List Th}{L:Th->Int}{x y t:Th}{b d:Gc}{H H':Hp}{P:Gj}{w:Gu}
abbrev Tl:=List (Bool×Th×Th)
variable{tl:Tl}
mutual
inductive Cg(tl:Tl):Th->Th->Prop
 |refl (t:Th):Cg tl t t
 |symm {s t:Th}:Cg tl s t->Cg tl t s
 |trans {r s t:Th}:Cg tl r s->Cg tl s t->Cg tl r t
 |told {s t:Th}:(Ge,s,t)∈tl->Cg tl s t
 |cong {w:GJ} {ps qs:List Th}:CgL tl ps qs->Cg tl (.mk w ps) (.mk w qs)
inductive CgL(tl:Tl):List Th->List Th->Prop
 |nil:CgL tl [] []
 |cons {p q:Th} {ps qs:List Th}:Cg tl p q->CgL tl ps qs->CgL tl (p::ps) (q::qs)
end
theorem CgL.of{tl:Tl}:∀{ps c:List Th},ps.length=c.length->(∀(i:Nat)p q,ps[i]?=Ga p->c[i]?=Ga q->Cg tl p q)->CgL tl ps c
 |[],[],_,_=>.nil
 |[],_::_,h,_=>by simp at h
 |_::_,[],h,_=>by simp at h
 |p::ps,q::c,h,f=>.cons (f 0 p q rfl rfl) (CgL.of (by simpa using h) λi a b d hb=>f (i+1) a b (by simpa using d) (by simpa using hb))
mutual
theorem Cg.mono{tl e:Tl}(h:∀a b,(Ge,a,b)∈tl->(Ge,a,b)∈e):∀{s t:Th},Cg tl s t->Cg e s t
 |_,_,.refl t=>.refl t
 |_,_,.symm c=>.symm (Cg.mono h c)
 |_,_,.trans c d=>.trans (Cg.mono h c) (Cg.mono h d)
 |_,_,.told m=>.told (h _ _ m)
 |_,_,.cong c=>.cong (CgL.mono h c)
theorem CgL.mono{tl e:Tl}(h:∀a b,(Ge,a,b)∈tl->(Ge,a,b)∈e):∀{s t:List Th},CgL tl s t->CgL e s t
 |_,_,.nil=>.nil
 |_,_,.cons c d=>.cons (Cg.mono h c) (CgL.mono h d)
end
inductive Dv where
 |cls (i:Int)
 |node (w:GJ) (ds:List Dv)
open Classical in
noncomputable def act(S:List Th)(L:Th->Int)(w:GJ)(ds:List Dv):Dv:=
 if h:∃a,Th.mk w a∈S/\a.map (λq=>Dv.cls (L q))=ds then .cls (L (.mk w (Ef h)))else .node w ds
mutual
noncomputable def ev(S:List Th)(L:Th->Int):Th->Dv
 |.mk w ps=>act S L w (evL S L ps)
noncomputable def evL(S:List Th)(L:Th->Int):List Th->List Dv
 |[]=>[]
 |p::r=>ev S L p::evL S L r
end
structure Rb(tl:Tl)(S:List Th)(L:Th->Int):Prop where
 closed:∀w ps,Th.mk w ps∈S->∀p∈ps,p∈S
 told:∀a b,(Ge,a,b)∈tl->a∈S/\b∈S/\L a=L b
 cong:∀w ps qs,Th.mk w ps∈S->Th.mk w qs∈S->ps.map L=qs.map L->L (.mk w ps)=L (.mk w qs)
theorem Ql0{L:Th->Int}:∀{ps a:List Th},ps.map (λq=>Dv.cls (L q))=a.map (λq=>Dv.cls (L q))->ps.map L=a.map L
 |[],[],_=>rfl
 |[],_::_,h=>by simp at h
 |_::_,[],h=>by simp at h
 |p::ps,q::a,h=>by simp only[List.map_cons,List.cons.injEq,Dv.cls.injEq]at h⊢;exact⟨h.1,Ql0 h.2⟩
mutual
theorem Qrq{tl:Tl}{S:List Th}{L:Th->Int}(T:Rb tl S L):∀t:Th,t∈S->ev S L t=.cls (L t)
 |.mk w ps,h=>by
  have e:evL S L ps=ps.map (λq=>Dv.cls (L q)):=Qv6 T ps (T.closed w ps h);have ex:∃a,Th.mk w a∈S/\a.map (λq=>Dv.cls (L q))=ps.map (λq=>Dv.cls (L q)):=⟨ps,h,Xb⟩;have b:ev S L (.mk w ps)=act S L w (evL S L ps):=by simp only[ev]
  rw[b,e];unfold act;rw[dif_pos ex];have c:=E9 ex;rw[T.cong w _ ps c.1 h (Ql0 c.2)]
theorem Qv6{tl:Tl}{S:List Th}{L:Th->Int}(T:Rb tl S L):∀ps:List Th,(∀p∈ps,p∈S)->evL S L ps=ps.map (λq=>Dv.cls (L q))
 |[],_=>by simp[evL]
 |p::r,h=>by simp only[evL,List.map_cons];rw[Qrq T p (h p List.mem_cons_self),Qv6 T r λq a=>h q (List.mem_cons_of_mem _ a)]
end
mutual
theorem Qio{tl:Tl}{S:List Th}{L:Th->Int}(T:Rb tl S L):∀{s t:Th},Cg tl s t->ev S L s=ev S L t
 |_,_,.refl _=>rfl
 |_,_,.symm c=>(Qio T c).symm
 |_,_,.trans c d=>(Qio T c).trans (Qio T d)
 |_,_,.told m=>by obtain⟨h1,h2,a⟩:=T.told _ _ m;rw[Qrq T _ h1,Qrq T _ h2,a]
 |_,_,.cong c=>by simp only[ev,Qqo T c]
theorem Qqo{tl:Tl}{S:List Th}{L:Th->Int}(T:Rb tl S L):∀{s t:List Th},CgL tl s t->evL S L s=evL S L t
 |_,_,.nil=>rfl
 |_,_,.cons c d=>by simp only[evL,Qio T c,Qqo T d]
end
theorem Rb.complete(T:Rb tl S L)(a:x∈S)(b:y∈S)(c:Cg tl x y):L x=L y:=by have e:=Qio T c;rw[Qrq T x a,Qrq T y b]at e;injection e
structure Tells(tl:Tl)(S:List Th)(L:Th->Int):Prop where
 tab:Rb tl S L
 sound:∀x∈S,∀y∈S,L x=L y->Cg tl x y
theorem Tells.iff(T:Tells tl S L)(a:x∈S)(b:y∈S):L x=L y↔Cg tl x y:=⟨T.sound x a y b,T.tab.complete a b⟩
def mrg(L:Th->Int)(o n:Int):Th->Int:=λt=>if L t=o then n else L t
theorem Qro{o n:Int}(h:L x=L y):mrg L o n x=mrg L o n y:=by unfold mrg;rw[h]
theorem Qok{a b:Th}(g:a∈S)(hb:b∈S)(s:∀x∈S,∀y∈S,L x=L y->Cg tl x y)(c:Cg tl a b):∀x∈S,∀y∈S,mrg L (L a) (L b) x=mrg L (L a) (L b) y->Cg tl x y:=by
 intro x d y f e;unfold mrg at e;by_cases h1:L x=L a
 ·by_cases h2:L y=L a
  ·exact s x d y f (h1.trans h2.symm)
  ·rw[Gk h1,Gg h2]at e;exact .trans (s x d a g h1) (.trans c (s b hb y f e))
 ·by_cases h2:L y=L a
  ·rw[Gg h1,Gk h2]at e;exact .trans (s x d b hb e) (.trans (.symm c) (.symm (s y f a g h2)))
  ·rw[Gg h1,Gg h2]at e;exact s x d y f e
open PySem PySem.Spec PyProof.Rows L2
mutual
def kd:Th->KD
 |.mk w ps=>.tup (.str w::kds ps)
def kds:List Th->List KD
 |[]=>[]
 |p::r=>kd p::kds r
end
mutual
theorem Rt:∀t:Th,(kd t).toD=t.toD
 |.mk w ps=>by simp only[kd,KD.toD,Um,Th.toD,Qmd ps]
theorem Qmd:∀ts:List Th,Um (kds ts)=X5 ts
 |[]=>by simp[kds,Um,X5]
 |t::r=>by simp only[kds,Um,X5,Rt t,Qmd r]
end
theorem Qhd(t:Th):(kd t).depth=t.depth:=by rw[<-Oi,Rt,Xw]
theorem R7{s:Th}(h:kd s=kd t):s=t:=by
 have e:s.toD=t.toD:=by rw[<-Rt,<-Rt,h]
 exact(Jj s t).mp (by rw[e];exact(Jj t t).mpr Xb)
mutual
theorem Qhm{H:Hp}:∀(t:Th){v:V},Dt H v t.toD->Zu H v t
 |.mk w ps,v,h=>by
  simp only[Th.toD]at h;cases h with
  |tup e r=>
   cases r with
   |cons h1 h2=>cases h1;exact .mk e (Qdh ps h2)
theorem Qdh{H:Hp}:∀(ts:List Th){vs:List V},Dts H vs (X5 ts)->Zq H vs ts
 |[],vs,h=>by simp only[X5]at h;cases h;exact .nil
 |t::r,vs,h=>by
  simp only[X5]at h;cases h with
  |cons h1 h2=>exact .cons (Qhm t h1) (Qdh r h2)
end
theorem Rh(h:Zu H (.ref b) t)(ok:t.ok=Ge)(dp:t.depth<=8):Og H b (kd t):=⟨by rw[Rt];exact h.dt,by rw[Rt];exact Wx t ok,by rw[Qhd];exact dp⟩
mutual
theorem Ql7{H H':Hp}(e:Q4 H H'):∀(k:KD){v:V},Dt H v k.toD->Dt H' v k.toD
 |.int i,v,h=>by simp only[KD.toD]at h⊢;cases h;exact .int i
 |.str x,v,h=>by simp only[KD.toD]at h⊢;cases h;exact .str x
 |.tup xs,v,h=>by
  simp only[KD.toD]at h⊢;cases h with
  |tup h1 h2=>exact .tup (e _ _ h1) (Qhk e xs h2)
theorem Qhk{H H':Hp}(e:Q4 H H'):∀(a:List KD){vs:List V},Dts H vs (Um a)->Dts H' vs (Um a)
 |[],vs,h=>by simp only[Um]at h⊢;cases h;exact .nil
 |k::r,vs,h=>by
  simp only[Um]at h⊢;cases h with
  |cons h1 h2=>exact .cons (Ql7 e k h1) (Qhk e r h2)
end
theorem Zh(e:Q4 H H'){kvs:List KE}(h:Vu H kvs):Vu H' kvs:=λp a=>⟨Ql7 e p.1 (h p a).1,(h p a).2⟩
structure Num(P:Gj)(w:Gu)(H:Hp)(d:Gc)(S:List Th)(L:Th->Int):Prop where
 ex:∃kvs:List KE,H d=Ga (Vn P w d kvs)/\Vu H kvs/\kvs.map (·.1)=S.map kd/\∀t∈S,Yg kvs (kd t)=Ga (.int (L t))
 ok:∀t∈S,t.ok=Ge/\t.depth<=8
theorem Num.at(N:Num P w H d S L):∃o,H d=Ga (.ext o):=by obtain⟨kvs,h,_⟩:=N.ex;exact⟨_,h⟩
theorem Num.keep(N:Num P w H d S L)(hd:∀o,H d=Ga o->H' d=Ga o)(e:Q4 H H'):Num P w H' d S L:=by obtain⟨kvs,h1,h2,a,b⟩:=N.ex;exact⟨⟨kvs,hd _ h1,Zh e h2,a,b⟩,N.ok⟩
theorem Num.same(N:Num P w H d S L)(e:Q5 H H'):Num P w H' d S L:=N.keep (λo h=>e d o h) (Q4.of e)
theorem Num.get{Q:VK}(N:Num P w H d S L)(a:t∈S)(h:Zu H (.ref b) t)(q:Q (.int (L t)) H):Qhf P w (.ref d) (.ref b) H Q:=by obtain⟨kvs,h1,h2,e,c⟩:=N.ex;exact⟨d,b,kd t,kvs,_,Xb,Xb,⟨h1,h2⟩,Rh h (N.ok t a).1 (N.ok t a).2,c t a,q⟩
theorem Num.put{P:Gj}{w:Gu}{H:Hp}{d b:Gc}{S:List Th}{L:Th->Int}{t:Th}{i:Int}{Q:Hp->Prop}(N:Num P w H d S L)(n:S.length<=1000000)(a:t∈S)(h:Zu H (.ref b) t)
  (q:∀H',(∀c o,H c=Ga o->c≠d->H' c=Ga o)->Num P w H' d S (λu=>if u=t then i else L u)->Q H'):Qgb P w (.ref d) (.ref b) (.int i) H Q:=by
 obtain⟨kvs,h1,h2,f,g⟩:=N.ex;have lk:kvs.length=S.length:=by have:=congrArg List.length f;simpa using this
 have j:=Rh h (N.ok t a).1 (N.ok t a).2;refine⟨d,b,kd t,kvs,Xb,Xb,⟨h1,h2⟩,j,by rw[Gy];omega,q _ (λc o e k=>by rw[Qg k];exact e) ?_⟩;have m:Q4 H (upd H d (Vn P w d (Wj kvs (kd t) b (.int i)))):=Zz λxs e=>by rw[h1]at e;cases e
 refine⟨⟨_,Qb,Zh m (h2.put j),?_,λu l=>?_⟩,N.ok⟩
 ·rw[Qgz b _ (g t a),List.map_map];rw[<-f];refine List.map_congr_left λp _=>?_;show(if p.1=kd t then(p.1,p.2.1,V.int i)else p).1=p.1;split<;>rfl
 ·rw[Uw];by_cases e:u=t
  ·subst e;rw[Gk Xb,Gk rfl]
  ·rw[Gg (λz=>e (R7 z)),Gg e];exact g u l
theorem Num.add{i:Int}{Q:Hp->Prop}(N:Num P w H d S L)(B:S.length<=1000000)(y:¬t∈S)(ok:t.ok=Ge)(dp:t.depth<=8)(h:Zu H (.ref b) t)
  (q:∀H',(∀c o,H c=Ga o->c≠d->H' c=Ga o)->Num P w H' d (S++[t]) (λu=>if u=t then i else L u)->Q H'):Qgb P w (.ref d) (.ref b) (.int i) H Q:=by
 obtain⟨kvs,h1,h2,g,n⟩:=N.ex;have lk:kvs.length=S.length:=by have:=congrArg List.length g;simpa using this
 have l:=Rh h ok dp;have f:Yg kvs (kd t)=Gf:=by
  cases e:Yg kvs (kd t)with
  |none=>rfl
  |some v=>exfalso;unfold Yg at e;obtain⟨p,k,_⟩:=D9.mp e;have r:=List.find?_some k;have s:p.1=kd t:=Tq r;have j:kd t∈kvs.map (·.1):=List.mem_map.mpr ⟨p,List.mem_of_find?_eq_some k,s⟩;rw[g]at j;obtain⟨u,a,m⟩:=List.mem_map.mp j;exact y (R7 m▸a)
 refine⟨d,b,kd t,kvs,Xb,Xb,⟨h1,h2⟩,l,by rw[Gy];omega,q _ (λc o e x=>by rw[Qg x];exact e) ?_⟩;have A:Q4 H (upd H d (Vn P w d (Wj kvs (kd t) b (.int i)))):=Zz λxs e=>by rw[h1]at e;cases e
 refine⟨⟨_,Qb,Zh A (h2.put l),?_,λu a=>?_⟩,λu a=>?_⟩
 ·rw[Qhq b _ f,List.map_append,g,List.map_append];rfl
 ·rw[Uw];by_cases e:u=t
  ·subst e;rw[Gk Xb,Gk rfl]
  ·rw[Gg (λz=>e (R7 z)),Gg e];rcases List.mem_append.mp a with a|a
   ·exact n u a
   ·rw[List.mem_singleton]at a;exact absurd a e
 ·rcases List.mem_append.mp a with a|a
  ·exact N.ok u a
  ·rw[List.mem_singleton]at a;subst a;exact⟨ok,dp⟩
theorem Num.Qz6{Q:VK}(N:Num P w H d S L)(ok:t.ok=Ge)(dp:t.depth<=8)(h:Zu H (.ref b) t)(q:Q (.bl (!decide (t∈S))) H):Qpo P w (λb=>!b) (.ref b) (.ref d) H Q:=by
 obtain⟨kvs,h1,h2,i,j⟩:=N.ex;refine⟨b,d,kd t,kvs,Xb,Xb,⟨h1,h2⟩,Rh h ok dp,?_⟩;have e:(Yg kvs (kd t)).isSome=decide (t∈S):=by
  by_cases a:t∈S
  ·rw[Gr a,j t a];rfl
  ·rw[Gq a];cases e:Yg kvs (kd t)with
   |none=>rfl
   |some v=>exfalso;unfold Yg at e;obtain⟨p,f,_⟩:=D9.mp e;have k:=List.find?_some f;have l:p.1=kd t:=Tq k;have c:kd t∈kvs.map (·.1):=List.mem_map.mpr ⟨p,List.mem_of_find?_eq_some f,l⟩;rw[i]at c;obtain⟨u,m,g⟩:=List.mem_map.mp c;exact a (R7 g▸m)
 rw[e];exact q
theorem Num.names(N:Num P w H d S L):∃kvs,DH P w H d kvs/\kvs.length=S.length/\Zq H (kvs.map λp=>V.ref p.2.1) S:=by
 obtain⟨kvs,h1,h2,a,f⟩:=N.ex;have lk:kvs.length=S.length:=by have:=congrArg List.length a;simpa using this
 refine⟨kvs,⟨h1,h2⟩,lk,?_⟩;have all:∀(l:List KE)(S:List Th),(∀p∈l,p∈kvs)->l.map (·.1)=S.map kd->Zq H (l.map λp=>V.ref p.2.1) S:=by
  intro l;induction l with
  |nil=>intro S _ e;cases S with
   |nil=>exact .nil
   |cons t r=>simp at e
  |cons p l c=>intro S sub e;cases S with
   |nil=>simp at e
   |cons t r=>simp only[List.map_cons,List.cons.injEq]at e;refine .cons (Qhm t ?_) (c r (λq b=>sub q (List.mem_cons_of_mem _ b)) e.2);have:=(h2 p (sub p List.mem_cons_self)).1;rw[e.1,Rt]at this;exact this
 exact all kvs S (λ_ h=>h) a
def tw(b:Bool):GJ:=if b then"same"else"unlike"
def Ra(H:Hp):List V->Tl->Prop:=Paired λx p=>∃a v u,x=.ref a/\H a=Ga (.tup [.str (tw p.1),v,u])/\Zu H v p.2.1/\Zu H u p.2.2
theorem Ra.Qr{H H':Hp}(e:Q4 H H'){xs:List V}{tl:Tl}(h:Ra H xs tl):Ra H' xs tl:=L2.Paired.Z7 h λx p⟨a,v,u,h1,h2,b,c⟩=>⟨a,v,u,h1,e _ _ h2,b.Qr e,c.Qr e⟩
def Qar(H:Hp):List V->List (Th×Th)->Prop:=Paired λx p=>∃a v u,x=.ref a/\H a=Ga (.tup [v,u])/\Zu H v p.1/\Zu H u p.2
theorem Qar.Qr{H H':Hp}(e:Q4 H H'){xs:List V}{l:List (Th×Th)}(h:Qar H xs l):Qar H' xs l:=L2.Paired.Z7 h λx p⟨a,v,u,h1,h2,b,c⟩=>⟨a,v,u,h1,e _ _ h2,b.Qr e,c.Qr e⟩
theorem Qw{α β:Type}{F:α->β->Prop}:∀{xs:List α}{ys:List β}{i:Nat}{x:α},Paired F xs ys->xs[i]?=Ga x->∃y,ys[i]?=Ga y/\F x y
 |_,_,_,_,.nil,e=>by simp at e
 |_,_,0,_,.cons h _,e=>by simp at e;subst e;exact⟨_,Xb,h⟩
 |_,_,i+1,_,.cons _ t,e=>by obtain⟨y,h1,h2⟩:=Qw (i:=i) t (by simpa using e);exact⟨y,by simpa using h1,h2⟩
theorem Yj{α β:Type}{F:α->β->Prop}:∀{a b:List α}{c d:List β},Paired F a c->Paired F b d->Paired F (a++b) (c++d)
 |_,_,_,_,.nil,t=>t
 |_,_,_,_,.cons h r,t=>.cons h (Yj r t)
def Re(tl:Tl):List (Th×Th):=(tl.filter (·.1)).map (·.2)
theorem Qe3{a b:Th}:(a,b)∈Re tl↔(Ge,a,b)∈tl:=by
 unfold Re;rw[List.mem_map];constructor
 ·rintro⟨⟨c,x⟩,h,e⟩;rw[List.mem_filter]at h;obtain⟨h1,h2⟩:=h;have:c=Ge:=h2;subst this;cases e;exact h1
 ·intro h;exact⟨(Ge,a,b),List.mem_filter.mpr ⟨h,Xb⟩,Xb⟩
def Qee(P:Gj)(w:Gu):Sp:=λvs H Q _=>∃(a b:Gc)(us c:List V)(tl:Tl)(ts:List Th),vs=[.ref a,.ref b]/\H a=Ga (.lst us)/\Ra H us tl/\H b=Ga (.lst c)/\Zq H c ts/\
 (∀t∈ts,t.ok=Ge/\t.depth<=8)/\(∀p∈tl,(p.2.1.ok=Ge/\p.2.1.depth<=8)/\p.2.2.ok=Ge/\p.2.2.depth<=8)/\Qx ts+Qx (tl.map (·.2.1))+Qx (tl.map (·.2.2))<=3000/\
 ∀(d:Gc)(S:List Th)(L:Th->Int)(H':Hp),Q5 H H'->H d=Gf->Num P w H' d S L->Tells tl S L->(∀t∈ts,t∈S)->(∀p∈tl,p.2.1∈S/\p.2.2∈S)->Q (.ref d) H'
end Sb
namespace L2
open PySem PySem.Spec PyProof.Rows
variable{d:Gc}{H:Hp}
theorem Jx{K:PySem.W.Frag}{a p:Gc}{xs:List V}{g:TG}{tt:TT}{te:TE}{Q:Hp->Prop}{h:St}{H0:Hp}(u:xs.length<=Gh)(Pv:Nat->List V->St->Hp->Prop)(r:Pv 0 [] h (upd H0 p (.lst [])))
  (s:∀i ys σ H,i<=xs.length->Pv i ys σ H->Zc K H a xs)
  (t:∀i x ys σ H,xs[i]?=Ga x->Pv i ys σ H->H p=Ga (.lst ys)->g x σ H λd H2=>tt d H2 λb j=>if b=Ge then te d j λv n=>n p=Ga (.lst ys)/\Pv (i+1) (ys++[v]) d (upd n p (.lst (ys++[v])))else j p=Ga (.lst ys)/\Pv (i+1) ys d j)
  (hd:∀ys σ H,Pv xs.length ys σ H->H p=Ga (.lst ys)->Q H):Qex p (Itl K a) g tt te Q h (upd H0 p (.lst [])):=by
 refine⟨λi m σ H=>m=xs.length - i/\i<=xs.length/\∃ys,ys.length<=i/\Pv i ys σ H/\H p=Ga (.lst ys),⟨xs.length,by simp,Gx _,[],Gn _,r,Qb⟩,?_⟩;rintro i m σ H ⟨rfl,hi,ys,w,pv,o⟩;have q:=s i ys σ H hi pv;by_cases f:i<xs.length
 ·refine .inr ⟨⟨xs,xs[i],q,by simp[f]⟩,λv c H'=>H' p=Ga (.lst ys)/\Pv (i+1) (ys++[v]) c (upd H' p (.lst (ys++[v]))),λc H'=>H' p=Ga (.lst ys)/\Pv (i+1) ys c H',
   λv c H'⟨k,l⟩=>⟨ys,k,by omega,xs.length - (i+1),by omega,Xb,f,ys++[v],by simp[w],l,Qb⟩,λc H'⟨k,l⟩=>⟨xs.length - (i+1),by omega,Xb,f,ys,by omega,l,k⟩,λx H' y=>?_⟩
  obtain⟨e,y⟩:=y;subst e;exact t i x ys σ _ (y xs q) pv o
 ·have e:i=xs.length:=by omega
  subst e;exact .inl ⟨⟨xs,q,Gn _⟩,hd ys σ H pv o⟩
def Tr(t:TS)(pre a:St->Hp->Prop):Prop:=∀D σ H,pre σ H->(∀b H',a b H'->D.nx b H')->t D σ H
def Iw(d:Gc)(H H':Hp):Prop:=∀c o,H c=Ga o->c≠d->H' c=Ga o
theorem Iw.refl:Iw d H H:=λ_ _ e _=>e
theorem Iw.trans{H1 H2:Hp}(a:Iw d H H1)(b:Iw d H1 H2):Iw d H H2:=λc o e h=>b c o (a c o e h) h
theorem Iw.of{H1:Hp}(e:Q5 H H1):Iw d H H1:=λc o h _=>e c o h
end L2
namespace Sb
open PySem PySem.Spec PyProof.Rows L2
variable{H:Hp}{tl:Tl}
theorem _root_.L2.Iw.Qr{d:Gc}{H':Hp}{o:HO}(b:Iw d H H')(h:H d=Ga o)(a:∀xs,o≠.tup xs):Q4 H H':=λc xs e=>b c _ e λz=>by subst z;rw[h]at e;exact a xs (Tc e)
theorem Qey{α:Type}{p q:α->Bool}:∀{l:List α},(∀x∈l,p x=Ge->q x=Ge)->l.countP p<=l.countP q
 |[],_=>by simp
 |x::l,h=>by
  have b:=Qey (l:=l) λy a=>h y (List.mem_cons_of_mem _ a);have h1:=h x List.mem_cons_self;rw[List.countP_cons,List.countP_cons];cases e1:p x with
  |true=>rw[h1 e1];simp;exact b
  |false=>simp;omega
theorem Qev{α:Type}{p q:α->Bool}:∀{l:List α},(∀x∈l,p x=Ge->q x=Ge)->(∃x∈l,q x=Ge/\p x=Gp)->l.countP p<l.countP q
 |[],_,⟨x,e,_⟩=>nomatch e
 |x::l,h,⟨y,a,b,c⟩=>by
  have d:∀y∈l,p y=Ge->q y=Ge:=λy a=>h y (List.mem_cons_of_mem _ a);have le:=Qey d;rw[List.countP_cons,List.countP_cons];rcases List.mem_cons.mp a with z|z
  ·subst z;rw[b,c];simp;omega
  ·have f:=Qev d ⟨y,z,b,c⟩;have h1:=h x List.mem_cons_self;cases e3:p x with
   |true=>rw[h1 e3];simp;exact f
   |false=>simp;omega
def dis(S:List Th)(L:Th->Int):Nat:=(S.flatMap λx=>S.map λy=>(x,y)).countP λp=>decide (L p.1≠L p.2)
theorem Qxv{S:List Th}{L a:Th->Int}(h:∀x∈S,∀y∈S,L x=L y->a x=a y)(h2:∃x∈S,∃y∈S,L x≠L y/\a x=a y):dis S a<dis S L:=by
 obtain⟨x,c,y,d,f,g⟩:=h2;refine Qev (λp b e=>?_) ⟨(x,y),?_,Gr f,by simp[g]⟩
 ·rw[List.mem_flatMap]at b;obtain⟨x,c,b⟩:=b;obtain⟨y,d,rfl⟩:=List.mem_map.mp b;exact Gr λz=>(Tq e) (h x c y d z)
 ·rw[List.mem_flatMap];exact⟨x,c,List.mem_map.mpr ⟨y,d,Xb⟩⟩
theorem Wk{H:Hp}:∀l:List Int,Dts H (l.map V.int) (l.map TZ)
 |[]=>.nil
 |i::r=>.cons (.int i) (Wk r)
theorem Ws:∀l:List Int,Gw (l.map TZ)=Ge
 |[]=>by simp[Gw]
 |i::r=>by simp[Gw,GQ,Ws r]
theorem Jc:∀l:List Int,Tj (l.map TZ)<=1
 |[]=>by simp[Tj]
 |i::r=>by have:=Jc r;simp only[List.map_cons,Tj,TQ];omega
theorem Ol:∀l m:List Int,Tg (l.map TZ) (m.map TZ)=decide (l=m)
 |[],[]=>by simp[Tg]
 |[],_::_=>by simp[Tg]
 |_::_,[]=>by simp[Tg]
 |i::l,j::m=>by
  simp only[List.map_cons,Tg,GX,Ol l m];by_cases h:i=j
  ·subst h;simp
  ·simp[h]
theorem Qeo{P:Gj}{w:Gu}{K:PySem.W.Frag}{r p d:Gc}{us:List V}{ps S:List Th}{L:Th->Int}{Q:Hp->Prop}(o:H r=Ga (.tup us))(g:Zq H us ps)(f:∀t∈ps,t∈S)(N:Num P w H d S L)(h:H p=Gf)(k:us.length<=3000)
  (q:∀H',Q5 H H'->H' p=Ga (.lst ((ps.map L).map V.int))->Q H'):Qex p (Itt K r) (V2 0) Que (tOp (Qhf P w) (Vv 1) (Vv 0)) Q [Gf,Ga (.ref d)] (upd H p (.lst [])):=by
 refine Uu (K:=K) (a:=r) (xs:=us) (small (by omega)) (λi ys σ H1=>(∃n,σ=[n,Ga (.ref d)])/\ys=((ps.take i).map L).map V.int/\H1=upd H p (.lst ys)) ⟨⟨_,Xb⟩,by simp,Xb⟩ (λi ys σ H1 _⟨_,_,e⟩=>Q9.of (by rw[e];exact Qf h _ _ _ o)) ?_ ?_
 ·rintro i x ys σ H1 hi j ⟨⟨n,rfl⟩,rfl,rfl⟩ c;obtain⟨t,l,m⟩:=g.get hi;obtain⟨b,_,_,_,rfl,_,_,_⟩:=m.inv;have s1:=Qf h (.lst (((ps.take i).map L).map V.int));refine⟨_,Xb,_,Xb,(N.same s1).get (f t (List.mem_of_getElem? l)) (m.same s1) ⟨c,⟨_,Xb⟩,?_,?_⟩⟩
  ·rw[List.take_add_one,l];simp
  ·rw[Wt]
 ·rintro ys σ H1 j ⟨_,rfl,rfl⟩ c;rw[g.length,List.take_length]at c⊢;exact q _ (Qf h _) c
inductive Dd where
 |tell (b:Bool) (x y:Th)
 |ask (x y:Th)
 |back (i:Int)
variable{d:Dd}
def Dd.fits(ts:List Th):Dd->Prop
 |.tell _ x y=>x∈ts/\y∈ts
 |.ask x y=>x∈ts/\y∈ts
 |.back _=>True
def Qfh(H:Hp)(x:V):Dd->Prop
 |.tell b t u=>∃a c d,x=.ref a/\H a=Ga (.tup [.str (tw b),c,d])/\Zu H c t/\Zu H d u
 |.ask t u=>∃a c d,x=.ref a/\H a=Ga (.tup [.str "ask",c,d])/\Zu H c t/\Zu H d u
 |.back i=>∃a,x=.ref a/\H a=Ga (.tup [.str "back",.int i])
theorem Qfh.Qr{H H':Hp}(e:Q4 H H'){x:V}:∀{d:Dd},Qfh H x d->Qfh H' x d
 |.tell _ _ _,⟨a,f,g,h1,h2,b,c⟩=>⟨a,f,g,h1,e _ _ h2,b.Qr e,c.Qr e⟩
 |.ask _ _,⟨a,f,g,h1,h2,b,c⟩=>⟨a,f,g,h1,e _ _ h2,b.Qr e,c.Qr e⟩
 |.back _,⟨a,h1,h2⟩=>⟨a,h1,e _ _ h2⟩
def Rc(H:Hp):List V->List Dd->Prop:=Paired λx d=>Qfh H x d
theorem Rc.Qr{H H':Hp}(e:Q4 H H'){xs:List V}{ds:List Dd}(h:Rc H xs ds):Rc H' xs ds:=L2.Paired.Z7 h λ_ _ h=>h.Qr e
theorem Rc.same{H':Hp}(e:Q5 H H'){xs:List V}{ds:List Dd}(h:Rc H xs ds):Rc H' xs ds:=h.Qr (Q4.of e)
def Qld(K:PySem.W.Frag):Sp:=λvs H Q _=>∃(a b:Gc)(ns:List Int)(us:List V)(ts:List Th),vs=[.ref a,.ref b]/\Zc K H a (ns.map V.int)/\ns.length<=63/\H b=Ga (.lst us)/\Zq H us ts/\0<ts.length/\ts.length<=1000/\
 ∀(r:Gc)(es:List V)(dl:List Dd)(H':Hp),Q5 H H'->H r=Gf->H' r=Ga (.lst es)->Rc H' es dl->dl.length=ns.length->(∀d∈dl,d.fits ts)->Q (.ref r) H'
def Qv1:Sp:=λvs H Q _=>∃n:Int,vs=[.int n]/\∀(m:Int)(H':Hp),Q5 H H'->Q (.int m) H'
def Qpi(K:PySem.W.Frag):Sp:=λvs H Q _=>∃(a:Gc)(ns:List Int)(m b:Int),vs=[.ref a,.int m,.int b]/\Zc K H a (ns.map V.int)/\ns.length<=63/\Q (.int m) H
def We(tl:Tl):Prop:=∃a b,(Gp,a,b)∈tl/\Cg tl a b
def Qik:Sp:=λvs H Q _=>∃(a e:Gc)(us:List V)(tl:Tl)(c d:V)(b:Bool)(x y:Th),vs=[.ref a,.ref e]/\H a=Ga (.lst us)/\Ra H us tl/\H e=Ga (.tup [.str (tw b),c,d])/\Zu H c x/\Zu H d y/\(x.ok=Ge/\x.depth<=8)/\(y.ok=Ge/\y.depth<=8)/\
 (∀p∈tl,(p.2.1.ok=Ge/\p.2.1.depth<=8)/\p.2.2.ok=Ge/\p.2.2.depth<=8)/\Qx (tl.map (·.2.1))+Qx (tl.map (·.2.2))+x.size+y.size<=3000/\∀(r:Bool)(H':Hp),Q5 H H'->(r=Ge↔We (tl++[(b,x,y)]))->Q (.bl r) H'
open Classical in
noncomputable def kindOf(tl:Tl)(x y:Th):GJ:=if Cg tl x y then"equal"else if∃a b,(Gp,a,b)∈tl/\Cg (tl++[(Ge,x,y)]) a b then"unlike"else"open"
open Classical in
noncomputable def Jq(tl:Tl):Dd->Tl×V
 |.ask x y=>(tl,.str (kindOf tl x y))
 |.back i=>if 0<=i/\i<=(tl.length:Int)then(tl.take i.toNat,.int ((tl.length:Int) - i))else(tl,.str "no moment")
 |.tell b x y=>if We (tl++[(b,x,y)])then(tl,.str "clash")else(tl++[(b,x,y)],.int ((tl.length:Int)+1))
noncomputable def after(tl:Tl):List Dd->Tl
 |[]=>tl
 |d::ds=>after (Jq tl d).1 ds
theorem R9(tl:Tl):∀(ds es:List Dd),after tl (ds++es)=after (after tl ds) es
 |[],es=>rfl
 |d::ds,es=>R9 (Jq tl d).1 ds es
theorem Qcv{ds:List Dd}{k:Nat}(h:ds[k]?=Ga d):after tl (ds.take (k+1))=(Jq (after tl (ds.take k)) d).1:=by rw[List.take_add_one,h,R9];rfl
def Th.good(t:Th):Prop:=t.ok=Ge/\t.depth<=8/\t.size<=100
def Dd.good:Dd->Prop
 |.tell _ x y=>x.good/\y.good
 |.ask x y=>x.good/\y.good
 |.back _=>True
def Tlg(tl:Tl):Prop:=∀p∈tl,p.2.1.good/\p.2.2.good
theorem Qrg(h:Tlg tl)(g:d.good):Tlg (Jq tl d).1:=by
 cases d with
 |ask x y=>exact h
 |back i=>
  simp only[Jq];split
  ·exactλp a=>h p (List.mem_of_mem_take a)
  ·exact h
 |tell b x y=>
  simp only[Jq];split
  ·exact h
  ·intro p a;rcases List.mem_append.mp a with z|z
   ·exact h p z
   ·rw[List.mem_singleton]at z;subst z;exact g
theorem Qua:(Jq tl d).1.length<=tl.length+1:=by
 cases d with
 |ask x y=>exact D1 _
 |back i=>
  simp only[Jq];split
  ·rw[List.length_take];omega
  ·exact D1 _
 |tell b x y=>
  simp only[Jq];split
  ·exact D1 _
  ·rw[List.length_append,List.length_singleton];omega
theorem Qci:∀{ds:List Dd}{tl:Tl},Tlg tl->(∀d∈ds,d.good)->Tlg (after tl ds)
 |[],_,h,_=>h
 |d::ds,tl,h,g=>by have:=Qci (ds:=ds) (tl:=(Jq tl d).1) (Qrg h (g d List.mem_cons_self)) λe a=>g e (List.mem_cons_of_mem _ a);simp only[after];exact this
theorem Qao:∀{ds:List Dd}{tl:Tl},(after tl ds).length<=tl.length+ds.length
 |[],tl=>Gn _
 |d::ds,tl=>by have h1:=Qao (ds:=ds) (tl:=(Jq tl d).1);have h2:=Qua (tl:=tl) (d:=d);simp only[after,List.length_cons];omega
theorem Qqc(h:Tlg tl):Qx (tl.map (·.2.1))<=tl.length*100/\Qx (tl.map (·.2.2))<=tl.length*100:=by
 have h1:=Jw (tl.map (·.2.1)) 100 λt b=>by obtain⟨p,a,rfl⟩:=List.mem_map.mp b;exact(h p a).1.2.2
 have h2:=Jw (tl.map (·.2.2)) 100 λt b=>by obtain⟨p,a,rfl⟩:=List.mem_map.mp b;exact(h p a).2.2.2
 rw[List.length_map]at h1 h2;exact⟨h1,h2⟩
theorem Qys(b:Bool):TC (tw b)=Ge:=by cases b<;>decide+kernel
structure Qpc(U:List Th):Prop where
 cl:Vw U
 good:∀t∈U,t.good
 len:U.length<=60
theorem Qpc.Q04{U:List Th}(h:Qpc U)(f:d.fits U):d.good:=by
 cases d with
 |tell b x y=>exact⟨h.good x f.1,h.good y f.2⟩
 |ask x y=>exact⟨h.good x f.1,h.good y f.2⟩
 |back i=>exact TW
theorem Qfi{ts:List Th}(h:∀t∈ts,∀p∈t.parts,p∈ts):Vw ts:=by
 have key:∀n:Nat,∀t∈ts,t.depth<=n->∀s∈t.inside,s∈ts:=by
  intro n;induction n with
  |zero=>intro t _ hd;have:=Qax t;omega
  |succ n d=>
   intro t b hd s a;cases t with
   |mk u ps=>
    simp only[Th.inside,List.mem_append,List.mem_singleton]at a;rcases a with a|rfl
    ·rw[Xs,List.mem_flatMap]at a;obtain⟨p,c,a⟩:=a;have:=W5 c;simp only[Th.depth]at hd;exact d p (h _ b p c) (by omega) s a
    ·exact b
 exactλt b=>key _ t b (Gn _)
mutual
def Th.ren(φ:GJ->GJ):Th->Th
 |.mk w ps=>.mk (φ w) (Qoh φ ps)
def Qoh(φ:GJ->GJ):List Th->List Th
 |[]=>[]
 |p::r=>p.ren φ::Qoh φ r
end
def Qzg(φ:GJ->GJ)(p:Bool×Th×Th):Bool×Th×Th:=(p.1,p.2.1.ren φ,p.2.2.ren φ)
mutual
theorem Cg.ren{tl:Tl}(φ:GJ->GJ):∀{s t:Th},Cg tl s t->Cg (tl.map (Qzg φ)) (s.ren φ) (t.ren φ)
 |_,_,.refl t=>.refl _
 |_,_,.symm c=>.symm (Cg.ren φ c)
 |_,_,.trans c d=>.trans (Cg.ren φ c) (Cg.ren φ d)
 |_,_,.told m=>.told (List.mem_map.mpr ⟨_,m,Xb⟩)
 |_,_,.cong c=>by simp only[Th.ren];exact .cong (CgL.ren φ c)
theorem CgL.ren{tl:Tl}(φ:GJ->GJ):∀{s t:List Th},CgL tl s t->CgL (tl.map (Qzg φ)) (Qoh φ s) (Qoh φ t)
 |_,_,.nil=>by simp only[Qoh];exact .nil
 |_,_,.cons c d=>by simp only[Qoh];exact .cons (Cg.ren φ c) (CgL.ren φ d)
end
def Sub(tl a:Tl):Prop:=∀b x y,(b,x,y)∈tl->(b,x,y)∈a\/(b,y,x)∈a
mutual
theorem Cg.sub{tl a:Tl}(h:Sub tl a):∀{s t:Th},Cg tl s t->Cg a s t
 |_,_,.refl t=>.refl t
 |_,_,.symm c=>.symm (Cg.sub h c)
 |_,_,.trans c d=>.trans (Cg.sub h c) (Cg.sub h d)
 |_,_,.told m=>by
  rcases h _ _ _ m with z|z
  ·exact .told z
  ·exact .symm (.told z)
 |_,_,.cong c=>.cong (CgL.sub h c)
theorem CgL.sub{tl a:Tl}(h:Sub tl a):∀{s t:List Th},CgL tl s t->CgL a s t
 |_,_,.nil=>.nil
 |_,_,.cons c d=>.cons (Cg.sub h c) (CgL.sub h d)
end
theorem Qje{a:Tl}(h:Sub tl a)(b:We tl):We a:=by
 obtain⟨x,y,m,c⟩:=b;rcases h _ _ _ m with z|z
 ·exact⟨x,y,z,c.sub h⟩
 ·exact⟨y,x,z,.symm (c.sub h)⟩
theorem Qrh(n:Nat):Sub (tl.take n) tl:=λ_ _ _ m=>.inl (List.mem_of_mem_take m)
theorem Qds:¬We []:=λ⟨_,_,m,_⟩=>nomatch m
theorem Qkx(h:¬We tl):¬We (Jq tl d).1:=by
 cases d with
 |ask x y=>exact h
 |back i=>
  simp only[Jq];split
  ·exactλb=>h (Qje (Qrh _) b)
  ·exact h
 |tell b x y=>
  simp only[Jq];split
  ·exact h
  ·rename_i z;exact z
theorem Ox:∀{ds:List Dd}{tl:Tl},¬We tl->¬We (after tl ds)
 |[],_,h=>h
 |d::ds,tl,h=>by have:=Ox (ds:=ds) (tl:=(Jq tl d).1) (Qkx h);simp only[after];exact this
end Sb
namespace L2
open PySem PySem.Spec PyProof.Rows
def Qpu(K:PySem.W.Frag)(a:Gc)(n:Nat):It:=
 ⟨λi H=>∃xs,Zc K H a xs/\xs.length=n/\i<n,λi H x H'=>H'=H/\∀xs,Zc K H a xs->xs[n - 1 - i]?=Ga x,λi _=>i=n⟩
theorem Qnk{P:Gj}{w:Gu}{K:PySem.W.Frag}{tg:TJ}(a it:Gc)(n:Nat):Qfs P w K tg (Qpu K a n) [it] it (λi h=>i<=n/\h.IsRevIter it a ((n:Int) - 1 - (i:Int))) where
 mem:=by simp
 obj:=λi h st b hb=>by
  have e:b=it:=by simpa using hb
  subst e;obtain⟨_,o,e,c,d⟩:=st;exact⟨o,e,λv z=>by rw[d]at z;cases z⟩
 keep:=λi h h' st k=>⟨st.1,st.2.at λo e=>k it (by simp) o e⟩
 item:=by
  intro X B hw A C i pins s σ H E I j st l;subst B hw A;obtain⟨xs,D,U,hi⟩:=l;obtain⟨its,rv,p,hz⟩:=I.list D;have T:=rv.length;have F:xs[n - 1 - i]?=Ga (xs[n - 1 - i]'(by omega)):=List.getElem?_eq_getElem (by omega);obtain⟨u,O,R⟩:=rv.get F;obtain⟨m,q,N,r,t,y⟩:=j it (by simp);have e:(n:Int) - 1 - (i:Int)=((n - 1 - i:Nat):Int):=by omega
  have f:=st.2;rw[e]at f;refine Sa f p.isList (x:=u) (by simpa using O) λh' g S=>?_;have G:Inv X pins σ H {s with heap:=h'}:=I.turned (t':=s.toks) (λb o hb e=>(S.2 b hb).trans e) m q r t y;have J:((n - 1 - i:Nat):Int) - 1=(n:Int) - 1 - ((i+1:Nat):Int):=by omega
  rw[J]at g;obtain⟨o,L,c,d⟩:=id g;exact⟨u,Xb,Qep (s:={s with heap:=h'}) L c d (by decide) ⟨_,H,G,R,⟨Xb,λys Q=>by rw[I.Qc6 Q D];exact F⟩,⟨hi,g⟩,λb hb=>(j b hb).1⟩⟩
 done:=by intro X B hw A C i pins s σ H E I j st l;subst B hw A;have l:i=n:=l;obtain⟨m,q,N,r,t,y⟩:=j it (by simp);have f:=st.2;rw[show(n:Int) - 1 - (i:Int)= -1 by omega]at f;exact Si (I.ok.hd C) f λh' M=>⟨Xb,I.turned (t':=s.toks) (λb o hb e=>M b o hb e) m q r t y⟩
 self:=λ_ _ _ _ _ st h=>El st.2 h
def Qzs(K:PySem.W.Frag)(ta:TA):TI:=λσ H R=>ta σ H λvs H1=>∃a xs,vs=[.ref a]/\Zc K H1 a xs/\R (Qpu K a xs.length) H1
section
variable{X:Cx}{tg:TJ}
theorem Qth{a:TJ}{ta:TA}{p pos:E6}(k:Gl X "reversed")(l:X.mg "reversed"=Gf)(i:PA X [a] ta)(n:GY [a] X.env=[(Gp,eval a X.env)]:=by rfl):PI X tg (.Call (.Name "reversed" p) [a] [] pos) (Qzs X.K ta):=by
 intro pins s σ H R I h;refine Fw (V5 I k l LH (T9 (Yz (i pos pins s σ H _ I h) λus s1⟨vs,H1,d,t,r⟩=>?_) n Xb));obtain⟨b,xs,e,m,q⟩:=r;subst e;obtain⟨u,rfl,v⟩:=vals1 t;cases(show u=Value.ref b from v);obtain⟨its,rv,pt,hz⟩:=d.list m;have w:=rv.length;refine SA pt.isList ?_;have f:Inv X pins σ H1 {s1 with heap:=s1.heap.push (revObj b ((its.toArray.size:Int) - 1))}:=d.kept (t':=s1.toks) λb o e=>Heap.get?_push_of_some _ e;have st:(s1.heap.push (revObj b ((its.toArray.size:Int) - 1))).IsRevIter s1.heap.objs.size b ((xs.length:Int) - 1 - ((0:Nat):Int)):=by
  have g:(xs.length:Int) - 1 - ((0:Nat):Int)=(its.toArray.size:Int) - 1:=by rw[List.size_toArray];omega
  rw[g];exact⟨_,Heap.get?_push_size _ Xb,Xb,Xb⟩
 refine El st ⟨s1.heap.objs.size,[s1.heap.objs.size],_,_,H1,Xb,f,Qnk b _ xs.length,⟨Gx _,st⟩,λc j=>?_,q⟩;have e:c=s1.heap.objs.size:=by simpa using j
 subst e;exact d.Qiv (Gn _) (d.Z4.fresh (Gn _))
end
theorem Qql{K:PySem.W.Frag}{a:Gc}{xs:List V}{g:TG}{tb:TS}{D:Ends}{σ:St}{H:Hp}(Pv:Nat->St->Hp->Prop)(j:Pv 0 σ H)(k:∀i σ H,i<=xs.length->Pv i σ H->Zc K H a xs)
  (l:∀i x σ H,xs.reverse[i]?=Ga x->Pv i σ H->g x σ H λd H2=>tb {D with nx:=Pv (i+1),ct:=Pv (i+1),bk:=D.nx} d H2)(hd:∀σ H,Pv xs.length σ H->D.nx σ H):
  ∃W:Nat->Nat->St->Hp->Prop,(∃m,W 0 m σ H)/\∀i m σ H,W i m σ H->
   ((Qpu K a xs.length).stop i H/\D.nx σ H)\/((Qpu K a xs.length).go i H/\∃N:St->Hp->Prop,(∀c H',N c H'->∃f,f<m/\W (i+1) f c H')/\∀x H',(Qpu K a xs.length).yld i H x H'->g x σ H' λd H2=>tb {D with nx:=N,ct:=N,bk:=D.nx} d H2):=by
 refine⟨λi m σ H=>m=xs.length - i/\i<=xs.length/\Pv i σ H,⟨xs.length,by simp,Gx _,j⟩,?_⟩;rintro i m σ H ⟨rfl,hi,p⟩;have q:=k i σ H hi p;by_cases b:i<xs.length
 ·refine .inr ⟨⟨xs,q,Xb,b⟩,Pv (i+1),λc H' h=>⟨xs.length - (i+1),by omega,Xb,b,h⟩,λx H' y=>?_⟩;obtain⟨e,y⟩:=y;subst e;exact l i x σ _ (by rw[List.getElem?_reverse b];exact y xs q) p
 ·have e:i=xs.length:=by omega
  subst e;exact .inl ⟨Xb,hd σ H p⟩
end L2
namespace Sb
open PySem PySem.Spec PyProof.Rows L2
structure Mp(P:Gj)(w:Gu)(H:Hp)(d:Gc)(S:Th->Prop)(F:Th->Th):Prop where
 ex:∃kvs:List KE,H d=Ga (Vn P w d kvs)/\Vu H kvs/\∀t,S t->∃b,Yg kvs (kd t)=Ga (.ref b)/\Zu H (.ref b) (F t)
theorem Mp.at{P:Gj}{w:Gu}{H:Hp}{d:Gc}{S:Th->Prop}{F:Th->Th}(N:Mp P w H d S F):∃o,H d=Ga (.ext o):=by obtain⟨kvs,h,_⟩:=N.ex;exact⟨_,h⟩
open PySem L2
abbrev KI(K:PySem.W.Frag)(f:Gc):Prop:=PySem.W.keepIn K (.ref f)=Ge
abbrev MG(mg:GJ->Option Value)(x:GJ)(f:Gc):Prop:=mg x=Ga (.ref f)
end Sb
namespace K03
open PySem L2 Sb
def top(i:Nat):T2:=PySem.Challenge.pw_samebook_k03_whole_answers_shown.main.body.getD i (.Pass ⟨0,0,0,0⟩)
abbrev Qf8:T2:=top 1
abbrev Oy:T2:=Ya (top 2) 0
abbrev R0:T2:=Ya (top 2) 1
abbrev Rw:T2:=Ya (top 2) 2
abbrev Qfl:T2:=Ya (top 2) 3
abbrev Qgj:T2:=Ya (top 2) 4
abbrev Ji:T2:=Ya (top 2) 5
abbrev Qmk:T2:=Ya (top 2) 6
abbrev Il:T2:=Ya (top 2) 7
abbrev Qt5:T2:=Ya (top 2) 8
abbrev Qfx:T2:=Ya (top 2) 9
abbrev Qid:T2:=Ya (top 2) 10
abbrev Qfq:T2:=top 4
abbrev Qbz:T2:=top 5
abbrev Qf3:T2:=top 6
abbrev Qb5:T2:=Ya (top 7) 0
abbrev Qfy:T2:=Ya (top 7) 1
abbrev Vz:T2:=Ya (top 7) 2
abbrev Ih:T2:=Ya (top 7) 3
abbrev Qbt:T2:=Ya (top 9) 0
abbrev Od:T2:=Ya (top 9) 1
abbrev Jv:T2:=Ya (top 9) 2
abbrev Qbr:T2:=Ya (top 9) 3
abbrev Qo2:T2:=top 10
abbrev Jy:T2:=top 13
abbrev Qbp:T2:=Ya (top 14) 0
abbrev Qbu:T2:=Ya (top 14) 1
abbrev Qb3:T2:=Ya (top 14) 2
abbrev Qlh:T2:=Ya (top 14) 3
abbrev Quv:T2:=Ya (top 14) 4
abbrev Ij:T2:=Ya (top 14) 5
abbrev Qf7:T2:=top 15
abbrev Qfn:T2:=top 17
abbrev Qfj:T2:=top 18
abbrev Qgo:T2:=top 19
abbrev Ob:T2:=top 20
abbrev Jt:T2:=top 21
abbrev Qme:T2:=top 22
abbrev Ro:T2:=top 23
abbrev Ou:T2:=top 24
abbrev Ql8:T2:=top 25
abbrev Qgl:T2:=top 26
abbrev Wu:T2:=top 27
abbrev Qbo:T2:=top 28
abbrev Qmp:T2:=top 29
abbrev Qk0:T2:=top 30
abbrev Qs0:T2:=top 31
abbrev Qjt:T2:=top 32
end K03
namespace Sb
open PySem PySem.Spec PyProof.Rows L2
variable{ts:List Th}{t:Th}{H H':Hp}{a f d dn:Gc}{S:List Gc}{m:Nat}
def jv(j:Nat):V:=.int (j:Int)
theorem Qwf{i j:Nat}(h:jv i=jv j):i=j:=by unfold jv at h;injection h with h;omega
abbrev Fm:=GJ×List Nat
def fm(ts:List Th)(t:Th):Fm:=(t.word,t.parts.map λp=>ts.idxOf p)
def ik(i:Nat):KD:=.int (i:Int)
def Xc(f:Fm):KD:=.tup [.str f.1,.tup (f.2.map ik)]
theorem Qbf:∀{a b:List Nat},a.map ik=b.map ik->a=b
 |[],[],_=>rfl
 |[],_::_,h=>by simp at h
 |_::_,[],h=>by simp at h
 |x::a,y::b,h=>by
  simp only[List.map_cons,List.cons.injEq]at h;have e:(x:Int)=(y:Int):=by have:=h.1;unfold ik at this;injection this
  have t:=Qbf h.2;rw[t,show x=y by omega]
theorem U3{f g:Fm}(h:Xc f=Xc g):f=g:=by unfold Xc at h;simp only[KD.tup.injEq,List.cons.injEq,KD.str.injEq,Ls]at h;exact SJ h.1 (Qbf h.2)
theorem Iv(h:t∈ts):ts[ts.idxOf t]?=Ga t:=by have a:ts.idxOf t<ts.length:=List.idxOf_lt_length_of_mem h;rw[List.getElem?_eq_getElem a,List.getElem_idxOf a]
theorem Rl{j:Nat}(nd:ts.Nodup)(h:ts[j]?=Ga t):ts.idxOf t=j:=by obtain⟨a,e⟩:=List.getElem?_eq_some_iff.mp h;subst e;exact nd.idxOf_getElem j a
theorem Qf0{s:Th}(a:s∈ts)(b:t∈ts)(e:ts.idxOf s=ts.idxOf t):s=t:=by have h1:=Iv a;have h2:=Iv b;rw[e,h2]at h1;exact(Tc h1).symm
theorem Qsz{us:List Th}(h:t∈ts):(ts++us).idxOf t=ts.idxOf t:=by rw[List.idxOf_append,Gk h]
theorem Qa6{ts:List Th}:∀{a b:List Th},(∀x∈a,x∈ts)->(∀x∈b,x∈ts)->a.map (λp=>ts.idxOf p)=b.map (λp=>ts.idxOf p)->a=b
 |[],[],_,_,_=>rfl
 |[],_::_,_,_,h=>by simp at h
 |_::_,[],_,_,h=>by simp at h
 |x::a,y::b,h1,h2,h=>by simp only[List.map_cons,List.cons.injEq]at h;rw[Qf0 (h1 x List.mem_cons_self) (h2 y List.mem_cons_self) h.1,Qa6 (λz hz=>h1 z (List.mem_cons_of_mem _ hz)) (λz hz=>h2 z (List.mem_cons_of_mem _ hz)) h.2]
theorem Xv(cl:Vw ts)(h:t∈ts):∀p∈t.parts,p∈ts:=λp a=>by
 refine cl t h p ?_;cases t with
 |mk w ps=>simp only[Th.parts]at a;simp only[Th.inside,List.mem_append];left;rw[Xs,List.mem_flatMap];exact⟨p,a,Qlu p⟩
theorem Qi7{s:Th}(a:∀p∈s.parts,p∈ts)(b:∀p∈t.parts,p∈ts)(e:fm ts s=fm ts t):s=t:=by
 cases s with
 |mk w ps=>
  cases t with
  |mk v c=>unfold fm at e;simp only[Th.word,Th.parts,T1]at e a b;rw[e.1,Qa6 a b e.2]
theorem Qj5{us:List Th}(h:∀p∈t.parts,p∈ts):fm (ts++us) t=fm ts t:=by unfold fm;refine SJ rfl (List.map_congr_left λp a=>Qsz (h p a))
def Rm(H:Hp)(x:V)(f:Fm):Prop:=∃c e,x=.ref c/\H c=Ga (.tup [.str f.1,.ref e])/\H e=Ga (.tup (f.2.map jv))
theorem Rm.Qr{x:V}{f:Fm}(e:Q4 H H')(h:Rm H x f):Rm H' x f:=by obtain⟨c,d,h1,h2,a⟩:=h;exact⟨c,d,h1,e _ _ h2,e _ _ a⟩
theorem Qpz{H:Hp}:∀l:List Nat,Dts H (l.map jv) (Um (l.map ik))
 |[]=>by simp only[List.map_nil,Um];exact .nil
 |i::r=>by simp only[List.map_cons,Um,ik,KD.toD];exact .cons (.int _) (Qpz r)
theorem Qox:∀l:List Nat,Gw (Um (l.map ik))=Ge
 |[]=>by simp[Um,Gw]
 |i::r=>by simp only[List.map_cons,Um];simp only[Gw,Qox r,DX];simp[ik,KD.toD,GQ]
theorem Qsb:∀l:List Nat,J2 (l.map ik)=0
 |[]=>by simp[J2]
 |i::r=>by simp only[List.map_cons,J2,Qsb r];simp[ik,KD.depth]
theorem Rm.key{c:Gc}{f:Fm}(h:Rm H (.ref c) f)(ok:TC f.1=Ge):Og H c (Xc f):=by
 obtain⟨b,e,h1,h2,a⟩:=h;cases h1;unfold Xc;refine⟨?_,?_,?_⟩
 ·simp only[KD.toD,Um];exact .tup h2 (.cons (.str _) (.cons (.tup a (Qpz f.2)) .nil))
 ·simp only[KD.toD,Um,GQ,Gw,ok,Qox,DY]
 ·simp only[KD.depth,J2,Qsb];decide
def I0(a f d:Gc):List (GJ×V):=[("things",.ref a),("forms",.ref f),("known",.ref d)]
structure Pl(P:Gj)(w:Gu)(C:Gc)(H:Hp)(p a f d:Gc)(ts:List Th):Prop where
 ob:∃dx,H p=Ga (.ins C dx (I0 a f d))
 th:∃us,H a=Ga (.lst us)/\Zq H us ts
 fo:∃ws,H f=Ga (.lst ws)/\Paired (Rm H) ws (ts.map (fm ts))
 kn:∃kvs,DH P w H d kvs/\kvs.length<=ts.length/\(∀(j:Nat)t,ts[j]?=Ga t->Yg kvs (Xc (fm ts t))=Ga (jv j))/\∀k v,Yg kvs k=Ga v->∃t∈ts,k=Xc (fm ts t)
 af:a≠f
 nd:ts.Nodup
 cl:Vw ts
 ok:∀t∈ts,t.ok=Ge/\t.depth<=50
structure Fr3(a f d:Gc)(H H':Hp):Prop where
 keep:∀b o,H b=Ga o->b≠a->b≠f->b≠d->H' b=Ga o
 there:∀b,H' b=Gf->H b=Gf
theorem Fr3.refl:Fr3 a f d H H:=⟨λ_ _ e _ _ _=>e,λ_ h=>h⟩
theorem Fr3.trans{H1 H2:Hp}(x:Fr3 a f d H H1)(y:Fr3 a f d H1 H2):Fr3 a f d H H2:=⟨λb o e h1 h2 c=>y.keep b o (x.keep b o e h1 h2 c) h1 h2 c,λb h=>x.there b (y.there b h)⟩
theorem Fr3.of(g:Q5 H H'):Fr3 a f d H H':=⟨λb o e _ _ _=>g b o e,λb h=>g.free h⟩
section
variable{P:Gj}{w:Gu}{C:Gc}{H H':Hp}{p a f d:Gc}{ts:List Th}
theorem Fr3.Qr(x:Fr3 a f d H H')(y:Pl P w C H p a f d ts):Q4 H H':=λb xs e=>by obtain⟨us,g,_⟩:=y.th;obtain⟨h,c,_⟩:=y.fo;obtain⟨kvs,n1,_⟩:=y.kn;exact x.keep b _ e (Zy e g (by intro z;cases z)) (Zy e c (by intro z;cases z)) (Zy e n1.at_ (by intro z;cases z))
theorem Pl.keep(x:Pl P w C H p a f d ts)(j:∀o,H p=Ga o->H' p=Ga o)(g:∀o,H a=Ga o->H' a=Ga o)(i:∀o,H f=Ga o->H' f=Ga o)(hd:∀o,H d=Ga o->H' d=Ga o)(b:Q4 H H'):Pl P w C H' p a f d ts:=by obtain⟨dx,l⟩:=x.ob;obtain⟨us,m,n⟩:=x.th;obtain⟨q,c,e⟩:=x.fo;obtain⟨kvs,n1,n2,n3,k⟩:=x.kn;exact⟨⟨dx,j _ l⟩,⟨us,g _ m,n.Qr b⟩,⟨q,i _ c,L2.Paired.Z7 e λ_ _ h=>h.Qr b⟩,⟨kvs,⟨hd _ n1.at_,Zh b n1.keys⟩,n2,n3,k⟩,x.af,x.nd,x.cl,x.ok⟩
theorem Pl.same(g:Q5 H H')(x:Pl P w C H p a f d ts):Pl P w C H' p a f d ts:=x.keep (g _) (g _) (g _) (g _) (Q4.of g)
theorem Pl.but{b:Gc}{zs c:List V}(x:Pl P w C H p a f d ts)(hb:H b=Ga (.lst zs))(g:b≠a)(h:b≠f):Pl P w C (upd H b (.lst c)) p a f d ts:=by
 obtain⟨dx,i⟩:=x.ob;obtain⟨kvs,n1,_⟩:=x.kn;refine x.keep (λo e=>?_) (λo e=>by rw[Qg (Gm g)];exact e) (λo e=>by rw[Qg (Gm h)];exact e) (λo e=>?_) (Zz λxs e=>by rw[hb]at e;cases e)
 ·rw[Qg (Zy i hb (by intro z;cases z))];exact e
 ·rw[Qg (Zy n1.at_ hb (by intro z;cases z))];exact e
end
structure Nrr(H:Hp)(dn:Gc)(S:List Gc)(m:Nat)(ts:List Th):Prop where
 at_:∃kvs,H dn=Ga (.dT kvs)/\kvs.length<=m/\∀k v,Y9 kvs k=Ga v->∃l∈S,v=.ref l
 ls:∀l∈S,∃es,H l=Ga (.lst es)/\es.length<=m/\∀e∈es,∃c v,∃(j:Nat)(t:Th),e=.ref c/\H c=Ga (.tup [v,jv j])/\Zu H v t/\ts[j]?=Ga t
theorem Nrr.keep{d:Nat}{a:List Th}(x:Nrr H dn S m ts)(hd:∀o,H dn=Ga o->H' dn=Ga o)(n:∀l∈S,∀o,H l=Ga o->H' l=Ga o)(f:Q4 H H')(b:∀(j:Nat)t,ts[j]?=Ga t->a[j]?=Ga t)(w:m<=d):Nrr H' dn S d a:=by obtain⟨kvs,h1,h2,i⟩:=x.at_;refine⟨⟨kvs,hd _ h1,by omega,i⟩,λl hS=>?_⟩;obtain⟨es,g,u,h⟩:=x.ls l hS;refine⟨es,n l hS _ g,by omega,λe k=>?_⟩;obtain⟨c,v,j,t,p,q,r,s⟩:=h e k;exact⟨c,v,j,t,p,f _ _ q,r.Qr f,b j t s⟩
theorem Nrr.same(g:Q5 H H')(x:Nrr H dn S m ts):Nrr H' dn S m ts:=x.keep (g _) (λl _=>g l) (Q4.of g) (λ_ _ h=>h) (Gn _)
structure Fra(a f d dn:Gc)(S S':List Gc)(H H':Hp):Prop where
 keep:∀b o,H b=Ga o->b≠a->b≠f->b≠d->b≠dn->b∉S->H' b=Ga o
 own:∀b∈S',b∈S\/H b=Gf
 sub:∀b∈S,b∈S'
 there:∀b,H' b=Gf->H b=Gf
theorem Fra.of(g:Q5 H H'):Fra a f d dn S S H H':=⟨λb o e _ _ _ _ _=>g b o e,λ_ h=>.inl h,λ_ h=>h,λb h=>g.free h⟩
theorem Fra.trans{S1 S2:List Gc}{H1 H2:Hp}(x:Fra a f d dn S S1 H H1)(y:Fra a f d dn S1 S2 H1 H2):Fra a f d dn S S2 H H2:=by
 refine⟨λb o e h1 h2 c g i=>y.keep b o (x.keep b o e h1 h2 c g i) h1 h2 c g λz=>?_,λb hb=>?_,λb h=>y.sub b (x.sub b h),λb h=>x.there b (y.there b h)⟩
 ·rcases x.own b z with z|z
  ·exact i z
  ·rw[e]at z;cases z
 ·rcases y.own b hb with h|h
  ·exact x.own b h
  ·exact .inr (x.there b h)
theorem Fra.Qr{P:Gj}{w:Gu}{C:Gc}{p:Gc}{c:List Gc}(x:Fra a f d dn S c H H')(y:Pl P w C H p a f d ts)(z:Nrr H dn S m ts):Q4 H H':=λb xs e=>by obtain⟨us,j,_⟩:=y.th;obtain⟨l,g,_⟩:=y.fo;obtain⟨kvs,n1,_⟩:=y.kn;obtain⟨k,i,_⟩:=z.at_;refine x.keep b _ e (Zy e j (by intro z;cases z)) (Zy e g (by intro z;cases z)) (Zy e n1.at_ (by intro z;cases z)) (Zy e i (by intro z;cases z)) λhb=>?_;obtain⟨es,h,_⟩:=z.ls b hb;rw[e]at h;cases h
def Qiq(P:Gj)(w:Gu)(C:Gc):Sp:=λvs H Q _=>∃(p dx:Gc),vs=[.ref p]/\H p=Ga (.ins C dx [])/\
 ∀(a f d:Gc)(H':Hp),Pl P w C H' p a f d []->(∀b o,H b=Ga o->b≠p->H' b=Ga o)->H a=Gf->H f=Gf->H d=Gf->Q .non H'
def Qcn(P:Gj)(w:Gu)(C:Gc):Sp:=λvs H Q _=>∃(p c:Gc)(v:V)(t:Th)(a f d:Gc)(ts:List Th),vs=[.ref p,v,.ref c]/\Pl P w C H p a f d ts/\Zu H v t/\t.ok=Ge/\t.depth<=50/\
 (∀q∈t.parts,q∈ts)/\Rm H (.ref c) (fm ts t)/\ts.length<1000000/\
 ∀(j:Nat)(H':Hp),Pl P w C H' p a f d (if t∈ts then ts else ts++[t])->(if t∈ts then ts else ts++[t])[j]?=Ga t->Fr3 a f d H H'->Q (jv j) H'
def Uy(P:Gj)(w:Gu)(C:Gc)(n:Nat):Sp:=λvs H Q _=>∃(p b:Gc)(v:V)(t:Th)(a f d:Gc)(S:List Gc)(m:Nat)(ts:List Th),vs=[.ref p,v,.ref b]/\Pl P w C H p a f d ts/\Nrr H b S m ts/\a∉S/\f∉S/\
 Zu H v t/\t.ok=Ge/\t.depth<=n/\t.depth<=50/\m+2*t.size<=1000000/\ts.length+t.size<=1000000/\
 ∀(j:Nat)(c:List Gc)(H':Hp),Pl P w C H' p a f d (Xq ts t.inside)->Nrr H' b c (m+2*t.size) (Xq ts t.inside)->(Xq ts t.inside)[j]?=Ga t->Fra a f d b S c H H'->Q (jv j) H'
def Qeg(P:Gj)(w:Gu)(C:Gc):Sp:=λvs H Q _=>∃(p:Gc)(v:V)(t:Th)(a f d:Gc)(ts:List Th),vs=[.ref p,v]/\Pl P w C H p a f d ts/\Zu H v t/\t.ok=Ge/\t.depth<=50/\ts.length+t.size<=500000/\
 ∀(j:Nat)(H':Hp),Pl P w C H' p a f d (Xq ts t.inside)->(Xq ts t.inside)[j]?=Ga t->Fr3 a f d H H'->Q (jv j) H'
end Sb
namespace L2
open PySem PySem.Spec PyProof.Rows
def Qqs:V->List V->Hp->VK->Prop:=λx vs H Q=>∃d b a kvs k,x=.ref d/\vs=[.ref b,a]/\H d=Ga (.dT kvs)/\H b=Ga (.tup (k.map kV))/\kvs.length<Gh/\
 ∀v H',((Y9 kvs k=Ga v/\H'=H)\/(Y9 kvs k=Gf/\v=a/\H'=upd H d (.dT (kvs++[(k,a)]))))->Q v H'
theorem Qku{X:Cx}(l:X.A.units+1<Dg):MtR X "dict.setdefault" Qqs:=by intro pins s σ H x vs v us Q I n rv h;obtain⟨d,b,a,kvs,k,c,e,f,g,i,q⟩:=h;exact Qnh l pins s σ H x vs v us Q I n rv ⟨d,b,a,kvs,k,c,e,f,g,i,λv m=>q v H (.inl ⟨m,Xb⟩),λj=>q a _ (.inr ⟨j,Xb,Xb⟩)⟩
end L2
namespace K03
open PySem L2 Sb
variable{f C:Gc}{fd:Tf}
structure J0(mg:GJ->Option Value):Prop where
 len:mg "len"=Gf
 list:mg "list"=Gf
 tuple:mg "tuple"=Gf
 range:mg "range"=Gf
 reversed:mg "reversed"=Gf
 enumerate:mg "enumerate"=Gf
 zip:mg "zip"=Gf
 sorted:mg "sorted"=Gf
theorem Ru(x:V)(vs:List V):atI (x::vs) (0:Int)=Ga x:=Qj (xs:=x::vs) (j:=0) rfl
def Qte(t:Th):List Xz:=(Qc4 t).map EU
theorem Qut(t:Th):(Qte t).map kV=(Qc4 t).map V.str:=by unfold Qte;rw[List.map_map];rfl
def Qsh:Sp:=λvs H Q _=>∃(v:V)(t:Th),vs=[v]/\Zu H v t/\t.size<=1000000/\∀(r:Gc)(H':Hp),Q5 H H'->H' r=Ga (.tup ((Qte t).map kV))->Q (.ref r) H'
section
variable{P:Gj}{w:Gu}{K:PySem.W.Frag}{mg:GJ->Option Value}{base:Heap}
theorem Qy2:Q3 ["thing"] ["thing"] (Qn Qo2):=by eq_refl
theorem Qwt(F:Wz K "top_words" "top_words" Qo2 f fd)(B:J0 mg):Qz P w K mg base Yb 1 f fd ["thing"] Qsh:=by
 refine F.ok Qy2 (λvs H Q E h=>?_) (λcdv A outer s H vs Q E W h=>?_)
 ·obtain⟨v,t,rfl,_⟩:=h;rfl
 obtain⟨v,t,rfl,N,hsz,q⟩:=h;obtain⟨a,wd,vs,ps,rfl,rfl,z,d⟩:=N.inv;refine⟨_,Qh (Qt (Xh Vd rfl B.tuple Tx (Qa (Zs Vi (Zr (Qa (Ql Qm (pv 0) Qi) Qe))
  (Vl (own:=["part"]) (fv:=[]) rfl (S:=(by eq_refl:Xx (Qn Qo2) _)) .nil (Uj (Yl V3 (pv 0) (Yn Qi) Xl))
   (λ_ _ _ _ _=>Xf (i:=0) (nd1 _) rfl (TR Xb) (Dp Xb)) (λ_ _ _ _ _=>X6) (λ_ _ _ _ _=>Ql (r:=Qkl K) Qm (pv 0) Qi (λ_ _=>rfl)))) Qe))),?_⟩
 simp only[Th.size]at hsz;have R:=Zd ps;have y:=d.length;refine⟨_,Xb,a,_,_,.str wd,Xb,Xb,Q9.of z,Ru _ _,by show 1<=Gh;decide,λl L=>?_⟩;have s1:=Qf L (.lst [.str wd]);refine⟨_,Xb,_,Xb,a,_,Xb,Q9.of (s1 _ _ z),Wb _ _,λr k=>?_⟩;rw[Qc5];have s2:=Qf k (.tup vs);refine⟨r,Xb,⟨_,Q9.of Qb⟩,λp C=>?_⟩;have D:=Qf C (.lst []);have T:=(s1.trans s2).trans D;refine Uu (K:=K) (a:=r) (xs:=vs) (small (by omega)) (λi ys σ H2=>(∃G,σ=[G])/\Q5 (upd (upd H l (.lst [.str wd])) r (.tup vs)) H2/\ys=(ps.take i).map λt=>V.str t.word)
  ⟨⟨_,Xb⟩,D,by simp⟩ (λi ys σ H2 _ h=>Q9.of (h.2.1 _ _ Qb)) ?_ ?_
 ·rintro i x ys σ H2 hi u ⟨⟨G,rfl⟩,g,rfl⟩ j;obtain⟨t,n,O⟩:=d.get hi;obtain⟨b,U,us,X,rfl,rfl,hb,_⟩:=O.inv;refine⟨_,Xb,b,_,_,.str U,Xb,Xb,Q9.of (g _ _ (s2 _ _ (s1 _ _ hb))),Ru _ _,j,⟨_,Xb⟩,λc o e=>?_,?_⟩
  ·rw[Qg (Qd e C)];exact g _ _ e
  ·rw[List.take_add_one,n,List.map_append];rfl
 ·rintro ys σ H2 u ⟨_,g,rfl⟩ j;have e:ps.take vs.length=ps:=by rw[y,List.take_length]
  rw[e]at j;have I:=g _ _ (s2 _ _ (@Qb H l (.lst [.str wd])));refine⟨l,p,_,_,Xb,Xb,I,j,small (by rw[List.length_map,List.length_singleton];omega),λc J=>?_⟩;refine⟨c,_,Xb,.inl ⟨Zc.of Qb,λm M=>?_⟩⟩;refine q m _ ((((s1.trans s2).trans g).trans (Qf J _)).trans (Qf M _)) ?_;rw[Qb,Qut];simp[Qc4,Th.word,Th.parts]
end
theorem n1:¬(("things":GJ)="forms"):=by decide+kernel
theorem n2:¬(("things":GJ)="known"):=by decide+kernel
theorem n3:¬(("forms":GJ)="known"):=by decide+kernel
theorem Qt3(a f d:Gc):Yv "known" (.ref d) (Yv "forms" (.ref f) (Yv "things" (.ref a) []))=I0 a f d:=by simp only[Yv,Gg n1,Gg n2,Gg n3,I0]
theorem Qen(a f d:Gc):(I0 a f d).lookup ("things":GJ)=Ga (.ref a):=by rfl
theorem Qrv(a f d:Gc):(I0 a f d).lookup ("forms":GJ)=Ga (.ref f):=by rfl
theorem Oq(a f d:Gc):(I0 a f d).lookup ("known":GJ)=Ga (.ref d):=by rfl
theorem Qeb(a f d:Gc):(I0 a f d).lookup ("place_within":GJ)=Gf:=by rfl
theorem Qt2(a f d:Gc):(I0 a f d).lookup ("place_by_form":GJ)=Gf:=by rfl
structure Qca(K:PySem.W.Frag)(mg:GJ->Option Value)(C:Gc):Prop where
 cl:Cls K C
 nT:Yx K C "things"
 nF:Yx K C "forms"
 nN:Yx K C "known"
 mgC:mg "Places"=Ga (.ref C)
section
variable{P:Gj}{w:Gu}{K:PySem.W.Frag}{mg:GJ->Option Value}{base:Heap}
theorem Qpq:Q3 ["self"] ["self"] (Qn Qbt):=by eq_refl
theorem Qn8(F:Wz K "__init__" "Places.__init__" Qbt f fd)(T:Qca K mg C):Qz P w K mg base Yb 1 f fd ["self"] (Qiq P w C):=by
 refine F.ok Qpq (λvs H Q E h=>?_) (λcdv A outer s H vs Q E I h=>?_)
 ·obtain⟨p,dx,rfl,_⟩:=h;rfl
 obtain⟨p,dx,rfl,y,q⟩:=h;refine⟨_,Qc (Xj (pv 0) (Zr Qe) rfl) (Qc (Xj (pv 0) (Zr Qe) rfl) (Qh (Xj (pv 0) Ig Xb))),?_⟩;refine⟨Gx _,λa B=>?_⟩;have c:p≠a:=Qd y B;refine⟨_,Xb,p,C,dx,[],Xb,(by rw[Qg c];exact y),T.cl,T.nT,by show 0<1000;decide,Gx _,λf n=>?_⟩;have g:p≠f:=Qd Qb n;have i:a≠f:=Qd (o:=.lst []) (by rw[Qg (Gm c),Qb]) n;refine⟨_,Xb,p,C,dx,_,Xb,(by rw[Qg g,Qb]),T.cl,T.nF,by show 1<1000;decide,λd hd=>?_⟩;have l:p≠d:=Qd Qb hd;have x:f≠d:=Qd (o:=.lst []) (by rw[Qg (Gm g),Qb]) hd;have u:a≠d:=Qd (o:=.lst []) (by rw[Qg (Gm c),Qg i,Qg (Gm c),Qb]) hd;refine⟨_,Xb,p,C,dx,_,Xb,(by rw[Qg l,Qb]),T.cl,T.nN,by show 2<1000;decide,?_⟩;refine q a f d _ ⟨⟨dx,?_⟩,⟨[],?_,.nil⟩,⟨[],?_,.nil⟩,⟨[],⟨?_,λp y=>nomatch y⟩,Gn _,λj t e=>?_,λk v e=>?_⟩,i,List.nodup_nil,Qi8,λt G=>by simp at G⟩ (λb o e hb=>?_) B ?_ ?_
 ·rw[Qb,Qt3]
 ·rw[Qg (Gm c),Qg u,Qg (Gm c),Qg i,Qg (Gm c),Qb]
 ·rw[Qg (Gm g),Qg x,Qg (Gm g),Qb]
 ·rw[Qg (Gm l),Qb];rfl
 ·simp at e
 ·simp[Yg]at e
 ·have m:b≠a:=Qd e B;have r:b≠f:=λz=>by subst z;rw[Qg hb,Qg m,e]at n;cases n
  have D:b≠d:=λz=>by subst z;rw[Qg hb,Qg r,Qg hb,Qg m,e]at hd;cases hd
  rw[Qg hb,Qg D,Qg hb,Qg r,Qg hb,Qg m];exact e
 ·rw[Qg (Gm g),Qg (Gm i)]at n;exact n
 ·rw[Qg (Gm l),Qg (Gm x),Qg (Gm l),Qg (Gm u)]at hd;exact hd
theorem Qr9:Q3 ["self","thing","form"] ["self","thing","form"] (Qn Qbr):=by eq_refl
theorem Qvi{P:Gj}{w:Gu}{H:Hp}{p a d:Gc}{ts:List Th}{kvs:List KE}{t:Th}(x:Pl P w C H p a f d ts)(i:∀q∈t.parts,q∈ts)(c:∀(j:Nat)t,ts[j]?=Ga t->Yg kvs (Xc (fm ts t))=Ga (jv j))(g:∀k v,Yg kvs k=Ga v->∃t∈ts,k=Xc (fm ts t)):
  (Yg kvs (Xc (fm ts t))).isSome=decide (t∈ts):=by
 by_cases h:t∈ts
 ·rw[Gr h,c _ t (Iv h)];rfl
 ·rw[Gq h];cases e:Yg kvs (Xc (fm ts t))with
  |none=>rfl
  |some v=>exfalso;obtain⟨s,b,es⟩:=g _ _ e;exact h (Qi7 i (Xv x.cl b) (U3 es)▸b)
theorem Qwj{P:Gj}{w:Gu}{H:Hp}{p a d c:Gc}{ts:List Th}{kvs:List KE}{us E:List V}{v:V}{t:Th}(x:Pl P w C H p a f d ts)(o:DH P w H d kvs)(hl:kvs.length<=ts.length)(G:∀(j:Nat)t,ts[j]?=Ga t->Yg kvs (Xc (fm ts t))=Ga (jv j))(I:∀k v,Yg kvs k=Ga v->∃t∈ts,k=Xc (fm ts t))
  (n:H a=Ga (.lst us))(M:Zq H us ts)(hw:H f=Ga (.lst E))(N:Paired (Rm H) E (ts.map (fm ts)))(U:Zu H v t)(ok:t.ok=Ge)(dp:t.depth<=50)(A:∀q∈t.parts,q∈ts)(J:Rm H (.ref c) (fm ts t))(new:¬t∈ts):
  Pl P w C (upd (upd (upd H d (Vn P w d (Wj kvs (Xc (fm ts t)) c (jv ts.length)))) a (.lst (us++[v]))) f (.lst (E++[.ref c]))) p a f d (ts++[t]):=by
 obtain⟨dx,B⟩:=x.ob;have O:d≠a:=Zy o.at_ n (by intro z;cases z);have Q:d≠f:=Zy o.at_ hw (by intro z;cases z);have Y:p≠d:=Zy B o.at_ (by intro z;cases z);have X:p≠a:=Zy B n (by intro z;cases z);have Z:p≠f:=Zy B hw (by intro z;cases z);have D:Q4 H (upd (upd (upd H d (Vn P w d (Wj kvs (Xc (fm ts t)) c (jv ts.length)))) a (.lst (us++[v]))) f (.lst (E++[.ref c]))):=λb xs e=>by rw[Qg (Zy e hw (by intro z;cases z)),Qg (Zy e n (by intro z;cases z)),Qg (Zy e o.at_ (by intro z;cases z))];exact e
 have hn:Yg kvs (Xc (fm ts t))=Gf:=by
  have:=Qvi x A G I;rw[Gq new]at this;cases e:Yg kvs (Xc (fm ts t))with
  |none=>rfl
  |some u=>rw[e]at this;cases this
 have W:Og H c (Xc (fm ts t)):=J.key (by cases t;simp only[Th.ok,Td]at ok;exact ok.1);have m:∀s∈ts,fm (ts++[t]) s=fm ts s:=λs g=>Qj5 (Xv x.cl g);have i:fm (ts++[t]) t=fm ts t:=Qj5 A;refine⟨⟨dx,?_⟩,⟨_,?_,(M.append (.one U)).Qr D⟩,⟨_,Qb,?_⟩,⟨Wj kvs (Xc (fm ts t)) c (jv ts.length),⟨?_,Zh D (o.keys.put W)⟩,?_,λj s e=>?_,λk y e=>?_⟩,x.af,?_,?_,?_⟩
 ·rw[Qg Z,Qg X,Qg Y];exact B
 ·rw[Qg x.af,Qb]
 ·have R:(ts++[t]).map (fm (ts++[t]))=ts.map (fm ts)++[fm ts t]:=by rw[List.map_append,List.map_congr_left m,List.map_cons,List.map_nil,i]
  rw[R];exact Yj (L2.Paired.Z7 N λ_ _ h=>h.Qr D) (.cons (J.Qr D) .nil)
 ·rw[Qg Q,Qg O,Qb]
 ·have:=Om kvs (Xc (fm ts t)) c (jv ts.length);rw[List.length_append,List.length_singleton];omega
 ·rw[Uw];rcases Te j ts.length with F|F
  ·rw[List.getElem?_append_left F]at e;have g:=List.mem_of_getElem? e;rw[m s g,Gg (λz=>new (Qi7 (Xv x.cl g) A (U3 z)▸g))];exact G j s e
  ·rw[List.getElem?_append_right F]at e;have S:j - ts.length=0:=by have:=(List.getElem?_eq_some_iff.mp e).1;simp at this;omega
   rw[S]at e;simp at e;subst e;have:j=ts.length:=by omega
   subst this;rw[i,Gk rfl]
 ·rw[Uw]at e;by_cases K:k=Xc (fm ts t)
  ·exact⟨t,by simp,by rw[i];exact K⟩
  ·rw[Gg K]at e;obtain⟨s,g,es⟩:=I _ _ e;exact⟨s,List.mem_append_left _ g,by rw[m s g];exact es⟩
 ·rw[List.nodup_append];refine⟨x.nd,by simp,λs g u n=>?_⟩;simp at n;subst n;exactλz=>new (z▸g)
 ·intro s g r l;rcases List.mem_append.mp g with g|g
  ·exact List.mem_append_left _ (x.cl s g r l)
  ·simp at g;subst g;cases s with
   |mk w0 ps=>
    simp only[Th.inside,List.mem_append,List.mem_singleton]at l;rcases l with l|l
    ·rw[Xs,List.mem_flatMap]at l;obtain⟨L,T,l⟩:=l;exact List.mem_append_left _ (x.cl L (A L T) r l)
    ·subst l;simp
 ·intro s g;rcases List.mem_append.mp g with g|g
  ·exact x.ok s g
  ·simp at g;subst g;exact⟨ok,dp⟩
theorem Qnx{f0:Gc}(F:Wz K "place_by_form" "Places.place_by_form" Qbr f0 fd)(T:Qca K mg C)(B:J0 mg):Qz P w K mg base Yb 1 f0 fd ["self","thing","form"] (Qcn P w C):=by
 refine F.ok Qr9 (λvs H Q E h=>?_) (λcdv A outer s H vs Q E hr h=>?_)
 ·obtain⟨p,c,v,t,a,f,d,ts,rfl,_⟩:=h;rfl
 obtain⟨p,c,v,t,a,f,d,ts,rfl,x,hv,ok,dp,V,U,hl,q⟩:=h;have W:=hr.units;refine⟨_,Qc (Zb (Qo (Qdp W) (pv 2) (Qu (pv 0) rfl) rfl)
   (Qc (Ry (Qp Z2 rfl B.len PySem.boot_len (Qa (Qu (pv 0) rfl) Qe)) (Qam (Qu (pv 0) rfl) (pv 2) (Qak W)))
   (Qc (Zk (X0 PySem.F.plainAttrs_list PySem.F.slot_list_append PySem.F.type_list_append Z3 (Qu (pv 0) rfl) (Qa (pv 1) Qe)))
   (Qh (Zk (X0 PySem.F.plainAttrs_list PySem.F.slot_list_append PySem.F.type_list_append Z3 (Qu (pv 0) rfl) (Qa (pv 2) Qe)))))) Qv)
  (Qh (Qt (Ql (Ov W) (Qu (pv 0) rfl) (pv 2)))),?_⟩
 obtain⟨dx,k⟩:=x.ob;obtain⟨us,J,u2⟩:=x.th;obtain⟨R,O,w2⟩:=x.fo;obtain⟨kvs,D,kl,X,k4⟩:=x.kn;have Z:Og H c (Xc (fm ts t)):=U.key (by cases t;simp only[Th.ok,Td]at ok;exact ok.1);have ul:=u2.length;have wl:R.length=ts.length:=by rw[Paired.length w2,List.length_map]
 refine⟨_,Xb,_,Xb,p,C,dx,_,_,Xb,k,T.cl,T.nN,Oq _ _ _,c,d,Xc (fm ts t),kvs,Xb,Xb,D,Z,_,Xb,?_⟩;rw[Qvi x V X k4];by_cases i:t∈ts
 ·rw[Gr i];refine Q6 ?_;have e:=q (ts.idxOf t) H (by rw[Gk i];exact x) (by rw[Gk i];exact Iv i) Fr3.refl;exact⟨_,Xb,p,C,dx,_,_,Xb,k,T.cl,T.nN,Oq _ _ _,_,Xb,d,c,Xc (fm ts t),kvs,_,Xb,Xb,D,Z,X _ t (Iv i),e⟩
 ·rw[Gq i];refine Yy ?_;have fin:=Qwj (c:=c) x D kl X k4 J u2 O w2 hv ok dp V U i;have da:d≠a:=Zy D.at_ J (by intro z;cases z);have df:d≠f:=Zy D.at_ O (by intro z;cases z);have pd:p≠d:=Zy k D.at_ (by intro z;cases z);have pa:p≠a:=Zy k J (by intro z;cases z);have pf:p≠f:=Zy k O (by intro z;cases z);have e1:(us.length:Int)=((ts.length:Nat):Int):=by rw[ul]
  refine⟨_,Xb,p,C,dx,_,_,Xb,k,T.cl,T.nT,Qen _ _ _,a,us,Xb,.inl (Zc.of J),_,Xb,p,C,dx,_,_,Xb,k,T.cl,T.nN,Oq _ _ _,_,Xb,d,c,Xc (fm ts t),kvs,Xb,Xb,D,Z,by rw[Gy];omega,?_⟩;have L:(upd H d (Vn P w d (Wj kvs (Xc (fm ts t)) c (.int us.length)))) a=Ga (.lst us):=by rw[Qg (Gm da)];exact J
  have I:(upd H d (Vn P w d (Wj kvs (Xc (fm ts t)) c (.int us.length)))) p=Ga (.ins C dx (I0 a f d)):=by rw[Qg pd];exact k
  refine⟨_,Xb,p,C,dx,_,_,Xb,I,T.cl,T.nT,Qen _ _ _,.inl ⟨Xb,_,Zc.of L⟩,_,Xb,a,us,_,Xb,Xb,L,by rw[Gy];omega,?_⟩;have o2:(upd (upd H d (Vn P w d (Wj kvs (Xc (fm ts t)) c (.int us.length)))) a (.lst (us++[v]))) p=Ga (.ins C dx (I0 a f d)):=by rw[Qg pa];exact I
  have M:(upd (upd H d (Vn P w d (Wj kvs (Xc (fm ts t)) c (.int us.length)))) a (.lst (us++[v]))) f=Ga (.lst R):=by rw[Qg (Gm x.af),Qg (Gm df)];exact O
  refine⟨_,Xb,p,C,dx,_,_,Xb,o2,T.cl,T.nF,Qrv _ _ _,.inl ⟨Xb,_,Zc.of M⟩,_,Xb,f,R,_,Xb,Xb,M,by rw[Gy];omega,?_⟩;rw[e1];have fr:Fr3 a f d H (upd (upd (upd H d (Vn P w d (Wj kvs (Xc (fm ts t)) c (jv ts.length)))) a (.lst (us++[v]))) f (.lst (R++[.ref c]))):=⟨λb o e h1 h2 h3=>by rw[Qg h2,Qg h1,Qg h3];exact e,λb hb=>by
    by_cases u:b=f
    ·subst u;rw[Qb]at hb;cases hb
    ·rw[Qg u]at hb;by_cases n:b=a
     ·subst n;rw[Qb]at hb;cases hb
     ·rw[Qg n]at hb;by_cases r:b=d
      ·subst r;rw[Qb]at hb;cases hb
      ·rw[Qg r]at hb;exact hb⟩
  have tn:fm (ts++[t]) t=fm ts t:=Qj5 V;have G:(ts++[t])[ts.length]?=Ga t:=by simp
  have m:∀l,Pl P w C l p a f d (ts++[t])->Fr3 a f d H l->∃j g,l p=Ga (.ins C j (I0 a f d))/\DH P w l d g/\Og l c (Xc (fm ts t))/\Yg g (Xc (fm ts t))=Ga (jv ts.length):=λl y fr=>by obtain⟨j,o3⟩:=y.ob;obtain⟨g,S,_,Y,_⟩:=y.kn;have N:=Y ts.length t G;rw[tn]at N;exact⟨j,g,o3,S,(U.Qr (fr.Qr x)).key (by cases t;simp only[Th.ok,Td]at ok;exact ok.1),N⟩
  obtain⟨j,g,o3,S,aa,N⟩:=m _ fin fr;exact⟨_,Xb,p,C,j,_,_,Xb,o3,T.cl,T.nN,Oq _ _ _,_,Xb,d,c,Xc (fm ts t),g,_,Xb,Xb,S,aa,N,q ts.length _ (by rw[Gg i];exact fin) (by rw[Gg i];exact G) fr⟩
end
end K03
namespace Sb
open PySem PySem.Spec PyProof.Rows L2
theorem W4:∀(l:List Th)(i:Nat),Qx (l.take i)<=Qx l
 |[],_=>by simp
 |x::l,0=>by simp[Qx]
 |x::l,i+1=>by have:=W4 l i;simp only[List.take_succ_cons,Qx];omega
theorem Qgg(ps:List Th)(i:Nat)(t:Th)(h:ps[i]?=Ga t):Zt (ps.take (i+1))=Zt (ps.take i)++t.inside:=by rw[List.take_add_one,h,Xs,List.flatMap_append,<-Xs];simp
theorem Qcz:∀(ps:List Th)(i:Nat)(t:Th),ps[i]?=Ga t->Qx (ps.take (i+1))=Qx (ps.take i)+t.size
 |[],_,_,h=>by simp at h
 |x::r,0,t,h=>by simp at h;subst h;simp[Qx]
 |x::r,i+1,t,h=>by have:=Qcz r i t (by simpa using h);simp only[List.take_succ_cons,Qx]at this⊢;omega
theorem Qde{acc xs:List Th}{j:Nat}{t:Th}(h:acc[j]?=Ga t):(Xq acc xs)[j]?=Ga t:=by obtain⟨m,e⟩:=Vf xs acc;rw[e,List.getElem?_append_left (List.getElem?_eq_some_iff.mp h).1];exact h
theorem Qu7{H H1 n:Hp}{d q:Gc}{S:List Gc}{m:Nat}{ts:List Th}{k:List Xz}{kvs:List (List Xz×V)}{C:V}(x:Nrr H d S m ts)(f:H d=Ga (.dT kvs))(F:Q5 H H1)(I:H1 q=Gf)
  (i:(Y9 kvs k=Ga C/\n=upd H1 q (.lst []))\/(Y9 kvs k=Gf/\C=.ref q/\n=upd (upd H1 q (.lst [])) d (.dT (kvs++[(k,.ref q)])))):
  ∃l S1,C=.ref l/\l∈S1/\Nrr n d S1 (m+1) ts/\(∀b∈S,b∈S1)/\(∀b∈S1,b∈S\/H b=Gf)/\(∀b o,H b=Ga o->b≠d->n b=Ga o)/\(∀b,n b=Gf->H b=Gf):=by
 have a:=F.trans (Qf I (.lst []));have B:H q=Gf:=F.free I;obtain⟨kvs',n1,n2,n3⟩:=x.at_;rw[f]at n1;cases n1;rcases i with⟨L,rfl⟩|⟨K,rfl,rfl⟩
 ·obtain⟨l,g,rfl⟩:=n3 _ _ L;exact⟨l,S,Xb,g,x.keep (a _) (λl _=>a l) (Q4.of a) (λ_ _ h=>h) (D1 _),λ_ h=>h,λ_ h=>.inl h,λb o e _=>a _ _ e,λb h=>a.free h⟩
 ·have r:=a _ _ f;have s:(upd H1 q (.lst [])) q=Ga (.lst []):=Qb;have A:q≠d:=Zy s r (by intro z;cases z);have P:Q4 (upd H1 q (.lst [])) (upd (upd H1 q (.lst [])) d (.dT (kvs++[(k,.ref q)]))):=Zz λxs e=>by rw[r]at e;cases e
  have u:Q4 H (upd (upd H1 q (.lst [])) d (.dT (kvs++[(k,.ref q)]))):=λb xs e=>P b xs (a _ _ e);refine⟨q,q::S,Xb,List.mem_cons_self,⟨⟨_,Qb,by rw[List.length_append,List.length_singleton];omega,λw Q e=>?_⟩,λl g=>?_⟩,λb hb=>List.mem_cons_of_mem _ hb,λb hb=>?_,λb o e hb=>by rw[Qg hb];exact a _ _ e,λb hb=>?_⟩
  ·rw[O6 (κ:=List Xz) k w _ kvs K]at e;by_cases G:w=k
   ·rw[Gk G]at e;cases e;exact⟨q,List.mem_cons_self,Xb⟩
   ·rw[Gg G]at e;obtain⟨l,g,E⟩:=n3 _ _ e;exact⟨l,List.mem_cons_of_mem _ g,E⟩
  ·rcases List.mem_cons.mp g with rfl|g
   ·exact⟨[],by rw[Qg A];exact s,Gx _,λe y=>nomatch y⟩
   ·obtain⟨es,D,E,J⟩:=x.ls l g;refine⟨es,?_,by omega,λe y=>?_⟩
    ·rw[Qg (Zy D f (by intro z;cases z))];exact a _ _ D
    ·obtain⟨c,v,j,t,M,w,N,O⟩:=J e y;exact⟨c,v,j,t,M,u _ _ w,N.Qr u,O⟩
  ·rcases List.mem_cons.mp hb with rfl|hb
   ·exact .inr B
   ·exact .inl hb
  ·by_cases p:b=d
   ·subst p;rw[Qb]at hb;cases hb
   ·rw[Qg p]at hb;exact a.free hb
end Sb
namespace K03
open PySem L2 Sb
variable{C:Gc}{fd:Tf}
section
variable{P:Gj}{w:Gu}{K:PySem.W.Frag}{mg:GJ->Option Value}{base:Heap}
theorem Qes:Q3 ["self","thing","near","met","twin","place","parts","part","new_place"] ["self","thing","near"] (Qn Jv):=by eq_refl
theorem Qol{n:Nat}{f0 fT fB:Gc}{aC aB:Tf}(F:Wz K "place_within" "Places.place_within" Jv f0 fd)(T:Qca K mg C)(B:J0 mg)(mP:Yd K C "place_within" f0)(bP:Binds K fd ["self","thing","near"] [])
  (G:Qz P w K mg base Yb (n+1) f0 fd ["self","thing","near"] (Uy P w C n))(GT:Qz P w K mg base Yb 1 fT aC ["thing"] Qsh)(kT:KI K fT)(bT:Binds K aC ["thing"] [])(mT:MG mg "top_words" fT)
  (mB:Yd K C "place_by_form" fB)(GB:Qz P w K mg base Yb 1 fB aB ["self","thing","form"] (Qcn P w C))(bB:Binds K aB ["self","thing","form"] []):
  Qz P w K mg base Yb (n+2) f0 fd ["self","thing","near"] (Uy P w C (n+1)):=by
 refine F.ok Qes (λvs H Q E h=>?_) (λcdv A outer s H vs Q E hr h=>?_)
 ·obtain⟨p,dn,v,t,a,f,d,S,m,ts,rfl,_⟩:=h;rfl
 obtain⟨p,dn,v,t,a,f,d,S,m,ts,rfl,x,xn,aS,fS,ht,Z4,a9,ba,hm,be,q⟩:=h;have hu:=hr.units;have aI:Yf 1 _:=hr.mono (by omega);have nd:=Qes.nd;refine⟨_,Qc (Qy 3 nd (X0 PySem.F.plainAttrs_dict PySem.F.slot_dict_setdefault PySem.F.type_dict_setdefault (Qku (Ur hr)) (pv 2) (Qa (Zo GT aI rfl mT kT bT .nil Q7 (Qa (pv 1) Qe)) (Qa (Zr Qe) Qe))))
  (Qc (Z5 Gs rfl (Z9 (pv 3)) (Vh rfl (Zl (Zw 4 nd) (Zl (Zw 5 nd) Wc)))
   (Qh (Zb (Qo (Uk hu) (pv 4) (pv 1) (Qs _)) (Qh (Qt (pv 5))) Qv)))
  (Qc (Qy 6 nd (Zr Qe))
  (Qc (Z5 Gs rfl (Uj (Yl V3 (pv 1) (Yn Qi) Xl)) (Zw 7 nd)
   (Qh (Zk (X0 PySem.F.plainAttrs_list PySem.F.slot_list_append PySem.F.type_list_append Z3 (pv 6) (Qa (Zg (pv 0) T.cl mP G hr bP .nil Q7 (Qa (pv 7) (Qa (pv 2) Qe))) Qe)))))
  (Qc (Qy 8 nd (Zg (pv 0) T.cl mB GB aI bB .nil Q7 (Qa (pv 1) (Qa (Zf (Qa (Ql Qm (pv 1) Qi) (Qa (Xh Vd rfl B.tuple Tx (Qa (pv 6) Qe)) Qe))) Qe))))
  (Qc (Zk (X0 PySem.F.plainAttrs_list PySem.F.slot_list_append PySem.F.type_list_append Z3 (pv 3) (Qa (Zf (Qa (pv 1) (Qa (pv 8) Qe))) Qe)))
  (Qh (Qt (pv 8)))))))),?_⟩
 have sp:=Ju t;obtain⟨kvs,I,kv2,_⟩:=xn.at_;refine⟨_,Xb,.inr (.inr (.inl ⟨Xb,.inr ⟨kvs,I⟩⟩)),_,Xb,v,t,Xb,ht,by omega,λr H1 g1 h1=>⟨Gx _,λq1 al=>?_⟩⟩;have g2:=g1.trans (Qf al (.lst []));refine⟨dn,r,.ref q1,kvs,Qte t,Xb,Xb,g2 _ _ I,(Qf al (.lst [])) _ _ h1,by rw[Gy];omega,λnv H3 ab=>?_⟩;obtain⟨l,S1,rfl,lS,L,aT,aq,U,bp⟩:=Qu7 xn I g1 al ab;clear ab g2 h1 g1 al;have t3:Q4 H H3:=λb xs e=>U b _ e (Zy e I (by intro z;cases z));have am:=ht.Qr t3;have x3:Pl P w C H3 p a f d ts:=by obtain⟨dx,o1⟩:=x.ob;obtain⟨us,u1,_⟩:=x.th;obtain⟨ws,w1,_⟩:=x.fo;obtain⟨kv,D,_⟩:=x.kn;exact x.keep (λo e=>U _ _ e (Zy o1 I (by intro z;cases z))) (λo e=>U _ _ e (Zy u1 I (by intro z;cases z))) (λo e=>U _ _ e (Zy w1 I (by intro z;cases z))) (λo e=>U _ _ e (Zy D.at_ I (by intro z;cases z))) t3
 have ap:∀c,c∉S->H c≠Gf->c∉S1:=λc h1 h2 z=>by
  rcases aq c z with z|z
  ·exact h1 z
  ·exact h2 z
 have aW:a∉S1:=ap a aS (by obtain⟨us,u1,_⟩:=x.th;rw[u1];intro z;cases z);have a3:f∉S1:=ap f fS (by obtain⟨us,u1,_⟩:=x.fo;rw[u1];intro z;cases z);have F3:Fra a f d dn S S1 H H3:=⟨λb o e _ _ _ h4 _=>U b o e h4,aq,aT,bp⟩;obtain⟨es,hl,bE,a0⟩:=L.ls l lS;refine⟨_,Xb,l,Xb,⟨_,Zc.of hl⟩,Ys (K:=K) (a:=l) (xs:=es) (λi σ Y=>Y=H3/\∃x4 x5,σ=[Ga (.ref p),Ga v,Ga (.ref dn),Ga (.ref l),x4,x5,Gf,Gf,Gf])
  ⟨Xb,_,_,Xb⟩ (λi σ Y _⟨e,_⟩=>by rw[e];exact Zc.of hl) ?_ ?_⟩
 ·rintro i y σ Y hi ⟨rfl,x4,x5,rfl⟩;obtain⟨c,v2,j,t2,rfl,hc,bf,ej⟩:=a0 y (List.mem_of_getElem? hi);have aN:=x3.ok _ (List.mem_of_getElem? ej);refine⟨c,_,Xb,Q9.of hc,Xb,v2,_,Xb,jv j,_,Xb,Xb,_,Xb,_,Xb,_,_,bf.dt,am.dt,Wx _ aN.1,Wx _ Z4,?_,_,Xb,?_⟩
  ·rw[Xw,Xw];have:=aN.2;omega
  rw[Qbx];by_cases aG:t2=t
  ·subst aG;rw[Gr rfl];refine Yy ?_;have e:=Qts x.cl (List.mem_of_getElem? ej);exact⟨_,Xb,q j S1 Y (by rw[e];exact x3) (by rw[e];exact L.keep (λ_ h=>h) (λ_ _ _ h=>h) (λ_ _ h=>h) (λ_ _ h=>h) (by omega)) (by rw[e];exact ej) F3⟩
  ·rw[Gq aG];exact Q6 ⟨Xb,_,_,Xb⟩
 ·rintro σ Y ⟨rfl,x4,bq,rfl⟩;obtain⟨b0,wd,vs,ps,rfl,rfl,aD,aH⟩:=am.inv;simp only[Th.size,Th.depth]at hm be a9 ba;have aO:okL ps=Ge:=by simp only[Th.ok,Td]at Z4;exact Z4.2
  have bh:=aH.length;have bF:=Zd ps;refine⟨Gx _,λu g=>?_⟩;have s4:=Qf g (.lst []);refine⟨_,Xb,_,Xb,b0,_,Xb,Q9.of (s4 _ _ aD),Wb _ _,λr2 aJ=>?_⟩;rw[Qc5];have s5:=Qf aJ (.tup vs);have az:=s4.trans s5;have q5:=s5 _ _ (@Qb Y u (.lst []));have r5:=@Qb (upd Y u (.lst [])) r2 (.tup vs);have bc:u≠r2:=Qd Qb aJ;have x5:=x3.same az;have br:=L.same az;generalize bA:upd (upd Y u (.lst [])) r2 (.tup vs)=H5 at*;obtain⟨bG,aU,bx⟩:=x3.th;obtain⟨bH,a5,_⟩:=x3.fo;obtain⟨bv,D3,_⟩:=x3.kn;obtain⟨bt,aY,_⟩:=L.at_;have aP:u≠a:=λz=>by rw[z,aU]at g;cases g
  have aQ:u≠f:=λz=>by rw[z,a5]at g;cases g
  have bn:u≠d:=λz=>by rw[z,D3.at_]at g;cases g
  have aR:u≠dn:=λz=>by rw[z,aY]at g;cases g
  have bm:u∉S1:=λz=>by obtain⟨xs,h,_⟩:=L.ls _ z;rw[h]at g;cases g
  refine⟨r2,Xb,⟨_,Q9.of r5⟩,Qgf (K:=K) (a:=r2) (xs:=vs) (λi σ M=>∃(S6:List Gc)(N:List Nat)(x5:Option V),σ=[Ga (.ref p),Ga (.ref b0),Ga (.ref dn),Ga (.ref l),x4,bq,Ga (.ref u),x5,Gf]/\Pl P w C M p a f d (Xq ts (Zt (ps.take i)))/\Nrr M dn S6 (m+1+2*Qx (ps.take i)) (Xq ts (Zt (ps.take i)))/\Fra a f d dn S1 S6 Y M/\u∉S6/\a∉S6/\f∉S6/\M u=Ga (.lst (N.map jv))/\N.length=i/\(∀(k j:Nat),N[k]?=Ga j->∃s,ps[k]?=Ga s/\(Xq ts (Zt (ps.take i)))[j]?=Ga s)/\M r2=Ga (.tup vs))
   ⟨S1,[],_,Xb,?_,?_,Fra.of az,bm,aW,a3,q5,Xb,λk j h=>by simp at h,r5⟩ (λi σ M _⟨_,_,_,_,_,_,_,_,_,_,_,_,_,h⟩=>Q9.of h) ?_ ?_⟩
  ·simp only[List.take_zero,Zt,Ic];exact x5
  ·simp only[List.take_zero,Zt,Qx,Ic,Nat.mul_zero,SO];exact br
  ·rintro i y σ M hi ⟨S6,N,bs,rfl,O,J,F6,ac,Z,aa,q6,lw,aj,r6⟩;have bC:i<vs.length:=(List.getElem?_eq_some_iff.mp hi).1;obtain⟨ty,ah,hy⟩:=aH.get hi;have ao:ty∈ps:=List.mem_of_getElem? ah;have m1:=Qcz ps i ty ah;have m2:=W5 ao;have m3:=W4 ps (i+1);have bl:ty.ok=Ge:=by rw[Jh,List.all_eq_true]at aO;exact aO ty ao
   have t6:Q4 Y M:=F6.Qr x3 L;obtain⟨au,o6⟩:=O.ob;have R:=Qcg (Zt (ps.take i)) ts;rw[Ui]at R;refine⟨_,Xb,.inl ⟨Xb,_,Zc.of q6⟩,_,Xb,p,au,_,Xb,o6,Qeb _ _ _,_,Xb,_,Xb,p,dn,y,ty,a,f,d,S6,_,_,Xb,O,J,Z,aa,hy.Qr t6,bl,by omega,by omega,by omega,by omega,λj S7 H7 x7 aA e7 F7=>?_⟩;have q7:H7 u=Ga (.lst (N.map jv)):=F7.keep _ _ q6 aP aQ bn aR ac;have ay:∀c,c∉S6->M c≠Gf->c∉S7:=λc h1 h2 z=>by
    rcases F7.own c z with z|z
    ·exact h1 z
    ·exact h2 z
   have ar:u∉S7:=ay u ac (by rw[q6];intro z;cases z);obtain⟨aV,ae,_⟩:=O.th;obtain⟨bI,a6,_⟩:=O.fo;have aX:a∉S7:=ay a Z (by rw[ae];intro z;cases z);have a4:f∉S7:=ay f aa (by rw[a6];intro z;cases z);refine⟨u,N.map jv,jv j,Xb,Xb,q7,by rw[List.length_map,Gy];omega,?_⟩;have r7:H7 r2=Ga (.tup vs):=F7.Qr O J _ _ r6;have eS:Xq (Xq ts (Zt (ps.take i))) ty.inside=Xq ts (Zt (ps.take (i+1))):=by rw[Qgg ps i ty ah,Uh]
   rw[eS]at x7 aA e7;have eM:m+1+2*Qx (ps.take i)+2*ty.size=m+1+2*Qx (ps.take (i+1)):=by omega
   rw[eM]at aA;refine⟨S7,N++[j],_,Xb,x7.but q7 aP aQ,?_,?_,ar,aX,a4,?_,by rw[List.length_append,List.length_singleton,lw],λk j' hk=>?_,?_⟩
   ·refine aA.keep (λo e=>?_) (λb hb o e=>?_) (Zz λxs e=>by rw[q7]at e;cases e) (λ_ _ h=>h) (Gn _)
    ·rw[Qg (Gm aR)];exact e
    ·rw[Qg (show b≠u fromλz=>ar (by rw[<-z];exact hb))];exact e
   ·have ag:=F6.trans F7;refine⟨λb o e h1 h2 h3 h4 h5=>?_,ag.own,ag.sub,λb hb=>?_⟩
    ·rw[Qg (Qd e g)];exact ag.keep b o e h1 h2 h3 h4 h5
    ·by_cases aF:b=u
     ·subst aF;rw[Qb]at hb;cases hb
     ·rw[Qg aF]at hb;exact ag.there b hb
   ·rw[Qb,List.map_append];rfl
   ·rcases Te k N.length with ax|ax
    ·rw[List.getElem?_append_left ax]at hk;obtain⟨s0,h1,h2⟩:=aj k j' hk;refine⟨s0,h1,?_⟩;rw[<-eS];exact Qde h2
    ·rw[List.getElem?_append_right ax]at hk;have h0:k - N.length=0:=by have:=(List.getElem?_eq_some_iff.mp hk).1;simp at this;omega
     rw[h0]at hk;simp at hk;subst hk;have:k=i:=by omega
     subst this;exact⟨ty,ah,e7⟩
   ·rw[Qg (Gm bc)];exact r7
  ·rintro σ M ⟨S6,N,bs,rfl,O,J,F6,ac,Z,aa,q6,lw,aj,r6⟩;have ep:ps.take vs.length=ps:=by rw[bh,List.take_length]
   rw[ep]at O J aj;have t6:Q4 Y M:=F6.Qr x3 L;have a7:=t6 _ _ aD;obtain⟨au,o6⟩:=O.ob;have bg:=Qcg (Zt ps) ts;rw[Ui]at bg;have an:=F6.sub l lS;have pin:∀s0∈ps,s0∈Xq ts (Zt ps):=λs0 bd=>(Qch _ _ _).mpr (.inr (by rw[Xs,List.mem_flatMap];exact⟨s0,bd,Qlu s0⟩));have a1:N=ps.map λs0=>(Xq ts (Zt ps)).idxOf s0:=by
    refine List.ext_getElem? λk=>?_;rw[List.getElem?_map];cases e:N[k]? with
    |none=>
     have:N.length<=k:=by simpa using e
     rw[List.getElem?_eq_none (by omega)];rfl
    |some j0=>obtain⟨s0,h1,h2⟩:=aj k j0 e;rw[h1,TF,Rl O.nd h2]
   refine⟨_,Xb,p,au,_,Xb,o6,Qt2 _ _ _,_,Xb,_,Xb,b0,_,_,.str wd,Xb,Xb,Q9.of a7,Ru _ _,_,Xb,u,_,Xb,.inl ⟨Zc.of q6,λe0 bb=>?_⟩⟩;have s6:=Qf bb (.tup (N.map jv));refine⟨by show 2<=Gh;decide,λc0 a8=>?_⟩;have s7:=Qf a8 (.tup [.str wd,.ref e0]);have ad:=s6.trans s7;refine⟨p,c0,.ref b0,.mk wd ps,a,f,d,_,Xb,O.same ad,(am.Qr t6).same ad,Z4,by simp only[Th.depth];omega,pin,⟨c0,e0,Xb,Qb,?_⟩,by omega,λj H8 x8 e8 F8=>?_⟩
   ·rw[s7 _ _ Qb,a1];rfl
   have eD:Xq ts (Th.mk wd ps).inside=if Th.mk wd ps∈Xq ts (Zt ps)then Xq ts (Zt ps)else Xq ts (Zt ps)++[Th.mk wd ps]:=by
    have e:(Th.mk wd ps).inside=Zt ps++[Th.mk wd ps]:=by simp[Th.inside]
    rw[e,Qm8]
   rw[<-eD]at x8 e8;have bo:Q4 M H8:=λb xs e=>(F8.Qr (O.same ad)) b xs (ad _ _ e);have X:Fr3 a f d M H8:=(Fr3.of ad).trans F8;obtain⟨av,R,bD,aZ⟩:=J.ls l an;have aL:l≠a:=λz=>Z (z▸an);have aM:l≠f:=λz=>aa (z▸an);obtain⟨bw,D6,_⟩:=O.kn;obtain⟨bu,bz,_⟩:=J.at_;have bk:l≠d:=Zy R D6.at_ (by intro z;cases z);have ak:=X.keep _ _ R aL aM bk;refine⟨_,Xb,.inl ⟨Xb,_,Zc.of ak⟩,_,Xb,_,Xb,by show 2<=Gh;decide,λc9 aw=>?_⟩;have s9:=Qf aw (.tup [.ref b0,jv j]);refine⟨l,av,.ref c9,Xb,Xb,s9 _ _ ak,by rw[Gy];omega,?_⟩;have x9:=x8.same s9;have sE:(Th.mk wd ps).size=Qx ps+1:=by simp[Th.size]
   have af:Q4 M (upd (upd H8 c9 (.tup [.ref b0,jv j])) l (.lst (av++[.ref c9]))):=λb xs e=>by rw[Qg (Zy e R (by intro z;cases z))];exact s9 _ _ (bo _ _ e)
   have aK:(upd (upd H8 c9 (.tup [.ref b0,jv j])) l (.lst (av++[.ref c9]))) c9=Ga (.tup [.ref b0,jv j]):=by rw[Qg (λz=>by rw[z,ak]at aw;cases aw),Qb]
   refine⟨_,Xb,q j S6 _ (x9.but (s9 _ _ ak) aL aM) ⟨?_,λb hb=>?_⟩ e8 ?_⟩
   ·obtain⟨kv,k1,k2,k3⟩:=J.at_;refine⟨kv,?_,by rw[sE];omega,k3⟩;rw[Qg (Zy k1 R (by intro z;cases z))];have bi:dn≠a:=λz=>by obtain⟨aV,ae,_⟩:=O.th;exact Zy k1 ae (by intro z;cases z) z
    have bj:dn≠f:=λz=>by obtain⟨aV,ae,_⟩:=O.fo;exact Zy k1 ae (by intro z;cases z) z
    exact s9 _ _ (X.keep _ _ k1 bi bj (Zy k1 D6.at_ (by intro z;cases z)))
   ·by_cases ai:b=l
    ·subst ai;refine⟨_,Qb,by rw[List.length_append,List.length_singleton,sE];omega,λe he=>?_⟩;rcases List.mem_append.mp he with he|he
     ·obtain⟨c,v,j0,t0,k1,k2,k3,k4⟩:=aZ e he;refine⟨c,v,j0,t0,k1,af _ _ k2,k3.Qr af,?_⟩;have e:(Th.mk wd ps).inside=Zt ps++[Th.mk wd ps]:=by simp[Th.inside]
      rw[e,Uh];exact Qde k4
     ·rw[List.mem_singleton]at he;subst he;exact⟨c9,.ref b0,j,_,Xb,aK,(am.Qr t6).Qr af,e8⟩
    ·obtain⟨a2,k1,k2,k3⟩:=J.ls b hb;refine⟨a2,?_,by rw[sE];omega,λe he=>?_⟩
     ·rw[Qg ai];exact s9 _ _ (X.keep _ _ k1 (λz=>Z (z▸hb)) (λz=>aa (z▸hb)) (Zy k1 D6.at_ (by intro z;cases z)))
     ·obtain⟨c,v,j0,t0,k4,k5,k6,k7⟩:=k3 e he;refine⟨c,v,j0,t0,k4,af _ _ k5,k6.Qr af,?_⟩;have e:(Th.mk wd ps).inside=Zt ps++[Th.mk wd ps]:=by simp[Th.inside]
      rw[e,Uh];exact Qde k7
   ·have W:=F3.trans F6;refine⟨λb o e h1 h2 h3 h4 h5=>?_,W.own,W.sub,λb hb=>?_⟩
    ·have e9:=W.keep b o e h1 h2 h3 h4 h5;have ai:b≠l:=λz=>by
      rcases W.own l an with w1|w1
      ·exact h5 (z▸w1)
      ·rw[<-z,e]at w1;cases w1
     rw[Qg ai];exact s9 _ _ (X.keep _ _ e9 h1 h2 h3)
    ·refine W.there b (X.there b ?_);by_cases aE:b=l
     ·subst aE;rw[Qb]at hb;cases hb
     ·rw[Qg aE]at hb;exact s9.free hb
theorem Quf{f:Gc}:Qz P w K mg base Yb 1 f fd ["self","thing","near"] (Uy P w C 0):=by
 have no:∀vs H Q E,¬Uy P w C 0 vs H Q E:=λvs H Q E h=>by obtain⟨p,b,v,t,a,f,d,S,m,ts,_,_,_,_,_,_,_,h1,_⟩:=h;have:=Qax t;omega
 exact⟨λvs H Q E h=>absurd h (no vs H Q E),λA outer s H args us vs Q E _ _ _ _ h=>absurd h (no vs H Q E)⟩
theorem Qct{c d i C:Gc}{fd b a:Tf}(F:Wz K "place_within" "Places.place_within" Jv c fd)(T:Qca K mg C)(B:J0 mg)(l:Yd K C "place_within" c)(g:Binds K fd ["self","thing","near"] [])
  (GT:Qz P w K mg base Yb 1 d b ["thing"] Qsh)(j:KI K d)(h:Binds K b ["thing"] [])(m:MG mg "top_words" d)
  (k:Yd K C "place_by_form" i)(e:Qz P w K mg base Yb 1 i a ["self","thing","form"] (Qcn P w C))(f:Binds K a ["self","thing","form"] []):∀n:Nat,Qz P w K mg base Yb (n+1) c fd ["self","thing","near"] (Uy P w C n)
 |0=>Quf
 |n+1=>Qol F T B l g (Qct F T B l g GT j h m k e f n) GT j h m k e f
theorem Qnb:Q3 ["self","thing"] ["self","thing"] (Qn Od):=by eq_refl
theorem Qjv{n r:Gc}{c:Tf}(F:Wz K "place_of" "Places.place_of" Od n fd)(T:Qca K mg C)(M:Yd K C "place_within" r)(u:Binds K c ["self","thing","near"] [])
  (G:Qz P w K mg base Yb 51 r c ["self","thing","near"] (Uy P w C 50)):Qz P w K mg base Yb 52 n fd ["self","thing"] (Qeg P w C):=by
 refine F.ok Qnb (λvs H Q E h=>?_) (λcdv A outer s H vs Q E I h=>?_)
 ·obtain⟨p,v,t,a,f,d,ts,rfl,_⟩:=h;rfl
 obtain⟨p,v,t,a,f,d,ts,rfl,x,J,Z4,i,L,q⟩:=h;refine⟨_,Qh (Qt (Zg (pv 0) T.cl M G I u .nil Q7 (Qa (pv 1) (Qa Qdb Qe)))),?_⟩;obtain⟨dx,N⟩:=x.ob;refine⟨_,Xb,p,dx,_,Xb,N,Qeb _ _ _,_,Xb,λy g=>?_⟩;have s1:=Qf g (.dT []);refine⟨p,y,v,t,a,f,d,[],0,ts,Xb,x.same s1,⟨⟨[],Qb,Gn _,λk v e=>by rw[Qg4]at e;cases e⟩,λl D=>nomatch D⟩,by simp,by simp,J.same s1,Z4,i,i,by omega,by omega,λj R H' O S z m=>?_⟩;refine q j H' O z ⟨λb o e h1 h2 B=>m.keep b o (s1 _ _ e) h1 h2 B (Qd e g) (by simp),λb hb=>s1.free (m.there b hb)⟩
end
end K03
namespace Nt
variable{up:Nat->Option Nat}{p a b m n q x lo hi:Nat}{l S cl:List Nat}
inductive Ch(up:Nat->Option Nat):Nat->List Nat->Prop
 |top {p:Nat}:up p=Gf->Ch up p [p]
 |step {p q:Nat} {l:List Nat}:up p=Ga q->Ch up q l->Ch up p (p::l)
theorem Ch.uniq{up:Nat->Option Nat}:∀{p:Nat}{l m:List Nat},Ch up p l->Ch up p m->l=m
 |_,_,_,.top e,.top _=>rfl
 |_,_,_,.top e,.step f _=>by rw[e]at f;cases f
 |_,_,_,.step e _,.top f=>by rw[e]at f;cases f
 |_,_,_,.step e h,.step f k=>by rw[e]at f;cases f;rw[Ch.uniq h k]
theorem Ch.ne(h:Ch up p l):l≠[]:=by cases h<;>simp
theorem Ch.head(h:Ch up p l):∃r,l=p::r:=by cases h<;>exact⟨_,Xb⟩
theorem Ch.suffix{up:Nat->Option Nat}:∀{p:Nat}{l a:List Nat}{z:Nat}{b:List Nat},Ch up p l->l=a++z::b->Ch up z (z::b)
 |p,_,[],z,b,h,e=>by simp only[List.nil_append]at e;obtain⟨r,c⟩:=h.head;rw[e]at c;cases c;rw[<-e];exact h
 |p,_,x::a,z,b,.top _,e=>by simp at e
 |p,_,x::a,z,b,.step f h,e=>by simp only[List.cons_append,List.cons.injEq]at e;exact Ch.suffix h e.2
theorem Ch.nodup{up:Nat->Option Nat}:∀{p:Nat}{l:List Nat},Ch up p l->l.Nodup
 |_,_,.top _=>by simp
 |p,_,.step (l:=l) e h=>by rw[List.nodup_cons];refine⟨λc=>?_,h.nodup⟩;obtain⟨a,b,rfl⟩:=List.append_of_mem c;have h1:=h.suffix rfl;have h2:Ch up p (p::(a++p::b)):=.step e h;have:=congrArg List.length (h1.uniq h2);simp at this;omega
def Zx(l:List Nat):Nat:=l.getLastD 0
theorem Qau(h:l≠[]):Zx (p::l)=Zx l:=by
 cases l with
 |nil=>exact absurd rfl h
 |cons x r=>simp[Zx,List.getLastD]
theorem Qra{a b:List Nat}(h:b≠[]):Zx (a++b)=Zx b:=by
 induction a with
 |nil=>rfl
 |cons x r c=>rw[List.cons_append,Qau (by simp[h]),c]
theorem Ch.R5{z:Nat}(h:Ch up p l)(hz:z∈l):∃m,Ch up z m/\Zx m=Zx l:=by obtain⟨a,b,rfl⟩:=List.append_of_mem hz;exact⟨z::b,h.suffix Xb,by rw[Qra (by simp)]⟩
def Qdy(up:Nat->Option Nat)(p:Nat)(v:Nat):Nat->Option Nat:=λq=>if q=p then Ga v else up q
def Xr(up:Nat->Option Nat):Nat->List Nat->(Nat->Option Nat)
 |_,[]=>up
 |over,c::r=>Xr (Qdy up c over) c r
theorem Up:∀{l:List Nat}{up:Nat->Option Nat}{over q:Nat},q∉l->Xr up over l q=up q
 |[],_,_,_,_=>rfl
 |c::r,up,over,q,h=>by simp only[List.mem_cons,not_or]at h;show Xr (Qdy up c over) c r q=_;rw[Up h.2];unfold Qdy;rw[Gg h.1]
theorem Ch.Qc9{up:Nat->Option Nat}{low:List Nat}{over:Nat}:∀{p:Nat}{l:List Nat},Ch up p l->(∀z∈l,z∉low)->Ch (Xr up over low) p l
 |p,_,.top e,h=>.top (by rw[Up (h p (by simp))];exact e)
 |p,_,.step e k,h=>.step (by rw[Up (h p (by simp))];exact e) (Ch.Qc9 k λz hz=>h z (by simp[hz]))
theorem Qf4:∀{low:List Nat}{up:Nat->Option Nat}{over:Nat}{m:List Nat},low.Nodup->Ch (Xr up over low) over m->∀z∈low,∃l,Ch (Xr up over low) z l/\Zx l=Zx m
 |[],_,_,_,_,_,z,hz=>by simp at hz
 |c::r,up,over,m,nd,b,z,hz=>by
  rw[List.nodup_cons]at nd;have d:Xr up over (c::r) c=Ga over:=by show Xr (Qdy up c over) c r c=_;rw[Up nd.1];unfold Qdy;rw[Gk rfl]
  have h1:Ch (Xr up over (c::r)) c (c::m):=.step d b;have a:Zx (c::m)=Zx m:=Qau b.ne;rcases List.mem_cons.mp hz with rfl|hz
  ·exact⟨_,h1,a⟩
  ·obtain⟨l,e,f⟩:=Qf4 (low:=r) (up:=Qdy up c over) (over:=c) (m:=c::m) nd.2 h1 z hz;exact⟨l,e,by rw[f,a]⟩
theorem Qqb{low:List Nat}{over:Nat}{m:List Nat}(nd:low.Nodup)(d:Ch (Xr up over low) over m):∀{p:Nat}{l:List Nat},Ch up p l->(∃z∈l,z∈low)->∃b,Ch (Xr up over low) p b/\Zx b=Zx m:=by
 intro p l h;induction h with
 |@top p e=>rintro⟨z,hz,a⟩;simp at hz;subst hz;exact Qf4 nd d _ a
 |@step p q l e k g=>
  rintro⟨z,hz,a⟩;by_cases c:p∈low
  ·exact Qf4 nd d p c
  ·rcases List.mem_cons.mp hz with rfl|hz
   ·exact absurd a c
   ·obtain⟨b,f,i⟩:=g ⟨z,hz,a⟩;exact⟨p::b,.step (by rw[Up c];exact e) f,by rw[Qau f.ne,i]⟩
theorem Qc8:∀{l:List Nat}{up:Nat->Option Nat}{over p q:Nat},l.Nodup->Xr up over l p=Ga q->up p=Ga q\/(∃r,l=p::r/\q=over)\/∃a b,l=a++q::p::b
 |[],_,_,_,_,_,h=>.inl h
 |c::r,up,over,p,q,nd,h=>by
  rw[List.nodup_cons]at nd;have h:Xr (Qdy up c over) c r p=Ga q:=h;rcases Qc8 nd.2 h with h|⟨d,rfl,rfl⟩|⟨a,b,rfl⟩
  ·unfold Qdy at h;by_cases e:p=c
   ·rw[Gk e]at h;cases h;subst e;exact .inr (.inl ⟨r,Xb,Xb⟩)
   ·rw[Gg e]at h;exact .inl h
  ·exact .inr (.inr ⟨[],d,Xb⟩)
  ·exact .inr (.inr ⟨c::a,b,Xb⟩)
theorem Ch.Qd1{up:Nat->Option Nat}:∀{a:List Nat}{p x y:Nat}{b l:List Nat},Ch up p l->l=a++x::y::b->up x=Ga y
 |[],p,x,y,b,_,.top _,e=>by simp at e
 |[],p,x,y,b,_,.step f h,e=>by simp only[List.nil_append,List.cons.injEq]at e;obtain⟨rfl,rfl⟩:=e;obtain⟨r,c⟩:=h.head;cases c;exact f
 |z::a,p,x,y,b,_,.top _,e=>by simp at e
 |z::a,p,x,y,b,_,.step f h,e=>by simp only[List.cons_append,List.cons.injEq]at e;exact Ch.Qd1 h e.2
variable{α:Type}
inductive Cn(ls:List (Nat×Nat×α)):Nat->Nat->Prop
 |refl (p:Nat):Cn ls p p
 |symm {p q:Nat}:Cn ls p q->Cn ls q p
 |trans {p q r:Nat}:Cn ls p q->Cn ls q r->Cn ls p r
 |link {p q:Nat} {r:α}:(p,q,r)∈ls->Cn ls p q
theorem Cn.mono{ls a:List (Nat×Nat×α)}(h:∀x∈ls,x∈a):∀{p q:Nat},Cn ls p q->Cn a p q:=by
 intro p q c;induction c with
 |refl p=>exact .refl p
 |symm _ b=>exact .symm b
 |trans _ _ i1 i2=>exact .trans i1 i2
 |link m=>exact .link (h _ m)
theorem Cn.Qnc{ls:List (Nat×Nat×α)}(h:m<=n)(c:Cn (ls.take m) p q):Cn (ls.take n) p q:=
 c.mono λx a=>by
  have:ls.take m=(ls.take n).take m:=by rw[List.take_take,Ep h]
  rw[this]at a;exact List.mem_of_mem_take a
structure Fst(S:List Nat)(ls:List (Nat×Nat×α))(Xg:Nat->Nat->Option Nat)(up:Nat->Option Nat):Prop where
 Qd1:∀p q,up p=Ga q->∃n,Xg p q=Ga n
 Qga:∀p q n,Xg p q=Ga n->∃r,ls[n]?=Ga (p,q,r)\/ls[n]?=Ga (q,p,r)
 all:∀(n p q:Nat)r,ls[n]?=Ga (p,q,r)->Xg p q=Ga n/\Xg q p=Ga n
 sep:∀(n p q:Nat)r,ls[n]?=Ga (p,q,r)->¬Cn (ls.take n) p q
 chain:∀p∈S,∃l,Ch up p l
 inS:∀p q,up p=Ga q->p∈S/\q∈S
theorem Fst.Qcx{ls:List (Nat×Nat×α)}{Xg:Nat->Nat->Option Nat}(F:Fst S ls Xg up)(h:Xg p q=Ga n):Xg q p=Ga n:=by
 obtain⟨r,h|h⟩:=F.Qga p q n h
 ·exact(F.all _ _ _ _ h).2
 ·exact(F.all _ _ _ _ h).1
inductive Pth(Xg:Nat->Nat->Option Nat):Nat->List Nat->Nat->Prop
 |nil (p:Nat):Pth Xg p [] p
 |cons {p q r n:Nat} {ns:List Nat}:Xg p q=Ga n->Pth Xg q ns r->Pth Xg p (n::ns) r
theorem Pth.app{Xg:Nat->Nat->Option Nat}:∀{p q r:Nat}{a b:List Nat},Pth Xg p a q->Pth Xg q b r->Pth Xg p (a++b) r
 |_,_,_,_,_,.nil _,k=>k
 |_,_,_,_,_,.cons e h,k=>.cons e (h.app k)
theorem Pth.rev{Xg:Nat->Nat->Option Nat}(b:∀p q n,Xg p q=Ga n->Xg q p=Ga n):∀{p q:Nat}{a:List Nat},Pth Xg p a q->Pth Xg q a.reverse p
 |_,_,_,.nil _=>.nil _
 |_,_,_,.cons e h=>by rw[List.reverse_cons];exact(h.rev b).app (.cons (b _ _ _ e) (.nil _))
theorem Pth.split{Xg:Nat->Nat->Option Nat}{n:Nat}{b:List Nat}:∀{a:List Nat}{p q:Nat}{l:List Nat},Pth Xg p l q->l=a++n::b->∃x y,Pth Xg p a x/\Xg x y=Ga n/\Pth Xg y b q
 |a,p,_,_,.nil _,e=>by simp at e
 |[],p,q,_,.cons f h,e=>by simp only[List.nil_append,List.cons.injEq]at e;obtain⟨rfl,rfl⟩:=e;exact⟨p,_,.nil p,f,h⟩
 |z::a,p,q,_,.cons f h,e=>by simp only[List.cons_append,List.cons.injEq]at e;obtain⟨rfl,e⟩:=e;obtain⟨x,y,h1,h2,c⟩:=h.split e;exact⟨x,y,.cons f h1,h2,c⟩
theorem Qdg:∀{l:List Nat},l≠[]->∃m∈l,∀k∈l,k<=m
 |[x],_=>⟨x,by simp,λk a=>by simp at a;omega⟩
 |x::y::r,_=>by
  obtain⟨m,h1,h2⟩:=Qdg (l:=y::r) (by simp);by_cases e:x<=m
  ·refine⟨m,List.mem_cons_of_mem _ h1,λk a=>?_⟩;rcases List.mem_cons.mp a with rfl|a
   ·exact e
   ·exact h2 k a
  ·refine⟨x,List.mem_cons_self,λk a=>?_⟩;rcases List.mem_cons.mp a with rfl|a
   ·exact Gn _
   ·have:=h2 k a;omega
section
variable{S:List Nat}{ls:List (Nat×Nat×α)}{Xg:Nat->Nat->Option Nat}{up:Nat->Option Nat}
theorem Fst.Qjc(F:Fst S ls Xg up){M:Nat}:∀{p q:Nat}{a:List Nat},Pth Xg p a q->(∀k∈a,k<M)->Cn (ls.take M) p q
 |_,_,_,.nil _,_=>.refl _
 |p,_,_,.cons (n:=n) e h,b=>by
  refine .trans ?_ (F.Qjc h λk d=>b k (List.mem_cons_of_mem _ d));have c:=b n List.mem_cons_self;obtain⟨r,h1|h1⟩:=F.Qga _ _ _ e
  ·exact .link (r:=r) (List.mem_of_getElem? (i:=n) (by rw[List.getElem?_take,Gk c];exact h1))
  ·exact .symm (.link (r:=r) (List.mem_of_getElem? (i:=n) (by rw[List.getElem?_take,Gk c];exact h1)))
theorem Fst.early(F:Fst S ls Xg up){a:List Nat}(h:Pth Xg p a q)(nd:a.Nodup)(c:Cn (ls.take n) p q):∀k∈a,k<n:=by
 intro k g;obtain⟨M,w,f⟩:=Qdg (l:=a) (by intro z;rw[z]at g;simp at g);by_cases i:M<n
 ·exact EA (f k g) i
 exfalso;obtain⟨b,d,rfl⟩:=List.append_of_mem w;obtain⟨x,y,h1,h2,v⟩:=h.split rfl;rw[List.nodup_append]at nd;obtain⟨n1,n2,n3⟩:=nd;rw[List.nodup_cons]at n2;have m:∀k∈b,k<M:=λk g=>by have:=f k (List.mem_append_left _ g);have:=n3 k g M List.mem_cons_self;omega
 have u:∀k∈d,k<M:=λk g=>by have:=f k (List.mem_append_right _ (List.mem_cons_of_mem _ g));have:k≠M:=λz=>n2.1 (z▸g);omega
 have o:=F.Qjc h1 m;have s:=F.Qjc v u;have t:Cn (ls.take M) p q:=c.Qnc (by omega);have j:Cn (ls.take M) x y:=.trans (.symm o) (.trans t (.symm s));obtain⟨r,e|e⟩:=F.Qga _ _ _ h2
 ·exact F.sep _ _ _ _ e j
 ·exact F.sep _ _ _ _ e (.symm j)
def num(Xg:Nat->Nat->Option Nat)(up:Nat->Option Nat)(x:Nat):Nat:=((up x).bind (Xg x)).getD 0
theorem Fst.Qcp(F:Fst S ls Xg up){y:Nat}(h:up x=Ga y):Xg x y=Ga (num Xg up x):=by obtain⟨n,a⟩:=F.Qd1 x y h;unfold num;rw[h];simp[a]
theorem Fst.Qtn(F:Fst S ls Xg up){y i j:Nat}(h:up x=Ga i)(k:up y=Ga j)(e:num Xg up x=num Xg up y):x=y:=by
 have h1:=F.Qcp h;have n:=F.Qcp k;rw[e]at h1;obtain⟨r,h2⟩:=F.Qga _ _ _ h1;obtain⟨q,a⟩:=F.Qga _ _ _ n;have swap:x=j->i=y->x=y:=λo p=>by
  subst o p;exfalso;obtain⟨l,d⟩:=F.chain x (F.inS _ _ h).1;have nd:=d.nodup;cases d with
  |top f=>rw[h]at f;cases f
  |step f g=>
   rw[h]at f;cases f;cases g with
   |top b=>rw[k]at b;cases b
   |step b m=>rw[k]at b;cases b;obtain⟨s,c⟩:=m.head;subst c;simp at nd
 rcases h2 with h2|h2<;>rcases a with a|a<;>rw[h2]at a<;>simp only[Fp,T1]at a
 ·exact a.1
 ·exact swap a.1 a.2.1
 ·exact swap a.2.1 a.1
 ·exact a.2.1
theorem Fst.Qkc(F:Fst S ls Xg up){m:Nat}{s:List Nat}:∀{P:List Nat}{p:Nat}{l:List Nat},Ch up p l->l=P++m::s->Pth Xg p (P.map (num Xg up)) m
 |[],p,_,h,e=>by obtain⟨r,a⟩:=h.head;rw[e]at a;simp only[List.nil_append,List.cons.injEq]at a;rw[a.1];exact .nil _
 |z::P,p,_,.top _,e=>by simp at e
 |z::P,p,_,.step (q:=q) f h,e=>by simp only[List.cons_append,List.cons.injEq]at e;obtain⟨rfl,e⟩:=e;rw[List.map_cons];exact .cons (F.Qcp f) (F.Qkc h e)
theorem Ch.Qp4{P:List Nat}{s:List Nat}(h:Ch up p l)(e:l=P++m::s)(c:x∈P):∃y,up x=Ga y:=by
 obtain⟨a,b,rfl⟩:=List.append_of_mem c;cases b with
 |nil=>exact⟨m,h.Qd1 (a:=a) (b:=s) (by rw[e];simp)⟩
 |cons y b=>exact⟨y,h.Qd1 (a:=a) (b:=b++m::s) (by rw[e];simp)⟩
theorem Oh{f:Nat->Nat}:∀{l:List Nat},l.Nodup->(∀x∈l,∀y∈l,f x=f y->x=y)->(l.map f).Nodup
 |[],_,_=>by simp
 |x::r,nd,h=>by rw[List.nodup_cons]at nd;rw[List.map_cons,List.nodup_cons];refine⟨λz=>?_,Oh nd.2 λa d b hb=>h a (List.mem_cons_of_mem _ d) b (List.mem_cons_of_mem _ hb)⟩;obtain⟨y,c,e⟩:=List.mem_map.mp z;exact nd.1 (h y (List.mem_cons_of_mem _ c) x List.mem_cons_self e▸c)
theorem On{x y:Nat}:∀{l:List Nat},(x,y)∈l.zip (l.drop 1)->∃a b,l=a++x::y::b
 |[],h=>by simp at h
 |[z],h=>by simp at h
 |z::w::r,h=>by
  simp only[List.drop_succ_cons,List.drop_zero,List.zip_cons_cons,List.mem_cons,T1]at h;rcases h with⟨rfl,rfl⟩|h
  ·exact⟨[],r,Xb⟩
  ·obtain⟨a,b,e⟩:=On (l:=w::r) (by simpa using h);exact⟨z::a,b,by rw[e];rfl⟩
theorem Fst.way(F:Fst S ls Xg up){one f:Nat}{l1 l2 P Q s:List Nat}(h1:Ch up one l1)(h2:Ch up f l2)(l:l1=P++m::s)(o:l2=Q++m::s)(C:P=[]\/Q=[]\/P.getLast?≠Q.getLast?):
  ∀x y,(x,y)∈(P++m::Q.reverse).zip ((P++m::Q.reverse).drop 1)->∃k,Xg x y=Ga k/\∀n,Cn (ls.take n) one f->k<n:=by
 have dis:∀z∈P,z∉Q:=λz V W=>by
  obtain⟨M,w,rfl⟩:=List.append_of_mem V;obtain⟨N,O,rfl⟩:=List.append_of_mem W;have R:=h1.suffix (a:=M) (z:=z) (b:=w++m::s) (by rw[l];simp);have T:=h2.suffix (a:=N) (z:=z) (b:=O++m::s) (by rw[o];simp);have e:=R.uniq T;simp only[List.cons.injEq,true_and]at e;have e:=List.append_cancel_right e;subst e;rcases C with h|h|h
  ·simp at h
  ·simp at h
  ·refine h ?_;rw[List.getLast?_append,List.getLast?_append];have:(z::w).getLast?=Ga ((z::w).getLast (by simp)):=List.getLast?_eq_some_getLast (by simp);rw[this];rfl
 have G:P.Nodup:=by have:=h1.nodup;rw[l,List.nodup_append]at this;exact this.1
 have H:Q.Nodup:=by have:=h2.nodup;rw[o,List.nodup_append]at this;exact this.1
 have v:∀x∈P++Q.reverse,∃y,up x=Ga y:=λx i=>by
  rcases List.mem_append.mp i with i|i
  ·exact h1.Qp4 l i
  ·exact h2.Qp4 o (List.mem_reverse.mp i)
 have nd:(P++Q.reverse).Nodup:=by rw[List.nodup_append];refine⟨G,by rw[List.Nodup,List.pairwise_reverse];exact H.imp λh=>Gm h,λa X b hb z=>?_⟩;subst z;exact dis a X (List.mem_reverse.mp hb)
 have I:((P++Q.reverse).map (num Xg up)).Nodup:=Oh nd λx i y E e=>by obtain⟨x',ex⟩:=v x i;obtain⟨y',U⟩:=v y E;exact F.Qtn ex U e
 have J:Pth Xg one ((P++Q.reverse).map (num Xg up)) f:=by rw[List.map_append,List.map_reverse];exact(F.Qkc h1 l).app ((F.Qkc h2 o).rev λ_ _ _=>F.Qcx)
 intro x y D;obtain⟨a,b,e⟩:=On D;have fin:∀z L,up z=Ga L->z∈P++Q.reverse->Xg x y=Ga (num Xg up z)->∃k,Xg x y=Ga k/\∀n,Cn (ls.take n) one f->k<n:=λz L _ hz Y=>⟨_,Y,λn c=>F.early J I c _ (List.mem_map.mpr ⟨z,hz,Xb⟩)⟩
 have p:(∃z,z∈P/\x=z/\up z=Ga y)\/(∃z,z∈Q/\y=z/\up z=Ga x):=by
  rcases Te a.length P.length with B|A
  ·left;have i:P[a.length]?=Ga x:=by
    have:(P++m::Q.reverse)[a.length]?=(a++x::y::b)[a.length]?:=by rw[e]
    rw[List.getElem?_append_left B,List.getElem?_append_right (Gn _)]at this;simpa using this
   refine⟨x,List.mem_of_getElem? i,Xb,?_⟩;have g:P++[m]=a++x::y::(P++[m]).drop (a.length+2):=by
    have t:=congrArg (List.take (P.length+1)) e;have Z:(P++m::Q.reverse).take (P.length+1)=P++[m]:=by rw[show P++m::Q.reverse=(P++[m])++Q.reverse by simp,List.take_left' (by simp)]
    rw[Z]at t;have t2:(a++x::y::b).take (P.length+1)=a++x::y::b.take (P.length+1 - a.length - 2):=by rw[List.take_append,List.take_of_length_le (by omega)];congr 1;obtain⟨d,hd⟩:∃d,P.length+1 - a.length=d+2:=⟨P.length+1 - a.length - 2,by omega⟩;rw[hd];simp
    rw[t2]at t;rw[t];congr 3;rw[List.drop_append];simp
   exact h1.Qd1 (a:=a) (b:=(P++[m]).drop (a.length+2)++s) (by rw[l,show P++m::s=(P++[m])++s by simp,g];simp[List.append_assoc])
  ·right;obtain⟨j,rfl⟩:∃j,a=P++j:=by refine⟨a.drop P.length,?_⟩;have t:=congrArg (List.take P.length) e;rw[List.take_left' Xb,List.take_append_of_le_length A]at t;exact(List.take_append_drop P.length a).symm.trans (by rw[<-t])
   rw[List.append_assoc]at e;have e:=List.append_cancel_left e;have r:=congrArg List.reverse e;rw[List.reverse_cons,List.reverse_reverse]at r;simp only[List.reverse_append,List.reverse_cons,List.append_assoc,List.cons_append,List.nil_append]at r;have K:Q++m::s=b.reverse++y::x::(j.reverse++s):=by rw[show Q++m::s=(Q++[m])++s by simp,r];simp
   refine⟨y,?_,Xb,h2.Qd1 (a:=b.reverse) (b:=j.reverse++s) (by rw[o,K])⟩;have q:b.reverse.length<Q.length:=by have:=congrArg List.length r;simp at this;simp;omega
   have E:Q[b.reverse.length]?=Ga y:=by
    have:(Q++m::s)[b.reverse.length]?=(b.reverse++y::x::(j.reverse++s))[b.reverse.length]?:=by rw[K]
    rw[List.getElem?_append_left q,List.getElem?_append_right (Gn _)]at this;simpa using this
   exact List.mem_of_getElem? E
 rcases p with⟨z,hz,rfl,u⟩|⟨z,hz,rfl,u⟩
 ·exact fin x y u (List.mem_append_left _ hz) (F.Qcp u)
 ·exact fin y x u (List.mem_append_right _ (List.mem_reverse.mpr hz)) (F.Qcx (F.Qcp u))
end
variable{W ρ:Type}[DecidableEq W]
structure Nst(W ρ:Type) where
 S:List Nat
 lead:Nat->Nat
 mem:Nat->List Nat
 Xk:Nat->List Nat
 tab:W×List Nat->Option Nat
 links:List (Nat×Nat×Option ρ)
 Xg:Nat->Nat->Option Nat
 up:Nat->Option Nat
def Zn(wd:Nat->W)(pt:Nat->List Nat)(ld:Nat->Nat)(p:Nat):W×List Nat:=(wd p,(pt p).map ld)
inductive Cj(S:List Nat)(ld:Nat->Nat)(pend:List (Nat×Nat×Option ρ)):Nat->Nat->Prop
 |lead {p q:Nat}:p∈S->q∈S->ld p=ld q->Cj S ld pend p q
 |wait {p q:Nat} {r:Option ρ}:(p,q,r)∈pend->Cj S ld pend p q
 |symm {p q:Nat}:Cj S ld pend p q->Cj S ld pend q p
 |trans {p q r:Nat}:Cj S ld pend p q->Cj S ld pend q r->Cj S ld pend p r
theorem Cj.map{ld d:Nat->Nat}{pend pend':List (Nat×Nat×Option ρ)}(h1:∀p∈S,∀q∈S,ld p=ld q->Cj S d pend' p q)(h2:∀p q r,(p,q,r)∈pend->Cj S d pend' p q):∀{p q:Nat},Cj S ld pend p q->Cj S d pend' p q:=by
 intro p q c;induction c with
 |lead a b e=>exact h1 _ a _ b e
 |wait m=>exact h2 _ _ _ m
 |symm _ f=>exact .symm f
 |trans _ _ i1 i2=>exact .trans i1 i2
theorem Cj.nil{ld:Nat->Nat}(c:Cj (ρ:=ρ) S ld [] p q):ld p=ld q:=by
 induction c with
 |lead _ _ e=>exact e
 |wait m=>simp at m
 |symm _ a=>exact a.symm
 |trans _ _ i1 i2=>exact i1.trans i2
def Two(F:Nat->Nat->Prop)(ps a:List Nat):Prop:=ps.length=a.length/\∀(i p q:Nat),ps[i]?=Ga p->a[i]?=Ga q->F p q
theorem Qbw{f:Nat->Nat}{ps a:List Nat}:ps.map f=a.map f↔Two (λp q=>f p=f q) ps a:=by
 constructor
 ·intro h;have b:=congrArg List.length h;simp at b;refine⟨b,λi p q c d=>?_⟩;have:(ps.map f)[i]?=(a.map f)[i]?:=by rw[h]
  simpa[c,d]using this
 ·rintro⟨b,h⟩;refine List.ext_getElem? λi=>?_;rw[List.getElem?_map,List.getElem?_map];rcases Te i ps.length with hi|hi
  ·have h1:=List.getElem?_eq_getElem hi;have h2:=List.getElem?_eq_getElem (show i<a.length by omega);rw[h1,h2,TF,TF,h i _ _ h1 h2]
  ·rw[List.getElem?_eq_none hi,List.getElem?_eq_none (by omega)]
structure X9(wd:Nat->W)(pt:Nat->List Nat)(x:Nst W ρ)(pend:List (Nat×Nat×Option ρ)):Prop where
 nd:x.S.Nodup
 pt_:∀p∈x.S,∀q∈pt p,q∈x.S
 ld:∀p∈x.S,x.lead p∈x.S
 idem:∀p∈x.S,x.lead (x.lead p)=x.lead p
 Qbh:∀l∈x.S,x.lead l=l->∀p,p∈x.mem l↔p∈x.S/\x.lead p=l
 Qjp:∀l∈x.S,x.lead l=l->(x.mem l).Nodup
 Qis:∀l∈x.S,∀p∈x.Xk l,p∈x.S
 Qva:∀p∈x.S,∀q∈pt p,p∈x.Xk (x.lead q)
 tabS:∀k u,x.tab k=Ga u->u∈x.S/\wd u=k.1/\(∀q∈k.2,q∈x.S)/\(pt u).map x.lead=k.2.map x.lead
 Qpn:∀p∈x.S,∃u,x.tab (Zn wd pt x.lead p)=Ga u/\Cj x.S x.lead pend u p
 pnd:∀a b r,(a,b,r)∈pend->a∈x.S/\b∈x.S/\(r=Gf->wd a=wd b/\(pt a).map x.lead=(pt b).map x.lead)
 fst:Fst x.S x.links x.Xg x.up
 lnk:∀(n a b:Nat)r,x.links[n]?=Ga (a,b,r)->a∈x.S/\b∈x.S/\(r=Gf->wd a=wd b/\Two (Cn (x.links.take n)) (pt a) (pt b))
 conn:∀p∈x.S,∀q∈x.S,(x.lead p=x.lead q↔Cn x.links p q)
 root:∀p q l m,p∈x.S->q∈x.S->Ch x.up p l->Ch x.up q m->(x.lead p=x.lead q↔Zx l=Zx m)
def scan(ky:Nat->W×List Nat):List Nat->(W×List Nat->Option Nat)->List (Nat×Nat×Option ρ)->(W×List Nat->Option Nat)×List (Nat×Nat×Option ρ)
 |[],t,f=>(t,f)
 |u::r,t,f=>match t (ky u)with
  |some v=>scan ky r t (if v=u then f else f++[(u,v,Gf)])
  |none=>scan ky r (λk=>if k=ky u then Ga u else t k) f
theorem Uv{ky:Nat->W×List Nat}:∀{l:List Nat}{t:W×List Nat->Option Nat}{f:List (Nat×Nat×Option ρ)}{k:W×List Nat}{v:Nat},t k=Ga v->(scan ky l t f).1 k=Ga v
 |[],_,_,_,_,h=>h
 |u::r,t,f,k,v,h=>by
  unfold scan;cases e:t (ky u)with
  |some w=>exact Uv h
  |none=>
   refine Uv ?_;have:k≠ky u:=λz=>by rw[z,e]at h;cases h
   simp only[Gg this];exact h
theorem scan_keep{ky:Nat->W×List Nat}:∀{l:List Nat}{t:W×List Nat->Option Nat}{f:List (Nat×Nat×Option ρ)}{y},y∈f->y∈(scan ky l t f).2
 |[],_,_,_,h=>h
 |u::r,t,f,y,h=>by
  unfold scan;cases e:t (ky u)with
  |some w=>
   refine scan_keep ?_;split
   ·exact h
   ·exact List.mem_append_left _ h
  |none=>exact scan_keep h
theorem Qc3{ky:Nat->W×List Nat}:∀{l:List Nat}{t:W×List Nat->Option Nat}{f:List (Nat×Nat×Option ρ)}{u:Nat},u∈l->∃v,(scan ky l t f).1 (ky u)=Ga v/\(v=u\/(u,v,Gf)∈(scan ky l t f).2)
 |[],_,_,_,h=>by simp at h
 |z::r,t,f,u,h=>by
  unfold scan;rcases List.mem_cons.mp h with rfl|h
  ·cases e:t (ky u)with
   |some w=>
    refine⟨w,Uv e,?_⟩;by_cases hw:w=u
    ·exact .inl hw
    ·right;refine scan_keep ?_;rw[Gg hw];simp
   |none=>exact⟨u,Uv (by simp),.inl Xb⟩
  ·cases e:t (ky z)with
   |some w=>exact Qc3 h
   |none=>exact Qc3 h
theorem Qdv{ky:Nat->W×List Nat}:∀{l:List Nat}{t:W×List Nat->Option Nat}{f:List (Nat×Nat×Option ρ)}{k:W×List Nat}{v:Nat},(scan ky l t f).1 k=Ga v->t k=Ga v\/(v∈l/\k=ky v)
 |[],_,_,_,_,h=>.inl h
 |u::r,t,f,k,v,h=>by
  unfold scan at h;cases e:t (ky u)with
  |some w=>
   rw[e]at h;rcases Qdv h with h|⟨h1,h2⟩
   ·exact .inl h
   ·exact .inr ⟨List.mem_cons_of_mem _ h1,h2⟩
  |none=>
   rw[e]at h;rcases Qdv h with h|⟨h1,h2⟩
   ·by_cases a:k=ky u
    ·simp only[Gk a]at h;cases h;exact .inr ⟨List.mem_cons_self,a⟩
    ·simp only[Gg a]at h;exact .inl h
   ·exact .inr ⟨List.mem_cons_of_mem _ h1,h2⟩
theorem V4{ky:Nat->W×List Nat}:∀{l:List Nat}{t:W×List Nat->Option Nat}{f:List (Nat×Nat×Option ρ)}{a b:Nat}{r:Option ρ},(a,b,r)∈(scan ky l t f).2->(a,b,r)∈f\/(r=Gf/\a∈l/\(scan ky l t f).1 (ky a)=Ga b)
 |[],_,_,_,_,_,h=>.inl h
 |u::l,t,f,a,b,r,h=>by
  unfold scan at h⊢;cases e:t (ky u)with
  |some w=>
   rw[e]at h;rcases V4 h with h|⟨h1,h2,c⟩
   ·split at h
    ·exact .inl h
    ·rcases List.mem_append.mp h with h|h
     ·exact .inl h
     ·simp at h;obtain⟨rfl,rfl,rfl⟩:=h;exact .inr ⟨Xb,List.mem_cons_self,Uv e⟩
   ·exact .inr ⟨h1,List.mem_cons_of_mem _ h2,c⟩
  |none=>
   rw[e]at h;rcases V4 h with h|⟨h1,h2,c⟩
   ·exact .inl h
   ·exact .inr ⟨h1,List.mem_cons_of_mem _ h2,c⟩
theorem scan_len{ky:Nat->W×List Nat}:∀{l:List Nat}{t:W×List Nat->Option Nat}{f:List (Nat×Nat×Option ρ)},(scan ky l t f).2.length<=f.length+l.length
 |[],_,_=>by simp[scan]
 |u::l,t,f=>by
  unfold scan;cases e:t (ky u)with
  |some w=>
   have:=scan_len (ky:=ky) (l:=l) (t:=t) (f:=if w=u then f else f++[(u,w,Gf)]);simp only[List.length_cons];split at this
   ·rename_i h
    simp only[Gk h];omega
   ·rename_i h
    simp only[Gg h];rw[List.length_append,List.length_singleton]at this;omega
  |none=>have:=scan_len (ky:=ky) (l:=l) (t:=λk=>if k=ky u then Ga u else t k) (f:=f);simp only[List.length_cons];omega
def Za(x:Nst W ρ)(a kept:Nat):Nat->Nat:=λp=>if p∈x.mem a then kept else x.lead p
def V6(wd:Nat->W)(pt:Nat->List Nat)(x:Nst W ρ)(a kept:Nat):Nst W ρ×List (Nat×Nat×Option ρ):=
 ({x with lead:=Za x a kept,mem:=(λp=>if p=kept then x.mem kept++x.mem a else x.mem p),Xk:=(λp=>if p=kept then x.Xk kept++x.Xk a else x.Xk p),tab:=(scan (ρ:=ρ) (Zn wd pt (Za x a kept)) (x.Xk a) x.tab []).1},(scan (Zn wd pt (Za x a kept)) (x.Xk a) x.tab []).2)
def O5(Xg:Nat->Nat->Option Nat)(a b n:Nat):Nat->Nat->Option Nat:=λp q=>if(p=a/\q=b)\/(p=b/\q=a)then Ga n else Xg p q
def Yo(wd:Nat->W)(pt:Nat->List Nat)(x:Nst W ρ)(a b:Nat)(r:Option ρ)(lo hi:Nat)(cl:List Nat):Nst W ρ×List (Nat×Nat×Option ρ):=
 V6 wd pt {x with links:=x.links++[(a,b,r)],Xg:=O5 x.Xg a b x.links.length,up:=Xr x.up hi cl} (x.lead lo) (x.lead hi)
section
variable{wd:Nat->W}{pt:Nat->List Nat}{x:Nst W ρ}{pend:List (Nat×Nat×Option ρ)}
theorem Qtb{ls:List (Nat×Nat×Option ρ)}{r:Option ρ}(c:Cn (ls++[(a,b,r)]) p q):Cn ls p q\/(Cn ls p a/\Cn ls b q)\/(Cn ls p b/\Cn ls a q):=by
 induction c with
 |refl p=>exact .inl (.refl p)
 |symm _ f=>
  rcases f with h|⟨h1,h2⟩|⟨h1,h2⟩
  ·exact .inl (.symm h)
  ·exact .inr (.inr ⟨.symm h2,.symm h1⟩)
  ·exact .inr (.inl ⟨.symm h2,.symm h1⟩)
 |trans _ _ i1 i2=>
  rcases i1 with h|⟨h1,h2⟩|⟨h1,h2⟩<;>rcases i2 with k|⟨e,d⟩|⟨e,d⟩
  ·exact .inl (.trans h k)
  ·exact .inr (.inl ⟨.trans h e,d⟩)
  ·exact .inr (.inr ⟨.trans h e,d⟩)
  ·exact .inr (.inl ⟨h1,.trans h2 k⟩)
  ·exact .inr (.inl ⟨h1,d⟩)
  ·exact .inl (.trans h1 d)
  ·exact .inr (.inr ⟨h1,.trans h2 k⟩)
  ·exact .inl (.trans h1 d)
  ·exact .inr (.inr ⟨h1,d⟩)
 |link m=>
  rcases List.mem_append.mp m with m|m
  ·exact .inl (.link m)
  ·simp at m;obtain⟨rfl,rfl,rfl⟩:=m;exact .inr (.inl ⟨.refl _,.refl _⟩)
theorem X9.Qp1(I:X9 wd pt x pend){g k:Nat}(b:g∈x.S)(a:x.lead g=g)(c:p∈x.S):Za x g k p=if x.lead p=g then k else x.lead p:=by
 unfold Za;by_cases h:x.lead p=g
 ·rw[Gk h,Gk ((I.Qbh g b a p).mpr ⟨c,h⟩)]
 ·rw[Gg h,Gg λz=>h ((I.Qbh g b a p).mp z).2]
end
variable{W ρ:Type}[DecidableEq W]
section
variable{wd:Nat->W}{pt:Nat->List Nat}{x:Nst W ρ}{pend:List (Nat×Nat×Option ρ)}
theorem X9.join(I:X9 wd pt x (pend++[(a,b,r)]))(ac:x.lead a≠x.lead b)(Q:(lo=a/\hi=b)\/(lo=b/\hi=a))(W:Ch x.up lo cl):
  X9 wd pt (Yo wd pt x a b r lo hi cl).1 (pend++(Yo wd pt x a b r lo hi cl).2)/\(∀p∈x.S,(Yo wd pt x a b r lo hi cl).1.lead p=if x.lead p=x.lead lo then x.lead hi else x.lead p):=by
 obtain⟨aS,bS,N⟩:=I.pnd a b r (by simp);have M:lo∈x.S:=by rcases Q with⟨h,_⟩|⟨h,_⟩<;>rw[h]<;>assumption
 have G:hi∈x.S:=by rcases Q with⟨_,h⟩|⟨_,h⟩<;>rw[h]<;>assumption
 have s:x.lead lo≠x.lead hi:=by
  rcases Q with⟨h1,h2⟩|⟨h1,h2⟩<;>rw[h1,h2]
  ·exact ac
  ·exact Gm ac
 obtain⟨lh,D⟩:=I.fst.chain hi G;have gS:=I.ld lo M;have gg:=I.idem lo M;have kS:=I.ld hi G;have kk:=I.idem hi G;generalize hG:x.lead lo=g at*;generalize hK:x.lead hi=k at*;have ab:(x.lead a=g/\x.lead b=k)\/(x.lead a=k/\x.lead b=g):=by
  rcases Q with⟨h1,h2⟩|⟨h1,h2⟩
  ·left;rw[<-h1,<-h2];exact⟨hG,hK⟩
  ·right;rw[<-h1,<-h2];exact⟨hK,hG⟩
 have L:∀p∈x.S,Za x g k p=if x.lead p=g then k else x.lead p:=λp d=>I.Qp1 gS gg d;have eJ:Yo wd pt x a b r lo hi cl=V6 wd pt {x with links:=x.links++[(a,b,r)],Xg:=O5 x.Xg a b x.links.length,up:=Xr x.up hi cl} g k:=by unfold Yo;rw[hG,hK]
 rw[eJ];have nC:¬Cn x.links a b:=λc=>ac ((I.conn a aS b bS).mpr c);have Y:∀p∈x.S,∀q∈x.S,x.lead p=x.lead q->Za x g k p=Za x g k q:=λp d q j e=>by rw[L p d,L q j,e]
 have LS:∀p∈x.S,Za x g k p∈x.S:=λp d=>by
  rw[L p d];split
  ·exact kS
  ·exact I.ld p d
 have Lk:Za x g k k=k:=by rw[L k kS,kk,Gg (Gm s)]
 have Li:∀p∈x.S,Za x g k (Za x g k p)=Za x g k p:=λp d=>by
  by_cases h:x.lead p=g
  ·rw[L p d,Gk h,Lk]
  ·rw[L p d,Gg h,L _ (I.ld p d),I.idem p d,Gg h]
 have Mp:∀p∈x.S,∀q∈x.S,(pt p).map x.lead=(pt q).map x.lead->(pt p).map (Za x g k)=(pt q).map (Za x g k):=λp d q j e=>by rw[Qbw]at e⊢;exact⟨e.1,λi u v F K=>Y u (I.pt_ p d u (List.mem_of_getElem? F)) v (I.pt_ q j v (List.mem_of_getElem? K)) (e.2 i u v F K)⟩
 have TS:∀ky u,(scan (ρ:=ρ) (Zn wd pt (Za x g k)) (x.Xk g) x.tab []).1 ky=Ga u->u∈x.S/\wd u=ky.1/\(∀q∈ky.2,q∈x.S)/\(pt u).map (Za x g k)=ky.2.map (Za x g k):=λky u h=>by
  rcases Qdv h with h|⟨h1,h2⟩
  ·obtain⟨k1,k2,k3,k4⟩:=I.tabS ky u h;refine⟨k1,k2,k3,?_⟩;rw[Qbw]at k4⊢;exact⟨k4.1,λi u' v F K=>Y u' (I.pt_ u k1 u' (List.mem_of_getElem? F)) v (k3 v (List.mem_of_getElem? K)) (k4.2 i u' v F K)⟩
  ·have uS:=I.Qis g gS u h1;subst h2;refine⟨uS,Xb,λq j=>?_,?_⟩
   ·obtain⟨q',B,rfl⟩:=List.mem_map.mp j;exact LS q' (I.pt_ u uS q' B)
   ·show(pt u).map (Za x g k)=((pt u).map (Za x g k)).map (Za x g k);rw[List.map_map];refine List.map_congr_left λq j=>?_;exact(Li q (I.pt_ u uS q j)).symm
 have dis:∀z∈lh,z∉cl:=λz hz T=>by
  obtain⟨m1,Z,O⟩:=D.R5 hz;obtain⟨m2,c2,J⟩:=W.R5 T;have:Zx lh=Zx cl:=by rw[<-O,<-J,Z.uniq c2]
  exact s ((I.root lo hi cl lh M G W D).mpr this.symm|>λe=>by rw[hG,hK]at e;exact e)
 have hh:Ch (Xr x.up hi cl) hi lh:=D.Qc9 dis;have R:∀p∈x.S,∀lp,Ch x.up p lp->∃l,Ch (Xr x.up hi cl) p l/\(x.lead p=g->Zx l=Zx lh)/\(x.lead p≠g->Zx l=Zx lp):=λp d lp w=>by
  by_cases h:∃z∈lp,z∈cl
  ·obtain⟨l,h1,h2⟩:=Qqb W.nodup hh w h;refine⟨l,h1,λ_=>h2,λA=>?_⟩;exfalso;obtain⟨z,hz,T⟩:=h;obtain⟨m1,Z,O⟩:=w.R5 hz;obtain⟨m2,c2,J⟩:=W.R5 T;have:Zx lp=Zx cl:=by rw[<-O,<-J,Z.uniq c2]
   exact A (by rw[<-hG];exact(I.root p lo lp cl d M w W).mpr this)
  ·have h1:Ch (Xr x.up hi cl) p lp:=w.Qc9 λz hz T=>h ⟨z,hz,T⟩;refine⟨lp,h1,λe=>?_,λ_=>rfl⟩;exfalso;have:=(I.root p lo lp cl d M w W).mp (by rw[hG];exact e);have m1:Zx lp∈lp:=by have:=w.ne;unfold Zx;rw[List.getLastD_eq_getLast?,List.getLast?_eq_some_getLast this];exact List.getLast_mem this
   have m2:Zx cl∈cl:=by have:=W.ne;unfold Zx;rw[List.getLastD_eq_getLast?,List.getLast?_eq_some_getLast this];exact List.getLast_mem this
   exact h ⟨_,m1,by rw[this];exact m2⟩
 have C1:∀p∈x.S,∀q∈x.S,(Za x g k p=Za x g k q↔Cn (x.links++[(a,b,r)]) p q):=λp d q j=>by
  have mono:∀{u v:Nat},Cn x.links u v->Cn (x.links++[(a,b,r)]) u v:=λc=>c.mono λy hy=>List.mem_append_left _ hy;have lk:Cn (x.links++[(a,b,r)]) a b:=.link (r:=r) (by simp);have gk:∀u∈x.S,∀v∈x.S,x.lead u=g->x.lead v=k->Cn (x.links++[(a,b,r)]) u v:=λu F v K O J=>by
   rcases ab with⟨h1,h2⟩|⟨h1,h2⟩
   ·exact .trans (mono ((I.conn u F a aS).mp (O.trans h1.symm))) (.trans lk (mono ((I.conn b bS v K).mp (h2.trans J.symm))))
   ·exact .trans (mono ((I.conn u F b bS).mp (O.trans h2.symm))) (.trans (.symm lk) (mono ((I.conn a aS v K).mp (h1.trans J.symm))))
  constructor
  ·intro e;rw[L p d,L q j]at e;by_cases h1:x.lead p=g<;>by_cases h2:x.lead q=g
   ·exact mono ((I.conn p d q j).mp (h1.trans h2.symm))
   ·rw[Gk h1,Gg h2]at e;exact gk p d q j h1 e.symm
   ·rw[Gg h1,Gk h2]at e;exact .symm (gk q j p d h2 e)
   ·rw[Gg h1,Gg h2]at e;exact mono ((I.conn p d q j).mp e)
  ·intro c;have ae:Za x g k a=Za x g k b:=by
    rw[L a aS,L b bS];rcases ab with⟨h1,h2⟩|⟨h1,h2⟩
    ·rw[Gk h1,Gg (by rw[h2];exact Gm s),h2]
    ·rw[Gk h2,Gg (by rw[h1];exact Gm s),h1]
   rcases Qtb c with c|⟨Z,c2⟩|⟨Z,c2⟩
   ·exact Y p d q j ((I.conn p d q j).mpr c)
   ·exact(Y p d a aS ((I.conn p d a aS).mpr Z)).trans (ae.trans (Y b bS q j ((I.conn b bS q j).mpr c2)))
   ·exact(Y p d b bS ((I.conn p d b bS).mpr Z)).trans (ae.symm.trans (Y a aS q j ((I.conn a aS q j).mpr c2)))
 have tk:∀{n:Nat},n<=x.links.length->(x.links++[(a,b,r)]).take n=x.links.take n:=λh=>List.take_append_of_le_length h;have gl:∀{n:Nat}{y},(x.links++[(a,b,r)])[n]?=Ga y->(n<x.links.length/\x.links[n]?=Ga y)\/(n=x.links.length/\y=(a,b,r)):=λ{n y}h=>by
  rcases Te n x.links.length with A|A
  ·rw[List.getElem?_append_left A]at h;exact .inl ⟨A,h⟩
  ·rw[List.getElem?_append_right A]at h;have:n - x.links.length=0:=by have:=(List.getElem?_eq_some_iff.mp h).1;simp at this;omega
   rw[this]at h;simp at h;exact .inr ⟨by omega,h.symm⟩
 have P:∀p q,Xr x.up hi cl p=Ga q->x.up p=Ga q\/(p=lo/\q=hi)\/x.up q=Ga p:=λp q h=>by
  rcases Qc8 W.nodup h with h|⟨C,e,J⟩|⟨H,U,e⟩
  ·exact .inl h
  ·obtain⟨ag,e3⟩:=W.head;rw[e]at e3;cases e3;exact .inr (.inl ⟨Xb,J⟩)
  ·exact .inr (.inr (W.Qd1 e))
 refine⟨⟨I.nd,I.pt_,LS,Li,λl X e p=>?_,λl X e=>?_,λl X p d=>?_,λp d q j=>?_,TS,λp d=>?_,λH U C h=>?_,⟨λp q h=>?_,λp q n h=>?_,λn p q C h=>?_,λn p q C h=>?_,λp d=>?_,λp q h=>?_⟩,λn H U C h=>?_,C1,λp q l m d j h1 h2=>?_⟩,λp d=>L p d⟩
 ·
  have e:Za x g k l=l:=e;have lg:x.lead l≠g:=λz=>by rw[L l X,Gk z]at e;rw[<-e,kk]at z;exact s z.symm
  have ll:x.lead l=l:=by rw[L l X,Gg lg]at e;exact e
  show p∈(if l=k then x.mem k++x.mem g else x.mem l)↔p∈x.S/\Za x g k p=l;by_cases E:l=k
  ·rw[Gk E,List.mem_append,I.Qbh k kS kk,I.Qbh g gS gg];constructor
   ·rintro(⟨h1,h2⟩|⟨h1,h2⟩)
    ·exact⟨h1,by rw[L p h1,h2,Gg (Gm s),E]⟩
    ·exact⟨h1,by rw[L p h1,Gk h2,E]⟩
   ·rintro⟨h1,h2⟩;rw[L p h1]at h2;by_cases V:x.lead p=g
    ·exact .inr ⟨h1,V⟩
    ·rw[Gg V]at h2;exact .inl ⟨h1,h2.trans E⟩
  ·rw[Gg E,I.Qbh l X ll];constructor
   ·rintro⟨h1,h2⟩;exact⟨h1,by rw[L p h1,Gg (by rw[h2,<-ll];exact lg),h2]⟩
   ·rintro⟨h1,h2⟩;rw[L p h1]at h2;by_cases V:x.lead p=g
    ·rw[Gk V]at h2;exact absurd h2.symm E
    ·rw[Gg V]at h2;exact⟨h1,h2⟩
 ·have e:Za x g k l=l:=e;have lg:x.lead l≠g:=λz=>by rw[L l X,Gk z]at e;rw[<-e,kk]at z;exact s z.symm
  have ll:x.lead l=l:=by rw[L l X,Gg lg]at e;exact e
  show(if l=k then x.mem k++x.mem g else x.mem l).Nodup;by_cases E:l=k
  ·rw[Gk E,List.nodup_append];refine⟨I.Qjp k kS kk,I.Qjp g gS gg,λu F v K z=>?_⟩;subst z;have h1:=((I.Qbh k kS kk u).mp F).2;have h2:=((I.Qbh g gS gg u).mp K).2;exact s (h2.symm.trans h1)
  ·rw[Gg E];exact I.Qjp l X ll
 ·have d:p∈(if l=k then x.Xk k++x.Xk g else x.Xk l):=d;by_cases E:l=k
  ·rw[Gk E]at d;rcases List.mem_append.mp d with h|h
   ·exact I.Qis k kS p h
   ·exact I.Qis g gS p h
  ·rw[Gg E]at d;exact I.Qis l X p d
 ·show p∈(if Za x g k q=k then x.Xk k++x.Xk g else x.Xk (Za x g k q));have o:=I.Qva p d q j;have qS:=I.pt_ p d q j;by_cases h:x.lead q=g
  ·rw[L q qS,Gk h,Gk rfl];rw[h]at o;exact List.mem_append_right _ o
  ·rw[L q qS,Gg h];by_cases E:x.lead q=k
   ·rw[Gk E];rw[E]at o;exact List.mem_append_left _ o
   ·rw[Gg E];exact o
 ·
  show∃u,(scan (ρ:=ρ) (Zn wd pt (Za x g k)) (x.Xk g) x.tab []).1 (Zn wd pt (Za x g k) p)=Ga u/\Cj x.S (Za x g k) (pend++(scan (Zn wd pt (Za x g k)) (x.Xk g) x.tab []).2) u p;by_cases h:∃q∈pt p,x.lead q=g
  ·obtain⟨q,j,e⟩:=h;have F:=I.Qva p d q j;rw[e]at F;obtain⟨v,h1,h2⟩:=Qc3 (ρ:=ρ) (ky:=Zn wd pt (Za x g k)) (t:=x.tab) (f:=[]) F;refine⟨v,h1,?_⟩;rcases h2 with rfl|h2
   ·exact .lead d d rfl
   ·exact .symm (.wait (r:=Gf) (List.mem_append_right _ h2))
  ·obtain⟨u,h1,h2⟩:=I.Qpn p d;have ek:Zn wd pt (Za x g k) p=Zn wd pt x.lead p:=by unfold Zn;refine SJ rfl (List.map_congr_left λq j=>?_);rw[L q (I.pt_ p d q j),Gg λz=>h ⟨q,j,z⟩]
   refine⟨u,by rw[ek];exact Uv h1,h2.map (λp d q j e=>.lead d j (Y p d q j e)) λp q C m=>?_⟩;rcases List.mem_append.mp m with m|m
   ·exact .wait (List.mem_append_left _ m)
   ·simp at m;obtain⟨rfl,rfl,rfl⟩:=m;exact .lead aS bS ((C1 _ aS _ bS).mpr (.link (r:=C) (by simp)))
 ·
  rcases List.mem_append.mp h with h|h
  ·obtain⟨h1,h2,V⟩:=I.pnd H U C (List.mem_append_left _ h);exact⟨h1,h2,λe=>⟨(V e).1,Mp H h1 U h2 (V e).2⟩⟩
  ·rcases V4 (show(H,U,C)∈(scan (Zn wd pt (Za x g k)) (x.Xk g) x.tab []).2 from h)with h|⟨h1,h2,V⟩
   ·simp at h
   ·have ad:=I.Qis g gS H h2;obtain⟨k1,k2,k3,k4⟩:=TS _ _ V;refine⟨ad,k1,λ_=>⟨k2.symm,?_⟩⟩;show(pt H).map (Za x g k)=(pt U).map (Za x g k);rw[k4];show _=((pt H).map (Za x g k)).map (Za x g k);rw[List.map_map];exact List.map_congr_left λq j=>(Li q (I.pt_ H ad q j)).symm
 ·
  show∃n,O5 x.Xg a b x.links.length p q=Ga n;unfold O5;by_cases A:(p=a/\q=b)\/(p=b/\q=a)
  ·exact⟨_,Gk A⟩
  ·rw[Gg A];rcases P p q h with h|⟨O,J⟩|h
   ·exact I.fst.Qd1 p q h
   ·exfalso;apply A;rcases Q with⟨h1,h2⟩|⟨h1,h2⟩
    ·exact .inl ⟨O.trans h1,J.trans h2⟩
    ·exact .inr ⟨O.trans h1,J.trans h2⟩
   ·obtain⟨n,A⟩:=I.fst.Qd1 q p h;exact⟨n,I.fst.Qcx A⟩
 ·have h:O5 x.Xg a b x.links.length p q=Ga n:=h;unfold O5 at h;show∃C,(x.links++[(a,b,r)])[n]?=Ga (p,q,C)\/(x.links++[(a,b,r)])[n]?=Ga (q,p,C);by_cases A:(p=a/\q=b)\/(p=b/\q=a)
  ·rw[Gk A]at h;cases h;refine⟨r,?_⟩;rcases A with⟨rfl,rfl⟩|⟨rfl,rfl⟩
   ·left;simp
   ·right;simp
  ·rw[Gg A]at h;obtain⟨C,h|h⟩:=I.fst.Qga p q n h
   ·exact⟨C,.inl (by rw[List.getElem?_append_left (List.getElem?_eq_some_iff.mp h).1];exact h)⟩
   ·exact⟨C,.inr (by rw[List.getElem?_append_left (List.getElem?_eq_some_iff.mp h).1];exact h)⟩
 ·show O5 x.Xg a b x.links.length p q=Ga n/\O5 x.Xg a b x.links.length q p=Ga n;rcases gl h with⟨A,h'⟩|⟨A,h⟩
  ·have no:¬((p=a/\q=b)\/(p=b/\q=a)):=by
    rintro(⟨rfl,rfl⟩|⟨rfl,rfl⟩)
    ·exact nC (.link (List.mem_of_getElem? h'))
    ·exact nC (.symm (.link (List.mem_of_getElem? h')))
   have af:¬((q=a/\p=b)\/(q=b/\p=a)):=λz=>no (z.elim (λ⟨y1,y2⟩=>.inr ⟨y2,y1⟩) λ⟨y1,y2⟩=>.inl ⟨y2,y1⟩);unfold O5;rw[Gg no,Gg af];exact I.fst.all n p q C h'
  ·simp only[T1]at h;obtain⟨rfl,rfl,rfl⟩:=h;subst A;unfold O5;exact⟨Gk (.inl ⟨Xb,Xb⟩),Gk (.inr ⟨Xb,Xb⟩)⟩
 ·show¬Cn ((x.links++[(a,b,r)]).take n) p q;rcases gl h with⟨A,h⟩|⟨A,h⟩
  ·rw[tk (by omega)];exact I.fst.sep n p q C h
  ·simp only[T1]at h;obtain⟨rfl,rfl,rfl⟩:=h;rw[tk (by omega),A,List.take_length];exact nC
 ·obtain⟨lp,w⟩:=I.fst.chain p d;obtain⟨l,h1,_⟩:=R p d lp w;exact⟨l,h1⟩
 ·rcases P p q h with h|⟨O,J⟩|h
  ·exact I.fst.inS p q h
  ·rw[O,J];exact⟨M,G⟩
  ·exact(I.fst.inS q p h).symm
 ·show H∈x.S/\U∈x.S/\(C=Gf->wd H=wd U/\Two (Cn ((x.links++[(a,b,r)]).take n)) (pt H) (pt U));rcases gl h with⟨A,h⟩|⟨A,h⟩
  ·rw[tk (by omega)];exact I.lnk n H U C h
  ·simp only[T1]at h;obtain⟨rfl,rfl,rfl⟩:=h;rw[tk (by omega),A,List.take_length];refine⟨aS,bS,λe=>⟨(N e).1,?_⟩⟩;have t:=Qbw.mp (N e).2;exact⟨t.1,λi u v F K=>(I.conn u (I.pt_ _ aS u (List.mem_of_getElem? F)) v (I.pt_ _ bS v (List.mem_of_getElem? K))).mp (t.2 i u v F K)⟩
 ·show Za x g k p=Za x g k q↔Zx l=Zx m;obtain⟨lp,w⟩:=I.fst.chain p d;obtain⟨lq,aa⟩:=I.fst.chain q j;obtain⟨l',p1,p2,p3⟩:=R p d lp w;obtain⟨m',q1,q2,q3⟩:=R q j lq aa;have el:=Ch.uniq (show Ch (Xr x.up hi cl) p l from h1) p1;have em:=Ch.uniq (show Ch (Xr x.up hi cl) q m from h2) q1;subst el em;have rp:=I.root p hi lp lh d G w D;have rq:=I.root q hi lq lh j G aa D;rw[hK]at rp rq;rw[L p d,L q j];by_cases o:x.lead p=g<;>by_cases B:x.lead q=g
  ·rw[Gk o,Gk B,p2 o,q2 B];exact⟨λ_=>rfl,λ_=>rfl⟩
  ·rw[Gk o,Gg B,p2 o,q3 B];exact⟨λe=>(rq.mp e.symm).symm,λe=>(rq.mpr e.symm).symm⟩
  ·rw[Gg o,Gk B,p3 o,q2 B];exact rp
  ·rw[Gg o,Gg B,p3 o,q3 B];exact I.root p q lp lq d j w aa
end
variable{W ρ:Type}[DecidableEq W]
section
variable{wd:Nat->W}{pt:Nat->List Nat}{x:Nst W ρ}{pend pend':List (Nat×Nat×Option ρ)}
theorem X9.Qk3(I:X9 wd pt x pend)(h1:∀p q r,(p,q,r)∈pend->Cj x.S x.lead pend' p q)(h2:∀a b r,(a,b,r)∈pend'->a∈x.S/\b∈x.S/\(r=Gf->wd a=wd b/\(pt a).map x.lead=(pt b).map x.lead)):X9 wd pt x pend':=
 ⟨I.nd,I.pt_,I.ld,I.idem,I.Qbh,I.Qjp,I.Qis,I.Qva,I.tabS,λp d=>by obtain⟨u,e,c⟩:=I.Qpn p d;exact⟨u,e,c.map (λp d q f e=>.lead d f e) h1⟩,h2,I.fst,I.lnk,I.conn,I.root⟩
theorem X9.drop{r:Option ρ}(I:X9 wd pt x (pend++[(a,b,r)]))(e:x.lead a=x.lead b):X9 wd pt x pend:=by
 obtain⟨aS,bS,_⟩:=I.pnd a b r (by simp);refine I.Qk3 (λp q c m=>?_) λd f c m=>I.pnd d f c (List.mem_append_left _ m);rcases List.mem_append.mp m with m|m
 ·exact .wait m
 ·simp at m;obtain⟨rfl,rfl,rfl⟩:=m;exact .lead aS bS e
theorem X9.cong(I:X9 wd pt x [])(a:p∈x.S)(b:q∈x.S)(e:Zn wd pt x.lead p=Zn wd pt x.lead q):x.lead p=x.lead q:=by obtain⟨u,h1,h2⟩:=I.Qpn p a;obtain⟨v,c,d⟩:=I.Qpn q b;rw[e,c]at h1;cases h1;exact h2.nil.symm.trans d.nil
structure Ec(wd:Nat->W)(pt:Nat->List Nat)(S:List Nat)(E:Nat->Nat->Prop):Prop where
 refl:∀p,E p p
 symm:∀p q,E p q->E q p
 trans:∀p q r,E p q->E q r->E p r
 cong:∀p∈S,∀q∈S,wd p=wd q->Two E (pt p) (pt q)->E p q
def Snd(E:Nat->Nat->Prop)(x:Nst W ρ)(pend:List (Nat×Nat×Option ρ)):Prop:=(∀p∈x.S,∀q∈x.S,x.lead p=x.lead q->E p q)/\∀a b r,(a,b,r)∈pend->E a b
theorem Snd.join{E:Nat->Nat->Prop}{a b:Nat}{r:Option ρ}(H:Snd E x (pend++[(a,b,r)]))(X:Ec wd pt x.S E)(I:X9 wd pt x (pend++[(a,b,r)]))(A:x.lead a≠x.lead b){lo hi:Nat}{cl:List Nat}(c:(lo=a/\hi=b)\/(lo=b/\hi=a))(F:Ch x.up lo cl):
  Snd E (Yo wd pt x a b r lo hi cl).1 (pend++(Yo wd pt x a b r lo hi cl).2):=by
 obtain⟨J,L⟩:=I.join A c F;obtain⟨aS,bS,_⟩:=I.pnd a b r (by simp);have g:E a b:=H.2 a b r (by simp);have B:lo∈x.S:=by rcases c with⟨h,_⟩|⟨h,_⟩<;>rw[h]<;>assumption
 have z:hi∈x.S:=by rcases c with⟨_,h⟩|⟨_,h⟩<;>rw[h]<;>assumption
 have y:E lo hi:=by
  rcases c with⟨h1,h2⟩|⟨h1,h2⟩<;>rw[h1,h2]
  ·exact g
  ·exact X.symm _ _ g
 have C:∀u∈x.S,∀v∈x.S,x.lead u=x.lead lo->x.lead v=x.lead hi->E u v:=λu l v n s w=>X.trans _ _ _ (H.1 u l lo B s) (X.trans _ _ _ y (H.1 hi z v n w.symm));have S1:∀p∈x.S,∀q∈x.S,(Yo wd pt x a b r lo hi cl).1.lead p=(Yo wd pt x a b r lo hi cl).1.lead q->E p q:=λp j q k e=>by
  rw[L p j,L q k]at e;by_cases h1:x.lead p=x.lead lo<;>by_cases h2:x.lead q=x.lead lo
  ·exact H.1 p j q k (h1.trans h2.symm)
  ·rw[Gk h1,Gg h2]at e;exact C p j q k h1 e.symm
  ·rw[Gg h1,Gk h2]at e;exact X.symm _ _ (C q k p j h2 e)
  ·rw[Gg h1,Gg h2]at e;exact H.1 p j q k e
 refine⟨S1,λd f o m=>?_⟩;rcases List.mem_append.mp m with h|h
 ·exact H.2 d f o (List.mem_append_left _ h)
 ·obtain⟨h1,h2,D⟩:=J.pnd d f o m;have rn:o=Gf:=by
   rcases V4 (show(d,f,o)∈(scan _ _ _ []).2 from h)with h|⟨h1,_⟩
   ·simp at h
   ·exact h1
  obtain⟨s,w⟩:=D rn;have t:=Qbw.mp w;exact X.cong d h1 f h2 s ⟨t.1,λi u v l n=>S1 u (I.pt_ d h1 u (List.mem_of_getElem? l)) v (I.pt_ f h2 v (List.mem_of_getElem? n)) (t.2 i u v l n)⟩
theorem Qkf{r:Option ρ}{d e:Nat}{c:Option ρ}(h:(d,e,c)∈(Yo wd pt x a b r lo hi cl).2):c=Gf:=by
 rcases V4 (show(d,e,c)∈(scan _ _ _ []).2 from h)with h|⟨h1,_⟩
 ·simp at h
 ·exact h1
def cls(x:Nst W ρ):Nat:=x.S.countP λp=>decide (x.lead p=p)
def Vr(x:Nst W ρ):Nat:=(x.S.map λp=>if x.lead p=p then(x.Xk p).length else 0).sum
theorem Qdr{α:Type}{p q:α->Bool}:∀{l:List α},(∀x∈l,p x=Ge->q x=Ge)->l.countP p<=l.countP q
 |[],_=>by simp
 |x::r,h=>by
  have b:=Qdr (l:=r) (λy a=>h y (List.mem_cons_of_mem _ a));have h1:=h x List.mem_cons_self;rw[List.countP_cons,List.countP_cons];cases e:p x with
  |true=>rw[h1 e];simp;exact b
  |false=>simp;omega
theorem Qc7{α:Type}{p q:α->Bool}:∀{l:List α},(∀x∈l,p x=Ge->q x=Ge)->(∃x∈l,q x=Ge/\p x=Gp)->l.countP p<l.countP q
 |[],_,h=>by obtain⟨x,c,_⟩:=h;simp at c
 |x::r,h,⟨y,a,h1,h2⟩=>by
  rw[List.countP_cons,List.countP_cons];rcases List.mem_cons.mp a with rfl|a
  ·have:=Qdr (l:=r) (λy a=>h y (List.mem_cons_of_mem _ a));rw[h1,h2];simp;omega
  ·have d:=Qc7 (l:=r) (λy a=>h y (List.mem_cons_of_mem _ a)) ⟨y,a,h1,h2⟩;have b:=h x List.mem_cons_self;cases e:p x with
   |true=>rw[b e];simp;exact d
   |false=>simp;omega
theorem Qqw{f a:Nat->Nat}:∀{S:List Nat},(∀p∈S,f p=a p)->(S.map f).sum=(S.map a).sum:=λh=>by rw[List.map_congr_left h]
theorem Qma{f b:Nat->Nat}{g k:Nat}(d:g≠k):∀{S:List Nat},S.Nodup->g∈S->k∈S->b g+b k=f g+f k->(∀p∈S,p≠g->p≠k->b p=f p)->(S.map b).sum=(S.map f).sum
 |[],_,h,_,_,_=>by simp at h
 |x::r,nd,q,t,e,h=>by
  rw[List.nodup_cons]at nd;have one:∀{u v:Nat}{S:List Nat},S.Nodup->v∈S->u∉S->(∀p∈S,p≠u->p≠v->b p=f p)->(S.map b).sum+f v=(S.map f).sum+b v:=by
   intro u v S;induction S with
   |nil=>intro _ h;simp at h
   |cons z s w=>
    intro nd n m o;rw[List.nodup_cons]at nd;simp only[List.mem_cons,not_or]at m;simp only[List.map_cons,List.sum_cons];rcases List.mem_cons.mp n with rfl|n
    ·have:(s.map b).sum=(s.map f).sum:=Qqw λp a=>o p (List.mem_cons_of_mem _ a) (λz=>m.2 (z▸a)) (λz=>nd.1 (z▸a));omega
    ·have:=w nd.2 n m.2 λp a=>o p (List.mem_cons_of_mem _ a);have hz:=o z List.mem_cons_self (Gm m.1) (λy=>nd.1 (y▸n));omega
  simp only[List.map_cons,List.sum_cons];by_cases j:x=g
  ·subst j;have i:k∈r:=(List.mem_cons.mp t).resolve_left (Gm d);have:=one (u:=x) nd.2 i nd.1 λp a h1 h2=>h p (List.mem_cons_of_mem _ a) h1 h2;omega
  ·by_cases l:x=k
   ·subst l;have c:g∈r:=(List.mem_cons.mp q).resolve_left d;have:=one (u:=x) nd.2 c nd.1 λp a h1 h2=>h p (List.mem_cons_of_mem _ a) h2 h1;omega
   ·have c:g∈r:=(List.mem_cons.mp q).resolve_left (Gm j);have i:k∈r:=(List.mem_cons.mp t).resolve_left (Gm l);have:=Qma d nd.2 c i e λp a=>h p (List.mem_cons_of_mem _ a);have:=h x List.mem_cons_self j l;omega
theorem Jg{f:Nat->Nat}:∀{S:List Nat}{p:Nat},p∈S->f p<=(S.map f).sum
 |x::r,p,h=>by
  simp only[List.map_cons,List.sum_cons];rcases List.mem_cons.mp h with rfl|h
  ·omega
  ·have:=Jg (f:=f) h;omega
theorem X9.less{r:Option ρ}(I:X9 wd pt x (pend++[(a,b,r)]))(i:x.lead a≠x.lead b)(d:(lo=a/\hi=b)\/(lo=b/\hi=a))(y:Ch x.up lo cl):
  cls (Yo wd pt x a b r lo hi cl).1<cls x/\Vr (Yo wd pt x a b r lo hi cl).1=Vr x/\(Yo wd pt x a b r lo hi cl).2.length<=Vr x/\(Yo wd pt x a b r lo hi cl).1.links.length=x.links.length+1:=by
 obtain⟨J,L⟩:=I.join i d y;obtain⟨aS,bS,_⟩:=I.pnd a b r (by simp);have n:lo∈x.S:=by rcases d with⟨h,_⟩|⟨h,_⟩<;>rw[h]<;>assumption
 have m:hi∈x.S:=by rcases d with⟨_,h⟩|⟨_,h⟩<;>rw[h]<;>assumption
 have c:x.lead lo≠x.lead hi:=by
  rcases d with⟨h1,h2⟩|⟨h1,h2⟩<;>rw[h1,h2]
  ·exact i
  ·exact Gm i
 have k:=I.ld lo n;have q:=I.idem lo n;have u:=I.ld hi m;have s:=I.idem hi m;have g:∀p∈x.S,(Yo wd pt x a b r lo hi cl).1.lead p=p->x.lead p=p/\p≠x.lead lo:=λp j e=>by
  rw[L p j]at e;by_cases h:x.lead p=x.lead lo
  ·rw[Gk h]at e;rw[<-e,s]at h;exact absurd h.symm c
  ·rw[Gg h]at e;exact⟨e,λz=>h (by rw[e];exact z)⟩
 refine⟨Qc7 (λp j e=>Gr (g p j (Tq e)).1) ⟨x.lead lo,k,Gr q,Gq λz=>(g _ k z).2 Xb⟩,?_,?_,by simp[Yo,V6]⟩
 ·refine Qma c I.nd k u ?_ λp j h1 h2=>?_
  ·have v:¬(Yo wd pt x a b r lo hi cl).1.lead (x.lead lo)=x.lead lo:=λz=>(g _ k z).2 rfl;have w:(Yo wd pt x a b r lo hi cl).1.lead (x.lead hi)=x.lead hi:=by rw[L _ u,s,Gg (Gm c)]
   rw[Gg v,Gk w,Gk q,Gk s];have:(Yo wd pt x a b r lo hi cl).1.Xk (x.lead hi)=x.Xk (x.lead hi)++x.Xk (x.lead lo):=by simp[Yo,V6]
   rw[this,List.length_append];omega
  ·have:(Yo wd pt x a b r lo hi cl).1.Xk p=x.Xk p:=by simp[Yo,V6,h2]
   rw[this];by_cases e:x.lead p=p
   ·have o:(Yo wd pt x a b r lo hi cl).1.lead p=p:=by rw[L p j,Gg (by rw[e];exact h1),e]
    rw[Gk e,Gk o]
   ·have o:¬(Yo wd pt x a b r lo hi cl).1.lead p=p:=λz=>e (g p j z).1;rw[Gg e,Gg o]
 ·have h1:=scan_len (ρ:=ρ) (ky:=Zn wd pt (Za {x with links:=x.links++[(a,b,r)],Xg:=O5 x.Xg a b x.links.length,up:=Xr x.up hi cl} (x.lead lo) (x.lead hi))) (l:=x.Xk (x.lead lo)) (t:=x.tab) (f:=[]);have h2:=Jg (f:=λp=>if x.lead p=p then(x.Xk p).length else 0) k;simp only[q,Gk]at h2;refine TD h1 (by simpa[Vr]using h2)
end
variable{W ρ:Type}[DecidableEq W]
def Y0(pt:Nat->List Nat)(S:List Nat)(q:Nat):List Nat:=S.flatMap λp=>List.replicate ((pt p).count q) p
def Qa0(wd:Nat->W)(pt:Nat->List Nat)(S:List Nat)(k:W×List Nat):Option Nat:=S.find? λp=>decide (Zn wd pt id p=k)
def fresh(wd:Nat->W)(pt:Nat->List Nat)(S:List Nat):Nst W ρ:=⟨S,id,λp=>[p],Y0 pt S,Qa0 wd pt S,[],λ_ _=>Gf,λ_=>Gf⟩
theorem Qwe{α:Type}(c:Cn (α:=α) [] p q):p=q:=by
 induction c with
 |refl _=>rfl
 |symm _ a=>exact a.symm
 |trans _ _ i1 i2=>exact i1.trans i2
 |link m=>simp at m
theorem Qoe{wd:Nat->W}{pt:Nat->List Nat}(nd:S.Nodup)(cl:∀p∈S,∀q∈pt p,q∈S)(inj:∀p∈S,∀q∈S,wd p=wd q->pt p=pt q->p=q):X9 (ρ:=ρ) wd pt (fresh wd pt S) [] where
 nd:=nd
 pt_:=cl
 ld:=λp h=>h
 idem:=λ_ _=>rfl
 Qbh:=λl g _ p=>by show p∈[l]↔p∈S/\p=l;simp only[List.mem_singleton];exact⟨λe=>⟨e▸g,e⟩,λe=>e.2⟩
 Qjp:=λl _ _=>by simp[fresh]
 Qis:=λl _ p a=>by obtain⟨u,i,h⟩:=List.mem_flatMap.mp a;rw[List.mem_replicate]at h;rw[h.2];exact i
 Qva:=λp a q b=>List.mem_flatMap.mpr ⟨p,a,List.mem_replicate.mpr ⟨by have:=List.count_pos_iff.mpr b;show(pt p).count q≠0;omega,Xb⟩⟩
 tabS:=λk u h=>by
  have h:S.find? (λp=>decide (Zn wd pt id p=k))=Ga u:=h;have h1:=List.mem_of_find?_eq_some h;have h2:Zn wd pt id u=k:=Tq (by simpa using List.find?_some h);subst h2;refine⟨h1,Xb,λq b=>?_,?_⟩
  ·simp only[Zn,List.map_id]at b;exact cl u h1 q b
  ·simp[Zn,fresh]
 Qpn:=λp a=>by
  show∃u,S.find? (λq=>decide (Zn wd pt id q=Zn wd pt id p))=Ga u/\_;cases e:S.find? (λq=>decide (Zn wd pt id q=Zn wd pt id p))with
  |none=>have:=List.find?_eq_none.mp e p a;simp at this
  |some u=>have h1:=List.mem_of_find?_eq_some e;have h2:Zn wd pt id u=Zn wd pt id p:=Tq (by simpa using List.find?_some e);simp only[Zn,List.map_id,T1]at h2;exact⟨u,Xb,.lead h1 a (inj u h1 p a h2.1 h2.2)⟩
 pnd:=λ_ _ _ h=>by simp at h
 fst:=⟨λ_ _ h=>by simp[fresh]at h,λ_ _ _ h=>by simp[fresh]at h,λ_ _ _ _ h=>by simp[fresh]at h,λ_ _ _ _ h=>by simp[fresh]at h,λp _=>⟨[p],.top Xb⟩,λ_ _ h=>by simp[fresh]at h⟩
 lnk:=λ_ _ _ _ h=>by simp[fresh]at h
 conn:=λp _ q _=>⟨λ(e:p=q)=>by subst e;exact .refl _,λc=>Qwe c⟩
 root:=λp q l m _ _ h1 h2=>by have d:l=[p]:=h1.uniq (.top Xb);have f:m=[q]:=h2.uniq (.top Xb);subst d f;simp[Zx,fresh]
theorem Qr6(pt:Nat->List Nat)(S:List Nat)(p q:Nat):Y0 pt (S++[p]) q=Y0 pt S q++List.replicate ((pt p).count q) p:=by simp[Y0]
theorem Qr0(wd:Nat->W)(pt:Nat->List Nat)(new:∀q∈S,Zn wd pt id q≠Zn wd pt id p)(k:W×List Nat):Qa0 wd pt (S++[p]) k=if k=Zn wd pt id p then Ga p else Qa0 wd pt S k:=by
 unfold Qa0;rw[List.find?_append];by_cases h:k=Zn wd pt id p
 ·rw[Gk h];have:S.find? (λp=>decide (Zn wd pt id p=k))=Gf:=List.find?_eq_none.mpr λq a=>by have:=new q a;simp[h,this]
  rw[this];simp[h]
 ·rw[Gg h];have:[p].find? (λp=>decide (Zn wd pt id p=k))=Gf:=by simp[Gm h]
  rw[this,Option.or_none]
end Nt
namespace Sb
open PySem PySem.Spec PyProof.Rows L2 Nt
variable{p:Nat}{S:List Nat}{f:Nat->V}{b:Gc}
def ki(p:Nat):Xz:=.inl (p:Int)
def dS(S:List Nat)(f:Nat->V):List (Xz×V):=S.map λp=>(ki p,f p)
theorem Jf{q:Nat}(h:ki p=ki q):p=q:=by unfold ki at h;injection h with h;omega
theorem Qzd(p:Nat):kV (ki p)=jv p:=rfl
theorem Qez(h:p∈S):Y9 (dS S f) (ki p)=Ga (f p):=by
 induction S with
 |nil=>simp at h
 |cons q r b=>
  by_cases e:q=p
  ·subst e;exact Xu (p:=(ki q,f q)) rfl
  ·have a:¬(ki q=ki p):=λz=>e (Jf z);show Y9 ((ki q,f q)::dS r f) (ki p)=_;rw[Xn (p:=(ki q,f q)) a];exact b ((List.mem_cons.mp h).resolve_left λz=>e z.symm)
theorem Qkn(h:p∉S):Y9 (dS S f) (ki p)=Gf:=by
 induction S with
 |nil=>exact Qg4
 |cons q r b=>simp only[List.mem_cons,not_or]at h;have a:¬(ki q=ki p):=λz=>h.1 (Jf z).symm;show Y9 ((ki q,f q)::dS r f) (ki p)=_;rw[Xn (p:=(ki q,f q)) a];exact b h.2
theorem Qle:(Y9 (dS S f) (ki p)).isSome=decide (p∈S):=by
 by_cases h:p∈S
 ·rw[Qez h,Gr h];rfl
 ·rw[Qkn h,Gq h];rfl
theorem Va(S:List Nat)(f:Nat->V):(dS S f).length=S.length:=by simp[dS]
theorem Qi3{v:V}(h:p∈S):W8 (dS S f) (ki p) v=dS S (λq=>if q=p then v else f q):=by
 unfold W8;have a:((dS S f).any λb=>decide (b.1=ki p))=Ge:=by rw[U1,Qez h];rfl
 rw[Gk a];unfold dS;rw[List.map_map];refine List.map_congr_left λq _=>?_;show(if ki q=ki p then(ki q,v)else(ki q,f q))=(ki q,if q=p then v else f q);by_cases e:q=p
 ·subst e;rw[Gk Xb,Gk rfl]
 ·rw[Gg (λz=>e (Jf z)),Gg e]
theorem Qal{v:V}(h:p∉S):W8 (dS S f) (ki p) v=dS (S++[p]) (λq=>if q=p then v else f q):=by rw[Qq3 _ (Qkn h)];unfold dS;rw[List.map_append,List.map_cons,List.map_nil];show _=_++[(ki p,if p=p then v else f p)];rw[Gk rfl];congr 1;refine List.map_congr_left λq a=>?_;show _=(ki q,if q=p then v else f q);rw[Gg (λz:q=p=>h (z▸a))]
theorem Wp{g:Nat->V}(h:∀p∈S,f p=g p):dS S f=dS S g:=List.map_congr_left λp a=>by rw[h p a]
inductive U5 where
 |told (n:Nat)
 |asked
def Qog(H:Hp)(v:V):Option U5->Prop
 |none=>v=.non
 |some (.told n)=>∃c,v=.ref c/\H c=Ga (.tup [.str "told",jv n])
 |some .asked=>∃c,v=.ref c/\H c=Ga (.tup [.str "asked"])
theorem Qog.Qr{H H':Hp}(e:Q4 H H'){v:V}:∀{r:Option U5},Qog H v r->Qog H' v r
 |none,h=>h
 |some (.told n),⟨c,h1,h2⟩=>⟨c,h1,e _ _ h2⟩
 |some .asked,⟨c,h1,h2⟩=>⟨c,h1,e _ _ h2⟩
abbrev Lk:=Nat×Nat×Option U5
def Rr(H:Hp)(v:V)(l:Lk):Prop:=∃c r,v=.ref c/\H c=Ga (.tup [jv l.1,jv l.2.1,r])/\Qog H r l.2.2
theorem Rr.Qr{H H':Hp}(e:Q4 H H'){v:V}{l:Lk}(h:Rr H v l):Rr H' v l:=by obtain⟨c,r,h1,h2,a⟩:=h;exact⟨c,r,h1,e _ _ h2,a.Qr e⟩
abbrev Nn:=Nst GJ U5
def Yh(fs:List Fm)(p:Nat):GJ:=(fs.getD p (DU,[])).1
def Zp(fs:List Fm)(p:Nat):List Nat:=(fs.getD p (DU,[])).2
theorem Qe4{fs:List Fm}(h:p<fs.length):fs[p]?=Ga (Yh fs p,Zp fs p):=by unfold Yh Zp;rw[List.getD_eq_getElem?_getD,List.getElem?_eq_getElem h];rfl
structure Na where
 f:Gc
 l:Gc
 m:Gc
 u:Gc
 t:Gc
 k:Gc
 a:Gc
 v:Gc
 ml:Nat->Gc
 ul:Nat->Gc
def Xe(A:Na):List (GJ×V):=[("forms",.ref A.f),("leads",.ref A.l),("members",.ref A.m),("users",.ref A.u),("table",.ref A.t),("links",.ref A.k),("link_at",.ref A.a),("above",.ref A.v)]
def ov:Option Nat->V
 |none=>.non
 |some p=>jv p
structure Ap(A:Na)(S:List Nat):Prop where
 lm:A.l≠A.m
 lu:A.l≠A.u
 lv:A.l≠A.v
 mu:A.m≠A.u
 mv:A.m≠A.v
 uv:A.u≠A.v
 kf:A.k≠A.f
 mm:∀p∈S,∀q∈S,A.ml p=A.ml q->p=q
 uu:∀p∈S,∀q∈S,A.ul p=A.ul q->p=q
 mul:∀p∈S,∀q∈S,A.ml p≠A.ul q
 mkf:∀p∈S,A.ml p≠A.k/\A.ml p≠A.f
 ukf:∀p∈S,A.ul p≠A.k/\A.ul p≠A.f
structure Z6(P:Gj)(w:Gu)(C:Gc)(H:Hp)(n:Gc)(A:Na)(fs:List Fm)(tb:Nat)(x:Nn):Prop where
 ob:∃dx,H n=Ga (.ins C dx (Xe A))
 fo:∃ws,H A.f=Ga (.lst ws)/\Paired (Rm H) ws fs
 le:H A.l=Ga (.dK (dS x.S λp=>jv (x.lead p)))
 me:H A.m=Ga (.dK (dS x.S λp=>.ref (A.ml p)))
 us:H A.u=Ga (.dK (dS x.S λp=>.ref (A.ul p)))
 ta:∃kvs,DH P w H A.t kvs/\kvs.length<=tb/\∀k:Fm,Yg kvs (Xc k)=(x.tab k).map jv
 li:∃ls,H A.k=Ga (.lst ls)/\Paired (Rr H) ls x.links
 at_:∃kvs,H A.a=Ga (.dT kvs)/\kvs.length<=2*x.links.length/\∀i j:Nat,Y9 kvs [ki i,ki j]=(x.Xg i j).map jv
 ab:H A.v=Ga (.dK (dS x.S λp=>ov (x.up p)))
 ml:∀p∈x.S,H (A.ml p)=Ga (.lst ((x.mem p).map jv))
 ul:∀p∈x.S,H (A.ul p)=Ga (.lst ((x.Xk p).map jv))
 ap:Ap A x.S
def Own(A:Na)(S:List Nat)(b:Gc):Prop:=b=A.l\/b=A.m\/b=A.u\/b=A.t\/b=A.k\/b=A.a\/b=A.v\/∃p∈S,b=A.ml p\/b=A.ul p
structure Rn(A:Na)(S:List Nat)(H H':Hp):Prop where
 keep:∀b o,H b=Ga o->¬Own A S b->H' b=Ga o
 there:∀b,H' b=Gf->H b=Gf
theorem Rn.trans{A:Na}{H H1 H2:Hp}(x:Rn A S H H1)(y:Rn A S H1 H2):Rn A S H H2:=⟨λb o e h=>y.keep b o (x.keep b o e h) h,λb h=>x.there b (y.there b h)⟩
theorem Rn.of{A:Na}{H H':Hp}(g:Q5 H H'):Rn A S H H':=⟨λb o e _=>g b o e,λb h=>g.free h⟩
theorem Rn.upd{A:Na}{S:List Nat}{H:Hp}{b:Gc}{o:HO}(h:Own A S b):Rn A S H (upd H b o):=⟨λc u e a=>by rw[Qg (show c≠b fromλz=>a (by rw[z];exact h))];exact e,λc a=>by
 by_cases e:c=b
 ·subst e;rw[Qb]at a;cases a
 ·rw[Qg e]at a;exact a⟩
section
variable{P:Gj}{w:Gu}{C:Gc}{H H':Hp}{n:Gc}{A:Na}{fs:List Fm}{tb:Nat}{x:Nn}
theorem Z6.own(X:Z6 P w C H n A fs tb x)(h:Own A x.S b):(∃kvs,H b=Ga (.dK kvs))\/(∃kvs,H b=Ga (.dT kvs))\/(∃o,H b=Ga (.ext o))\/∃xs,H b=Ga (.lst xs):=by
 obtain⟨kvs,D,_⟩:=X.ta;obtain⟨ls,L,_⟩:=X.li;obtain⟨c,T,_⟩:=X.at_;rcases h with rfl|rfl|rfl|rfl|rfl|rfl|rfl|⟨p,a,rfl|rfl⟩
 ·exact .inl ⟨_,X.le⟩
 ·exact .inl ⟨_,X.me⟩
 ·exact .inl ⟨_,X.us⟩
 ·exact .inr (.inr (.inl ⟨_,D.at_⟩))
 ·exact .inr (.inr (.inr ⟨_,L⟩))
 ·exact .inr (.inl ⟨_,T⟩)
 ·exact .inl ⟨_,X.ab⟩
 ·exact .inr (.inr (.inr ⟨_,X.ml p a⟩))
 ·exact .inr (.inr (.inr ⟨_,X.ul p a⟩))
theorem Z6.Qji(X:Z6 P w C H n A fs tb x){xs:List V}(h:H b=Ga (.tup xs)):¬Own A x.S b:=λz=>by rcases X.own z with⟨_,e⟩|⟨_,e⟩|⟨_,e⟩|⟨_,e⟩<;>rw[h]at e<;>cases e
theorem Z6.Qw6(X:Z6 P w C H n A fs tb x)(h:H b=Gf):¬Own A x.S b:=λz=>by rcases X.own z with⟨_,e⟩|⟨_,e⟩|⟨_,e⟩|⟨_,e⟩<;>rw[h]at e<;>cases e
theorem Z6.same(g:Q5 H H')(X:Z6 P w C H n A fs tb x):Z6 P w C H' n A fs tb x:=by obtain⟨dx,l⟩:=X.ob;obtain⟨m,i,j⟩:=X.fo;obtain⟨kvs,D,e,f⟩:=X.ta;obtain⟨ls,l1,l2⟩:=X.li;obtain⟨k,c,d⟩:=X.at_;have b:=Q4.of g;exact⟨⟨dx,g _ _ l⟩,⟨m,g _ _ i,L2.Paired.Z7 j λ_ _ h=>h.Qr b⟩,g _ _ X.le,g _ _ X.me,g _ _ X.us,⟨kvs,⟨g _ _ D.at_,Zh b D.keys⟩,e,f⟩,⟨ls,g _ _ l1,L2.Paired.Z7 l2 λ_ _ h=>h.Qr b⟩,⟨k,g _ _ c,d⟩,g _ _ X.ab,λp a=>g _ _ (X.ml p a),λp a=>g _ _ (X.ul p a),X.ap⟩
theorem Z6.keep(X:Z6 P w C H n A fs tb x)(a:∀b o,H b=Ga o->(Own A x.S b\/b=A.f\/b=n)->H' b=Ga o)(d:Q4 H H'):Z6 P w C H' n A fs tb x:=by
 obtain⟨dx,q⟩:=X.ob;obtain⟨r,k,l⟩:=X.fo;obtain⟨kvs,D,i,j⟩:=X.ta;obtain⟨ls,l1,l2⟩:=X.li;obtain⟨m,e,g⟩:=X.at_;refine⟨⟨dx,a _ _ q (.inr (.inr Xb))⟩,⟨r,a _ _ k (.inr (.inl Xb)),L2.Paired.Z7 l λ_ _ h=>h.Qr d⟩,a _ _ X.le (.inl (.inl Xb)),a _ _ X.me (.inl (.inr (.inl Xb))),a _ _ X.us (.inl (.inr (.inr (.inl Xb)))),⟨kvs,⟨a _ _ D.at_ (.inl (.inr (.inr (.inr (.inl Xb))))),Zh d D.keys⟩,i,j⟩,
  ⟨ls,a _ _ l1 (.inl (.inr (.inr (.inr (.inr (.inl Xb)))))),L2.Paired.Z7 l2 λ_ _ h=>h.Qr d⟩,⟨m,a _ _ e (.inl (.inr (.inr (.inr (.inr (.inr (.inl Xb))))))),g⟩,a _ _ X.ab (.inl (.inr (.inr (.inr (.inr (.inr (.inr (.inl Xb)))))))),λp c=>?_,λp c=>?_,X.ap⟩
 ·exact a _ _ (X.ml p c) (.inl (.inr (.inr (.inr (.inr (.inr (.inr (.inr ⟨p,c,.inl Xb⟩))))))))
 ·exact a _ _ (X.ul p c) (.inl (.inr (.inr (.inr (.inr (.inr (.inr (.inr ⟨p,c,.inr Xb⟩))))))))
theorem Z6.mono{a:Nat}(h:tb<=a)(X:Z6 P w C H n A fs tb x):Z6 P w C H n A fs a x:=by obtain⟨kvs,D,c,b⟩:=X.ta;exact⟨X.ob,X.fo,X.le,X.me,X.us,⟨kvs,D,by omega,b⟩,X.li,X.at_,X.ab,X.ml,X.ul,X.ap⟩
end
end Sb
namespace L2
open PySem PySem.Spec PyProof.Rows
variable{X:Cx}{σ:St}{H:Hp}
def Qq7(P:Gj)(w:Gu):V->List V->Hp->VK->Prop:=λx vs H Q=>∃d b a kvs k,x=.ref d/\vs=[.ref b,a]/\DH P w H d kvs/\Og H b k/\kvs.length<Gh/\
 (∀v,Yg kvs k=Ga v->Q v H)/\(Yg kvs k=Gf->Q a (upd H d (Vn P w d (kvs++[(k,b,a)]))))
theorem Qkj(M:X.A.units+64<Dg):MtR X "dict.setdefault" (Qq7 X.prog X.w):=by
 intro pins s σ H x vs v us Q I K rv h;obtain⟨d,b,f,kvs,k,rfl,rfl,D,r,hz,E,G⟩:=h;cases(show v=Value.ref d from K);obtain⟨L,l,rfl,J,j⟩:=vals2 rv;cases(show L=Value.ref b from J);obtain⟨z,hd,xs,rel,g⟩:=Qfd I D.at_ D.keys;have C:kvs.length=xs.length:=Paired.length rel;refine E4 F.slot_dict_setdefault g.typeIs F.entry_dict_setdefault (F.args_dict_setdefault_3 _ _ _) (Wi (Vc X.prog X.w) d b hd l) ⟨by first|(show X.A.units+1+10<Dg;omega)|(show X.A.units+1+1+10<Dg;omega),k,xs,r.is I,g,by omega,λp u=>?_,λt h' e B=>?_⟩
 ·have a:=rel.val k;rw[u]at a;cases q:Yg kvs k with
  |none=>rw[q]at a;exact(show False from a).elim
  |some y=>rw[q]at a;exact⟨y,H,I.tok _,a,E y q⟩
 ·have a:=rel.val k;rw[t]at a;cases q:Yg kvs k with
  |some y=>rw[q]at a;exact(show False from a).elim
  |none=>obtain⟨ob,es,ep,i,h2,m,n,_,o⟩:=e;have c:KX (kvs++[(k,b,f)]) (xs++[(k,b,l)]):=Paired.snoc rel ⟨Xb,Xb,j⟩;refine⟨f,_,Io (ob:=Vn X.prog X.w d (kvs++[(k,b,f)])) I (by rw[D.at_];exact TW) B ⟨ob,i⟩ (Qkh ⟨by rw[List.length_append,List.length_singleton];omega,hd,_,c,ob,es,ep,i,h2,m,n,o⟩),j,G q⟩
section
variable{X:Cx}{o e:TJ}{es:List TJ}{to:TE}{t:TA}{name:GJ}{apos cpos:E6}{id:String}{r:V->List V->Hp->VK->Prop}
theorem Qg2{pins:List (Gc×DJ)}{s:Gi}{d:Gc}{kvs:List KE}(I:Inv X pins σ H s)(e:H d=Ga (Vn X.prog X.w d kvs)):
  s.TypeIs (.ref d) "dict"/\∀a,Value.ref d=.ref a->∃ob,s.heap.get? a=Ga ob/\ob.dict=Gf:=by
 obtain⟨z,y,xs,r,o,es,ep,h1,h2,b,c,f⟩:=Qad I e;exact⟨⟨o,h1,h2.1⟩,λa e=>by cases e;exact⟨o,h1,h2.2.1⟩⟩
def Qy1(P:Gj)(w:Gu)(r:V->List V->Hp->VK->Prop)(to:TE)(t:TA):TE:=λσ H Q=>to σ H λx H1=>(∃d kvs,x=.ref d/\H1 d=Ga (Vn P w d kvs))/\t σ H1 λxs H2=>r x xs H2 Q
theorem Qjk(slot:Slot "dict" name id)(g:typeOf (.builtin id)=pure (.type "method_descriptor"))(n:MtR X id r)(p:PE X o to)(m:PA X (e::es) t)
  (b:attributeBase o name X.env (eval o X.env)=eval o X.env:=by rfl)
  (f:((Ds cpos (GY (e::es) X.env)).all (λx=>!x.1)&&(backToKw cpos (keywordEach [] X.env)).all (λx=>x.1.isSome)
   &&decide ((e::es).length+([]:List SK).length+(if([]:List SK).isEmpty then 0 else 1)<30))=Ge:=by rfl)
  (c:(apos.endLine==cpos.line)=Ge:=by rfl)(q:GY (e::es) X.env=(Gp,eval e X.env)::GY es X.env:=by rfl)(a:(Ds cpos (GY es X.env)).any (·.1)=Gp:=by rfl):
  PE X (.Call (.Attribute o name apos) (e::es) [] cpos) (Qy1 X.prog X.w r to t):=by
 intro pins s σ H Q I h;refine E2 b f c rfl (Yz (p pins s σ H _ I h) λv s1⟨x,H1,i,z,ty,u⟩=>?_);obtain⟨d,kvs,rfl,l⟩:=ty;cases(show v=Value.ref d from z);obtain⟨h1,h2⟩:=Qg2 i l;refine⟨"dict",id,PySem.F.plainAttrs_dict,slot,g,h1,h2,?_⟩;have j:=m cpos pins s1 σ H1 _ i u;rw[q]at j⊢;refine DL (by show(Gp||(Ds cpos (GY es X.env)).any (·.1))=Gp;rw[a]<;>rfl) (Se ?_);exact Yz j λus s2⟨vs,H2,k,A,y⟩=>n pins s2 σ H2 (.ref d) vs _ us Q k rfl A y
end
theorem Qdq{c:TT}{tb:TS}{D:Ends}(Pv:Nat->St->Hp->Prop)(f:∃m,Pv m σ H)
  (g:∀m σ H,Pv m σ H->c σ H λb H1=>if b=Ge then tb {D with nx:=λa H'=>∃d,d<m/\Pv d a H',ct:=λa H'=>∃d,d<m/\Pv d a H',bk:=D.nx} σ H1 else D.nx σ H1)
  (mono:∀σ H Q e,(∀b H1,Q b H1->e b H1)->c σ H Q->c σ H e):Qsa c tb D σ H:=by
 refine⟨Pv,f,λm σ H p=>mono σ H _ _ (λb H1 q=>?_) (g m σ H p)⟩;cases b with
 |true=>exact⟨_,λa H' h=>h,q⟩
 |false=>exact q
theorem Inv.turns{pins:List (Gc×DJ)}{σ:List (Option V)}{s:Gi}{h':Heap}{t':Nat}{fp:List Gc}(I:Inv X pins σ H s)(k:∀b o,b∉fp->s.heap.get? b=Ga o->h'.get? b=Ga o)(f:∀b∈fp,Qap X pins H b):
  Inv X pins σ H {s with heap:=h',toks:=t'}:=by
 have d:∀b u,H b=Ga u->b∉fp:=λb u e z=>by rw[(f b z).1]at e;cases e
 refine I.step (g':=s.gens) (d':=s.drawn) (ch:=fp) (λb hb=>?_) (λb o _ _ a e _=>k b o a e) (λb o _ _ a e _=>⟨o.slots,k b o a e⟩) (λ_ _ _ _ n=>n)
  (λb o a e=>⟨o,k b o a e⟩) (λ_ _ e=>e) (λ_ _ _ e=>e) (λb ps e=>⟨#[],by rw[e];simp⟩) (λm l=>?_) (λb u e=>?_) I.bare
 ·obtain⟨t,g,w,h,i,j⟩:=f b hb;exact⟨h,g,i,j⟩
 ·obtain⟨o,es,ep,p,r⟩:=l;exact⟨o,es,ep,k _ o (λz=>(f _ z).2.1 Xb) p,r⟩
 ·refine(I.Z4 b u e).Qir (λc v a q=>k c v ?_ q) (λ_ q=>q) λ_ _ q=>q;rcases a with z|z
  ·rw[z];exact d b u e
  ·exact d c _ z
def ItE(K:PySem.W.Frag)(a:Gc):It:=
 ⟨λi H=>∃xs x,Zc K H a xs/\xs[i]?=Ga x,λi H v H'=>∃c x,v=.ref c/\H c=Gf/\(∀xs,Zc K H a xs->xs[i]?=Ga x)/\H'=upd H c (.tup [.int (i:Int),x]),λi H=>∃xs,Zc K H a xs/\xs.length<=i⟩
theorem Qn7{P:Gj}{w:Gu}{K:PySem.W.Frag}{l:List TJ}{k:Nat}{pos:E6}(a e it:Gc)(r:e≠it):Qfs P w K (.Tuple l k pos) (ItE K a) [e,it] e (λi h=>(∃c,IsEnum h e it i c)/\h.IsListIter it a i) where
 mem:=by simp
 obj:=λi h st b hb=>by
  obtain⟨⟨c,f⟩,o,S,M,hd⟩:=st;rcases List.mem_cons.mp hb with rfl|hb
  ·exact⟨_,f,λv z=>nomatch z⟩
  ·have:b=it:=by simpa using hb
   subst this;exact⟨o,S,λv z=>by rw[hd]at z;cases z⟩
 keep:=λi h h' st k=>by obtain⟨⟨c,f⟩,d⟩:=st;exact⟨⟨c,k e (by simp) _ f⟩,d.at λo x=>k it (by simp) o x⟩
 item:=by
  intro X J hw G M i pins s σ H E I B st O;subst J hw G;obtain⟨⟨c,f⟩,d⟩:=st;obtain⟨xs,x,C,D⟩:=O;obtain⟨its,rv,p,hz⟩:=I.list C;obtain⟨u,hu,ru⟩:=rv.get D;refine wpAny_pyNext_enum_item f d p.isList (x:=u) (by simpa using hu) r λh' S A U hsz hk=>⟨_,Xb,?_⟩;refine wpAny_letOwnedTupleGo_enum S λm N j=>?_;have g:e<s.heap.objs.size:=Heap.lt_size f;have t:it<s.heap.objs.size:=by obtain⟨_,x,_⟩:=d;exact Heap.lt_size x
  have V:m.get? s.heap.objs.size=Ga {cls:=.type "tuple",data:=.seq #[.int i s.toks,u]}:=(j.2 _ (Tn g)).trans U;have R:H s.heap.objs.size=Gf:=I.Z4.fresh (Gn _);have Y:Inv X pins σ (upd H s.heap.objs.size (.tup [.int (i:Int),x])) {s with heap:=s.heap.push {cls:=.type "tuple",data:=.seq #[.int i s.toks,u]},toks:=s.toks}:=
   I.laid (a:=s.heap.objs.size) (o:=.tup [.int (i:Int),x]) (t':=s.toks) (λ_ _ q=>Heap.get?_push_of_some _ q) (Gn _) ⟨by show 2<=Gh;decide,[.int i s.toks,u],.cons ⟨_,Xb⟩ (.cons ru .nil),_,Heap.get?_push_size _ Xb,Xb,_,Xb⟩
  have T:∀b∈[e,it],Qap X pins (upd H s.heap.objs.size (.tup [.int (i:Int),x])) b:=λb hb=>by
   have Q:b<s.heap.objs.size:=by
    rcases List.mem_cons.mp hb with rfl|hb
    ·exact g
    ·have:b=it:=by simpa using hb
     subst this;exact t
   refine⟨?_,(B b hb).2⟩;rw[Qg (GV Q)];exact(B b hb).1
  have Z:=Y.turns (h':=m) (t':=s.toks+1) (fp:=[e,it]) (λb o hb F=>?_) T
  ·refine⟨.ref s.heap.objs.size,_,Z,Xb,⟨_,x,Xb,R,λys hy=>by rw[I.Qc6 hy C];exact D,Xb⟩,⟨⟨u,by simpa using N⟩,A.at λo y=>(j.2 it r.symm).trans y⟩,λb hb=>(T b hb).1⟩
  ·have n:b≠e:=λz=>hb (by simp[z]);have L:b≠it:=λz=>hb (by simp[z]);refine(j.2 b n).trans ?_;rcases Heap.get?_push_cases (show(s.heap.push {cls:=.type "tuple",data:=.seq #[.int i s.toks,u]}).get? b=Ga o from F)with⟨rfl,rfl⟩|e0
   ·exact U
   ·exact hk b o n L e0
 done:=by intro X J hw G M i pins s σ H E I B st O;subst J hw G;obtain⟨⟨c,f⟩,d⟩:=st;obtain⟨xs,C,hn⟩:=O;obtain⟨its,rv,p,hz⟩:=I.list C;have hl:=rv.length;refine wpAny_pyNext_enum_end (I.ok.hd M) f d p.isList (T3 (by rw[List.size_toArray];omega)) λh' D=>⟨Xb,?_⟩;exact I.turns (t':=s.toks) (fp:=[e,it]) (λb o hb F=>D b o (λz=>hb (by simp[z])) F) B
 self:=λ_ _ _ _ _ st h=>by obtain⟨⟨c,f⟩,_⟩:=st;exact SQ f h
def Qym(K:PySem.W.Frag)(ta:TA):TI:=λσ H R=>ta σ H λvs H1=>∃a xs,vs=[.ref a]/\Zc K H1 a xs/\R (ItE K a) H1
theorem Qlr{d:List TJ}{k:Nat}{tpos:E6}{a:TJ}{ta:TA}{p pos:E6}(r:Gl X "enumerate")(v:X.mg "enumerate"=Gf)(n:PA X [a] ta)(x:GY [a] X.env=[(Gp,eval a X.env)]:=by rfl):PI X (.Tuple d k tpos) (.Call (.Name "enumerate" p) [a] [] pos) (Qym X.K ta):=by
 intro pins s σ H R I h;refine Fw (V5 I r v boot_enumerate (T9 (Yz (n pos pins s σ H _ I h) λus s1⟨vs,H1,g,z,y⟩=>?_) x Xb));obtain⟨b,xs,e,w,q⟩:=y;subst e;obtain⟨u,rfl,A⟩:=vals1 z;cases(show u=Value.ref b from A);obtain⟨its,rv,pt,hz⟩:=g.list w;refine call_enumerate_list pt.isList λh' l j hsz t=>?_;have m:Inv X pins σ H1 {s1 with heap:=h',toks:=s1.toks}:=g.kept λb o e=>t b o e;refine SQ l ⟨s1.heap.objs.size+1,[s1.heap.objs.size+1,s1.heap.objs.size],_,_,H1,Xb,m,Qn7 b (s1.heap.objs.size+1) s1.heap.objs.size (Le _),⟨⟨_,l⟩,j⟩,λc i=>?_,q⟩;have f:s1.heap.objs.size<=c:=by
  rcases List.mem_cons.mp i with e|i
  ·rw[e];exact D1 _
  ·have:c=s1.heap.objs.size:=by simpa using i
   rw[this];exact Gn _
 exact g.Qiv f (g.Z4.fresh f)
theorem Qgu{K:PySem.W.Frag}{a:Gc}{xs:List V}{g:TG}{tb:TS}{D:Ends}(Pv:Nat->St->Hp->Prop)(j:Pv 0 σ H)
  (k:∀i σ H,i<=xs.length->Pv i σ H->Zc K H a xs)
  (n:∀i x c σ H,xs[i]?=Ga x->Pv i σ H->H c=Gf->g (.ref c) σ (upd H c (.tup [.int (i:Int),x])) λd H2=>tb {D with nx:=Pv (i+1),ct:=Pv (i+1),bk:=D.nx} d H2)
  (hd:∀σ H,Pv xs.length σ H->D.nx σ H):
  ∃W:Nat->Nat->St->Hp->Prop,(∃m,W 0 m σ H)/\∀i m σ H,W i m σ H->((ItE K a).stop i H/\D.nx σ H)\/((ItE K a).go i H/\∃N:St->Hp->Prop,(∀b H',N b H'->∃h,h<m/\W (i+1) h b H')/\∀x H',(ItE K a).yld i H x H'->g x σ H' λd H2=>tb {D with nx:=N,ct:=N,bk:=D.nx} d H2):=by
 refine⟨λi m σ H=>m=xs.length - i/\i<=xs.length/\Pv i σ H,⟨_,Xb,Gx _,j⟩,?_⟩;rintro i m σ H ⟨rfl,hi,pv⟩;have q:=k i σ H hi pv;by_cases f:i<xs.length
 ·refine .inr ⟨⟨xs,xs[i],q,by simp[f]⟩,Pv (i+1),λb H' p=>⟨xs.length - (i+1),by omega,Xb,f,p⟩,λv H' y=>?_⟩;obtain⟨c,x,rfl,l,o,rfl⟩:=y;exact n i x c σ H (o xs q) pv l
 ·have e:i=xs.length:=by omega
  subst e;exact .inl ⟨⟨xs,q,Gn _⟩,hd σ H pv⟩
end L2
namespace K03
open PySem L2 Sb Nt
variable{f C:Gc}{fd:Tf}
structure V7(K:PySem.W.Frag)(mg:GJ->Option Value)(C:Gc):Prop where
 cl:Cls K C
 Qcy:Yx K C "forms"
 W0:Yx K C "leads"
 members:Yx K C "members"
 Qem:Yx K C "users"
 table:Yx K C "table"
 links:Yx K C "links"
 Qb2:Yx K C "link_at"
 above:Yx K C "above"
 mgC:mg "Net"=Ga (.ref C)
theorem Uz(A:Na):(Xe A).lookup ("forms":GJ)=Ga (.ref A.f):=by rfl
theorem Yt(A:Na):(Xe A).lookup ("leads":GJ)=Ga (.ref A.l):=by rfl
theorem W9(A:Na):(Xe A).lookup ("members":GJ)=Ga (.ref A.m):=by rfl
theorem J1(A:Na):(Xe A).lookup ("users":GJ)=Ga (.ref A.u):=by rfl
theorem Qh2(A:Na):(Xe A).lookup ("table":GJ)=Ga (.ref A.t):=by rfl
theorem U2(A:Na):(Xe A).lookup ("links":GJ)=Ga (.ref A.k):=by rfl
theorem O9(A:Na):(Xe A).lookup ("link_at":GJ)=Ga (.ref A.a):=by rfl
theorem Os(A:Na):(Xe A).lookup ("above":GJ)=Ga (.ref A.v):=by rfl
theorem Qag(A:Na):(Xe A).lookup ("take_in":GJ)=Gf:=by rfl
theorem Qcw(A:Na):(Xe A).lookup ("key_of":GJ)=Gf:=by rfl
theorem Qcf(A:Na):(Xe A).lookup ("equal":GJ)=Gf:=by rfl
theorem Qhs(A:Na):(Xe A).lookup ("merge":GJ)=Gf:=by rfl
theorem Qf5(A:Na):(Xe A).lookup ("merge_link":GJ)=Gf:=by rfl
theorem Qmu(A:Na):(Xe A).lookup ("hang":GJ)=Gf:=by rfl
theorem Qba(A:Na):(Xe A).lookup ("give_over":GJ)=Gf:=by rfl
theorem Qj6(A:Na):(Xe A).lookup ("way":GJ)=Gf:=by rfl
theorem Qh5(A:Na):(Xe A).lookup ("way_up":GJ)=Gf:=by rfl
theorem Qmh(A:Na):(Xe A).lookup ("rows":GJ)=Gf:=by rfl
theorem Xp{H:Hp}{a:Gc}{S:List Nat}{f:Nat->V}{p:Nat}(h:H a=Ga (.dK (dS S f)))(b:p∈S):Wy H a (jv p) (Ga (f p)):=by have:=Wy.k (k:=ki p) h;rw[Qez b,Qzd]at this;exact this
theorem Qfg{i j:Nat}:decide (jv i=jv j)=decide (i=j):=by
 by_cases h:i=j
 ·subst h;simp
 ·rw[Gq h,Gq λz=>h (Qwf z)]
def Qb4(P:Gj)(w:Gu)(C:Gc):Sp:=λvs H Q _=>∃(n:Gc)(A:Na)(fs:List Fm)(tb:Nat)(x:Nn)(p q:Nat),vs=[.ref n,jv p,jv q]/\Z6 P w C H n A fs tb x/\p∈x.S/\q∈x.S/\Q (.bl (decide (x.lead p=x.lead q))) H
def Qby(P:Gj)(w:Gu)(C:Gc):Sp:=λvs H Q _=>∃(n:Gc)(A:Na)(fs:List Fm)(tb:Nat)(x:Nn)(p:Nat),vs=[.ref n,jv p]/\Z6 P w C H n A fs tb x/\p<fs.length/\(∀q∈Zp fs p,q∈x.S)/\(Zp fs p).length<=1000000/\
 ∀(c:Gc)(H':Hp),Q5 H H'->H c=Gf->Rm H' (.ref c) (Zn (Yh fs) (Zp fs) x.lead p)->Q (.ref c) H'
def Qi2(P:Gj)(w:Gu)(C:Gc):Sp:=λvs H Q _=>∃(n:Gc)(A:Na)(fs:List Fm)(tb:Nat)(x:Nn)(lo hi:Nat)(cl:List Nat),vs=[.ref n,jv lo,jv hi]/\Z6 P w C H n A fs tb x/\Ch x.up lo cl/\(∀p∈cl,p∈x.S)/\x.S.length<=1000000/\
 ∀(H':Hp),Z6 P w C H' n A fs tb {x with up:=Xr x.up hi cl}->(∀b o,H b=Ga o->b≠A.v->H' b=Ga o)->(∀b,H' b=Gf->H b=Gf)->Q .non H'
def Qlw(P:Gj)(w:Gu)(C:Gc):Sp:=λvs H Q _=>∃(n:Gc)(A:Na)(fs:List Fm)(tb:Nat)(x:Nn)(p:Nat)(l:List Nat),vs=[.ref n,jv p]/\Z6 P w C H n A fs tb x/\Ch x.up p l/\(∀q∈l,q∈x.S)/\l.length<=1000000/\
 ∀(r:Gc)(H':Hp),Q5 H H'->H r=Gf->H' r=Ga (.lst (l.map jv))->Q (.ref r) H'
section
variable{P:Gj}{w:Gu}{K:PySem.W.Frag}{mg:GJ->Option Value}{base:Heap}
theorem Qub:Q3 ["self","one","other"] ["self","one","other"] (Qn Qfl):=by eq_refl
theorem Qo9(F:Wz K "equal" "Net.equal" Qfl f fd)(T:V7 K mg C):Qz P w K mg base Yb 1 f fd ["self","one","other"] (Qb4 P w C):=by
 refine F.ok Qub (λvs H Q E h=>?_) (λcdv A outer s H vs Q E e h=>?_)
 ·obtain⟨n,A,fs,tb,x,p,q,rfl,_⟩:=h;rfl
 obtain⟨n,A,fs,tb,x,p,q,rfl,X,c,d,g⟩:=h;have a:=Ur e;refine⟨_,Qh (Qt (Wm Xi (Zv a (Qu (pv 0) rfl) (pv 1) (λ_ _=>rfl)) (Zv a (Qu (pv 0) rfl) (pv 2) (λ_ _=>rfl)) (Qs _))),?_⟩;obtain⟨dx,b⟩:=X.ob;refine⟨_,Xb,n,C,dx,_,_,Xb,b,T.cl,T.W0,Yt _,_,Xb,A.l,_,Xb,Xp X.le c,_,Xb,n,C,dx,_,_,Xb,b,T.cl,T.W0,Yt _,_,Xb,A.l,_,Xb,Xp X.le d,Xb,?_⟩;rw[Qfg];exact g
theorem Qbv:Q3 ["self","place","form"] ["self","place"] (Qn Rw):=by eq_refl
theorem Qx5:(["part","self"]:List GJ).Nodup:=by decide+kernel
theorem Qrk(F:Wz K "key_of" "Net.key_of" Rw f fd)(T:V7 K mg C)(B:J0 mg):Qz P w K mg base Yb 1 f fd ["self","place"] (Qby P w C):=by
 refine F.ok Qbv (λvs H Q E h=>?_) (λcdv A outer s H vs Q E hr h=>?_)
 ·obtain⟨n,A,fs,tb,x,p,rfl,_⟩:=h;rfl
 obtain⟨n,A,fs,tb,x,p,rfl,X,J,v,hl,g⟩:=h;have hu:=Ur hr;have nd:=Qbv.nd;refine⟨_,Qc (Qy 2 nd (Ql Ze (Qu (pv 0) rfl) (pv 1)))
  (Qh (Qt (Zf (Qa (Ql Qm (pv 2) Qi) (Qa (Xh Vd rfl B.tuple Tx (Qa
   (Vl (te:=Qhr (Qtg K (Vv 1) "leads") (Vv 0)) (own:=["part"]) (fv:=[(0,"self")]) rfl (S:=(by eq_refl:Xx (Qn Rw) _)) (.cons rfl (TR Xb) rfl .nil) (Uj (Ql Qm (pv 2) Qi))
    (λ_ _ _ _ _=>Xf (i:=0) Qx5 rfl (TR Xb) (Dp Xb)) (λ_ _ _ _ _=>X6) (λ_ _ _ _ _=>Zv hu (Qu (pv 1) rfl) (pv 0) (λ_ _=>rfl))) Qe)) Qe))))),?_⟩
 obtain⟨dx,M⟩:=X.ob;obtain⟨O,Y,I⟩:=X.fo;have hw:p<O.length:=by rw[Paired.length I];exact J
 obtain⟨y,L,c,e,W,h1,h2⟩:=Qw I (List.getElem?_eq_getElem hw);rw[Qe4 J]at L;cases L;have U:atI [V.str (Yh fs p),V.ref e] (1:Int)=Ga (.ref e):=Qj (j:=1) rfl;refine⟨_,Xb,n,C,dx,_,_,Xb,M,T.cl,T.Qcy,Uz _,_,Xb,A.f,O,_,_,Xb,Xb,Zc.of Y,Qj (List.getElem?_eq_getElem hw),?_⟩;rw[W];refine⟨_,Xb,c,_,_,_,Xb,Xb,Q9.of h1,Ru _ _,_,Xb,c,_,_,_,Xb,Xb,Q9.of h1,U,e,Xb,⟨_,Q9.of h2⟩,λr t=>?_⟩;have s3:=Qf t (.lst []);refine Uu (K:=K) (a:=e) (xs:=(Zp fs p).map jv) (small (by rw[List.length_map];omega)) (λi ys σ H2=>(∃R,σ=[R,Ga (.ref n)])/\Q5 H H2/\ys=((Zp fs p).take i).map λq=>jv (x.lead q))
  ⟨⟨_,Xb⟩,s3,by simp⟩ (λi ys σ H2 _ h=>Q9.of (h.2.1 _ _ h2)) ?_ ?_
 ·rintro i y ys σ H2 hi z ⟨⟨R,rfl⟩,d,rfl⟩ u;rw[List.getElem?_map]at hi;cases eq:(Zp fs p)[i]? with
  |none=>rw[eq]at hi;cases hi
  |some q=>
   rw[eq]at hi;cases hi;refine⟨_,Xb,n,C,dx,_,_,Xb,d _ _ M,T.cl,T.W0,Yt _,_,Xb,A.l,_,Xb,Xp (d _ _ X.le) (v q (List.mem_of_getElem? eq)),u,⟨_,Xb⟩,λb o G=>?_,?_⟩
   ·rw[Qg (Qd G t)];exact d _ _ G
   ·rw[List.take_add_one,eq,List.map_append];rfl
 ·rintro ys σ H2 z ⟨_,d,rfl⟩ u;rw[List.length_map,List.take_length]at u;refine⟨r,_,Xb,.inl ⟨Zc.of u,λm Z=>?_⟩⟩;have s4:=Qf Z (.tup ((Zp fs p).map λq=>jv (x.lead q)));refine⟨by show 2<=Gh;decide,λD k=>?_⟩;have N:=Qf k (.tup [.str (Yh fs p),.ref m]);refine g D _ ((d.trans s4).trans N) (d.free (s4.free k)) ⟨D,m,Xb,Qb,?_⟩;rw[N _ _ Qb];simp only[Zn,List.map_map];rfl
theorem Qlm:Q3 ["self","place","found","stop"] ["self","place"] (Qn Qfx):=by eq_refl
theorem Qfv{o:Option Nat}:decide (ov o=V.non)= !o.isSome:=by
 cases o with
 |none=>rfl
 |some p=>rfl
theorem Ql6{up:Nat->Option Nat}{p:Nat}{l:List Nat}(h:Ch up p l){i:Nat}(hi:i<l.length):up l[i]=l[i+1]?:=by
 induction h generalizing i with
 |@top p e=>
  have:i=0:=by simpa using hi
  subst this;simpa using e
 |@step p q l e k b=>
  cases i with
  |zero=>obtain⟨r,a⟩:=k.head;subst a;simpa using e
  |succ j=>simp only[List.length_cons]at hi;simpa using b (i:=j) (by omega)
theorem Qqu(F:Wz K "way_up" "Net.way_up" Qfx f fd)(T:V7 K mg C):Qz P w K mg base Yb 1 f fd ["self","place"] (Qlw P w C):=by
 refine F.ok Qlm (λvs H Q E h=>?_) (λcdv A outer s H vs Q E J h=>?_)
 ·obtain⟨n,A,fs,tb,x,p,l,rfl,_⟩:=h;rfl
 obtain⟨n,A,fs,tb,x,p,l,rfl,X,o,I,q,g⟩:=h;have L:=Ur J;have nd:=Qlm.nd;refine⟨_,Qc (Qy 2 nd (Zr Qe))
  (Qc (Qy 3 nd (pv 1))
  (Qc (Wn Gs (Qo Oc (pv 3) Uo (Qs _))
   (Qc (Zk (X0 PySem.F.plainAttrs_list PySem.F.slot_list_append PySem.F.type_list_append Z3 (pv 2) (Qa (pv 3) Qe)))
   (Qh (Qy 3 nd (Zv L (Qu (pv 0) rfl) (pv 3) (λ_ _=>rfl))))))
  (Qh (Qt (pv 2))))),?_⟩
 obtain⟨dx,M⟩:=X.ob;refine⟨Gx _,λr b=>⟨_,Xb,?_⟩⟩;have R:=Qf b (.lst []);obtain⟨O,B⟩:=o.head;have D:l[0]?=Ga p:=by rw[B];rfl
 refine Qdq (λm σ H2=>∃i,m=l.length+1 - i/\i<=l.length/\σ=[Ga (.ref n),Ga (jv p),Ga (.ref r),Ga (ov l[i]?)]/\H2=upd H r (.lst ((l.take i).map jv)))
  ⟨_,0,Xb,Gx _,by rw[D];rfl,by simp⟩ ?_ (λσ H Q N G=>λh=>by obtain⟨v,c,t,u,y,z⟩:=h;exact⟨v,c,t,u,y,G _ _ z⟩)
 rintro m σ H2 ⟨i,rfl,hi,rfl,rfl⟩;refine⟨_,Xb,Xb,_,Xb,?_⟩;rw[Qfv];rcases Te i l.length with a|j
 ·have c:l[i]?=Ga l[i]:=List.getElem?_eq_getElem a;have d:l[i]∈l:=List.getElem_mem a;rw[c];refine Yy ?_;refine⟨_,Xb,.inl ⟨Xb,_,Zc.of Qb⟩,_,Xb,r,_,_,Xb,Xb,Qb,by rw[List.length_map,List.length_take,Gy];omega,?_⟩;have e:Q5 H (upd (upd H r (.lst ((l.take i).map jv))) r (.lst ((l.take i).map jv++[jv l[i]]))):=by rw[Wt];exact Qf b _
  refine⟨_,Xb,n,C,dx,_,_,Xb,e _ _ M,T.cl,T.above,Os _,_,Xb,A.v,_,Xb,Xp (e _ _ X.ab) (I _ d),_,by omega,i+1,Xb,a,?_,?_⟩
  ·rw[Ql6 o a];rfl
  ·rw[Wt,List.take_add_one,c,List.map_append];rfl
 ·have c:l[i]?=Gf:=List.getElem?_eq_none j;have k:i=l.length:=by omega
  subst k;rw[c];refine Q6 ?_;rw[List.take_length];exact⟨_,Xb,g r _ (Qf b _) b Qb⟩
theorem Qr8:Q3 ["self","low","high","over","place","old_over"] ["self","low","high"] (Qn Qmk):=by eq_refl
theorem Qtz(F:Wz K "hang" "Net.hang" Qmk f fd)(T:V7 K mg C):Qz P w K mg base Yb 1 f fd ["self","low","high"] (Qi2 P w C):=by
 refine F.ok Qr8 (λvs H Q E h=>?_) (λcdv A outer s H vs Q E hr h=>?_)
 ·obtain⟨n,A,fs,tb,x,lo,hi,cl,rfl,_⟩:=h;rfl
 obtain⟨n,A,fs,tb,x,lo,hi,cl,rfl,X,G,I,W,g⟩:=h;have Y:=Ur hr;have nd:=Qr8.nd;refine⟨_,Qc (Qy 3 nd (pv 2))
  (Qc (Qy 4 nd (pv 1))
  (Qh (Wn Gs (Qo Oc (pv 4) Uo (Qs _))
   (Qc (Qy 5 nd (Zv Y (Qu (pv 0) rfl) (pv 4) (λ_ _=>rfl)))
   (Qc (Ww Y (Qu (pv 0) rfl) (pv 4) (pv 3) rfl)
   (Qc (Qy 3 nd (pv 4))
   (Qh (Qy 4 nd (pv 5))))))))),?_⟩
 obtain⟨dx,L⟩:=X.ob;obtain⟨aa,d⟩:=G.head;refine⟨_,Xb,_,Xb,?_⟩;have Z:n≠A.v:=Zy L X.ab (by intro z;cases z);refine Qdq (λm σ H2=>∃(u:Nat->Option Nat)(over:Nat)(X8:List Nat)(x5:Option V),m=X8.length/\(∀q∈X8,u q=x.up q)/\(∀c r,X8=c::r->Ch x.up c X8)/\X8.Nodup/\(∀q∈X8,q∈x.S)/\Xr u over X8=Xr x.up hi cl/\σ=[Ga (.ref n),Ga (jv lo),Ga (jv hi),Ga (jv over),Ga (ov X8.head?),x5]/\H2=upd H A.v (.dK (dS x.S λp=>ov (u p))))
  ⟨_,x.up,hi,cl,Gf,Xb,λ_ _=>rfl,λc r e=>?_,G.nodup,I,Xb,?_,?_⟩ ?_ (λσ H Q Q' hQ=>λh=>by obtain⟨v,e1,B,e3,e4,e5⟩:=h;exact⟨v,e1,B,e3,e4,hQ _ _ e5⟩)
 ·rw[d]at e;cases e;exact G
 ·rw[d];rfl
 ·funext b
  by_cases hb:b=A.v
  ·subst hb;rw[Qb];exact X.ab
  ·rw[Qg hb]
 rintro m σ H2 ⟨u,over,X8,x5,rfl,l,t,nd2,hS,J,rfl,rfl⟩;refine⟨_,Xb,Xb,_,Xb,?_⟩;rw[Qfv];cases X8 with
 |nil=>
  refine Q6 ?_;have e:Xr u over []=u:=rfl;rw[e]at J;refine g _ ?_ (λb o eb hb=>by rw[Qg hb];exact eb) (λb hb=>?_)
  ·rw[<-J];have M:Q4 H (upd H A.v (.dK (dS x.S λp=>ov (u p)))):=Zz λxs e=>by rw[X.ab]at e;cases e
   obtain⟨ws,R,f2⟩:=X.fo;obtain⟨kvs,D,d2,d3⟩:=X.ta;obtain⟨ls,l1,l2⟩:=X.li;obtain⟨kv,N,a2⟩:=X.at_;refine⟨⟨dx,by rw[Qg Z];exact L⟩,⟨ws,by rw[Qg (Zy R X.ab (by intro z;cases z))];exact R,L2.Paired.Z7 f2 λ_ _ h=>h.Qr M⟩,by rw[Qg X.ap.lv];exact X.le,by rw[Qg X.ap.mv];exact X.me,by rw[Qg X.ap.uv];exact X.us,
    ⟨kvs,⟨by rw[Qg (Zy D.at_ X.ab (by intro z;cases z))];exact D.at_,Zh M D.keys⟩,d2,d3⟩,⟨ls,by rw[Qg (Zy l1 X.ab (by intro z;cases z))];exact l1,L2.Paired.Z7 l2 λ_ _ h=>h.Qr M⟩,⟨kv,by rw[Qg (Zy N X.ab (by intro z;cases z))];exact N,a2⟩,Qb,
    λp j=>by rw[Qg (Zy (X.ml p j) X.ab (by intro z;cases z))];exact X.ml p j,λp j=>by rw[Qg (Zy (X.ul p j) X.ab (by intro z;cases z))];exact X.ul p j,X.ap⟩
  ·by_cases e:b=A.v
   ·subst e;rw[Qb]at hb;cases hb
   ·rw[Qg e]at hb;exact hb
 |cons c r=>
  refine Yy ?_;have O:=hS c (by simp);have o2:(upd H A.v (.dK (dS x.S λp=>ov (u p)))) n=Ga (.ins C dx (Xe A)):=by rw[Qg Z];exact L
  have uc:u c=r.head?:=by rw[l c (by simp)];have:=Ql6 (t c r Xb) (i:=0) (by simp);simp only[List.getElem_cons_zero]at this;rw[this];cases r<;>rfl
  rw[List.nodup_cons]at nd2;have U:=I9.k (k:=ki c) (v:=jv over) (@Qb H A.v (.dK (dS x.S λp=>ov (u p)))) (by rw[Va,Gy];omega);rw[Wt,Qi3 O]at U;refine⟨_,Xb,n,C,dx,_,_,Xb,o2,T.cl,T.above,Os _,_,Xb,A.v,_,Xb,Xp Qb O,_,Xb,_,Xb,n,C,dx,_,_,Xb,o2,T.cl,T.above,Os _,_,Xb,A.v,_,Xb,U,_,Xb,_,Xb,r.length,by simp,Qdy u c over,c,r,Ga (ov (u c)),Xb,λq y=>?_,λc2 r2 B=>?_,nd2.2,λq y=>hS q (by simp[y]),J,?_,?_⟩
  ·unfold Qdy;rw[Gg (λz:q=c=>nd2.1 (z▸y))];exact l q (by simp[y])
  ·have:=t c r rfl;subst B;exact this.suffix (a:=[c]) rfl
  ·rw[uc];rfl
  ·congr 2;refine Wp λq _=>?_;unfold Qdy;by_cases e:q=c
   ·rw[Gk e,Gk e];rfl
   ·rw[Gg e,Gg e]
end
end K03
namespace Sb
open PySem PySem.Spec PyProof.Rows L2 Nt
theorem Yi{H:Hp}{a b:Gc}{o u:HO}(h:H a=Ga o)(k:H b=Ga u)(d:∀z:o=u,False):a≠b:=λz=>by subst z;rw[h]at k;exact d (Tc k)
section
variable{P:Gj}{w:Gu}{C:Gc}{H:Hp}{n:Gc}{A:Na}{fs:List Fm}{tb:Nat}{x:Nn}
theorem Z6.Qui(X:Z6 P w C H n A fs tb x)(ld:Nat->Nat):Z6 P w C (upd H A.l (.dK (dS x.S λp=>jv (ld p)))) n A fs tb {x with lead:=ld}:=by
 obtain⟨dx,g⟩:=X.ob;obtain⟨r,f,m⟩:=X.fo;obtain⟨kvs,D,j,k⟩:=X.ta;obtain⟨ls,l1,l2⟩:=X.li;obtain⟨q,d,i⟩:=X.at_;have c:Q4 H (upd H A.l (.dK (dS x.S λp=>jv (ld p)))):=Zz λxs e=>by rw[X.le]at e;cases e
 have u:∀{b o},H b=Ga o->b≠A.l->(upd H A.l (.dK (dS x.S λp=>jv (ld p)))) b=Ga o:=λe h=>by rw[Qg h];exact e
 exact⟨⟨dx,u g (Yi g X.le nofun)⟩,⟨r,u f (Yi f X.le nofun),L2.Paired.Z7 m λ_ _ h=>h.Qr c⟩,Qb,u X.me (Gm X.ap.lm),u X.us (Gm X.ap.lu),⟨kvs,⟨u D.at_ (Yi D.at_ X.le nofun),Zh c D.keys⟩,j,k⟩,
  ⟨ls,u l1 (Yi l1 X.le nofun),L2.Paired.Z7 l2 λ_ _ h=>h.Qr c⟩,⟨q,u d (Yi d X.le nofun),i⟩,u X.ab (Gm X.ap.lv),λp a=>u (X.ml p a) (Yi (X.ml p a) X.le nofun),λp a=>u (X.ul p a) (Yi (X.ul p a) X.le nofun),X.ap⟩
theorem Z6.Qw8(X:Z6 P w C H n A fs tb x){k:Nat}(a:k∈x.S)(l:List Nat):Z6 P w C (upd H (A.ml k) (.lst (l.map jv))) n A fs tb {x with mem:=λp=>if p=k then l else x.mem p}:=by
 obtain⟨dx,g⟩:=X.ob;obtain⟨v,r,s⟩:=X.fo;obtain⟨kvs,D,j,q⟩:=X.ta;obtain⟨ls,l1,l2⟩:=X.li;obtain⟨t,f,i⟩:=X.at_;have m:=X.ml k a;have d:Q4 H (upd H (A.ml k) (.lst (l.map jv))):=Zz λxs e=>by rw[m]at e;cases e
 have u:∀{b o},H b=Ga o->b≠A.ml k->(upd H (A.ml k) (.lst (l.map jv))) b=Ga o:=λe h=>by rw[Qg h];exact e
 refine⟨⟨dx,u g (Yi g m nofun)⟩,⟨v,u r (Gm (X.ap.mkf k a).2),L2.Paired.Z7 s λ_ _ h=>h.Qr d⟩,u X.le (Yi X.le m nofun),u X.me (Yi X.me m nofun),u X.us (Yi X.us m nofun),⟨kvs,⟨u D.at_ (Yi D.at_ m nofun),Zh d D.keys⟩,j,q⟩,
  ⟨ls,u l1 (Gm (X.ap.mkf k a).1),L2.Paired.Z7 l2 λ_ _ h=>h.Qr d⟩,⟨t,u f (Yi f m nofun),i⟩,u X.ab (Yi X.ab m nofun),λp c=>?_,λp c=>u (X.ul p c) (Gm (X.ap.mul k a p c)),X.ap⟩
 by_cases e:p=k
 ·subst e;show _=Ga (HO.lst ((if p=p then l else x.mem p).map jv));rw[Qb,Gk rfl]
 ·show _=Ga (HO.lst ((if p=k then l else x.mem p).map jv));rw[Gg e];exact u (X.ml p c) (λz=>e (X.ap.mm p c k a z))
theorem Z6.Qqm(X:Z6 P w C H n A fs tb x){k:Nat}(a:k∈x.S)(l:List Nat):Z6 P w C (upd H (A.ul k) (.lst (l.map jv))) n A fs tb {x with Xk:=λp=>if p=k then l else x.Xk p}:=by
 obtain⟨dx,g⟩:=X.ob;obtain⟨v,r,s⟩:=X.fo;obtain⟨kvs,D,j,q⟩:=X.ta;obtain⟨ls,l1,l2⟩:=X.li;obtain⟨t,f,i⟩:=X.at_;have m:=X.ul k a;have d:Q4 H (upd H (A.ul k) (.lst (l.map jv))):=Zz λxs e=>by rw[m]at e;cases e
 have u:∀{b o},H b=Ga o->b≠A.ul k->(upd H (A.ul k) (.lst (l.map jv))) b=Ga o:=λe h=>by rw[Qg h];exact e
 refine⟨⟨dx,u g (Yi g m nofun)⟩,⟨v,u r (Gm (X.ap.ukf k a).2),L2.Paired.Z7 s λ_ _ h=>h.Qr d⟩,u X.le (Yi X.le m nofun),u X.me (Yi X.me m nofun),u X.us (Yi X.us m nofun),⟨kvs,⟨u D.at_ (Yi D.at_ m nofun),Zh d D.keys⟩,j,q⟩,
  ⟨ls,u l1 (Gm (X.ap.ukf k a).1),L2.Paired.Z7 l2 λ_ _ h=>h.Qr d⟩,⟨t,u f (Yi f m nofun),i⟩,u X.ab (Yi X.ab m nofun),λp c=>u (X.ml p c) (X.ap.mul p c k a),λp c=>?_,X.ap⟩
 by_cases e:p=k
 ·subst e;show _=Ga (HO.lst ((if p=p then l else x.Xk p).map jv));rw[Qb,Gk rfl]
 ·show _=Ga (HO.lst ((if p=k then l else x.Xk p).map jv));rw[Gg e];exact u (X.ul p c) (λz=>e (X.ap.uu p c k a z))
theorem Z6.Qrf(X:Z6 P w C H n A fs tb x){kvs kvs':List KE}(D:DH P w H A.t kvs)(q:kvs'.length<=tb+1)(i:Vu H kvs'){t':Fm->Option Nat}(r:∀k:Fm,Yg kvs' (Xc k)=(t' k).map jv):Z6 P w C (upd H A.t (Vn P w A.t kvs')) n A fs (tb+1) {x with tab:=t'}:=by
 obtain⟨dx,g⟩:=X.ob;obtain⟨v,f,l⟩:=X.fo;obtain⟨ls,l1,l2⟩:=X.li;obtain⟨s,d,j⟩:=X.at_;have m:=D.at_;have c:Q4 H (upd H A.t (Vn P w A.t kvs')):=Zz λxs e=>by rw[m]at e;cases e
 have u:∀{b o},H b=Ga o->b≠A.t->(upd H A.t (Vn P w A.t kvs')) b=Ga o:=λe h=>by rw[Qg h];exact e
 exact⟨⟨dx,u g (Yi g m nofun)⟩,⟨v,u f (Yi f m nofun),L2.Paired.Z7 l λ_ _ h=>h.Qr c⟩,u X.le (Yi X.le m nofun),u X.me (Yi X.me m nofun),u X.us (Yi X.us m nofun),⟨kvs',⟨Qb,Zh c i⟩,q,r⟩,
  ⟨ls,u l1 (Yi l1 m nofun),L2.Paired.Z7 l2 λ_ _ h=>h.Qr c⟩,⟨s,u d (Yi d m nofun),j⟩,u X.ab (Yi X.ab m nofun),λp a=>u (X.ml p a) (Yi (X.ml p a) m nofun),λp a=>u (X.ul p a) (Yi (X.ul p a) m nofun),X.ap⟩
theorem Z6.Qud(X:Z6 P w C H n A fs tb x){kv2:List (List Xz×V)}{ls':List V}{lks:List Lk}{lat':Nat->Nat->Option Nat}(h1:kv2.length<=2*lks.length)(h2:∀i j:Nat,Y9 kv2 [ki i,ki j]=(lat' i j).map jv)(s:Paired (Rr H) ls' lks):
  Z6 P w C (upd (upd H A.a (.dT kv2)) A.k (.lst ls')) n A fs tb {x with links:=lks,Xg:=lat'}:=by
 obtain⟨dx,f⟩:=X.ob;obtain⟨t,l,r⟩:=X.fo;obtain⟨kvs,D,m,q⟩:=X.ta;obtain⟨ls,l1,l2⟩:=X.li;obtain⟨y,c,v⟩:=X.at_;have g:Q4 H (upd (upd H A.a (.dT kv2)) A.k (.lst ls')):=λb xs e=>by rw[Qg (Yi e l1 nofun),Qg (Yi e c nofun)];exact e
 have u:∀{b o},H b=Ga o->b≠A.k->b≠A.a->(upd (upd H A.a (.dT kv2)) A.k (.lst ls')) b=Ga o:=λe h h'=>by rw[Qg h,Qg h'];exact e
 refine⟨⟨dx,u f (Yi f l1 nofun) (Yi f c nofun)⟩,⟨t,u l (Gm X.ap.kf) (Yi l c nofun),L2.Paired.Z7 r λ_ _ h=>h.Qr g⟩,u X.le (Yi X.le l1 nofun) (Yi X.le c nofun),u X.me (Yi X.me l1 nofun) (Yi X.me c nofun),u X.us (Yi X.us l1 nofun) (Yi X.us c nofun),
  ⟨kvs,⟨u D.at_ (Yi D.at_ l1 nofun) (Yi D.at_ c nofun),Zh g D.keys⟩,m,q⟩,⟨ls',Qb,L2.Paired.Z7 s λ_ _ h=>h.Qr g⟩,⟨kv2,?_,h1,h2⟩,u X.ab (Yi X.ab l1 nofun) (Yi X.ab c nofun),λp d=>u (X.ml p d) (X.ap.mkf p d).1 (Yi (X.ml p d) c nofun),λp d=>u (X.ul p d) (X.ap.ukf p d).1 (Yi (X.ul p d) c nofun),X.ap⟩
 rw[Qg (Yi c l1 nofun),Qb]
end
end Sb
namespace K03
open PySem L2 Sb Nt
structure Qd7(fs:List Fm)(S:List Nat):Prop where
 str:∀p,TC (Yh fs p)=Ge
 lt:∀p∈S,p<fs.length
 pts:∀p∈S,∀q∈Zp fs p,q∈S
 few:∀p,(Zp fs p).length<=100000
def Qkr(P:Gj)(w:Gu)(C:Gc):Sp:=λvs H Q _=>∃(n:Gc)(A:Na)(fs:List Fm)(tb:Nat)(x:Nn)(g k:Nat),vs=[.ref n,jv g,jv k]/\Z6 P w C H n A fs tb x/\Qd7 fs x.S/\g∈x.S/\k∈x.S/\g≠k/\(∀p∈x.mem g,p∈x.S)/\(∀p∈x.Xk g,p∈x.S)/\
 x.S.length<=100000/\(x.mem k).length+(x.mem g).length<=100000/\(x.Xk k).length+(x.Xk g).length<=100000/\tb+(x.Xk g).length<=1000000/\
 ∀(r:Gc)(es:List V)(H':Hp),Z6 P w C H' n A fs (tb+(x.Xk g).length) (V6 (Yh fs) (Zp fs) x g k).1->Rn A x.S H H'->H r=Gf->H' r=Ga (.lst es)->Paired (Rr H') es (V6 (Yh fs) (Zp fs) x g k).2->Q (.ref r) H'
section
variable{P:Gj}{w:Gu}{K:PySem.W.Frag}{mg:GJ->Option Value}{base:Heap}
theorem Qo7:Q3 ["self","gone","kept","place","found","user","twin"] ["self","gone","kept"] (Qn Il):=by eq_refl
theorem Qmy{ky:Nat->GJ×List Nat}{l:List Nat}{t:GJ×List Nat->Option Nat}{i u:Nat}(h:l[i]?=Ga u):scan (ρ:=U5) ky (l.take (i+1)) t []=(match(scan (ρ:=U5) ky (l.take i) t []).1 (ky u)with
  |some v=>((scan (ρ:=U5) ky (l.take i) t []).1,if v=u then(scan (ρ:=U5) ky (l.take i) t []).2 else(scan (ρ:=U5) ky (l.take i) t []).2++[(u,v,Gf)])
  |none=>((λk=>if k=ky u then Ga u else(scan (ρ:=U5) ky (l.take i) t []).1 k),(scan (ρ:=U5) ky (l.take i) t []).2)):=by
 have gen:∀(a:List Nat)(t:GJ×List Nat->Option Nat)(f:List (Nat×Nat×Option U5)),scan (ρ:=U5) ky (a++[u]) t f=(match(scan (ρ:=U5) ky a t f).1 (ky u)with
  |some v=>((scan (ρ:=U5) ky a t f).1,if v=u then(scan (ρ:=U5) ky a t f).2 else(scan (ρ:=U5) ky a t f).2++[(u,v,Gf)])
  |none=>((λk=>if k=ky u then Ga u else(scan (ρ:=U5) ky a t f).1 k),(scan (ρ:=U5) ky a t f).2)):=by
  intro a;induction a with
  |nil=>intro t f;simp only[List.nil_append,scan];all_goals (cases t (ky u)<;>rfl)
  |cons z a b=>
   intro t f;simp only[List.cons_append,scan];cases t (ky z)with
   |some v=>exact b _ _
   |none=>exact b _ _
 rw[List.take_add_one,h];exact gen _ _ _
theorem Qsw{f fK C:Gc}{fd ag:Tf}(F:Wz K "give_over" "Net.give_over" Il f fd)(T:V7 K mg C)(mK:Yd K C "key_of" fK)(GK:Qz P w K mg base Yb 1 fK ag ["self","place"] (Qby P w C))(bK:Binds K ag ["self","place"] []):
  Qz P w K mg base Yb 2 f fd ["self","gone","kept"] (Qkr P w C):=by
 refine F.ok Qo7 (λvs H Q E h=>?_) (λcdv A outer s H vs Q E hr h=>?_)
 ·obtain⟨n,A,fs,tb,x,g,k,rfl,_⟩:=h;rfl
 obtain⟨n,A,fs,tb,x,g,k,rfl,X,fok,I,J,ar,mS,uS,hS,hm,aA,az,q⟩:=h;have hu:=Ur hr;have ai:=hr.units;have av:Yf 1 _:=hr.mono (by omega);have nd:=Qo7.nd;refine⟨_,Qc (Z5 Gs rfl (Z9 (Zv hu (Qu (pv 0) rfl) (pv 1) (λ_ _=>rfl))) (Zw 3 nd)
   (Qh (Ww hu (Qu (pv 0) rfl) (pv 3) (pv 2) rfl)))
  (Qc (Zk (X0 PySem.F.plainAttrs_list PySem.F.slot_list_extend PySem.F.type_list_extend O3 (Zv hu (Qu (pv 0) rfl) (pv 2) (λ_ _=>rfl)) (Qa (Zv hu (Qu (pv 0) rfl) (pv 1) (λ_ _=>rfl)) Qe)))
  (Qc (Zk (X0 PySem.F.plainAttrs_list PySem.F.slot_list_extend PySem.F.type_list_extend O3 (Zv hu (Qu (pv 0) rfl) (pv 2) (λ_ _=>rfl)) (Qa (Zv hu (Qu (pv 0) rfl) (pv 1) (λ_ _=>rfl)) Qe)))
  (Qc (Qy 4 nd (Zr Qe))
  (Qc (Z5 Gs rfl (Z9 (Zv hu (Qu (pv 0) rfl) (pv 1) (λ_ _=>rfl))) (Zw 5 nd)
   (Qc (Qy 6 nd (Qjk PySem.F.slot_dict_setdefault PySem.F.type_dict_setdefault (Qkj ai) (Qu (pv 0) rfl) (Qa (Zg (pv 0) T.cl mK GK av bK .nil Q7 (Qa (pv 5) Qe)) (Qa (pv 5) Qe))))
   (Qh (Zb (Qo Vq (pv 6) (pv 5) (Qs _))
    (Qh (Zk (X0 PySem.F.plainAttrs_list PySem.F.slot_list_append PySem.F.type_list_append Z3 (pv 4) (Qa (Zf (Qa (pv 5) (Qa (pv 6) (Qa Uo Qe)))) Qe)))) Qv))))
  (Qh (Qt (pv 4))))))),?_⟩
 obtain⟨dx,o1⟩:=X.ob;have nl:n≠A.l:=Yi o1 X.le nofun;refine⟨_,Xb,n,C,dx,_,_,Xb,o1,T.cl,T.members,W9 _,_,Xb,A.m,_,Xb,Xp X.me I,A.ml g,Xb,⟨_,Zc.of (X.ml g I)⟩,Ys (K:=K) (a:=A.ml g) (xs:=(x.mem g).map jv)
  (λi σ H2=>(∃x3,σ=[Ga (.ref n),Ga (jv g),Ga (jv k),x3,Gf,Gf,Gf])/\H2=upd H A.l (.dK (dS x.S λp=>jv (if p∈(x.mem g).take i then k else x.lead p))))
  ⟨⟨_,Xb⟩,?_⟩ (λi σ H2 _⟨_,e⟩=>by rw[e];exact Zc.of (by rw[Qg (Yi (X.ml g I) X.le nofun)];exact X.ml g I)) ?_ ?_⟩
 ·funext b
  by_cases hb:b=A.l
  ·subst hb;rw[Qb,X.le];simp
  ·rw[Qg hb]
 ·rintro i y σ H2 hi ⟨⟨x3,rfl⟩,rfl⟩;rw[List.getElem?_map]at hi;cases eq:(x.mem g)[i]? with
  |none=>rw[eq]at hi;cases hi
  |some p=>
   rw[eq]at hi;cases hi;have pS:=mS p (List.mem_of_getElem? eq);have o2:(upd H A.l (.dK (dS x.S λp=>jv (if p∈(x.mem g).take i then k else x.lead p)))) n=Ga (.ins C dx (Xe A)):=by rw[Qg nl];exact o1
   have hk:=I9.k (k:=ki p) (v:=jv k) (@Qb H A.l (.dK (dS x.S λp=>jv (if p∈(x.mem g).take i then k else x.lead p)))) (by rw[Va,Gy];omega);rw[Wt,Qi3 pS]at hk;refine⟨_,Xb,_,Xb,n,C,dx,_,_,Xb,o2,T.cl,T.W0,Yt _,_,Xb,A.l,_,Xb,hk,⟨_,Xb⟩,?_⟩;congr 2;refine Wp λr _=>?_;rw[List.take_add_one,eq];by_cases e:r=p
   ·subst e;rw[Gk Xb,Gk (by simp)]
   ·rw[Gg e];by_cases hm:r∈(x.mem g).take i
    ·rw[Gk hm,Gk (List.mem_append_left _ hm)]
    ·rw[Gg hm,Gg (by simp[hm,e])]
 rintro σ H2 ⟨⟨x3,rfl⟩,rfl⟩;rw[List.length_map,List.take_length];have O:=X.Qui (Za x g k);have eL:(dS x.S λp=>jv (if p∈x.mem g then k else x.lead p))=dS x.S λp=>jv (Za x g k p):=rfl;rw[eL];have F1:Rn A x.S H (upd H A.l (.dK (dS x.S λp=>jv (Za x g k p)))):=Rn.upd (.inl Xb);generalize upd H A.l (.dK (dS x.S λp=>jv (Za x g k p)))=H1 at O F1⊢;obtain⟨ad,ak⟩:=O.ob;refine⟨_,Xb,n,C,ad,_,_,Xb,ak,T.cl,T.members,W9 _,_,Xb,A.m,_,Xb,Xp O.me J,.inl ⟨Xb,_,Zc.of (O.ml k J)⟩,_,Xb,n,C,ad,_,_,Xb,ak,T.cl,T.members,W9 _,_,Xb,A.m,_,Xb,Xp O.me I,A.ml k,A.ml g,_,_,Xb,Xb,O.ml k J,O.ml g I,small (by rw[List.length_map,List.length_map];show(x.mem k).length+(x.mem g).length<=_;omega),?_⟩;have R:=O.Qw8 J (x.mem k++x.mem g);have F2:Rn A x.S H1 (upd H1 (A.ml k) (.lst ((x.mem k++x.mem g).map jv))):=Rn.upd (.inr (.inr (.inr (.inr (.inr (.inr (.inr ⟨k,J,.inl Xb⟩)))))));have e2:((x.mem k).map jv++(x.mem g).map jv)=(x.mem k++x.mem g).map jv:=(List.map_append ..).symm;rw[e2];generalize upd H1 (A.ml k) (.lst ((x.mem k++x.mem g).map jv))=H2 at R F2⊢;obtain⟨ae,al⟩:=R.ob;refine⟨_,Xb,n,C,ae,_,_,Xb,al,T.cl,T.Qem,J1 _,_,Xb,A.u,_,Xb,Xp R.us J,.inl ⟨Xb,_,Zc.of (R.ul k J)⟩,_,Xb,n,C,ae,_,_,Xb,al,T.cl,T.Qem,J1 _,_,Xb,A.u,_,Xb,Xp R.us I,A.ul k,A.ul g,_,_,Xb,Xb,R.ul k J,R.ul g I,small (by rw[List.length_map,List.length_map];show(x.Xk k).length+(x.Xk g).length<=_;omega),?_⟩;have X3:=R.Qqm J (x.Xk k++x.Xk g);have F3:Rn A x.S H2 (upd H2 (A.ul k) (.lst ((x.Xk k++x.Xk g).map jv))):=Rn.upd (.inr (.inr (.inr (.inr (.inr (.inr (.inr ⟨k,J,.inr Xb⟩)))))));have e3:((x.Xk k).map jv++(x.Xk g).map jv)=(x.Xk k++x.Xk g).map jv:=(List.map_append ..).symm;rw[e3];generalize upd H2 (A.ul k) (.lst ((x.Xk k++x.Xk g).map jv))=H3 at X3 F3⊢;have ab:=(F1.trans F2).trans F3;refine⟨Gx _,λr ah=>?_⟩;have s4:=Qf ah (.lst []);have X4:=X3.same s4;obtain⟨ao,ax⟩:=X4.ob;have U:H r=Gf:=ab.there r ah;have ap:(λp=>if p=k then x.Xk k++x.Xk g else x.Xk p) g=x.Xk g:=Gg ar;have ug:∀{j:Hp}{t':Fm->Option Nat}{m:Nat},Z6 P w C j n A fs m {x with lead:=Za x g k,mem:=(λp=>if p=k then x.mem k++x.mem g else x.mem p),Xk:=(λp=>if p=k then x.Xk k++x.Xk g else x.Xk p),tab:=t'}->j (A.ul g)=Ga (.lst ((x.Xk g).map jv)):=λY=>by have:=Y.ul g I;rw[this];show Ga (HO.lst (((λp=>if p=k then x.Xk k++x.Xk g else x.Xk p) g).map jv))=_;rw[ap]
 refine⟨_,Xb,n,C,ao,_,_,Xb,ax,T.cl,T.Qem,J1 _,_,Xb,A.u,_,Xb,Xp X4.us I,A.ul g,Xb,⟨_,Zc.of (ug X4)⟩,Ys (K:=K) (a:=A.ul g) (xs:=(x.Xk g).map jv)
  (λi σ j=>∃(x5 x6:Option V)(es:List V),σ=[Ga (.ref n),Ga (jv g),Ga (jv k),x3,Ga (.ref r),x5,x6]/\
   Z6 P w C j n A fs (tb+i) {x with lead:=Za x g k,mem:=(λp=>if p=k then x.mem k++x.mem g else x.mem p),Xk:=(λp=>if p=k then x.Xk k++x.Xk g else x.Xk p),tab:=(scan (ρ:=U5) (Zn (Yh fs) (Zp fs) (Za x g k)) ((x.Xk g).take i) x.tab []).1}/\
   Rn A x.S H j/\j r=Ga (.lst es)/\Paired (Rr j) es (scan (ρ:=U5) (Zn (Yh fs) (Zp fs) (Za x g k)) ((x.Xk g).take i) x.tab []).2)
  ⟨_,_,[],Xb,?_,ab.trans (Rn.of s4),Qb,.nil⟩ (λi σ j _⟨_,_,_,_,Y,_⟩=>Zc.of (ug Y)) ?_ ?_⟩
 ·exact X4
 ·rintro i y σ j hi ⟨x5,x6,es,rfl,Y,F5,N,l5⟩;rw[List.getElem?_map]at hi;cases eq:(x.Xk g)[i]? with
  |none=>rw[eq]at hi;cases hi
  |some u=>
   rw[eq]at hi;cases hi;have an:=uS u (List.mem_of_getElem? eq);have il:i<(x.Xk g).length:=(List.getElem?_eq_some_iff.mp eq).1;obtain⟨af,am⟩:=Y.ob;obtain⟨kvs,D,d2,d3⟩:=Y.ta;have aB:es.length<=i:=by rw[Paired.length l5];have:=scan_len (ρ:=U5) (ky:=Zn (Yh fs) (Zp fs) (Za x g k)) (l:=(x.Xk g).take i) (t:=x.tab) (f:=[]);rw[List.length_take]at this;simp at this;omega
   refine⟨_,Xb,n,C,af,_,_,Xb,am,T.cl,T.table,Qh2 _,⟨A.t,kvs,Xb,D.at_⟩,_,Xb,n,af,_,Xb,am,Qcw _,_,Xb,n,A,fs,_,_,u,Xb,Y,fok.lt u an,λq hq=>fok.pts u an q hq,by have:=fok.few u;omega,λc H6 B c6 aq=>⟨_,Xb,?_⟩⟩;have Y6:=Y.same B;obtain⟨d,D6,ay,ac⟩:=Y6.ta;have kc:=aq.key (fok.str u);have kk:Yg d (Xc (Zn (Yh fs) (Zp fs) (Za x g k) u))=((scan (ρ:=U5) (Zn (Yh fs) (Zp fs) (Za x g k)) ((x.Xk g).take i) x.tab []).1 (Zn (Yh fs) (Zp fs) (Za x g k) u)).map jv:=ac (Zn (Yh fs) (Zp fs) (Za x g k) u);have W:=Qmy (ky:=Zn (Yh fs) (Zp fs) (Za x g k)) (t:=x.tab) eq;have rO:¬Own A x.S r:=λz=>by rcases X.own z with⟨_,e⟩|⟨_,e⟩|⟨_,e⟩|⟨_,e⟩<;>rw[U]at e<;>cases e
   refine⟨A.t,c,jv u,d,_,Xb,Xb,D6,kc,by rw[Gy];omega,λv hv=>?_,λhn=>?_⟩
   ·
    rw[kk]at hv;cases ev:(scan (ρ:=U5) (Zn (Yh fs) (Zp fs) (Za x g k)) ((x.Xk g).take i) x.tab []).1 (Zn (Yh fs) (Zp fs) (Za x g k) u)with
    |none=>rw[ev]at hv;cases hv
    |some v0=>
     rw[ev]at hv;cases hv;rw[ev]at W;refine⟨_,Xb,_,Xb,Xb,_,Xb,?_⟩;rw[Qfg];by_cases M:v0=u
     ·rw[Gr M];refine Q6 ⟨_,_,es,Xb,?_,F5.trans (Rn.of B),B _ _ N,?_⟩
      ·rw[W];exact Y6.mono (by omega)
      ·rw[W];simp only[Gk M];exact L2.Paired.Z7 l5 λ_ _ h=>h.Qr (Q4.of B)
     ·rw[Gq M];refine Yy ?_;refine⟨_,Xb,.inl ⟨Xb,_,Zc.of (B _ _ N)⟩,_,Xb,_,Xb,by show 3<=Gh;decide,λL Z=>?_⟩;have s7:=Qf Z (.tup [jv u,jv v0,.non]);refine⟨r,es,.ref L,Xb,Xb,s7 _ _ (B _ _ N),by rw[Gy];omega,?_⟩;have G:=B.trans s7;have Y7:=Y.same G;have aw:=G _ _ N;have aa:Q4 j (upd (upd H6 L (.tup [jv u,jv v0,.non])) r (.lst (es++[.ref L]))):=λb xs e=>by rw[Qg (Yi e N nofun)];exact G _ _ e
      have aj:(upd (upd H6 L (.tup [jv u,jv v0,.non])) r (.lst (es++[.ref L]))) L=Ga (.tup [jv u,jv v0,.non]):=by rw[Qg (λz=>by rw[z,B _ _ N]at Z;cases Z),Qb]
      have Y8:Z6 P w C (upd (upd H6 L (.tup [jv u,jv v0,.non])) r (.lst (es++[.ref L]))) n A fs (tb+i) _:=Y7.keep (λb o e hb=>by
       rw[Qg λz=>?_]
       ·exact e
       ·subst z;rcases hb with hb|hb|hb
        ·exact rO hb
        ·obtain⟨ws,f1,_⟩:=X.fo;rw[hb,f1]at U;cases U
        ·rw[hb,o1]at U;cases U) (Zz λxs e=>by rw[aw]at e;cases e)
      refine⟨_,_,_,Xb,?_,⟨λb o e hb=>?_,λb hb=>?_⟩,Qb,?_⟩
      ·rw[W];exact Y8.mono (by omega)
      ·rw[Qg (Qd e U)];exact G _ _ (F5.keep b o e hb)
      ·by_cases e:b=r
       ·subst e;exact U
       ·rw[Qg e]at hb;exact F5.there b (G.free hb)
      ·rw[W];simp only[Gg M];exact Yj (L2.Paired.Z7 l5 λ_ _ h=>h.Qr aa) (.cons ⟨L,.non,Xb,aj,Xb⟩ .nil)
   ·
    rw[kk]at hn;have ev:(scan (ρ:=U5) (Zn (Yh fs) (Zp fs) (Za x g k)) ((x.Xk g).take i) x.tab []).1 (Zn (Yh fs) (Zp fs) (Za x g k) u)=Gf:=by
     cases ev:(scan (ρ:=U5) (Zn (Yh fs) (Zp fs) (Za x g k)) ((x.Xk g).take i) x.tab []).1 (Zn (Yh fs) (Zp fs) (Za x g k) u)with
     |none=>rfl
     |some v0=>rw[ev]at hn;cases hn
    rw[ev]at W;refine⟨_,Xb,_,Xb,Xb,_,Xb,?_⟩;rw[Qfg,Gr rfl];have au:Yg d (Xc (Zn (Yh fs) (Zp fs) (Za x g k) u))=Gf:=by rw[kk];exact hn
    have Y8:=Y6.Qrf (kvs':=d++[(Xc (Zn (Yh fs) (Zp fs) (Za x g k) u),c,jv u)]) D6 (by rw[List.length_append,List.length_singleton];omega) (λp hp=>by
     rcases List.mem_append.mp hp with hp|hp
     ·exact D6.keys p hp
     ·rw[List.mem_singleton]at hp;subst hp;exact kc) (t':=λk'=>if k'=Zn (Yh fs) (Zp fs) (Za x g k) u then Ga u else(scan (ρ:=U5) (Zn (Yh fs) (Zp fs) (Za x g k)) ((x.Xk g).take i) x.tab []).1 k') (λk'=>by
     rw[Qat _ _ _ _ _ au];by_cases e:k'=Zn (Yh fs) (Zp fs) (Za x g k) u
     ·rw[Gk (by rw[e]),Gk e];rfl
     ·rw[Gg (λz=>e (U3 z)),Gg e];exact ac k')
    have rt:r≠A.t:=λz=>rO (by rw[z];exact .inr (.inr (.inr (.inl Xb))));have aa:Q4 j (upd H6 A.t (Vn P w A.t (d++[(Xc (Zn (Yh fs) (Zp fs) (Za x g k) u),c,jv u)]))):=λb xs e=>by rw[Qg (Yi (B _ _ e) D6.at_ nofun)];exact B _ _ e
    refine Q6 ⟨_,_,es,Xb,?_,F5.trans ((Rn.of B).trans (Rn.upd (.inr (.inr (.inr (.inl Xb)))))),?_,?_⟩
    ·rw[W];exact Y8
    ·rw[Qg rt];exact B _ _ N
    ·rw[W];exact L2.Paired.Z7 l5 λ_ _ h=>h.Qr aa
 ·rintro σ j ⟨x5,x6,es,rfl,Y,F5,N,l5⟩;rw[List.length_map,List.take_length]at Y l5;exact⟨_,Xb,q r es j Y F5 U N l5⟩
end
end K03
namespace Nt
theorem Xo{l S:List Nat}(nd:l.Nodup)(h:∀p∈l,p∈S):l.length<=S.length:=by
 induction l generalizing S with
 |nil=>simp
 |cons a r e=>rw[List.nodup_cons]at nd;have b:=h a (by simp);have:=e (S:=S.erase a) nd.2 λp c=>(List.mem_erase_of_ne (show p≠a fromλz=>nd.1 (by rw[<-z];exact c))).mpr (h p (by simp[c]));rw[List.length_erase_of_mem b]at this;have d:=List.length_pos_of_mem b;simp only[List.length_cons];omega
theorem Qcj{f:Nat->Nat}{g k:Nat}(a:g≠k):∀{S:List Nat},g∈S->k∈S->f g+f k<=(S.map f).sum
 |[],h,_=>by simp at h
 |x::r,d,e=>by
  simp only[List.map_cons,List.sum_cons];by_cases b:x=g
  ·subst b;have:=Jg (f:=f) ((List.mem_cons.mp e).resolve_left (Gm a));omega
  ·by_cases c:x=k
   ·subst c;have:=Jg (f:=f) ((List.mem_cons.mp d).resolve_left a);omega
   ·have:=Qcj (f:=f) a ((List.mem_cons.mp d).resolve_left (Gm b)) ((List.mem_cons.mp e).resolve_left (Gm c));omega
theorem Fst.chS{α:Type}{S:List Nat}{ls:List (Nat×Nat×α)}{Xg:Nat->Nat->Option Nat}{up:Nat->Option Nat}(F:Fst S ls Xg up):∀{p:Nat}{l:List Nat},Ch up p l->p∈S->∀q∈l,q∈S
 |_,_,.top _,b,q,a=>by simp at a;subst a;exact b
 |_,_,.step e h,b,q,a=>by
  rcases List.mem_cons.mp a with rfl|a
  ·exact b
  ·exact F.chS h (F.inS _ _ e).2 q a
theorem Qqp{W ρ:Type}(x:Nst W ρ):cls x<=x.S.length:=List.countP_le_length
end Nt
namespace K03
open PySem L2 Sb Nt
variable{C:Gc}{fd:Tf}
def Qa1(P:Gj)(w:Gu)(C:Gc):Sp:=λvs H Q _=>∃(n:Gc)(A:Na)(fs:List Fm)(tb:Nat)(x:Nn)(c:Gc)(a b:Nat)(r:Option U5)(pend:List Lk),vs=[.ref n,.ref c]/\Z6 P w C H n A fs tb x/\Qd7 fs x.S/\Rr H (.ref c) (a,b,r)/\
 X9 (Yh fs) (Zp fs) x (pend++[(a,b,r)])/\x.lead a≠x.lead b/\x.S.length<=10000/\Vr x<=10000/\x.links.length<=100000/\tb+Vr x<=1000000/\
 ∀(lo hi:Nat)(cl:List Nat)(l:Gc)(es:List V)(H':Hp),((lo=a/\hi=b)\/(lo=b/\hi=a))->Ch x.up lo cl->Z6 P w C H' n A fs (tb+Vr x) (Yo (Yh fs) (Zp fs) x a b r lo hi cl).1->Rn A x.S H H'->H l=Gf->H' l=Ga (.lst es)->
  Paired (Rr H') es (Yo (Yh fs) (Zp fs) x a b r lo hi cl).2->Q (.ref l) H'
section
variable{P:Gj}{w:Gu}{K:PySem.W.Frag}{mg:GJ->Option Value}{base:Heap}
theorem Qa5:Q3 ["self","link","one","other"] ["self","link"] (Qn Ji):=by eq_refl
theorem Qpy{H:Hp}{a b:Gc}{o u:HO}(h:a≠b):upd (upd H a o) b u=upd (upd H b u) a o:=by
 funext c
 by_cases h1:c=b
 ·subst h1;rw[Qb,Qg (Gm h),Qb]
 ·rw[Qg h1];by_cases h2:c=a
  ·subst h2;rw[Qb,Qb]
  ·rw[Qg h2,Qg h2,Qg h1]
theorem I8(x y:V)(vs:List V):atI (x::y::vs) (1:Int)=Ga y:=Qj (xs:=x::y::vs) (j:=1) rfl
theorem Qit(x y z:V)(vs:List V):atI (x::y::z::vs) (2:Int)=Ga z:=Qj (xs:=x::y::z::vs) (j:=2) rfl
theorem Qgk{f fH fG:Gc}{ah ag:Tf}(F:Wz K "merge_link" "Net.merge_link" Ji f fd)(T:V7 K mg C)(B:J0 mg)(mH:Yd K C "hang" fH)(GH:Qz P w K mg base Yb 1 fH ah ["self","low","high"] (Qi2 P w C))(bH:Binds K ah ["self","low","high"] [])
  (mG:Yd K C "give_over" fG)(GG:Qz P w K mg base Yb 2 fG ag ["self","gone","kept"] (Qkr P w C))(bG:Binds K ag ["self","gone","kept"] []):
  Qz P w K mg base Yb 3 f fd ["self","link"] (Qa1 P w C):=by
 refine F.ok Qa5 (λvs H Q E h=>?_) (λcdv A outer s H vs Q E hr h=>?_)
 ·obtain⟨n,A,fs,tb,x,c,a,b,r,pend,rfl,_⟩:=h;rfl
 obtain⟨n,A,fs,tb,x,c,a,b,r,pend,rfl,X,fok,hc,I,al,hS,hT,hL,az,q⟩:=h;have L:=Ur hr;have am:Yf 1 _:=hr.mono (by omega);have an:Yf 2 _:=hr.mono (by omega);have nd:=Qa5.nd;refine⟨_,Qc (Qy 2 nd (Ql Qm (pv 1) Qi))
  (Qc (Qy 3 nd (Ql Qm (pv 1) Qi))
  (Qc (Ww L (Qu (pv 0) rfl) (Zf (Qa (pv 2) (Qa (pv 3) Qe))) (Qp Z2 rfl B.len PySem.boot_len (Qa (Qu (pv 0) rfl) Qe)) rfl)
  (Qc (Ww L (Qu (pv 0) rfl) (Zf (Qa (pv 3) (Qa (pv 2) Qe))) (Qp Z2 rfl B.len PySem.boot_len (Qa (Qu (pv 0) rfl) Qe)) rfl)
  (Qc (Zk (X0 PySem.F.plainAttrs_list PySem.F.slot_list_append PySem.F.type_list_append Z3 (Qu (pv 0) rfl) (Qa (pv 1) Qe)))
  (Qc (Zb (Qo Qq4 (Qp Z2 rfl B.len PySem.boot_len (Qa (Zv L (Qu (pv 0) rfl) (Zv L (Qu (pv 0) rfl) (pv 2) (λ_ _=>rfl)) (λ_ _=>rfl)) Qe)) (Qp Z2 rfl B.len PySem.boot_len (Qa (Zv L (Qu (pv 0) rfl) (Zv L (Qu (pv 0) rfl) (pv 3) (λ_ _=>rfl)) (λ_ _=>rfl)) Qe)) (Qs _))
   (Qc (Zk (Zg (pv 0) T.cl mH GH am bH .nil Q7 (Qa (pv 2) (Qa (pv 3) Qe))))
    (Qh (Qt (Zg (pv 0) T.cl mG GG an bG .nil Q7 (Qa (Zv L (Qu (pv 0) rfl) (pv 2) (λ_ _=>rfl)) (Qa (Zv L (Qu (pv 0) rfl) (pv 3) (λ_ _=>rfl)) Qe)))))) Qv)
  (Qc (Zk (Zg (pv 0) T.cl mH GH am bH .nil Q7 (Qa (pv 3) (Qa (pv 2) Qe))))
   (Qh (Qt (Zg (pv 0) T.cl mG GG an bG .nil Q7 (Qa (Zv L (Qu (pv 0) rfl) (pv 3) (λ_ _=>rfl)) (Qa (Zv L (Qu (pv 0) rfl) (pv 2) (λ_ _=>rfl)) Qe))))))))))),?_⟩
 obtain⟨dx,o1⟩:=X.ob;obtain⟨c',rv,ec,ai,ay⟩:=id hc;cases ec;obtain⟨ls,l1,l2⟩:=X.li;obtain⟨kv,a1,a2,a3⟩:=X.at_;have ll:ls.length=x.links.length:=Paired.length l2;obtain⟨aS,bS,_⟩:=I.pnd a b r (by simp);have lv:(V.int (ls.length:Int))=jv x.links.length:=by rw[ll];rfl
 refine⟨_,Xb,c,_,_,_,Xb,Xb,Q9.of ai,Ru _ _,_,Xb,c,_,_,_,Xb,Xb,Q9.of ai,I8 _ _ _,?_⟩;refine⟨_,Xb,n,C,dx,_,_,Xb,o1,T.cl,T.links,U2 _,A.k,ls,Xb,.inl (Zc.of l1),?_⟩;rw[lv];refine⟨_,Xb,n,C,dx,_,_,Xb,o1,T.cl,T.Qb2,O9 _,_,Xb,_,Xb,by show 2<=Gh;decide,λc1 D=>?_⟩;have s1:=Qf D (.tup [jv a,jv b]);refine⟨A.a,_,Xb,I9.t (k:=[ki a,ki b]) (s1 _ _ a1) Qb (by rw[Gy];omega),?_⟩;have aw:c1≠A.a:=λz=>by rw[z,a1]at D;cases D
 have nA:n≠A.a:=Yi o1 a1 nofun;have kA:A.k≠A.a:=Yi l1 a1 nofun;generalize R:W8 kv [ki a,ki b] (jv x.links.length)=G;have o2:(upd (upd H c1 (.tup [jv a,jv b])) A.a (.dT G)) n=Ga (.ins C dx (Xe A)):=by rw[Qg nA];exact s1 _ _ o1
 have au:(upd (upd H c1 (.tup [jv a,jv b])) A.a (.dT G)) A.k=Ga (.lst ls):=by rw[Qg kA];exact s1 _ _ l1
 refine⟨_,Xb,n,C,dx,_,_,Xb,o2,T.cl,T.links,U2 _,A.k,ls,Xb,.inl (Zc.of au),?_⟩;rw[lv];refine⟨_,Xb,n,C,dx,_,_,Xb,o2,T.cl,T.Qb2,O9 _,_,Xb,_,Xb,by show 2<=Gh;decide,λc2 u=>?_⟩;have s2:=Qf u (.tup [jv b,jv a]);have af:c2≠A.a:=λz=>by rw[z,Qb]at u;cases u
 have aA:G.length<=2*x.links.length+1:=by rw[<-R];have:=Wg kv [ki a,ki b] (jv x.links.length);omega
 refine⟨A.a,_,Xb,I9.t (k:=[ki b,ki a]) (s2 _ _ Qb) Qb (by rw[Gy];omega),?_⟩;generalize U:W8 G [ki b,ki a] (jv x.links.length)=kv2;have av:kv2.length<=2*(x.links.length+1):=by rw[<-U];have:=Wg G [ki b,ki a] (jv x.links.length);omega
 rw[Qpy (a:=A.a) (b:=c2) (Gm af),Wt];have aj:(upd H c1 (.tup [jv a,jv b])) c2=Gf:=by rw[Qg af]at u;exact u
 have v:Q5 H (upd (upd H c1 (.tup [jv a,jv b])) c2 (.tup [jv b,jv a])):=s1.trans (Qf aj _);generalize ax:upd (upd H c1 (.tup [jv a,jv b])) c2 (.tup [jv b,jv a])=Ha at v;have o3:(upd Ha A.a (.dT kv2)) n=Ga (.ins C dx (Xe A)):=by rw[Qg nA];exact v _ _ o1
 have l3:(upd Ha A.a (.dT kv2)) A.k=Ga (.lst ls):=by rw[Qg kA];exact v _ _ l1
 refine⟨_,Xb,n,C,dx,_,_,Xb,o3,T.cl,T.links,U2 _,.inl ⟨Xb,_,Zc.of l3⟩,_,Xb,A.k,ls,_,Xb,Xb,l3,by rw[Gy];omega,?_⟩;have Xa:=X.same v;have M:=Xa.Qud (kv2:=kv2) (ls':=ls++[.ref c]) (lks:=x.links++[(a,b,r)]) (lat':=O5 x.Xg a b x.links.length) (by rw[List.length_append,List.length_singleton];exact av) (λi j=>by
  rw[<-U,Qdl,<-R,Qdl,a3];unfold O5;by_cases h1:(i=a/\j=b)\/(i=b/\j=a)
  ·rw[Gk h1];rcases h1 with⟨rfl,rfl⟩|⟨rfl,rfl⟩
   ·rw[Gk rfl];split<;>rfl
   ·rw[Gk rfl];rfl
  ·rw[Gg h1,Gg (λz=>h1 (by simp only[List.cons.injEq,Ls]at z;exact .inr ⟨Jf z.1,Jf z.2⟩)),Gg (λz=>h1 (by simp only[List.cons.injEq,Ls]at z;exact .inl ⟨Jf z.1,Jf z.2⟩))])
  (Yj (L2.Paired.Z7 l2 λ_ _ h=>h.Qr (Q4.of v)) (.cons (hc.Qr (Q4.of v)) .nil))
 have Fb:Rn A x.S H (upd (upd Ha A.a (.dT kv2)) A.k (.lst (ls++[.ref c]))):=((Rn.of v).trans (Rn.upd (.inr (.inr (.inr (.inr (.inr (.inl Xb)))))))).trans (Rn.upd (.inr (.inr (.inr (.inr (.inl Xb))))));generalize upd (upd Ha A.a (.dT kv2)) A.k (.lst (ls++[.ref c]))=Hb at M Fb;obtain⟨y,ob⟩:=M.ob;have ao:=I.ld a aS;have ap:=I.ld b bS;have go:∀lo hi,((lo=a/\hi=b)\/(lo=b/\hi=a))->Qi2 P w C [.ref n,jv lo,jv hi] Hb (λ_ H1=>∃d,H1 n=Ga (.ins C d (Xe A))/\H1 A.l=Ga (.dK (dS x.S λp=>jv (x.lead p)))/\Qkr P w C [.ref n,jv (x.lead lo),jv (x.lead hi)] H1 Q E) E:=by
  intro lo hi N;have O:lo∈x.S:=by rcases N with⟨h,_⟩|⟨h,_⟩<;>rw[h]<;>assumption
  have ak:hi∈x.S:=by rcases N with⟨_,h⟩|⟨_,h⟩<;>rw[h]<;>assumption
  have W:x.lead lo≠x.lead hi:=by
   rcases N with⟨h1,h2⟩|⟨h1,h2⟩<;>rw[h1,h2]
   ·exact al
   ·exact Gm al
  have gS:=I.ld lo O;have gg:=I.idem lo O;have kS:=I.ld hi ak;have kk:=I.idem hi ak;obtain⟨cl,aa⟩:=I.fst.chain lo O;refine⟨n,A,fs,tb,_,lo,hi,cl,Xb,M,aa,I.fst.chS aa O,by show x.S.length<=_;omega,λH1 X1 k1 t1=>?_⟩;obtain⟨d,g⟩:=X1.ob;have F1:Rn A x.S Hb H1:=⟨λb o e hb=>k1 b o e (λz=>hb (z▸.inr (.inr (.inr (.inr (.inr (.inr (.inl Xb)))))))),t1⟩;have aB:=Xo (I.Qjp _ gS gg) λp hp=>((I.Qbh _ gS gg p).mp hp).1;have aC:=Xo (I.Qjp _ kS kk) λp hp=>((I.Qbh _ kS kk p).mp hp).1;have ae:=Qcj (f:=λp=>if x.lead p=p then(x.Xk p).length else 0) W gS kS;rw[Gk gg,Gk kk]at ae;have ae:(x.Xk (x.lead lo)).length+(x.Xk (x.lead hi)).length<=Vr x:=ae;refine⟨d,g,X1.le,n,A,fs,tb,_,x.lead lo,x.lead hi,Xb,X1,fok,gS,kS,W,λp hp=>((I.Qbh _ gS gg p).mp hp).1,λp hp=>I.Qis _ gS p hp,by show x.S.length<=_;omega,?_,?_,?_,λl es H' Y FY lY rY pY=>?_⟩
  ·show(x.mem (x.lead hi)).length+(x.mem (x.lead lo)).length<=_;omega
  ·show(x.Xk (x.lead hi)).length+(x.Xk (x.lead lo)).length<=_;omega
  ·show tb+(x.Xk (x.lead lo)).length<=_;omega
  ·refine q lo hi cl l es H' N aa (Z6.mono ?_ Y) ((Fb.trans F1).trans FY) (Fb.there l (t1 l lY)) rY pY;show tb+(x.Xk (x.lead lo)).length<=_;omega
 have aq:=go a b (.inl ⟨Xb,Xb⟩);have ar:=go b a (.inr ⟨Xb,Xb⟩);refine⟨_,Xb,n,C,y,_,_,Xb,ob,T.cl,T.members,W9 _,_,Xb,n,C,y,_,_,Xb,ob,T.cl,T.W0,Yt _,_,Xb,A.l,_,Xb,Xp M.le aS,A.m,_,Xb,Xp M.me ao,_,_,Xb,.inl (Zc.of (M.ml _ ao)),_,Xb,n,C,y,_,_,Xb,ob,T.cl,T.members,W9 _,_,Xb,n,C,y,_,_,Xb,ob,T.cl,T.W0,Yt _,_,Xb,A.l,_,Xb,Xp M.le bS,A.m,_,Xb,Xp M.me ap,_,_,Xb,.inl (Zc.of (M.ml _ ap)),_,_,Xb,Xb,_,Xb,?_⟩;refine Iz (λ_=>?_) (λ_=>?_)
 ·obtain⟨n',A',fs',ad,x',ac,ab,Z,e1,e2,e3,e4,e5,e6⟩:=aq;refine⟨_,Xb,n,y,_,Xb,ob,Qmu _,_,Xb,_,Xb,n',A',fs',ad,x',ac,ab,Z,e1,e2,e3,e4,e5,λH1 y1 y2 y3=>?_⟩;obtain⟨d,g,J,g1⟩:=e6 H1 y1 y2 y3;exact⟨_,Xb,n,d,_,Xb,g,Qba _,_,Xb,n,C,d,_,_,Xb,g,T.cl,T.W0,Yt _,_,Xb,A.l,_,Xb,Xp J aS,_,Xb,n,C,d,_,_,Xb,g,T.cl,T.W0,Yt _,_,Xb,A.l,_,Xb,Xp J bS,g1⟩
 ·obtain⟨n',A',fs',ad,x',ac,ab,Z,e1,e2,e3,e4,e5,e6⟩:=ar;refine⟨_,Xb,n,y,_,Xb,ob,Qmu _,_,Xb,_,Xb,n',A',fs',ad,x',ac,ab,Z,e1,e2,e3,e4,e5,λH1 y1 y2 y3=>?_⟩;obtain⟨d,g,J,g1⟩:=e6 H1 y1 y2 y3;exact⟨_,Xb,n,d,_,Xb,g,Qba _,_,Xb,n,C,d,_,_,Xb,g,T.cl,T.W0,Yt _,_,Xb,A.l,_,Xb,Xp J bS,_,Xb,n,C,d,_,_,Xb,g,T.cl,T.W0,Yt _,_,Xb,A.l,_,Xb,Xp J aS,g1⟩
end
structure Mgd(fs:List Fm)(x x':Nn)(a b:Nat)(r:Option U5)(pend:List Lk):Prop where
 inv:X9 (Yh fs) (Zp fs) x' pend
 S:x'.S=x.S
 Vr:Vr x'=Vr x
 eq:Cj x.S x'.lead pend a b
 mono:∀p∈x.S,∀q∈x.S,x.lead p=x.lead q->x'.lead p=x'.lead q
 snd:∀E,Ec (Yh fs) (Zp fs) x.S E->Snd E x [(a,b,r)]->Snd E x' pend
 rsn:∀y∈x'.links,y∈x.links\/y=(a,b,r)\/y.2.2=Gf
 pnd:∀y∈pend,y=(a,b,r)\/y.2.2=Gf
 less:cls x'+x'.links.length<=cls x+x.links.length
 more:x.links.length<=x'.links.length
def Qfo(P:Gj)(w:Gu)(C:Gc):Sp:=λvs H Q _=>∃(n:Gc)(A:Na)(fs:List Fm)(tb:Nat)(x:Nn)(a b:Nat)(rv:V)(r:Option U5),vs=[.ref n,jv a,jv b,rv]/\Z6 P w C H n A fs tb x/\Qd7 fs x.S/\Qog H rv r/\r≠Gf/\a∈x.S/\b∈x.S/\
 X9 (Yh fs) (Zp fs) x []/\x.S.length<=10000/\Vr x<=10000/\cls x+x.links.length<=10000/\tb+cls x*Vr x<=900000/\
 ∀(c:Nn)(H':Hp),Z6 P w C H' n A fs (tb+(c.links.length - x.links.length)*Vr x) c->Mgd fs x c a b r []->Rn A x.S H H'->Q .non H'
theorem Mgd.start{fs:List Fm}{x:Nn}{a b:Nat}{r:Option U5}(I:X9 (Yh fs) (Zp fs) x [])(c:r≠Gf)(aS:a∈x.S)(bS:b∈x.S):Mgd fs x x a b r [(a,b,r)]:=
 ⟨I.Qk3 (λ_ _ _ h=>by simp at h) λd f g h=>by simp at h;obtain⟨rfl,rfl,rfl⟩:=h;exact⟨aS,bS,λe=>absurd e c⟩,Xb,Xb,.wait (r:=r) (by simp),λ_ _ _ _ e=>e,λE _ h=>h,λy h=>.inl h,λy h=>by simp at h;exact .inl h,Gn _,Gn _⟩
theorem Mgd.drop{fs:List Fm}{x c:Nn}{a b d f:Nat}{r g:Option U5}{pend:List Lk}(M:Mgd fs x c a b r (pend++[(d,f,g)]))(e:c.lead d=c.lead f):Mgd fs x c a b r pend:=by
 obtain⟨aS,bS,_⟩:=M.inv.pnd d f g (by simp);rw[M.S]at aS bS;refine⟨M.inv.drop e,M.S,M.Vr,M.eq.map (λp i q j e=>.lead i j e) (λp q l m=>?_),M.mono,λE X h=>⟨(M.snd E X h).1,λu v s m=>(M.snd E X h).2 u v s (List.mem_append_left _ m)⟩,M.rsn,λy k=>M.pnd y (List.mem_append_left _ k),M.less,M.more⟩;rcases List.mem_append.mp m with m|m
 ·exact .wait m
 ·simp at m;obtain⟨rfl,rfl,rfl⟩:=m;exact .lead aS bS e
theorem Mgd.join{fs:List Fm}{x c:Nn}{a b d f:Nat}{r j:Option U5}{pend:List Lk}(M:Mgd fs x c a b r (pend++[(d,f,j)]))(k:c.lead d≠c.lead f){lo hi:Nat}{cl:List Nat}(i:(lo=d/\hi=f)\/(lo=f/\hi=d))(t:Ch c.up lo cl):
  Mgd fs x (Yo (Yh fs) (Zp fs) c d f j lo hi cl).1 a b r (pend++(Yo (Yh fs) (Zp fs) c d f j lo hi cl).2):=by
 obtain⟨aS,bS,_⟩:=M.inv.pnd d f j (by simp);obtain⟨J,L⟩:=M.inv.join k i t;obtain⟨l1,l2,A,B⟩:=M.inv.less k i t;have w:∀p∈c.S,∀q∈c.S,c.lead p=c.lead q->(Yo (Yh fs) (Zp fs) c d f j lo hi cl).1.lead p=(Yo (Yh fs) (Zp fs) c d f j lo hi cl).1.lead q:=λp l q n e=>by rw[L p l,L q n,e]
 have o:(Yo (Yh fs) (Zp fs) c d f j lo hi cl).1.lead d=(Yo (Yh fs) (Zp fs) c d f j lo hi cl).1.lead f:=by
  rw[L d aS,L f bS];rcases i with⟨rfl,rfl⟩|⟨rfl,rfl⟩
  ·rw[Gk rfl];split<;>rfl
  ·rw[Gk rfl];split<;>rfl
 refine⟨J,M.S,l2.trans M.Vr,M.eq.map (λp l q n e=>.lead l n (w p (M.S▸l) q (M.S▸n) e)) (λp q z m=>?_),λp l q n e=>w p (M.S▸l) q (M.S▸n) (M.mono p l q n e),λE X h=>Snd.join (M.snd E X h) (by rw[M.S];exact X) M.inv k i t,λy g=>?_,λy g=>?_,?_,?_⟩
 ·rcases List.mem_append.mp m with m|m
  ·exact .wait (List.mem_append_left _ m)
  ·simp at m;obtain⟨rfl,rfl,rfl⟩:=m;exact .lead (M.S▸aS) (M.S▸bS) o
 ·have g:y∈c.links++[(d,f,j)]:=g;rcases List.mem_append.mp g with g|g
  ·exact M.rsn y g
  ·rw[List.mem_singleton]at g;subst g;exact .inr (M.pnd _ (by simp))
 ·rcases List.mem_append.mp g with g|g
  ·exact M.pnd y (List.mem_append_left _ g)
  ·obtain⟨u,v,s⟩:=y;exact .inr (Qkf g)
 ·have:=M.less;omega
 ·have:=M.more;omega
section
variable{P:Gj}{w:Gu}{K:PySem.W.Frag}{mg:GJ->Option Value}{base:Heap}
theorem Ql2:Q3 ["self","one","other","reason","waiting","link"] ["self","one","other","reason"] (Qn Qgj):=by eq_refl
theorem Jm{α β:Type}{F:α->β->Prop}:∀{xs:List α}{ys:List β},Paired F xs ys->xs≠[]->∃x y,xs[xs.length - 1]?=Ga x/\ys=ys.dropLast++[y]/\F x y/\Paired F xs.dropLast ys.dropLast
 |_,_,.nil,h=>absurd rfl h
 |_,_,.cons h .nil,_=>⟨_,_,Xb,Xb,h,.nil⟩
 |_,_,.cons h (.cons k t),_=>by
  obtain⟨x,y,a,b,c,d⟩:=Jm (.cons k t) (by simp);refine⟨x,y,?_,?_,c,?_⟩
  ·simpa using a
  ·simp only[List.dropLast_cons_cons,List.cons_append];rw[<-b]
  ·simp only[List.dropLast_cons_cons];exact .cons h d
theorem Qsc{f fE fM:Gc}{ab ac:Tf}(F:Wz K "merge" "Net.merge" Qgj f fd)(T:V7 K mg C)(mE:Yd K C "equal" fE)(GE:Qz P w K mg base Yb 1 fE ab ["self","one","other"] (Qb4 P w C))(bE:Binds K ab ["self","one","other"] [])
  (mM:Yd K C "merge_link" fM)(GM:Qz P w K mg base Yb 3 fM ac ["self","link"] (Qa1 P w C))(bM:Binds K ac ["self","link"] []):
  Qz P w K mg base Yb 4 f fd ["self","one","other","reason"] (Qfo P w C):=by
 refine F.ok Ql2 (λvs H Q E h=>?_) (λcdv A outer s H vs Q E hr h=>?_)
 ·obtain⟨n,A,fs,tb,x,a,b,rv,r,rfl,_⟩:=h;rfl
 obtain⟨n,A,fs,tb,x,a,b,rv,r,rfl,X,fok,ap,ao,aS,bS,I,hS,hT,aw,az,q⟩:=h;have am:Yf 1 _:=hr.mono (by omega);have an:Yf 3 _:=hr.mono (by omega);have nd:=Ql2.nd;refine⟨_,Qc (Qy 4 nd (Zr (Qa (Zf (Qa (pv 1) (Qa (pv 2) (Qa (pv 3) Qe)))) Qe)))
  (Qh (Wn Gs (Qqk (pv 4) (λ_=>rfl))
   (Qc (Qy 5 nd (Qab PySem.F.plainAttrs_list PySem.F.slot_list_pop PySem.F.type_list_pop Qav (pv 4)))
   (Qh (Zb (Ym (Yc (Zg (pv 0) T.cl mE GE am bE .nil Q7 (Qa (Ql Qm (pv 5) Qi) (Qa (Ql Qm (pv 5) Qi) Qe)))))
    (Qh (Zk (X0 PySem.F.plainAttrs_list PySem.F.slot_list_extend PySem.F.type_list_extend O3 (pv 4) (Qa (Zg (pv 0) T.cl mM GM an bM .nil Q7 (Qa (pv 5) Qe)) Qe)))) Qv))))),?_⟩
 obtain⟨dx,o1⟩:=X.ob;refine⟨_,Xb,_,Xb,_,Xb,by show 3<=Gh;decide,λc hc=>?_⟩;have s1:=Qf hc (.tup [jv a,jv b,rv]);refine⟨by show 1<=Gh;decide,λi af=>?_⟩;have s2:=Qf af (.lst [.ref c]);have L:=s1.trans s2;have D:H i=Gf:=s1.free af;have wO:¬Own A x.S i:=X.Qw6 D;have wf:i≠A.f:=λz=>by obtain⟨g,f1,_⟩:=X.fo;rw[z,f1]at D;cases D
 have wn:i≠n:=λz=>by rw[z,o1]at D;cases D
 dsimp only[V2];refine Qdq (λm σ H2=>∃(x5:Option V)(g:List V)(d:Nn)(pend:List Lk),m=cls d*(Vr x+1)+pend.length/\σ=[Ga (.ref n),Ga (jv a),Ga (jv b),Ga rv,Ga (.ref i),x5]/\H2 i=Ga (.lst g)/\Paired (Rr H2) g pend/\
   Z6 P w C H2 n A fs (tb+(d.links.length - x.links.length)*Vr x) d/\Mgd fs x d a b r pend/\Rn A x.S H H2/\pend.length<=1+(cls x - cls d)*Vr x)
  ⟨_,Gf,[.ref c],x,[(a,b,r)],Xb,Xb,Qb,.cons ⟨c,rv,Xb,s2 _ _ Qb,ap.Qr (Q4.of L)⟩ .nil,(X.same L).mono (by omega),Mgd.start I ao aS bS,Rn.of L,by simp⟩ ?_ (λσ H Q Q' hQ=>λh=>by obtain⟨v,e1,k,e2,e3⟩:=h;exact⟨v,e1,k,e2,hQ _ _ e3⟩)
 rintro m σ H2 ⟨x5,g,d,pend,rfl,rfl,w2,p2,Y,M,F2,pl⟩;refine⟨_,Xb,_,.inl ⟨g,Zc.of w2,Xb⟩,?_⟩;have au:=Paired.length p2;have av:=Qqp x;cases hw:g with
 |nil=>refine Q6 ?_;subst hw;cases p2;exact q d H2 Y M F2
 |cons z zs=>
  refine Yy ?_;have al:g≠[]:=by rw[hw];simp
  obtain⟨v,⟨u,y,J⟩,e1,e2,e3,e4⟩:=Jm p2 al;have t:pend.length=pend.dropLast.length+1:=by rw[e2];simp
  obtain⟨c5,aq,rfl,ad,aj⟩:=e3;refine⟨_,Xb,.inl ⟨Xb,_,Zc.of w2⟩,i,g,_,Xb,Xb,w2,e1,?_⟩;have B:Q4 H2 (upd H2 i (.lst g.dropLast)):=Zz λxs e=>by rw[w2]at e;cases e
  have O:=M.S;have R:Z6 P w C (upd H2 i (.lst g.dropLast)) n A fs (tb+(d.links.length - x.links.length)*Vr x) d:=Y.keep (λj o e hb=>by
   rw[Qg λz=>?_]
   ·exact e
   ·subst z;rcases hb with hb|hb|hb
    ·rw[O]at hb;exact wO hb
    ·exact wf hb
    ·exact wn hb) B
  have F3:Rn A x.S H (upd H2 i (.lst g.dropLast)):=⟨λj o e hb=>by rw[Qg (Qd e D)];exact F2.keep j o e hb,λj hb=>by
   by_cases e:j=i
   ·subst e;exact D
   ·rw[Qg e]at hb;exact F2.there j hb⟩
  have w3:(upd H2 i (.lst g.dropLast)) i=Ga (.lst g.dropLast):=Qb;have p3:Paired (Rr (upd H2 i (.lst g.dropLast))) g.dropLast pend.dropLast:=L2.Paired.Z7 e4 λ_ _ h=>h.Qr B;have l3:Rr (upd H2 i (.lst g.dropLast)) (.ref c5) (u,y,J):=Rr.Qr B ⟨c5,aq,Xb,ad,aj⟩;have G:=B _ _ ad;generalize upd H2 i (.lst g.dropLast)=H3 at R F3 w3 p3 l3 G;rw[e2]at M;generalize pend.dropLast=pd at M p3 t;obtain⟨ah,ai,_⟩:=M.inv.pnd u y J (by simp);obtain⟨aa,o3⟩:=R.ob;refine⟨_,Xb,n,aa,_,Xb,o3,Qcf _,_,Xb,c5,_,_,_,Xb,Xb,Q9.of G,Ru _ _,_,Xb,c5,_,_,_,Xb,Xb,Q9.of G,I8 _ _ _,n,A,fs,_,d,u,y,Xb,R,ah,ai,_,Xb,?_⟩;by_cases p:d.lead u=d.lead y
  ·rw[Gr p];refine Q6 ⟨_,?_,_,g.dropLast,d,pd,Xb,Xb,w3,p3,R,M.drop p,F3,by omega⟩;omega
  ·rw[Gq p];refine Yy ?_;have ak:d.links.length - x.links.length<=cls x:=by have:=M.less;omega
   have ar:(d.links.length - x.links.length)*Vr x<=cls x*Vr x:=DC _ ak;have U:=M.Vr;have aB:g.dropLast.length=pd.length:=Paired.length p3;have ax:pd.length+Vr x<=1000000:=by have:(cls x - cls d)*Vr x<=cls x*Vr x:=DC _ (Nat.sub_le _ _);omega
   refine⟨_,Xb,.inl ⟨Xb,_,Zc.of w3⟩,_,Xb,n,aa,_,Xb,o3,Qf5 _,_,Xb,n,A,fs,_,d,c5,u,y,J,pd,Xb,R,by rw[O];exact fok,l3,M.inv,p,by rw[O];exact hS,by rw[U];exact hT,by have:=M.less;omega,by rw[U];omega,λlo hi cl l es Z ae hc Y4 W hl r4 p4=>?_⟩;rw[O]at W;have w4:Z i=Ga (.lst g.dropLast):=W.keep _ _ w3 wO;have ay:l≠i:=λz=>by rw[z,w3]at hl;cases hl
   obtain⟨j1,j2,j3,j4⟩:=M.inv.less p ae hc;have aA:es.length<=Vr x:=by rw[Paired.length p4,<-U];exact j3
   refine⟨i,l,g.dropLast,es,Xb,Xb,w4,r4,small (by omega),?_⟩;have ag:Q4 H3 Z:=λj xs e=>W.keep j _ e (by rw[<-O];exact R.Qji e);have N:Q4 Z (upd Z i (.lst (g.dropLast++es))):=Zz λxs e=>by rw[w4]at e;cases e
   have Y5:Z6 P w C (upd Z i (.lst (g.dropLast++es))) n A fs _ _:=Y4.keep (λj o e hb=>by
    rw[Qg λz=>?_]
    ·exact e
    ·subst z;rcases hb with hb|hb|hb
     ·have hb:Own A d.S j:=hb;rw[O]at hb;exact wO hb
     ·exact wf hb
     ·exact wn hb) N
   have M5:=M.join p ae hc;refine⟨cls (Yo (Yh fs) (Zp fs) d u y J lo hi cl).1*(Vr x+1)+(pd++(Yo (Yh fs) (Zp fs) d u y J lo hi cl).2).length,?_,_,_,_,_,Xb,Xb,Qb,Yj (L2.Paired.Z7 p3 λ_ _ h=>(h.Qr ag).Qr N) (L2.Paired.Z7 p4 λ_ _ h=>h.Qr N),Y5.mono ?_,M5,⟨λj o e hb=>?_,λj hb=>?_⟩,?_⟩
   ·rw[List.length_append,t];have hj:cls (Yo (Yh fs) (Zp fs) d u y J lo hi cl).1+1<=cls d:=j1;have:=DC (Vr x+1) hj;rw[DK,Lh]at this;rw[U]at j3;omega
   ·rw[U,j4];have:=M.more;rw[show d.links.length+1 - x.links.length=(d.links.length - x.links.length)+1 by omega,DK,Lh];omega
   ·rw[Qg (Qd e D)];exact W.keep j o (F3.keep j o e hb) hb
   ·by_cases e:j=i
    ·subst e;exact D
    ·rw[Qg e]at hb;exact F3.there j (W.there j hb)
   ·rw[List.length_append];have h1:cls x - cls d+1<=cls x - cls (Yo (Yh fs) (Zp fs) d u y J lo hi cl).1:=by have:=M.less;have:=M.more;omega
    have:=DC (Vr x) h1;rw[DK,Lh]at this;rw[U]at j3;omega
end
def Qeq(P:Gj)(w:Gu)(C:Gc):Sp:=λvs H Q _=>∃(n dx f:Gc)(a:List V)(fs:List Fm),vs=[.ref n,.ref f]/\H n=Ga (.ins C dx [])/\H f=Ga (.lst a)/\Paired (Rm H) a fs/\
 ∀(A:Na)(H':Hp),A.f=f->Z6 P w C H' n A fs 0 (fresh (Yh fs) (Zp fs) [])->(∀b o,H b=Ga o->b≠n->H' b=Ga o)->(∀b,Own A [] b->H b=Gf)->Q .non H'
section
variable{P:Gj}{w:Gu}{K:PySem.W.Frag}{mg:GJ->Option Value}{base:Heap}
theorem Qnq:Q3 ["self","forms"] ["self","forms"] (Qn Oy):=by eq_refl
theorem Qi1{f0:Gc}(F:Wz K "__init__" "Net.__init__" Oy f0 fd)(T:V7 K mg C):Qz P w K mg base Yb 1 f0 fd ["self","forms"] (Qeq P w C):=by
 refine F.ok Qnq (λvs H Q E h=>?_) (λcdv A outer s H vs Q E hr h=>?_)
 ·obtain⟨n,dx,f,ws,fs,rfl,_⟩:=h;rfl
 obtain⟨n,dx,f,ws,fs,rfl,hn,hf,ai,q⟩:=h;refine⟨_,Qc (Xj (pv 0) (pv 1) rfl) (Qc (Xj (pv 0) Ux Xb) (Qc (Xj (pv 0) Ux Xb) (Qc (Xj (pv 0) Ux Xb) (Qc (Xj (tv:=Qjs P w) (pv 0) Ig Xb) (Qc (Xj (pv 0) (Zr Qe) rfl) (Qc (Xj (pv 0) Qdb Xb) (Qh (Xj (pv 0) Ux Xb)))))))),?_⟩;have st:∀{H0:Hp}{b a:Gc}{o oa:HO}{fs':List (GJ×V)},H0 b=Ga o->b≠n->H0 a=Gf->(upd (upd H0 a oa) n (.ins C dx fs')) b=Ga o:=λe hb ha=>by rw[Qg hb,Qg (Qd e ha)];exact e
 have sn:∀{H0:Hp}{a:Gc}{oa:HO}{fs':List (GJ×V)}{o:HO},H0 n=Ga o->H0 a=Gf->(upd (upd H0 a oa) n (.ins C dx fs')) a=Ga oa:=λe ha=>by rw[Qg (Gm (Qd e ha)),Qb]
 refine⟨_,Xb,_,Xb,n,C,dx,[],Xb,hn,T.cl,T.Qcy,by show 0<1000;decide,?_⟩;have fn:f≠n:=Yi hf hn nofun;have g0:∀b o,H b=Ga o->b≠n->(upd H n (.ins C dx (Yv "forms" (.ref f) []))) b=Ga o:=λb o e hb=>by rw[Qg hb];exact e
 have n0:(upd H n (.ins C dx (Yv "forms" (.ref f) []))) n=Ga (.ins C dx (Yv "forms" (.ref f) [])):=Qb;have t0:∀b,(upd H n (.ins C dx (Yv "forms" (.ref f) []))) b=Gf->H b=Gf:=λb hb=>by
  by_cases e:b=n
  ·subst e;rw[Qb]at hb;cases hb
  ·rw[Qg e]at hb;exact hb
 generalize upd H n (.ins C dx (Yv "forms" (.ref f) []))=H0 at g0 n0 t0;have tt:∀{H0:Hp}{a:Gc}{oa:HO}{fs':List (GJ×V)},(∀b,H0 b=Gf->H b=Gf)->∀b,(upd (upd H0 a oa) n (.ins C dx fs')) b=Gf->H b=Gf:=λh b hb=>by
  refine h b ?_;by_cases e:b=n
  ·subst e;rw[Qb]at hb;cases hb
  ·rw[Qg e]at hb
   rename_i H0 a oa fs'
   by_cases e2:b=a
   ·subst e2;rw[Qb]at hb;cases hb
   ·rw[Qg e2]at hb;exact hb
 intro c J;refine⟨_,Xb,n,C,dx,_,Xb,(by rw[Qg (Qd n0 J)];exact n0),T.cl,T.W0,by show 1<1000;decide,?_⟩;have l1:=@sn H0 c (.dK []) (Yv "leads" (.ref c) (Yv "forms" (.ref f) [])) _ n0 J;have n1:=@Qb (upd H0 c (.dK [])) n (.ins C dx (Yv "leads" (.ref c) (Yv "forms" (.ref f) [])));have g1:∀b o,H b=Ga o->b≠n->_:=λb o e hb=>@st H0 b c o (.dK []) (Yv "leads" (.ref c) (Yv "forms" (.ref f) [])) (g0 b o e hb) hb J;have t1:=@tt H0 c (.dK []) (Yv "leads" (.ref c) (Yv "forms" (.ref f) [])) t0;have ln:c≠n:=Gm (Qd n0 J);have ae:=t0 _ J;generalize upd (upd H0 c (.dK [])) n (.ins C dx (Yv "leads" (.ref c) (Yv "forms" (.ref f) [])))=H1 at l1 n1 g1 t1⊢;intro g B;refine⟨_,Xb,n,C,dx,_,Xb,(by rw[Qg (Qd n1 B)];exact n1),T.cl,T.members,by show 2<1000;decide,?_⟩;generalize D:Yv "members" (.ref g) (Yv "leads" (.ref c) (Yv "forms" (.ref f) []))=X;have m2:=@sn H1 g (.dK []) X _ n1 B;have n2:=@Qb (upd H1 g (.dK [])) n (.ins C dx X);have g2:∀b o,H b=Ga o->b≠n->_:=λb o e hb=>@st H1 b g o (.dK []) X (g1 b o e hb) hb B;have t2:=@tt H1 g (.dK []) X t1;have mn:g≠n:=Gm (Qd n1 B);have af:=t1 _ B;have l2:=@st H1 c g _ (.dK []) X l1 ln B;have lm:c≠g:=Qd l1 B;generalize upd (upd H1 g (.dK [])) n (.ins C dx X)=H2 at m2 n2 g2 t2 l2⊢;intro l r;refine⟨_,Xb,n,C,dx,_,Xb,(by rw[Qg (Qd n2 r)];exact n2),T.cl,T.Qem,by rw[<-D];show 3<1000;decide,?_⟩;generalize I:Yv "users" (.ref l) X=U;have u3:=@sn H2 l (.dK []) U _ n2 r;have n3:=@Qb (upd H2 l (.dK [])) n (.ins C dx U);have g3:∀b o,H b=Ga o->b≠n->_:=λb o e hb=>@st H2 b l o (.dK []) U (g2 b o e hb) hb r;have t3:=@tt H2 l (.dK []) U t2;have un:l≠n:=Gm (Qd n2 r);have ag:=t2 _ r;have l3:=@st H2 c l _ (.dK []) U l2 ln r;have m3:=@st H2 g l _ (.dK []) U m2 mn r;have lu:c≠l:=Qd l2 r;have mu:g≠l:=Qd m2 r;generalize upd (upd H2 l (.dK [])) n (.ins C dx U)=W at u3 n3 g3 t3 l3 m3⊢;intro at_ v;refine⟨_,Xb,n,C,dx,_,Xb,(by rw[Qg (Qd n3 v)];exact n3),T.cl,T.table,by rw[<-I,<-D];show 4<1000;decide,Gx _,?_⟩;generalize S:Yv "table" (.ref at_) U=N;have d4:=@sn W at_ (Vn P w at_ []) N _ n3 v;have n4:=@Qb (upd W at_ (Vn P w at_ [])) n (.ins C dx N);have g4:∀b o,H b=Ga o->b≠n->_:=λb o e hb=>@st W b at_ o (Vn P w at_ []) N (g3 b o e hb) hb v;have t4:=@tt W at_ (Vn P w at_ []) N t3;have dn:at_≠n:=Gm (Qd n3 v);have ab:=t3 _ v;have l4:=@st W c at_ _ (Vn P w at_ []) N l3 ln v;have m4:=@st W g at_ _ (Vn P w at_ []) N m3 mn v;have u4:=@st W l at_ _ (Vn P w at_ []) N u3 un v;generalize upd (upd W at_ (Vn P w at_ [])) n (.ins C dx N)=O at d4 n4 g4 t4 l4 m4 u4⊢;intro t m;refine⟨_,Xb,n,C,dx,_,Xb,(by rw[Qg (Qd n4 m)];exact n4),T.cl,T.links,by rw[<-S,<-I,<-D];show 5<1000;decide,?_⟩;generalize Z:Yv "links" (.ref t) N=L;have k5:=@sn O t (.lst []) L _ n4 m;have n5:=@Qb (upd O t (.lst [])) n (.ins C dx L);have g5:∀b o,H b=Ga o->b≠n->_:=λb o e hb=>@st O b t o (.lst []) L (g4 b o e hb) hb m;have t5:=@tt O t (.lst []) L t4;have kn:t≠n:=Gm (Qd n4 m);have Y:=t4 _ m;have l5:=@st O c t _ (.lst []) L l4 ln m;have m5:=@st O g t _ (.lst []) L m4 mn m;have u5:=@st O l t _ (.lst []) L u4 un m;have d5:=@st O at_ t _ (.lst []) L d4 dn m;generalize upd (upd O t (.lst [])) n (.ins C dx L)=M at k5 n5 g5 t5 l5 m5 u5 d5⊢;intro u d;refine⟨_,Xb,n,C,dx,_,Xb,(by rw[Qg (Qd n5 d)];exact n5),T.cl,T.Qb2,by rw[<-Z,<-S,<-I,<-D];show 6<1000;decide,?_⟩;generalize ac:Yv "link_at" (.ref u) L=G;have a6:=@sn M u (.dT []) G _ n5 d;have n6:=@Qb (upd M u (.dT [])) n (.ins C dx G);have g6:∀b o,H b=Ga o->b≠n->_:=λb o e hb=>@st M b u o (.dT []) G (g5 b o e hb) hb d;have t6:=@tt M u (.dT []) G t5;have an:u≠n:=Gm (Qd n5 d);have ad:=t5 _ d;have l6:=@st M c u _ (.dT []) G l5 ln d;have m6:=@st M g u _ (.dT []) G m5 mn d;have u6:=@st M l u _ (.dT []) G u5 un d;have d6:=@st M at_ u _ (.dT []) G d5 dn d;have k6:=@st M t u _ (.dT []) G k5 kn d;generalize upd (upd M u (.dT [])) n (.ins C dx G)=H6 at a6 n6 g6 t6 l6 m6 u6 d6 k6⊢;intro R x;refine⟨_,Xb,n,C,dx,_,Xb,(by rw[Qg (Qd n6 x)];exact n6),T.cl,T.above,by rw[<-ac,<-Z,<-S,<-I,<-D];show 7<1000;decide,?_⟩;have ah:Yv "above" (.ref R) G=Xe ⟨f,c,g,l,at_,t,u,R,λ_=>0,λ_=>0⟩:=by rw[<-ac,<-Z,<-S,<-I,<-D];rfl
 rw[ah];have v7:=@sn H6 R (.dK []) (Xe ⟨f,c,g,l,at_,t,u,R,λ_=>0,λ_=>0⟩) _ n6 x;have g7:∀b o,H b=Ga o->b≠n->_:=λb o e hb=>@st H6 b R o (.dK []) (Xe ⟨f,c,g,l,at_,t,u,R,λ_=>0,λ_=>0⟩) (g6 b o e hb) hb x;have s7:∀{b o},H6 b=Ga o->b≠n->_:=λ{b o}e hb=>@st H6 b R o (.dK []) (Xe ⟨f,c,g,l,at_,t,u,R,λ_=>0,λ_=>0⟩) e hb x;refine q ⟨f,c,g,l,at_,t,u,R,λ_=>0,λ_=>0⟩ _ rfl ⟨⟨dx,Qb⟩,⟨ws,g7 _ _ hf fn,L2.Paired.Z7 ai λ_ _ h=>h.Qr λb xs e=>g7 b _ e (Yi e hn nofun)⟩,s7 l6 ln,s7 m6 mn,s7 u6 un,⟨[],⟨s7 d6 dn,(λp y=>nomatch y)⟩,Gn _,λk=>rfl⟩,⟨[],s7 k6 kn,.nil⟩,⟨[],s7 a6 an,Gn _,λi j=>rfl⟩,v7,(λp y=>nomatch y),(λp y=>nomatch y),
  ⟨lm,lu,Qd l6 x,mu,Qd m6 x,Qd u6 x,λz=>?_,(λp y=>nomatch y),(λp y=>nomatch y),(λp y=>nomatch y),(λp y=>nomatch y),(λp y=>nomatch y)⟩⟩ g7 (λb hb=>?_)
 ·have z:t=f:=z;rw[z,hf]at Y;cases Y
 ·rcases hb with rfl|rfl|rfl|rfl|rfl|rfl|rfl|⟨p,y,_⟩
  ·exact ae
  ·exact af
  ·exact ag
  ·exact ab
  ·exact Y
  ·exact ad
  ·exact t6 _ x
  ·exact nomatch y
end
end K03
namespace Nt
theorem Qe1{pt:Nat->List Nat}{M:Nat}(h:∀p,(pt p).length<=M):∀(S:List Nat)(q:Nat),(Y0 pt S q).length<=S.length*M
 |[],q=>by simp[Y0]
 |p::S,q=>by have a:=Qe1 h S q;have h1:((pt p).count q)<=(pt p).length:=List.count_le_length;have h2:=h p;unfold Y0 at a⊢;rw[List.flatMap_cons,List.length_append,List.length_replicate,List.length_cons,DK];omega
theorem Qkz{pt:Nat->List Nat}{S:List Nat}{p:Nat}(h:∀q∈S,p∉pt q):Y0 pt S p=[]:=by unfold Y0;rw[List.flatMap_eq_nil_iff];intro q a;have:(pt q).count p=0:=List.count_eq_zero.mpr (h q a);rw[this];rfl
theorem Qbm{l:List Nat}{i u q:Nat}(h:l[i]?=Ga u):(l.take (i+1)).count q=(l.take i).count q+if u=q then 1 else 0:=by
 rw[List.take_add_one,h,List.count_append];congr 1;simp only[Option.toList];rw[List.count_singleton];by_cases e:u=q
 ·rw[Gk e];simp[e]
 ·rw[Gg e];simp[e]
end Nt
namespace K03
open PySem L2 Sb Nt
variable{A:Na}{S:List Nat}{H:Hp}{C:Gc}
structure Qwd(fs:List Fm)(rk:Nat->Nat):Prop where
 str:∀p,TC (Yh fs p)=Ge
 few:∀p,(Zp fs p).length<=100
 pts:∀p,p<fs.length->∀q∈Zp fs p,q<fs.length/\rk q<rk p
 inj:∀p q,p<fs.length->q<fs.length->Yh fs p=Yh fs q->Zp fs p=Zp fs q->p=q
 len:fs.length<=1000
structure Frs(P:Gj)(w:Gu)(C:Gc)(H:Hp)(n:Gc)(A:Na)(fs:List Fm)(S:List Nat):Prop where
 at_:Z6 P w C H n A fs S.length (fresh (Yh fs) (Zp fs) S)
 nd:S.Nodup
 cl:∀p∈S,∀q∈Zp fs p,q∈S
 lt:∀p∈S,p<fs.length
structure FrT(A:Na)(S:List Nat)(A':Na)(S':List Nat)(H H':Hp):Prop where
 keep:∀b o,H b=Ga o->¬Own A S b->H' b=Ga o
 own:∀b,Own A' S' b->Own A S b\/H b=Gf
 there:∀b,H' b=Gf->H b=Gf
theorem FrT.refl:FrT A S A S H H:=⟨λ_ _ e _=>e,λ_ h=>.inl h,λ_ h=>h⟩
theorem FrT.trans{a c:Na}{S1 S2:List Nat}{H1 H2:Hp}(x:FrT A S a S1 H H1)(y:FrT a S1 c S2 H1 H2):FrT A S c S2 H H2:=by
 refine⟨λb o e h=>y.keep b o (x.keep b o e h) λz=>?_,λb h=>?_,λb h=>x.there b (y.there b h)⟩
 ·rcases x.own b z with z|z
  ·exact h z
  ·rw[e]at z;cases z
 ·rcases y.own b h with h|h
  ·exact x.own b h
  ·exact .inr (x.there b h)
def na(A:Na)(ml ul:Nat->Gc):Na:={A with ml:=ml,ul:=ul}
def Qay(P:Gj)(w:Gu)(C:Gc)(k:Nat):Sp:=λvs H Q _=>∃(n:Gc)(A:Na)(fs:List Fm)(b:Nat->Nat)(S:List Nat)(p:Nat),vs=[.ref n,jv p]/\Frs P w C H n A fs S/\Qwd fs b/\p<fs.length/\b p<k/\
 ∀(a:List Nat)(ml ul:Nat->Gc)(H':Hp),Frs P w C H' n (na A ml ul) fs a->(∀q∈S,q∈a)->p∈a->(∀q∈a,q∈S\/b q<=b p)->FrT A S (na A ml ul) a H H'->Q .non H'
section
variable{P:Gj}{w:Gu}{K:PySem.W.Frag}{mg:GJ->Option Value}{base:Heap}
theorem Qg0:Q3 ["self","place","part"] ["self","place"] (Qn R0):=by eq_refl
theorem Qtc{P:Gj}{w:Gu}{n:Gc}{fs:List Fm}{p:Nat}{m0 u0:Gc}(X:Z6 P w C H n A fs S.length (fresh (Yh fs) (Zp fs) S))(W:p∉S)(V:H m0=Gf)(Y:H u0=Gf)(j:m0≠u0)(t:Y0 (Zp fs) S p=[]):
  Z6 P w C (upd (upd (upd (upd (upd (upd H A.l (.dK (dS (S++[p]) λq=>jv q))) m0 (.lst [jv p])) A.m (.dK (dS (S++[p]) λq=>.ref (if q=p then m0 else A.ml q)))) u0 (.lst [])) A.u (.dK (dS (S++[p]) λq=>.ref (if q=p then u0 else A.ul q)))) A.v (.dK (dS (S++[p]) λ_=>.non)))
   n (na A (λq=>if q=p then m0 else A.ml q) (λq=>if q=p then u0 else A.ul q)) fs S.length {fresh (Yh fs) (Zp fs) (S++[p])with Xk:=Y0 (Zp fs) S,tab:=Qa0 (Yh fs) (Zp fs) S}:=by
 obtain⟨dx,o1⟩:=X.ob;obtain⟨ws,x,R⟩:=X.fo;obtain⟨kvs,D,O,Q⟩:=X.ta;obtain⟨ls,l1,l2⟩:=X.li;obtain⟨Z,M,N⟩:=X.at_;have g:∀{b o},H b=Ga o->b≠m0:=λe=>Qd e V;have nu:∀{b o},H b=Ga o->b≠u0:=λe=>Qd e Y;have u:∀{b o},H b=Ga o->b≠A.l->b≠A.m->b≠A.u->b≠A.v->(upd (upd (upd (upd (upd (upd H A.l (.dK (dS (S++[p]) λq=>jv q))) m0 (.lst [jv p])) A.m (.dK (dS (S++[p]) λq=>.ref (if q=p then m0 else A.ml q)))) u0 (.lst [])) A.u (.dK (dS (S++[p]) λq=>.ref (if q=p then u0 else A.ul q)))) A.v (.dK (dS (S++[p]) λ_=>.non))) b=Ga o:=λe h1 h2 T U=>by rw[Qg U,Qg T,Qg (nu e),Qg h2,Qg (g e),Qg h1];exact e
 have no:∀{b o},H b=Ga o->(∀kvs,o≠.dK kvs)->b≠A.l/\b≠A.m/\b≠A.u/\b≠A.v:=λe h=>⟨Yi e X.le (h _),Yi e X.me (h _),Yi e X.us (h _),Yi e X.ab (h _)⟩;have i:∀{b o},H b=Ga o->(∀kvs,o≠.dK kvs)->_:=λ{b o}e h=>u e (no e h).1 (no e h).2.1 (no e h).2.2.1 (no e h).2.2.2;have G:Q4 H _:=λb xs e=>i e (λ_ z=>nomatch z);have y:=g X.le;have E:=g X.me;have I:=g X.us;have K:=g X.ab;have B:=nu X.le;have F:=nu X.me;have J:=nu X.us;have L:=nu X.ab;have ne:∀q∈S,q≠p:=λq a z=>W (z▸a);refine⟨⟨dx,i o1 (λ_ z=>nomatch z)⟩,⟨ws,i x (λ_ z=>nomatch z),L2.Paired.Z7 R λ_ _ h=>h.Qr G⟩,?_,?_,?_,⟨kvs,⟨i D.at_ (λ_ z=>nomatch z),Zh G D.keys⟩,O,Q⟩,⟨ls,i l1 (λ_ z=>nomatch z),L2.Paired.Z7 l2 λ_ _ h=>h.Qr G⟩,⟨Z,i M (λ_ z=>nomatch z),N⟩,Qb,λq a=>?_,λq a=>?_,⟨X.ap.lm,X.ap.lu,X.ap.lv,X.ap.mu,X.ap.mv,X.ap.uv,X.ap.kf,λq a r s=>?_,λq a r s=>?_,λq a r s=>?_,λq a=>?_,λq a=>?_⟩⟩
 ·show(upd _ A.v _) A.l=Ga (HO.dK (dS (S++[p]) λq=>jv q));rw[Qg X.ap.lv,Qg X.ap.lu,Qg B,Qg X.ap.lm,Qg y,Qb]
 ·show(upd _ A.v _) A.m=Ga (HO.dK (dS (S++[p]) λq=>.ref (if q=p then m0 else A.ml q)));rw[Qg X.ap.mv,Qg X.ap.mu,Qg F,Qb]
 ·show(upd _ A.v _) A.u=Ga (HO.dK (dS (S++[p]) λq=>.ref (if q=p then u0 else A.ul q)));rw[Qg X.ap.uv,Qb]
 ·show(upd _ A.v _) (if q=p then m0 else A.ml q)=Ga (.lst [jv q]);rcases List.mem_append.mp a with a|a
  ·rw[Gg (ne q a)];exact i (X.ml q a) (λ_ z=>nomatch z)
  ·have:q=p:=by simpa using a
   subst this;rw[Gk Xb,Qg (Gm K),Qg (Gm I),Qg j,Qg (Gm E),Qb]
 ·show(upd _ A.v _) (if q=p then u0 else A.ul q)=Ga (.lst ((Y0 (Zp fs) S q).map jv));rcases List.mem_append.mp a with a|a
  ·rw[Gg (ne q a)];exact i (X.ul q a) (λ_ z=>nomatch z)
  ·have:q=p:=by simpa using a
   subst this;rw[Gk Xb,t,Qg (Gm L),Qg (Gm J),Qb];rfl
 ·show(if q=p then m0 else A.ml q)=(if r=p then m0 else A.ml r)->q=r;rcases List.mem_append.mp a with c|c<;>rcases List.mem_append.mp s with d|d
  ·rw[Gg (ne q c),Gg (ne r d)];exact X.ap.mm q c r d
  ·have:r=p:=by simpa using d
   subst this;rw[Gg (ne q c),Gk rfl];intro z;exact absurd z (g (X.ml q c))
  ·have:q=p:=by simpa using c
   subst this;rw[Gg (ne r d),Gk rfl];intro z;exact absurd z.symm (g (X.ml r d))
  ·intro _;have h1:q=p:=by simpa using c
   have h2:r=p:=by simpa using d
   rw[h1,h2]
 ·show(if q=p then u0 else A.ul q)=(if r=p then u0 else A.ul r)->q=r;rcases List.mem_append.mp a with c|c<;>rcases List.mem_append.mp s with d|d
  ·rw[Gg (ne q c),Gg (ne r d)];exact X.ap.uu q c r d
  ·have:r=p:=by simpa using d
   subst this;rw[Gg (ne q c),Gk rfl];intro z;exact absurd z (nu (X.ul q c))
  ·have:q=p:=by simpa using c
   subst this;rw[Gg (ne r d),Gk rfl];intro z;exact absurd z.symm (nu (X.ul r d))
  ·intro _;have h1:q=p:=by simpa using c
   have h2:r=p:=by simpa using d
   rw[h1,h2]
 ·show(if q=p then m0 else A.ml q)≠(if r=p then u0 else A.ul r);rcases List.mem_append.mp a with c|c<;>rcases List.mem_append.mp s with d|d
  ·rw[Gg (ne q c),Gg (ne r d)];exact X.ap.mul q c r d
  ·have:r=p:=by simpa using d
   subst this;rw[Gg (ne q c),Gk rfl];exact nu (X.ml q c)
  ·have:q=p:=by simpa using c
   subst this;rw[Gg (ne r d),Gk rfl];exact Gm (g (X.ul r d))
  ·have h1:q=p:=by simpa using c
   have h2:r=p:=by simpa using d
   rw[Gk h1,Gk h2];exact j
 ·show(if q=p then m0 else A.ml q)≠A.k/\(if q=p then m0 else A.ml q)≠A.f;rcases List.mem_append.mp a with a|a
  ·rw[Gg (ne q a)];exact X.ap.mkf q a
  ·have:q=p:=by simpa using a
   rw[Gk this];exact⟨Gm (g l1),Gm (g x)⟩
 ·show(if q=p then u0 else A.ul q)≠A.k/\(if q=p then u0 else A.ul q)≠A.f;rcases List.mem_append.mp a with a|a
  ·rw[Gg (ne q a)];exact X.ap.ukf q a
  ·have:q=p:=by simpa using a
   rw[Gk this];exact⟨Gm (nu l1),Gm (nu x)⟩
end
section
variable{P:Gj}{w:Gu}{K:PySem.W.Frag}{mg:GJ->Option Value}{base:Heap}
theorem Z1{b c:Gc}{o:HO}(h:upd H b o c=Gf):H c=Gf:=by
 by_cases e:c=b
 ·subst e;rw[Qb]at h;cases h
 ·rw[Qg e]at h;exact h
theorem Qk{b c:Gc}{o u:HO}(e:H c=Ga u)(h:c≠b):upd H b o c=Ga u:=by rw[Qg h];exact e
theorem Quy{k:Nat}{f fK:Gc}{fd ag:Tf}(F:Wz K "take_in" "Net.take_in" R0 f fd)(T:V7 K mg C)(mT:Yd K C "take_in" f)(bT:Binds K fd ["self","place"] [])(G:Qz P w K mg base Yb (k+1) f fd ["self","place"] (Qay P w C k))
  (mK:Yd K C "key_of" fK)(GK:Qz P w K mg base Yb 1 fK ag ["self","place"] (Qby P w C))(bK:Binds K ag ["self","place"] []):Qz P w K mg base Yb (k+2) f fd ["self","place"] (Qay P w C (k+1)):=by
 refine F.ok Qg0 (λvs H Q E h=>?_) (λcdv A outer s H vs Q E g h=>?_)
 ·obtain⟨n,A,fs,rk,S,p,rfl,_⟩:=h;rfl
 obtain⟨n,A,fs,rk,S,p,rfl,X,tk,hp,hk,q⟩:=h;have O:=Ur g;have aj:=g.units;have aB:Yf 1 _:=g.mono (by omega);have nd:=Qg0.nd;refine⟨_,Qc (Zb (Qgm (Qj7 O (pv 1) (Qu (pv 0) rfl))) (Qh Qu2) Qv)
  (Qc (Z5 Gs rfl (Uj (Ql Qm (Ql Ze (Qu (pv 0) rfl) (pv 1)) Qi)) (Zw 2 nd)
   (Qh (Zk (Zg (pv 0) T.cl mT G g bT .nil Q7 (Qa (pv 2) Qe)))))
  (Qc (Ww O (Qu (pv 0) rfl) (pv 1) (pv 1) rfl)
  (Qc (Ww O (Qu (pv 0) rfl) (pv 1) (Zr (Qa (pv 1) Qe)) rfl)
  (Qc (Ww O (Qu (pv 0) rfl) (pv 1) (Zr Qe) rfl)
  (Qc (Ww O (Qu (pv 0) rfl) (pv 1) Uo Xb)
  (Qc (Z5 Gs rfl (Uj (Ql Qm (Ql Ze (Qu (pv 0) rfl) (pv 1)) Qi)) (Zw 2 nd)
   (Qh (Zk (X0 PySem.F.plainAttrs_list PySem.F.slot_list_append PySem.F.type_list_append Z3 (Zv O (Qu (pv 0) rfl) (pv 2) (λ_ _=>rfl)) (Qa (pv 1) Qe)))))
  (Qh (Ry (pv 1) (Qam (Qu (pv 0) rfl) (Zg (pv 0) T.cl mK GK aB bK .nil Q7 (Qa (pv 1) Qe)) (Qak aj)))))))))),?_⟩
 obtain⟨dx,o1⟩:=X.at_.ob;have aQ:S.length<=fs.length:=Xo (S:=List.range fs.length) X.nd (λr g=>List.mem_range.mpr (X.lt r g))|>λh=>by rw[List.length_range]at h;exact h
 have aU:=tk.len;have gl:Wy H A.l (jv p) (Y9 (dS S λr=>jv r) (ki p)):=Wy.k (k:=ki p) X.at_.le;refine⟨_,Xb,_,Xb,n,C,dx,_,_,Xb,o1,T.cl,T.W0,Yt _,A.l,_,Xb,gl,_,Xb,?_⟩;rw[Qle];by_cases U:p∈S
 ·rw[Gr U];refine Yy ?_;exact q S A.ml A.ul H X (λ_ h=>h) U (λr h=>.inl h) FrT.refl
 rw[Gq U];refine Q6 ?_;obtain⟨ws,f1,f2⟩:=X.at_.fo;have hw:p<ws.length:=by rw[Paired.length f2];exact hp
 obtain⟨y,hy,c,e,ec,h1,h2⟩:=Qw f2 (List.getElem?_eq_getElem hw);rw[Qe4 hp]at hy;cases hy;have few:=tk.few p;refine⟨_,Xb,n,C,dx,_,_,Xb,o1,T.cl,T.Qcy,Uz _,_,Xb,A.f,ws,_,_,Xb,Xb,Zc.of f1,Qj (List.getElem?_eq_getElem hw),c,_,_,_,ec,Xb,Q9.of h1,I8 _ _ _,e,Xb,⟨_,Q9.of h2⟩,Qgf (K:=K) (a:=e) (xs:=(Zp fs p).map jv)
  (λi σ H2=>∃(x2:Option V)(S2:List Nat)(ml ul:Nat->Gc),σ=[Ga (.ref n),Ga (jv p),x2]/\Frs P w C H2 n (na A ml ul) fs S2/\(∀r∈S,r∈S2)/\(∀r∈(Zp fs p).take i,r∈S2)/\(∀r∈S2,r∈S\/rk r<rk p)/\FrT A S (na A ml ul) S2 H H2)
  ⟨_,S,A.ml,A.ul,Xb,X,λ_ h=>h,by simp,λr h=>.inl h,FrT.refl⟩ (λi σ H2 _⟨_,_,_,_,_,_,_,_,_,F2⟩=>Q9.of (F2.keep _ _ h2 (X.at_.Qji h2))) ?_ ?_⟩
 ·rintro i y σ H2 hi ⟨x2,S2,ml,ul,rfl,d,sub,done,Z,F2⟩;rw[List.getElem?_map]at hi;cases eq:(Zp fs p)[i]? with
  |none=>rw[eq]at hi;cases hi
  |some r=>
   rw[eq]at hi;cases hi;obtain⟨rl,rr⟩:=tk.pts p hp r (List.mem_of_getElem? eq);obtain⟨j,o2⟩:=d.at_.ob;refine⟨_,Xb,n,j,_,Xb,o2,Qag _,_,Xb,n,na A ml ul,fs,rk,S2,r,Xb,d,tk,rl,by omega,λS3 aG aM H3 X3 aa r3 aJ F3=>?_⟩;refine⟨_,S3,aG,aM,Xb,X3,λt N=>aa t (sub t N),λt N=>?_,λt N=>?_,F2.trans F3⟩
   ·rw[List.take_add_one,eq]at N;rcases List.mem_append.mp N with N|N
    ·exact aa t (done t N)
    ·have:t=r:=by simpa using N
     rw[this];exact r3
   ·rcases aJ t N with h|h
    ·exact Z t h
    ·exact .inr (by omega)
 rintro σ H2 ⟨x2,S2,ml,ul,rfl,d,sub,done,Z,F2⟩;rw[List.length_map,List.take_length]at done;have x:p∉S2:=λz=>by
  rcases Z p z with h|h
  ·exact U h
  ·omega
 have aV:S2.length<=1000:=by have:=Xo (S:=List.range fs.length) d.nd (λr g=>List.mem_range.mpr (d.lt r g));rw[List.length_range]at this;omega
 have az:Y0 (Zp fs) S2 p=[]:=Qkz λr g z=>x (d.cl r g p z);obtain⟨j,o2⟩:=d.at_.ob;have ay:(dS S2 λr=>jv r).length<Gh:=by rw[Va,Gy];omega
 have aD:H2 A.l=Ga (.dK (dS S2 λr=>jv r)):=d.at_.le;have aE:H2 A.m=Ga (.dK (dS S2 λr=>.ref (ml r))):=d.at_.me;have aN:H2 A.u=Ga (.dK (dS S2 λr=>.ref (ul r))):=d.at_.us;have ao:H2 A.v=Ga (.dK (dS S2 λ_=>.non)):=d.at_.ab;have k1:=I9.k (k:=ki p) (v:=jv p) aD ay;rw[Qal x]at k1;have e1:(dS (S2++[p]) λr=>if r=p then jv p else jv r)=dS (S2++[p]) λr=>jv r:=Wp λr _=>by
  by_cases h:r=p
  ·rw[Gk h,h]
  ·rw[Gg h]
 rw[e1]at k1;refine⟨_,Xb,_,Xb,n,C,j,_,_,Xb,o2,T.cl,T.W0,Yt _,_,Xb,A.l,_,Xb,k1,?_⟩;have nl:n≠A.l:=Yi o2 d.at_.le nofun;have o3:(upd H2 A.l (.dK (dS (S2++[p]) λr=>jv r))) n=Ga (.ins C j (Xe A)):=by rw[Qg nl];exact o2
 refine⟨_,Xb,by show 1<=Gh;decide,λm0 D=>?_⟩;have s3:=Qf D (.lst [jv p]);have ae:H2 m0=Gf:=by
  by_cases h:m0=A.l
  ·subst h;rw[Qb]at D;cases D
  ·rw[Qg h]at D;exact D
 have aF:(upd H2 A.l (.dK (dS (S2++[p]) λr=>jv r))) A.m=Ga (.dK (dS S2 λr=>.ref (ml r))):=Qk aE (Gm d.at_.ap.lm);have k2:=I9.k (k:=ki p) (v:=.ref m0) (s3 _ _ aF) (by rw[Va,Gy];omega);rw[Qal x]at k2;have e2:(dS (S2++[p]) λr=>if r=p then V.ref m0 else .ref (ml r))=dS (S2++[p]) λr=>.ref (if r=p then m0 else ml r):=Wp λr _=>by split<;>rfl
 rw[e2]at k2;refine⟨_,Xb,n,C,j,_,_,Xb,s3 _ _ o3,T.cl,T.members,W9 _,_,Xb,A.m,_,Xb,k2,?_⟩;have aH:n≠A.m:=Yi o2 d.at_.me nofun;generalize ad:upd (upd (upd H2 A.l (.dK (dS (S2++[p]) λr=>jv r))) m0 (.lst [jv p])) A.m (.dK (dS (S2++[p]) λr=>.ref (if r=p then m0 else ml r)))=Hc;have cA:∀{b o},H2 b=Ga o->b≠A.l->b≠A.m->Hc b=Ga o:=λe h1 h2=>by rw[<-ad,Qg h2,Qg (Qd e ae),Qg h1];exact e
 have cN:∀{b},Hc b=Gf->H2 b=Gf/\b≠m0:=λ{b}h=>by
  rw[<-ad]at h;by_cases h1:b=A.m
  ·subst h1;rw[Qb]at h;cases h
  ·rw[Qg h1]at h;by_cases h2:b=m0
   ·subst h2;rw[Qb]at h;cases h
   ·rw[Qg h2]at h;by_cases h3:b=A.l
    ·subst h3;rw[Qb]at h;cases h
    ·rw[Qg h3]at h;exact⟨h,h2⟩
 have o4:=cA o2 nl aH;refine⟨Gx _,λu0 ai=>?_⟩;obtain⟨am,aK⟩:=cN ai;have s5:=Qf ai (.lst []);have aL:=cA aN (Gm d.at_.ap.lu) (Gm d.at_.ap.mu);have k3:=I9.k (k:=ki p) (v:=.ref u0) (s5 _ _ aL) (by rw[Va,Gy];omega);rw[Qal x]at k3;have e3:(dS (S2++[p]) λr=>if r=p then V.ref u0 else .ref (ul r))=dS (S2++[p]) λr=>.ref (if r=p then u0 else ul r):=Wp λr _=>by split<;>rfl
 rw[e3]at k3;refine⟨_,Xb,n,C,j,_,_,Xb,s5 _ _ o4,T.cl,T.Qem,J1 _,_,Xb,A.u,_,Xb,k3,?_⟩;have nu:n≠A.u:=Yi o2 d.at_.us nofun;have o5:(upd (upd Hc u0 (.lst [])) A.u (.dK (dS (S2++[p]) λr=>.ref (if r=p then u0 else ul r)))) n=Ga (.ins C j (Xe A)):=by rw[Qg nu];exact s5 _ _ o4
 have aO:(upd (upd Hc u0 (.lst [])) A.u (.dK (dS (S2++[p]) λr=>.ref (if r=p then u0 else ul r)))) A.v=Ga (.dK (dS S2 λ_=>.non)):=by exact Qk (s5 _ _ (cA ao (Gm d.at_.ap.lv) (Gm d.at_.ap.mv))) (Gm d.at_.ap.uv)
 have k4:=I9.k (k:=ki p) (v:=.non) aO (by rw[Va,Gy];omega);rw[Qal x]at k4;have e4:(dS (S2++[p]) λr=>if r=p then V.non else .non)=dS (S2++[p]) λ_=>.non:=Wp λr _=>by split<;>rfl
 rw[e4]at k4;refine⟨_,Xb,n,C,j,_,_,Xb,o5,T.cl,T.above,Os _,_,Xb,A.v,_,Xb,k4,?_⟩;have Y:=Qtc (m0:=m0) (u0:=u0) d.at_ x ae am (Gm aK) az;have FY:FrT (na A ml ul) S2 (na A (λr=>if r=p then m0 else ml r) (λr=>if r=p then u0 else ul r)) (S2++[p]) H2 (upd (upd (upd Hc u0 (.lst [])) A.u (.dK (dS (S2++[p]) λr=>.ref (if r=p then u0 else ul r)))) A.v (.dK (dS (S2++[p]) λ_=>.non))):=by
  refine⟨λb o e hb=>?_,λb hb=>?_,λb hb=>?_⟩
  ·rw[Qg (λz=>hb (by rw[z];exact .inr (.inr (.inr (.inr (.inr (.inr (.inl Xb)))))))),Qg (λz=>hb (by rw[z];exact .inr (.inr (.inl Xb))))];exact s5 _ _ (cA e (λz=>hb (by rw[z];exact .inl Xb)) (λz=>hb (by rw[z];exact .inr (.inl Xb))))
  ·rcases hb with h|h|h|h|h|h|h|⟨r,aA,h⟩
   ·exact .inl (.inl h)
   ·exact .inl (.inr (.inl h))
   ·exact .inl (.inr (.inr (.inl h)))
   ·exact .inl (.inr (.inr (.inr (.inl h))))
   ·exact .inl (.inr (.inr (.inr (.inr (.inl h)))))
   ·exact .inl (.inr (.inr (.inr (.inr (.inr (.inl h))))))
   ·exact .inl (.inr (.inr (.inr (.inr (.inr (.inr (.inl h)))))))
   ·have h:b=(if r=p then m0 else ml r)\/b=(if r=p then u0 else ul r):=h;by_cases I:r=p
    ·rw[Gk I,Gk I]at h;rcases h with h|h
     ·rw[h];exact .inr ae
     ·rw[h];exact .inr am
    ·rw[Gg I,Gg I]at h;have aC:r∈S2:=by
      rcases List.mem_append.mp aA with z|z
      ·exact z
      ·exact absurd (by simpa using z) I
     exact .inl (.inr (.inr (.inr (.inr (.inr (.inr (.inr ⟨r,aC,h⟩)))))))
  ·by_cases h1:b=A.v
   ·subst h1;rw[Qb]at hb;cases hb
   ·rw[Qg h1]at hb;by_cases h2:b=A.u
    ·subst h2;rw[Qb]at hb;cases hb
    ·rw[Qg h2]at hb;exact(cN (s5.free hb)).1
 have Y:Z6 P w C (upd (upd (upd Hc u0 (.lst [])) A.u (.dK (dS (S2++[p]) λr=>.ref (if r=p then u0 else ul r)))) A.v (.dK (dS (S2++[p]) λ_=>.non))) n (na A (λr=>if r=p then m0 else ml r) (λr=>if r=p then u0 else ul r)) fs S2.length {fresh (Yh fs) (Zp fs) (S2++[p])with Xk:=Y0 (Zp fs) S2,tab:=Qa0 (Yh fs) (Zp fs) S2}:=by rw[<-ad];exact Y
 generalize upd (upd (upd Hc u0 (.lst [])) A.u (.dK (dS (S2++[p]) λr=>.ref (if r=p then u0 else ul r)))) A.v (.dK (dS (S2++[p]) λ_=>.non))=H4 at Y FY⊢;generalize (λr=>if r=p then m0 else ml r)=L at Y FY;generalize (λr=>if r=p then u0 else ul r)=B at Y FY;have F4:=F2.trans FY;obtain⟨ar,aI⟩:=Y.ob;obtain⟨an,av,af⟩:=Y.fo;have ak:p<an.length:=by rw[Paired.length af];exact hp
 obtain⟨y4,al,c4,ac,au,ax,ah⟩:=Qw af (List.getElem?_eq_getElem ak);rw[Qe4 hp]at al;cases al;refine⟨_,Xb,n,C,ar,_,_,Xb,aI,T.cl,T.Qcy,Uz _,_,Xb,A.f,an,_,_,Xb,Xb,Zc.of av,Qj (List.getElem?_eq_getElem ak),c4,_,_,_,au,Xb,Q9.of ax,I8 _ _ _,ac,Xb,⟨_,Q9.of ah⟩,Qgf (K:=K) (a:=ac) (xs:=(Zp fs p).map jv)
  (λi σ H5=>∃(x2:Option V),σ=[Ga (.ref n),Ga (jv p),x2]/\Z6 P w C H5 n (na A L B) fs S2.length {fresh (Yh fs) (Zp fs) (S2++[p])with Xk:=(λr=>Y0 (Zp fs) S2 r++List.replicate (((Zp fs p).take i).count r) p),tab:=Qa0 (Yh fs) (Zp fs) S2}/\FrT A S (na A L B) (S2++[p]) H H5/\H5 ac=Ga (.tup ((Zp fs p).map jv)))
  ⟨_,Xb,?_,F4,ah⟩ (λi σ H5 _⟨_,_,_,_,h⟩=>Q9.of h) ?_ ?_⟩
 ·have:(λr=>Y0 (Zp fs) S2 r++List.replicate (((Zp fs p).take 0).count r) p)=Y0 (Zp fs) S2:=by funext r;simp
  rw[this];exact Y
 ·rintro i y σ H5 hi ⟨x5,rfl,M,F5,h5⟩;rw[List.getElem?_map]at hi;cases eq:(Zp fs p)[i]? with
  |none=>rw[eq]at hi;cases hi
  |some r=>
   rw[eq]at hi;cases hi;have rS:r∈S2++[p]:=List.mem_append_left _ (done r (List.mem_of_getElem? eq));have ur:=M.ul r rS;obtain⟨R,W⟩:=M.ob;have aR:=Qe1 tk.few S2 r;have aP:((Zp fs p).take i).count r<=100:=TD List.count_le_length (by rw[List.length_take];omega);refine⟨_,Xb,n,C,R,_,_,Xb,W,T.cl,T.Qem,J1 _,_,Xb,A.u,_,Xb,Xp M.us rS,.inl ⟨Xb,_,Zc.of ur⟩,_,Xb,_,_,_,Xb,Xb,ur,?_,?_⟩
   ·rw[List.length_map,Gy];show(Y0 (Zp fs) S2 r++List.replicate (((Zp fs p).take i).count r) p).length<_;rw[List.length_append,List.length_replicate];omega
   ·have Y6:=M.Qqm rS (Y0 (Zp fs) S2 r++List.replicate (((Zp fs p).take i).count r) p++[p]);have eH:(HO.lst ((Y0 (Zp fs) S2 r++List.replicate (((Zp fs p).take i).count r) p++[p]).map jv))=.lst ((Y0 (Zp fs) S2 r++List.replicate (((Zp fs p).take i).count r) p).map jv++[jv p]):=by rw[List.map_append];rfl
    rw[eH]at Y6;have oR:Own (na A L B) (S2++[p]) (B r):=.inr (.inr (.inr (.inr (.inr (.inr (.inr ⟨r,rS,.inr Xb⟩))))));have eU:(λr'=>if r'=r then Y0 (Zp fs) S2 r++List.replicate (((Zp fs p).take i).count r) p++[p]else Y0 (Zp fs) S2 r'++List.replicate (((Zp fs p).take i).count r') p)=λr'=>Y0 (Zp fs) S2 r'++List.replicate (((Zp fs p).take (i+1)).count r') p:=by
     funext r'
     rw[Qbm eq];by_cases h:r'=r
     ·rw[Gk h,Gk h.symm,h,List.replicate_succ',List.append_assoc]
     ·rw[Gg h,Gg (Gm h),SO]
    refine⟨_,Xb,?_,F5.trans ⟨λb o e hb=>?_,λb hb=>.inl hb,λb hb=>?_⟩,?_⟩
    ·rw[<-eU];exact Y6
    ·exact Qk e (λz=>hb (by rw[z];exact oR))
    ·exact Z1 hb
    ·exact Qk h5 (Yi h5 ur nofun)
 rintro σ H5 ⟨x5,rfl,M,F5,h5⟩;rw[List.length_map,List.take_length]at M;have eU:(λr=>Y0 (Zp fs) S2 r++List.replicate ((Zp fs p).count r) p)=Y0 (Zp fs) (S2++[p]):=by
  funext r
  rw[Qr6]
 rw[eU]at M;obtain⟨R,W⟩:=M.ob;have pin:∀r∈Zp fs p,r∈S2++[p]:=λr g=>List.mem_append_left _ (done r g);refine⟨_,Xb,_,Xb,n,C,R,_,_,Xb,W,T.cl,T.table,Qh2 _,_,Xb,n,R,_,Xb,W,Qcw _,_,Xb,n,na A L B,fs,_,_,p,Xb,M,hp,pin,by omega,λc6 H6 g6 aS aw=>?_⟩;have Y6:=M.same g6;obtain⟨J,D6,aT,aq⟩:=Y6.ta;have kc:=aw.key (tk.str p);refine⟨A.t,c6,_,J,Xb,Xb,D6,kc,by rw[Gy];omega,?_⟩;have new:∀r∈S2,Zn (Yh fs) (Zp fs) id r≠Zn (Yh fs) (Zp fs) id p:=λr g z=>by simp only[Zn,List.map_id,T1]at z;exact x (tk.inj r p (d.lt r g) hp z.1 z.2▸g)
 have Y7:=Y6.Qrf (kvs':=Wj J (Xc (Zn (Yh fs) (Zp fs) id p)) c6 (jv p)) D6 (by have:=Om J (Xc (Zn (Yh fs) (Zp fs) id p)) c6 (jv p);omega) (D6.keys.put kc) (t':=Qa0 (Yh fs) (Zp fs) (S2++[p])) (λk'=>by
  rw[Uw,Qr0 _ _ new];by_cases h:k'=Zn (Yh fs) (Zp fs) id p
  ·rw[Gk (by rw[h]),Gk h];rfl
  ·rw[Gg (λz=>h (U3 z)),Gg h];exact aq k')
 refine q (S2++[p]) L B _ ⟨?_,?_,λr g=>?_,λr g=>?_⟩ (λr g=>List.mem_append_left _ (sub r g)) (by simp) (λr g=>?_) (F5.trans ⟨λb o e hb=>?_,λb hb=>.inl ?_,λb hb=>?_⟩)
 ·rw[List.length_append,List.length_singleton];exact Y7
 ·rw[List.nodup_append];refine⟨d.nd,by simp,λr g u O=>?_⟩;have:u=p:=by simpa using O
  rw[this];exactλz=>x (z▸g)
 ·rcases List.mem_append.mp g with h|h
  ·exactλu O=>List.mem_append_left _ (d.cl r h u O)
  ·have:r=p:=by simpa using h
   subst this;exact pin
 ·rcases List.mem_append.mp g with h|h
  ·exact d.lt r h
  ·have:r=p:=by simpa using h
   subst this;exact hp
 ·rcases List.mem_append.mp g with h|h
  ·rcases Z r h with h|h
   ·exact .inl h
   ·exact .inr (by omega)
  ·have:r=p:=by simpa using h
   subst this;exact .inr (Gn _)
 ·exact Qk (g6 _ _ e) (λz=>hb (by rw[z];exact .inr (.inr (.inr (.inl Xb)))))
 ·exact hb
 ·exact g6.free (Z1 hb)
theorem Qzv{f:Gc}{fd:Tf}:Qz P w K mg base Yb 1 f fd ["self","place"] (Qay P w C 0):=by
 have no:∀vs H Q E,¬Qay P w C 0 vs H Q E:=λvs H Q E h=>by obtain⟨n,A,fs,a,S,p,_,_,_,_,h1,_⟩:=h;omega
 exact⟨λvs H Q E h=>absurd h (no vs H Q E),λA outer s H args us vs Q E _ _ _ _ h=>absurd h (no vs H Q E)⟩
theorem Qh4{f e C:Gc}{fd a:Tf}(F:Wz K "take_in" "Net.take_in" R0 f fd)(T:V7 K mg C)(h:Yd K C "take_in" f)(d:Binds K fd ["self","place"] [])
  (g:Yd K C "key_of" e)(b:Qz P w K mg base Yb 1 e a ["self","place"] (Qby P w C))(c:Binds K a ["self","place"] []):∀k:Nat,Qz P w K mg base Yb (k+1) f fd ["self","place"] (Qay P w C k)
 |0=>Qzv
 |k+1=>Quy F T h d (Qh4 F T h d g b c k) g b c
end
end K03
namespace Nt
theorem R6{l:List Nat}:∀{S:List Nat},S.Nodup->(S.map λq=>l.count q).sum<=l.length
 |[],_=>by simp
 |q::S,nd=>by
  rw[List.nodup_cons]at nd;have c:=R6 (l:=l.filter (λz=>z !=q)) nd.2;have e:(S.map λr=>(l.filter (λz=>z !=q)).count r)=S.map λr=>l.count r:=List.map_congr_left λr b=>by rw[List.count_filter];simp only[bne_iff_ne,ne_eq];intro z;exact nd.1 (z▸b)
  rw[e]at c;have h2:(l.filter (λz=>z !=q)).length+l.count q=l.length:=by
   have:=List.length_eq_countP_add_countP (λz=>z !=q) (l:=l);rw[<-List.countP_eq_length_filter];have d:l.countP (λa=>¬(a !=q)=Ge)=l.count q:=by unfold List.count;refine List.countP_congr λx _=>?_;simp
   omega
  simp only[List.map_cons,List.sum_cons];omega
theorem Qa2{f g:Nat->Nat}:∀S:List Nat,(S.map λq=>f q+g q).sum=(S.map f).sum+(S.map g).sum
 |[]=>rfl
 |q::S=>by simp only[List.map_cons,List.sum_cons,Qa2 S];omega
theorem Qm0{W ρ:Type}[DecidableEq W]{wd:Nat->W}{pt:Nat->List Nat}{S:List Nat}{M:Nat}(nd:S.Nodup)(h:∀p,(pt p).length<=M):Vr (fresh (ρ:=ρ) wd pt S)<=S.length*M:=by
 have gen:∀T:List Nat,(S.map λq=>(Y0 pt T q).length).sum<=T.length*M:=by
  intro T;induction T with
  |nil=>
   have:(S.map λq=>(Y0 pt [] q).length)=S.map λ_=>0:=List.map_congr_left λq _=>by simp[Y0]
   rw[this];clear this nd;have z:∀S:List Nat,(S.map λ_=>0).sum=0:=by
    intro S;induction S with
    |nil=>rfl
    |cons a S b=>simpa using b
   rw[z];omega
  |cons p T b=>
   have e:(S.map λq=>(Y0 pt (p::T) q).length)=S.map λq=>(pt p).count q+(Y0 pt T q).length:=List.map_congr_left λq _=>by simp only[Y0,List.flatMap_cons,List.length_append,List.length_replicate]
   rw[e,Qa2];have h1:=R6 (l:=pt p) nd;have h2:=h p;rw[List.length_cons,DK];omega
 unfold Vr;refine TD (SF ?_) (gen S);congr 1;refine List.map_congr_left λq _=>?_;rw[Gk (show(fresh (ρ:=ρ) wd pt S).lead q=q from rfl)];rfl
end Nt
namespace K03
open PySem L2 Sb Nt
variable{C:Gc}
abbrev En:=GJ×Nat×Nat
abbrev sme(p q:Nat):En:=(("same":GJ),p,q)
abbrev unl(p q:Nat):En:=(("unlike":GJ),p,q)
def Qdj(H:Hp)(v:V)(e:En):Prop:=∃c,v=.ref c/\H c=Ga (.tup [.str e.1,jv e.2.1,jv e.2.2])
theorem Qdj.Qr{H H':Hp}{v:V}{e:En}(t:Q4 H H')(h:Qdj H v e):Qdj H' v e:=by obtain⟨c,h1,h2⟩:=h;exact⟨c,h1,t _ _ h2⟩
structure Nok(P:Gj)(w:Gu)(C:Gc)(H0 H:Hp)(n:Gc)(A:Na)(fs:List Fm)(tb:Nat)(x:Nn):Prop where
 at_:Z6 P w C H n A fs tb x
 inv:X9 (Yh fs) (Zp fs) x []
 fok:Qd7 fs x.S
 new:∀b,Own A x.S b->H0 b=Gf
 nn:H0 n=Gf
 O1:Q5 H0 H
 len:x.S.length<=60
 tt:Vr x<=6000
 cl:cls x+x.links.length<=x.S.length
 tbb:tb<=x.S.length+x.links.length*Vr x
structure Tup(fs:List Fm)(x:Nn)(ens:List En)(i:Nat):Prop where
 ins:∀e∈ens,e.2.1∈x.S/\e.2.2∈x.S
 eq:∀(j p q:Nat),j<i->ens[j]?=Ga (sme p q)->x.lead p=x.lead q
 snd:∀E,Ec (Yh fs) (Zp fs) x.S E->(∀(j p q:Nat),j<i->ens[j]?=Ga (sme p q)->E p q)->∀p∈x.S,∀q∈x.S,x.lead p=x.lead q->E p q
 rsn:∀y∈x.links,y.2.2=Gf\/∃(j p q:Nat),y=(p,q,Ga (.told j))/\ens[j]?=Ga (sme p q)
def Qfk(P:Gj)(w:Gu)(C:Gc):Sp:=λvs H Q _=>∃(f t:Gc)(c es:List V)(fs:List Fm)(a:List En)(b:Nat->Nat),vs=[.ref f,.ref t]/\H f=Ga (.lst c)/\Paired (Rm H) c fs/\H t=Ga (.lst es)/\Paired (Qdj H) es a/\Qwd fs b/\fs.length<=60/\(∀p,b p<59)/\
 (∀e∈a,e.2.1<fs.length/\e.2.2<fs.length)/\a.length<=1000/\
 ∀(n:Gc)(A:Na)(tb:Nat)(x:Nn)(H':Hp),Nok P w C H H' n A fs tb x->A.f=f->Tup fs x a a.length->Q (.ref n) H'
theorem Nok.merged{P:Gj}{w:Gu}{H0 H H':Hp}{n:Gc}{A:Na}{fs:List Fm}{tb:Nat}{x d:Nn}{a b:Nat}{r:Option U5}(N:Nok P w C H0 H n A fs tb x)(Y:Z6 P w C H' n A fs (tb+(d.links.length - x.links.length)*Vr x) d)(M:Mgd fs x d a b r [])(F:Rn A x.S H H'):Nok P w C H0 H' n A fs (tb+(d.links.length - x.links.length)*Vr x) d:=by
 have e:=M.S;refine⟨Y,M.inv,by rw[e];exact N.fok,by rw[e];exact N.new,N.nn,λc o f=>F.keep c o (N.O1 c o f) (λz=>by rw[N.new c z]at f;cases f),by rw[e];exact N.len,by rw[M.Vr];exact N.tt,by rw[e];have:=N.cl;have:=M.less;omega,?_⟩;rw[e,M.Vr];have h1:=N.tbb;have h2:=M.more;have:d.links.length*Vr x=x.links.length*Vr x+(d.links.length - x.links.length)*Vr x:=by rw[<-DK];congr 1;omega
 omega
theorem Tup.step{fs:List Fm}{x g:Nn}{d:List En}{i a b:Nat}(U:Tup fs x d i)(e:d[i]?=Ga (sme a b))(M:Mgd fs x g a b (Ga (.told i)) []):Tup fs g d (i+1):=by
 have f:=M.S;obtain⟨aS,bS⟩:=U.ins _ (List.mem_of_getElem? e);refine⟨by rw[f];exact U.ins,λj p q l c=>?_,λE X h=>?_,λy n=>?_⟩
 ·rcases Te j i with h|h
  ·obtain⟨o,r⟩:=U.ins _ (List.mem_of_getElem? c);exact M.mono p o q r (U.eq j p q h c)
  ·have:j=i:=by omega
   subst this;rw[e]at c;cases c;exact M.eq.nil
 ·rw[f]at X;have k:=U.snd E X λj p q l=>h j p q (by omega);have:=M.snd E X ⟨k,λu v s m=>by simp at m;obtain⟨rfl,rfl,rfl⟩:=m;exact h i u v (by omega) e⟩
  exact this.1
 ·rcases M.rsn y n with h|h|h
  ·exact U.rsn y h
  ·exact .inr ⟨i,a,b,h,e⟩
  ·exact .inl h
theorem Tup.skip{fs:List Fm}{x:Nn}{c:List En}{i:Nat}{k:GJ}{a b:Nat}(U:Tup fs x c i)(e:c[i]?=Ga (k,a,b))(g:k≠"same"):Tup fs x c (i+1):=by
 refine⟨U.ins,λj p q f d=>?_,λE X h=>U.snd E X λj p q f=>h j p q (by omega),U.rsn⟩;rcases Te j i with h|h
 ·exact U.eq j p q h d
 ·have:j=i:=by omega
  subst this;rw[e]at d;cases d;exact absurd rfl g
def Qwz(x:Nn)(a:List En):Option Nat->Prop
 |none=>∀(j p q:Nat),a[j]?=Ga (unl p q)->x.lead p≠x.lead q
 |some i=>(∃p q,a[i]?=Ga (unl p q)/\x.lead p=x.lead q)/\∀(j p q:Nat),j<i->a[j]?=Ga (unl p q)->x.lead p≠x.lead q
def Qft(P:Gj)(w:Gu)(C:Gc):Sp:=λvs H Q _=>∃(n t:Gc)(A:Na)(fs:List Fm)(tb:Nat)(x:Nn)(es:List V)(a:List En),vs=[.ref n,.ref t]/\Z6 P w C H n A fs tb x/\H t=Ga (.lst es)/\Paired (Qdj H) es a/\(∀e∈a,e.2.1∈x.S/\e.2.2∈x.S)/\
 ∀(o:Option Nat)(H':Hp),Q5 H H'->Qwz x a o->Q (ov o) H'
section
variable{P:Gj}{w:Gu}{K:PySem.W.Frag}{mg:GJ->Option Value}{base:Heap}
theorem Qlv:Q3 ["net","entries","number","entry"] ["net","entries"] (Qn Qf7):=by eq_refl
theorem Q8{a b:GJ}:decide (V.str a=V.str b)=(a==b):=by rw[DZ];simp
theorem Qsd{f S:Gc}{fd o:Tf}(F:Wz K "least_clash" "least_clash" Qf7 f fd)(T:V7 K mg C)(B:J0 mg)(Z:Yd K C "equal" S)(GE:Qz P w K mg base Yb 1 S o ["self","one","other"] (Qb4 P w C))(V:Binds K o ["self","one","other"] []):
  Qz P w K mg base Yb 2 f fd ["net","entries"] (Qft P w C):=by
 refine F.ok Qlv (λvs H Q E h=>?_) (λcdv A outer s H vs Q E Y h=>?_)
 ·obtain⟨n,t,A,fs,tb,x,es,m,rfl,_⟩:=h;rfl
 obtain⟨n,t,A,fs,tb,x,es,m,rfl,X,U,v,J,q⟩:=h;have M:Yf 1 _:=Y.mono (by omega);have nd:=Qlv.nd;refine⟨_,Qc (Z5 Gs rfl (Qlr rfl B.enumerate (Qa (pv 1) Qe)) (Vh rfl (Zl (Zw 2 nd) (Zl (Zw 3 nd) Wc)))
   (Qh (Zb (PW.pt (Qai (Qo Xi (Ql Qm (pv 3) Qi) Zj (Qs _)) (Oa (Yc (Zg (pv 0) T.cl Z GE M V .nil Q7 (Qa (Ql Qm (pv 3) Qi) (Qa (Ql Qm (pv 3) Qi) Qe)))))))
    (Qh (Qt (pv 2))) Qv)))
  (Qh (Qt Uo)),?_⟩
 refine⟨_,Xb,t,es,Xb,Zc.of U,Qgu (K:=K) (a:=t) (xs:=es) (λi σ H2=>(∃N O,σ=[Ga (.ref n),Ga (.ref t),N,O])/\Q5 H H2/\∀(j p r:Nat),j<i->m[j]?=Ga (unl p r)->x.lead p≠x.lead r)
  ⟨⟨_,_,Xb⟩,λ_ _ h=>h,λ_ _ _ h=>by omega⟩ (λi σ H2 _⟨_,g,_⟩=>Zc.of (g _ _ U)) ?_ ?_⟩
 ·rintro i y c σ H2 hi ⟨⟨N,O,rfl⟩,g,no⟩ W;obtain⟨⟨k,a,b⟩,D,z,rfl,I⟩:=Qw v hi;have s3:=Qf W (.tup [.int (i:Int),.ref z]);have u:=g.trans s3;obtain⟨aS,bS⟩:=J _ (List.mem_of_getElem? D);have l:=u _ _ I;refine⟨c,_,Xb,Q9.of Qb,Xb,_,_,Xb,_,_,Xb,Xb,?_⟩;refine⟨_,Xb,z,_,_,_,Xb,Xb,Q9.of l,Ru _ _,Xb,_,Xb,?_⟩;rw[Q8];by_cases L:k="unlike"
  ·subst L;rw[DV];refine Yy ?_;have R:=X.same u;obtain⟨dx,o1⟩:=R.ob;refine⟨_,Xb,n,dx,_,Xb,o1,Qcf _,_,Xb,z,_,_,_,Xb,Xb,Q9.of l,I8 _ _ _,_,Xb,z,_,_,_,Xb,Xb,Q9.of l,Qit _ _ _ _,n,A,fs,tb,x,a,b,Xb,R,aS,bS,_,Xb,?_⟩;by_cases e:x.lead a=x.lead b
   ·rw[Gr e];refine Yy ⟨_,Xb,q (Ga i) _ u ⟨⟨a,b,D,e⟩,no⟩⟩
   ·rw[Gq e];refine Q6 ⟨⟨_,_,Xb⟩,u,λj p r G d=>?_⟩;rcases Te j i with h|h
    ·exact no j p r h d
    ·have:j=i:=by omega
     subst this;rw[D]at d;cases d;exact e
  ·have:(k==("unlike":GJ))=Gp:=by simpa using L
   rw[this];refine Q6 ?_;refine Q6 ⟨⟨_,_,Xb⟩,u,λj p r G d=>?_⟩;rcases Te j i with h|h
   ·exact no j p r h d
   ·have:j=i:=by omega
    subst this;rw[D]at d;cases d;exact absurd rfl L
 ·rintro σ H2 ⟨⟨N,O,rfl⟩,g,no⟩;refine q Gf H2 g λj p r G=>no j p r ?_ G;rw[Paired.length v];exact(List.getElem?_eq_some_iff.mp G).1
theorem Qml:Q3 ["forms","told","net","kind","one","other","number","entry"] ["forms","told"] (Qn Qf8):=by eq_refl
theorem Qqv{f fI fT fM:Gc}{fd Y aa Z:Tf}(F:Wz K "net_of" "net_of" Qf8 f fd)(T:V7 K mg C)(B:J0 mg)(ag:Mk K C fI)(GI:Qz P w K mg base Yb 1 fI Y ["self","forms"] (Qeq P w C))(bI:Binds K Y ["self","forms"] [])
  (mT:Yd K C "take_in" fT)(GT:Qz P w K mg base Yb 60 fT aa ["self","place"] (Qay P w C 59))(bT:Binds K aa ["self","place"] [])(mM:Yd K C "merge" fM)(GM:Qz P w K mg base Yb 4 fM Z ["self","one","other","reason"] (Qfo P w C))(bM:Binds K Z ["self","one","other","reason"] []):
  Qz P w K mg base Yb 61 f fd ["forms","told"] (Qfk P w C):=by
 refine F.ok Qml (λvs H Q E h=>?_) (λcdv A outer s H vs Q E v h=>?_)
 ·obtain⟨f,t,ws,es,fs,l,rk,rfl,_⟩:=h;rfl
 obtain⟨f,t,ws,es,fs,l,rk,rfl,hf,ar,ht,L,tk,aC,ac,ao,aB,q⟩:=h;have ap:Yf 2 _:=v.mono (by omega);have aq:Yf 4 _:=v.mono (by omega);have nd:=Qml.nd;refine⟨_,Qc (Qy 2 nd (Qlq ag GI ap rfl T.mgC bI .nil Q7 (Qa (pv 0) Qe)))
  (Qc (Z5 Gs rfl (Z9 (pv 1)) (Vh rfl (Zl (Zw 3 nd) (Zl (Zw 4 nd) (Zl (Zw 5 nd) Wc))))
   (Qc (Zk (Zg (pv 2) T.cl mT GT v bT .nil Q7 (Qa (pv 4) Qe)))
   (Qh (Zk (Zg (pv 2) T.cl mT GT v bT .nil Q7 (Qa (pv 5) Qe))))))
  (Qc (Z5 Gs rfl (Qlr rfl B.enumerate (Qa (pv 1) Qe)) (Vh rfl (Zl (Zw 6 nd) (Zl (Zw 7 nd) Wc)))
   (Qh (Zb (Qo Xi (Ql Qm (pv 7) Qi) Zj (Qs _))
    (Qh (Zk (Zg (pv 2) T.cl mM GM aq bM .nil Q7 (Qa (Ql Qm (pv 7) Qi) (Qa (Ql Qm (pv 7) Qi) (Qa (Zf (Qa Zj (Qa (pv 6) Qe))) Qe)))))) Qv)))
  (Qh (Qt (pv 2))))),?_⟩
 refine⟨_,Xb,λn dx hn an aD=>?_⟩;have s0:Q5 H (upd (upd H dx (.own n)) n (.ins C dx [])):=λc o e=>by rw[Qg (Qd e hn),Qg (Qd e an)];exact e
 refine⟨n,dx,f,ws,fs,Xb,Qb,s0 _ _ hf,L2.Paired.Z7 ar λ_ _ h=>h.Qr (Q4.of s0),λA H1 fA X1 k1 w1=>⟨Xb,?_⟩⟩;have s1:Q5 H H1:=λc o e=>k1 c o (s0 c o e) (Qd e hn);have n1:∀b,Own A [] b->H b=Gf:=λb hb=>s0.free (w1 b hb);have ad:es.length=l.length:=Paired.length L;refine⟨_,Xb,t,Xb,⟨_,Zc.of (s1 _ _ ht)⟩,Ys (K:=K) (a:=t) (xs:=es) (λi σ H2=>∃(x3 x4 x5:Option V)(S:List Nat)(ml ul:Nat->Gc),σ=[Ga (.ref f),Ga (.ref t),Ga (.ref n),x3,x4,x5,Gf,Gf]/\Frs P w C H2 n (na A ml ul) fs S/\Q5 H H2/\(∀b,Own (na A ml ul) S b->H b=Gf)/\∀e∈l.take i,e.2.1∈S/\e.2.2∈S)
  ⟨_,_,_,[],A.ml,A.ul,Xb,⟨X1,List.nodup_nil,(λp R=>nomatch R),(λp R=>nomatch R)⟩,s1,n1,by simp⟩ (λi σ H2 _⟨_,_,_,_,_,_,_,_,g,_⟩=>Zc.of (g _ _ ht)) ?_ ?_⟩
 ·rintro i y σ H2 hi ⟨x3,x4,x5,S,ml,ul,rfl,d,M,n2,W⟩;obtain⟨⟨k,a,b⟩,O,D,rfl,J⟩:=Qw L hi;obtain⟨al,bl⟩:=ao _ (List.mem_of_getElem? O);obtain⟨ah,o2⟩:=d.at_.ob;refine⟨D,_,Xb,Q9.of (M _ _ J),Xb,_,_,Xb,_,_,Xb,_,_,Xb,Xb,?_⟩;refine⟨_,Xb,n,ah,_,Xb,o2,Qag _,_,Xb,n,na A ml ul,fs,rk,S,a,Xb,d,tk,al,ac a,λS3 ae af u X3 G a3 _ F3=>?_⟩;have g3:Q5 H u:=λc o e=>F3.keep c o (M c o e) (λz=>by rw[n2 c z]at e;cases e);have n3:∀b,Own (na A ae af) S3 b->H b=Gf:=λb hb=>(F3.own b hb).elim (n2 b) (λz=>M.free z);obtain⟨ai,o3⟩:=X3.at_.ob;refine⟨_,Xb,n,ai,_,Xb,o3,Qag _,_,Xb,n,na A ae af,fs,rk,S3,b,Xb,X3,tk,bl,ac b,λS4 au av H4 X4 m b4 _ F4=>?_⟩;have g4:Q5 H H4:=λc o e=>F4.keep c o (g3 c o e) (λz=>by rw[n3 c z]at e;cases e);refine⟨_,_,_,S4,au,av,Xb,X4,g4,λb hb=>(F4.own b hb).elim (n3 b) (λz=>g3.free z),λe ab=>?_⟩;rw[List.take_add_one,O]at ab;rcases List.mem_append.mp ab with h|h
  ·exact⟨m _ (G _ (W e h).1),m _ (G _ (W e h).2)⟩
  ·have:e=(k,a,b):=by simpa using h
   subst this;exact⟨m _ a3,b4⟩
 rintro σ H2 ⟨x3,x4,x5,S,ml,ul,rfl,d,M,n2,W⟩;rw[ad,List.take_length]at W;have aw:S.length<=fs.length:=Xo (S:=List.range fs.length) d.nd (λr v=>List.mem_range.mpr (d.lt r v))|>λh=>by rw[List.length_range]at h;exact h
 have ni:X9 (ρ:=U5) (Yh fs) (Zp fs) (fresh (Yh fs) (Zp fs) S) []:=Qoe d.nd d.cl λp R r v e1 e2=>tk.inj p r (d.lt p R) (d.lt r v) e1 e2;have N0:Nok P w C H H2 n (na A ml ul) fs S.length (fresh (Yh fs) (Zp fs) S):=⟨d.at_,ni,⟨tk.str,d.lt,d.cl,λp=>by have:=tk.few p;omega⟩,n2,hn,M,by show S.length<=60;omega,TD (Qm0 d.nd tk.few) (by omega),Qqp _,by show S.length<=S.length+0*_;omega⟩;have U0:Tup fs (fresh (Yh fs) (Zp fs) S) l 0:=⟨W,λj p r hj=>by omega,λE X _ p R r v e=>by have e:p=r:=e;subst e;exact X.refl p,λy hy=>nomatch hy⟩
 refine⟨_,Xb,t,es,Xb,Zc.of (M _ _ ht),Qgu (K:=K) (a:=t) (xs:=es) (λi σ u=>∃(x6 x7:Option V)(tb:Nat)(x:Nn),σ=[Ga (.ref f),Ga (.ref t),Ga (.ref n),x3,x4,x5,x6,x7]/\Nok P w C H u n (na A ml ul) fs tb x/\Tup fs x l i)
  ⟨_,_,_,_,Xb,N0,U0⟩ (λi σ u _⟨_,_,_,_,_,N,_⟩=>Zc.of (N.O1 _ _ ht)) ?_ ?_⟩
 ·rintro i y c σ u hi ⟨x6,x7,tb,x,rfl,N,U⟩ hc;obtain⟨⟨k,a,b⟩,O,D,rfl,J⟩:=Qw L hi;have s4:=Qf hc (.tup [.int (i:Int),.ref D]);have g4:=N.O1.trans s4;have I:=g4 _ _ J;obtain⟨aS,bS⟩:=U.ins _ (List.mem_of_getElem? O);have N4:Nok P w C H (upd u c (.tup [.int (i:Int),.ref D])) n (na A ml ul) fs tb x:=⟨N.at_.same s4,N.inv,N.fok,N.new,N.nn,g4,N.len,N.tt,N.cl,N.tbb⟩;refine⟨c,_,Xb,Q9.of Qb,Xb,_,_,Xb,_,_,Xb,Xb,?_⟩;refine⟨_,Xb,D,_,_,_,Xb,Xb,Q9.of I,Ru _ _,Xb,_,Xb,?_⟩;rw[Q8];by_cases hk:k="same"
  ·subst hk;rw[DV];refine Yy ?_;obtain⟨aj,o4⟩:=N4.at_.ob;refine⟨_,Xb,n,aj,_,Xb,o4,Qhs _,_,Xb,D,_,_,_,Xb,Xb,Q9.of I,I8 _ _ _,_,Xb,D,_,_,_,Xb,Xb,Q9.of I,Qit _ _ _ _,_,Xb,by show 2<=Gh;decide,λc5 am=>?_⟩;have s5:=Qf am (.tup [.str "told",.int (i:Int)]);have g5:=g4.trans s5;have N5:Nok P w C H (upd (upd u c (.tup [.int (i:Int),.ref D])) c5 (.tup [.str "told",.int (i:Int)])) n (na A ml ul) fs tb x:=⟨N4.at_.same s5,N.inv,N.fok,N.new,N.nn,g5,N.len,N.tt,N.cl,N.tbb⟩;have ax:=N.len;have ak:=N.tt;have ay:=N.cl;have az:=N.tbb;have aA:x.links.length*Vr x+cls x*Vr x<=60*6000:=by rw[<-DK];exact Lu (by omega) ak
   refine⟨n,na A ml ul,fs,tb,x,a,b,.ref c5,Ga (.told i),Xb,N5.at_,N.fok,⟨c5,Xb,Qb⟩,by simp,aS,bS,N.inv,by omega,by omega,by omega,by omega,λx' H6 Y6 M6 F6=>?_⟩;exact⟨_,_,_,x',Xb,N5.merged Y6 M6 F6,U.step O M6⟩
  ·have:(k==("same":GJ))=Gp:=by simpa using hk
   rw[this];exact Q6 ⟨_,_,tb,x,Xb,N4,U.skip O hk⟩
 ·rintro σ u ⟨x6,x7,tb,x,rfl,N,U⟩;rw[ad]at U;exact⟨_,Xb,q n (na A ml ul) tb x u N fA U⟩
end
end K03
namespace L2
open PySem PySem.Spec PyProof.Rows
def Qr4:V->List V->Hp->VK->Prop:=λx vs H Q=>∃d k a kvs,x=.ref d/\vs=[kV k,a]/\H d=Ga (.dK kvs)/\kvs.length<Gh/\
 (∀v,Y9 kvs k=Ga v->Q v H)/\(Y9 kvs k=Gf->Q a (upd H d (.dK (W8 kvs k a))))
theorem Qki{X:Cx}:MtR X "dict.setdefault" Qr4:=by
 intro pins s σ H x vs v us Q I r rv h;obtain⟨d,k,c,kvs,rfl,rfl,e,hz,n,o⟩:=h;cases(show v=Value.ref d from r);obtain⟨A,t,rfl,p,g⟩:=vals2 rv;obtain⟨z,hd,u,rel,f⟩:=Qla I.Z4 e;refine E4 F.slot_dict_setdefault f.typeIs F.entry_dict_setdefault (F.args_dict_setdefault_3 _ _ _) (kt_meets_setdefault (Yp X.prog X.w) d (Qej p) hd t) ⟨u,f,by rw[<-rel.length];exact z,λw hw=>?_,λl h' b m=>?_⟩
 ·have a:=rel.val k;rw[hw]at a;cases q:Y9 kvs k with
  |none=>rw[q]at a;exact(show False from a).elim
  |some y=>rw[q]at a;exact⟨y,H,I.tok _,a,n y q⟩
 ·have a:=rel.val k;rw[l]at a;cases q:Y9 kvs k with
  |some y=>rw[q]at a;exact(show False from a).elim
  |none=>
   have i:∃q,h'.get? d=Ga q:=let⟨q,_,_,hq,_⟩:=b;⟨q,hq⟩;have j:(W8 kvs k c).length<=Gh:=by have:=Wg kvs k c;omega
   exact⟨c,_,Io I (by rw[e];exact TW) m i (Qq6 j hd (rel.put k g) b),g,o q⟩
end L2
namespace PySem
variable{Q:Value->Gi->Prop}{it:Gc}{xs:Array Value}{i:Nat}{x:Value}
structure Qlt(prog:Gj)(w:Gu)(A:Tz)(I S:Gc)(fp:List Gc)(n:Nat)(St:Nat->Heap->List Value->Prop)(Out:Heap->List Value->Prop):Prop where
 item:∀(i:Nat)(s:Gi)(acc:List Value)(Q:Option Value->Gi->Prop)(E:Value->Gi->Prop),i<n->St i s.heap acc->(∀v h' tk,St (i+1) h' (acc++[v])->(∀b o,b∉fp->s.heap.get? b=Ga o->h'.get? b=Ga o)->Q (Ga v) {s with heap:=h',toks:=tk})->wpAny (GO prog w) A (pyNext (.ref I)) Q E s
 done:∀(s:Gi)(acc:List Value)(Q:Option Value->Gi->Prop)(E:Value->Gi->Prop),St n s.heap acc->(∀h' tk,Out h' acc->(∀b o,b∉fp->s.heap.get? b=Ga o->h'.get? b=Ga o)->Q Gf {s with heap:=h',toks:=tk})->wpAny (GO prog w) A (pyNext (.ref I)) Q E s
 keep:∀(i:Nat)(h h':Heap)(acc:List Value),St i h acc->(∀b o,b≠S->h.get? b=Ga o->h'.get? b=Ga o)->S<h'.objs.size->St i h' acc
section
variable{prog:Gj}{w:Gu}{A:Tz}{E:Value->Gi->Prop}{s:Gi}{R:LM->Gi->Prop}{I S:Gc}{fp:List Gc}{n:Nat}{St:Nat->Heap->List Value->Prop}{Out:Heap->List Value->Prop}
theorem Qrp(G:Qlt prog w A.in1 I S fp n St Out)(m:S∉fp)(z:n<=Gh)(res:Value){h₁:Heap}
  (t:∀h' tk acc c,(∀b o,b≠S->b∉fp->h₁.get? b=Ga o->h'.get? b=Ga o)->h'.get? S=Ga {cls:=.type "list",dict:=Gf,data:=.seq acc c,slots:=#[]}->acc.size=n->Out h' acc.toList->R (.ok (.ret res)) {s with heap:=h',toks:=tk}):
  ∀(k i:Nat)(h:Heap)(tk c:Nat)(acc:Array Value),n - i=k->i<=n->St i h acc.toList->(∀b o,b≠S->b∉fp->h₁.get? b=Ga o->h.get? b=Ga o)->acc.size=i->
   h.get? S=Ga {cls:=.type "list",dict:=Gf,data:=.seq acc c,slots:=#[]}->codeAny (GO prog w) A (.builtin "list.extend.loop" ⟨[.ref S,.ref I,res],[]⟩) R {s with heap:=h,toks:=tk}:=by
 intro k;induction k with
 |zero=>
  intro i h tk c acc u hi j a f hS;have q:i=n:=by omega
  subst q;refine Ll PySem.F.entry_extend_loop ?_;rw[Sj PySem.F.plain_extend_loop _];show wpAny _ A.in1 (pyNext (.ref I)>>=_) _ _ _;refine Gb (G.done {s with heap:=h,toks:=tk} acc.toList _ _ j λh' l x r=>?_);exact Gd (t h' l acc c (λb o h1 h2 e=>r b o h2 (a b o h1 h2 e)) (r S _ m hS) f x)
 |succ k y=>
  intro i h tk c acc u hi j a f hS;refine Ll PySem.F.entry_extend_loop ?_;rw[Sj PySem.F.plain_extend_loop _];show wpAny _ A.in1 (pyNext (.ref I)>>=_) _ _ _;refine Gb (G.item i {s with heap:=h,toks:=tk} acc.toList _ _ (by omega) j λv h' l p g=>?_);dsimp only at g⊢;have d:=g S _ m hS;have up:∀b o,b≠S->h'.get? b=Ga o->(h'.update S (DR (·.push v))).get? b=Ga o:=λb o hb e=>(Heap.get?_update_other _ _ (Gm hb)).trans e;show wpAny _ A.in1 (updateSeq S (·.push v)>>=_) _ _ _;refine Gb ?_;refine Er d rfl (Gd ⟨Sq PySem.F.plain_extend_loop _,y (i+1) _ l _ (acc.push v) (by omega) (by omega) (G.keep _ _ _ _ (by rw[Array.toList_push];exact p) up (Heap.lt_size (Heap.get?_update_self _ d Xb)))
   (λb o h1 h2 e=>up b o h1 (g b o h2 (a b o h1 h2 e))) (by rw[Lm,f]) (Heap.get?_update_self _ d Xb)⟩) (by omega) (by show(acc.push v).size<=Gh+1;rw[Lm];omega)
theorem Qhl{T:String}{hb:Bool}(G:Qlt prog w A.in1.in1 I s.heap.objs.size fp n St Out)(u:∀b∈fp,b<s.heap.objs.size)(C:I<s.heap.objs.size)(M:n<=Gh)(v:∀h2:Heap,(∀b o,s.heap.get? b=Ga o->h2.get? b=Ga o)->s.heap.objs.size<h2.objs.size->St 0 h2 [])
  (H:∀h acc,St 0 h acc->LI {s with heap:=h} (.ref I) T)(P:(Value.type T==Value.type "list")=Gp)(R:(Value.type T==Value.type "tuple")=Gp)
  (self:∀(A:Tz)(E:Value->Gi->Prop)(h:Heap)(Q:Value->Gi->Prop),St 0 h []->Q (.ref I) {s with heap:=h}->wpAny (GO prog w) A (pyIter (.ref I)) Q E {s with heap:=h})
  (hint:∀(A:Tz)(E:Value->Gi->Prop)(h:Heap)(Q:Bool->Gi->Prop),St 0 h []->Q hb {s with heap:=h}->wpAny (GO prog w) A (Builtin.List.listLengthHint (.ref I)) Q E {s with heap:=h})
  (D:∀h' tk acc c,(∀b o,b∉fp->s.heap.get? b=Ga o->h'.get? b=Ga o)->h'.get? s.heap.objs.size=Ga {cls:=.type "list",dict:=Gf,data:=.seq acc c,slots:=#[]}->acc.size=n->Out h' acc.toList->Q (.ref s.heap.objs.size) {s with heap:=h',toks:=tk}):
  wpAny (GO prog w) A (call (.type "list") [.ref I]) Q E s:=by
 have t:s.heap.objs.size∉fp:=λL=>Dw _ (u _ L);have q:s.heap.objs.size≠I:=Tn C;refine callType_codes (Q₁:=λobj i=>obj=.ref s.heap.objs.size/\i={s with heap:=s.heap.push {cls:=.type "list",data:=.seq #[]}}) PySem.F.called_list (PySem.F.typeCall_list_1 _) PySem.F.entry_list_init
  (code_list_new _ ⟨Xb,Xb⟩) λobj i h₁=>?_
 obtain⟨rfl,rfl⟩:=h₁;have hS:(s.heap.push {cls:=.type "list",data:=.seq #[]}).get? s.heap.objs.size=Ga {cls:=.type "list",data:=.seq #[]}:=Heap.get?_push_size _ rfl;refine⟨⟨_,hS,Xb⟩,PySem.F.args_list_init_2 _ _,?_⟩;show wpAny _ _ (do let x<-Builtin.List.listItems (.ref s.heap.objs.size);Builtin.List.listUpdate (.ref s.heap.objs.size) (λ_=>#[]);letGo x.toList.reverse;Builtin.List.listExtendWith (.ref s.heap.objs.size) (.ref I) .none) _ _ _;refine Gb ?_;unfold Builtin.List.listItems;refine Gb (TY hS rfl (Gd ?_));show wpAny _ _ (updateSeq s.heap.objs.size (λ_=>#[])>>=λ_=>letGo (#[]:Array Value).toList.reverse>>=λ_=>Builtin.List.listExtendWith (.ref s.heap.objs.size) (.ref I) .none) _ _ _;refine Gb (Er hS rfl ?_);have a:=Heap.get?_update_self (DR (λ_=>(#[]:Array Value))) hS rfl;refine Gb (EH ?_);generalize k:(s.heap.push {cls:=.type "list",data:=.seq #[]}).update s.heap.objs.size (DR (λ_=>(#[]:Array Value)))=h2 at a;have z:∀b o,s.heap.get? b=Ga o->h2.get? b=Ga o:=λb o e=>by rw[<-k];exact(Heap.get?_update_other _ _ (Gm (GV (Heap.lt_size e)))).trans (Heap.get?_push_of_some _ e)
 have g:St 0 h2 []:=v h2 z (Heap.lt_size a);clear k;unfold Builtin.List.listExtendWith;refine Gb (LO (T:=T) (H _ _ g) ?_);have h1:Builtin.List.listSameRef (.ref s.heap.objs.size) (.ref I)=Gp:=by simp[Builtin.List.listSameRef,q]
 simp only[h1,P,R,LB,Tu,T8];refine Gb (self _ _ h2 _ g ?_);refine Gb (TL (hint _ _ h2 _ g ?_));have fin:∀(j:Heap)(c:Nat),St 0 j []->(∀b o,b≠s.heap.objs.size->h2.get? b=Ga o->j.get? b=Ga o)->j.get? s.heap.objs.size=Ga {cls:=.type "list",dict:=Gf,data:=.seq #[] c,slots:=#[]}->
   codeAny (GO prog w) A.in1 (.builtin "list.extend.loop" ⟨[.ref s.heap.objs.size,.ref I,.none],[]⟩) (wants (λr l=>r=Value.none/\Q (Value.ref s.heap.objs.size) l) E) {s with heap:=j,toks:=s.toks}:=by
  intro j c y O p;refine Qrp (A:=A.in1) (s:=s) (h₁:=s.heap) G t M .none (λh' tk acc c J m K N=>⟨Xb,D h' tk acc c (λb o hb e=>J b o (GV (Heap.lt_size e)) hb e) m K N⟩) n 0 j s.toks c #[] (by omega) (Gx _) y (λb o hb _ e=>O b o hb (z b o e)) rfl p
 refine Es (λ_=>?_) (λ_=>Gd ⟨Sq PySem.F.plain_extend_loop _,fin h2 _ g (λb o _ e=>e) a⟩);refine Gb (Ee ?_);refine Gb ?_;show wpAny _ _ (updateSeq s.heap.objs.size (·.push .none)>>=λ_=>updateSeq s.heap.objs.size (·.pop)) _ _ _;refine Gb (Er a rfl ?_);have d:=Heap.get?_update_self (DR (·.push Value.none)) a rfl;refine Er (hz:=by seq_fits) d rfl ?_;have f:=Heap.get?_update_self (DR (·.pop)) d rfl;have B:∀b o,b≠s.heap.objs.size->h2.get? b=Ga o->((h2.update s.heap.objs.size (DR (·.push Value.none))).update s.heap.objs.size (DR (·.pop))).get? b=Ga o:=λb o hb e=>(Heap.get?_update_other _ _ (Gm hb)).trans ((Heap.get?_update_other _ _ (Gm hb)).trans e)
 exact Gd ⟨Sq PySem.F.plain_extend_loop _,fin _ _ (G.keep _ _ _ _ g B (Heap.lt_size f)) B f⟩
end
structure Nxt(prog:Gj)(w:Gu)(it l:Gc)(xs:Array Value)(St:Nat->Heap->Prop):Prop where
 item:∀(A:Tz)(E:Value->Gi->Prop)(s:Gi)(i:Nat)(x:Value)(Q:Value->Gi->Prop),St i s.heap->xs[i]?=Ga x->(∀h',St (i+1) h'->Heap.SameBut it s.heap h'->Q x {s with heap:=h'})->wpAny (GO prog w) A (Builtin.SmallTypes.nextOf (.ref it)) Q E s
 fin:∀(A:Tz)(E:Value->Gi->Prop)(s:Gi)(i:Nat)(Q:Value->Gi->Prop),A.handled=Gf->St i s.heap->xs[i]?=Gf->(∀h' e,Heap.ExtBut it s.heap h'->(∃o,h'.get? e=Ga o/\o.cls=.type "StopIteration")->E (.ref e) {s with heap:=h'})->wpAny (GO prog w) A (Builtin.SmallTypes.nextOf (.ref it)) Q E s
 keep:∀(i:Nat)(h h':Heap),St i h->(∀b,b=it\/b=l->∀o,h.get? b=Ga o->h'.get? b=Ga o)->St i h'
 there:∀(i:Nat)(h:Heap),St i h->it<h.objs.size/\l<h.objs.size
theorem Qgx{prog:Gj}{w:Gu}{l:Gc}(b:l≠it):Nxt prog w it l xs (λi h=>h.IsListIter it l i/\h.IsList l xs) where
 item:=λA E s i x Q st c g=>wpAny_nextOf_list_item st.1 st.2 c λh' a d=>g h' ⟨a,st.2.extBut d.extBut b⟩ d
 fin:=λA E s i Q j st c f=>wpAny_nextOf_list_end j st.1 st.2 c f
 keep:=λi h h' st k=>⟨st.1.at λo e=>k it (.inl Xb) o e,st.2.at λo e=>k l (.inr Xb) o e⟩
 there:=λi h st=>⟨let⟨_,e,_⟩:=st.1;Heap.lt_size e,let⟨_,e,_⟩:=st.2;Heap.lt_size e⟩
section
variable{prog:Gj}{w:Gu}{A:Tz}{E:Value->Gi->Prop}{s:Gi}
theorem U4{t:Gc}{a:Array Value}(b:s.heap.IsTupleIter it t i)(h:s.heap.IsTuple t a)(j:a[i]?=Ga x)
  (f:∀h',h'.IsTupleIter it t (i+1)->Heap.SameBut it s.heap h'->Q x {s with heap:=h'}):wpAny (GO prog w) A (Builtin.SmallTypes.nextOf (.ref it)) Q E s:=by
 obtain⟨o,c,g,hd⟩:=id b;obtain⟨l,e,_,k,d⟩:=h;unfold Builtin.SmallTypes.nextOf;refine Gb (Tw (name:=Dc "__next__") b.typeIs F.slot_tuple_iterator_next
  (To F.slot_tuple_iterator_next b.typeIs F.entry_tuple_iterator_next ?_ (F.args_tuple_iterator_next_1 _)))
 show wpAny _ _ (field (.ref it) 0>>=_) _ _ s;refine Gb (Tt c hd (x:=.ref t) rfl ?_);show wpAny _ _ (if(Value.ref t==Value.none)=Ge then _ else _) _ _ s;rw[Gg (show¬((Value.ref t==Value.none)=Ge)from Gv)];show wpAny _ _ (field (.ref it) 1>>=_) _ _ s;refine Gb (Tt c hd (x:=.int i 0) rfl ?_);show wpAny _ _ (seqItems? (.ref t)>>=_) _ _ s;refine Gb (TY e d ?_);simp only[T5,j];refine Gb (DT c hd (by simp) (Gd ⟨x,Xb,Gd (f _ ?_ (Heap.SameBut.update ..))⟩));exact⟨_,Heap.get?_update_self _ c (Eb (Dy hd _)),(EJ ..).trans g,by rw[Dy hd];simp[rawInt]⟩
theorem Ja{t:Gc}{b:Array Value}(h:A.handled=Gf)(c:s.heap.IsTupleIter it t i)(k:s.heap.IsTuple t b)(l:b[i]?=Gf)
  (j:∀h' e,Heap.ExtBut it s.heap h'->(∃o,h'.get? e=Ga o/\o.cls=.type "StopIteration")->E (.ref e) {s with heap:=h'}):wpAny (GO prog w) A (Builtin.SmallTypes.nextOf (.ref it)) Q E s:=by
 obtain⟨o,f,n,hd⟩:=id c;obtain⟨q,g,_,p,d⟩:=k;unfold Builtin.SmallTypes.nextOf;refine Gb (Tw (name:=Dc "__next__") c.typeIs F.slot_tuple_iterator_next
  (To F.slot_tuple_iterator_next c.typeIs F.entry_tuple_iterator_next ?_ (F.args_tuple_iterator_next_1 _)))
 show wpAny _ _ (field (.ref it) 0>>=_) _ _ s;refine Gb (Tt f hd (x:=.ref t) rfl ?_);show wpAny _ _ (if(Value.ref t==Value.none)=Ge then _ else _) _ _ s;rw[Gg (show¬((Value.ref t==Value.none)=Ge)from Gv)];show wpAny _ _ (field (.ref it) 1>>=_) _ _ s;refine Gb (Tt f hd (x:=.int i 0) rfl ?_);show wpAny _ _ (seqItems? (.ref t)>>=_) _ _ s;refine Gb (TY g d ?_);simp only[T5,l];refine Gb (Ee (Gb (DT f hd (by simp) ?_)));show wpAny _ _ (newExc (.type "StopIteration") []>>=_) _ _ _;refine Gb ?_;simp only[newExc,newTuple];refine Gb (Tp ?_ (by size_fits));refine Gb (m:=firstArgMember _ _) (Lf (a:=Value.none) (by first|rfl|(simp only[firstArgMember];rfl)) ?_);refine Tp ?_ (by size_fits);simp only[raiseNew];refine Gb (So ?_);first|rw[show A.in1.handled=Gf from h]|rw[h]
 refine Gb (Gd (Lg ?_));exact j _ _ (((Heap.SameBut.update ..).extBut.push _).push _) ⟨_,Heap.get?_push_size _ Xb,Xb⟩
end
theorem Qlk{prog:Gj}{w:Gu}{l:Gc}(b:l≠it):Nxt prog w it l xs (λi h=>h.IsTupleIter it l i/\h.IsTuple l xs) where
 item:=λA E s i x Q st c g=>U4 st.1 st.2 c λh' a d=>g h' ⟨a,st.2.extBut d.extBut b⟩ d
 fin:=λA E s i Q j st c f=>Ja j st.1 st.2 c f
 keep:=λi h h' st k=>⟨let⟨o,ho,r⟩:=st.1;⟨o,k it (.inl Xb) o ho,r⟩,let⟨o,ho,r⟩:=st.2;⟨o,k l (.inr Xb) o ho,r⟩⟩
 there:=λi h st=>⟨let⟨_,e,_⟩:=st.1;Heap.lt_size e,let⟨_,e,_⟩:=st.2;Heap.lt_size e⟩
abbrev Ie(h:Heap)(z TI TO a:Gc)(f:Bool):Prop:=h.get? z=Ga {cls:=.type "zip",dict:=Gf,data:=.fields #[rawInt a,.bool f,.bool Gp,.ref TI,.ref TO],slots:=#[]}
section
variable{prog:Gj}{w:Gu}{A:Tz}{E:Value->Gi->Prop}{s:Gi}{z TI TO i1 i2 l1 l2:Gc}{k:Nat}{xs ys:Array Value}{S1 S2:Nat->Heap->Prop}
theorem Qjq{y a b:Value}(D:Lv z TI TO i1 i2 l1 l2)(W:Nxt prog w i1 l1 xs S1)(X:Nxt prog w i2 l2 ys S2)
  (hz:E5 s.heap z TI TO .none)(aa:Dk s.heap TI (.ref i1) (.ref i2))(ab:Dk s.heap TO a b)(h1:S1 k s.heap)(h2:S2 k s.heap)(hx:xs[k]?=Ga x)(hy:ys[k]?=Ga y)
  (hQ:∀h',Ie h' z TI TO s.heap.objs.size Gp->Dk h' TO x y->S1 (k+1) h'->S2 (k+1) h'->Dk h' s.heap.objs.size x y->
   (∀c o,c≠z->c≠TO->c≠i1->c≠i2->s.heap.get? c=Ga o->h'.get? c=Ga o)->Q (.ref s.heap.objs.size) {s with heap:=h'}):
  wpAny (GO prog w) A (Builtin.«zip.__next__» ⟨[.ref z],[]⟩) (λfin s'=>∃v,fin=.done (.ret v)/\Q v s') E s:=by
 show wpAny _ _ (field (.ref z) 2>>=_) _ _ _;refine Gb (Tt hz rfl (x:=.bool Gp) rfl ?_);show wpAny _ _ (field (.ref z) 3>>=_) _ _ _;refine Gb (Tt hz rfl (x:=.ref TI) rfl ?_);refine Gb (TY aa rfl ?_);show wpAny _ _ (Builtin.SmallTypes.ownedTupleIsFree (.ref z)>>=_) _ _ _;refine Gb ?_;unfold Builtin.SmallTypes.ownedTupleIsFree;refine Gb (Tt hz rfl (x:=.none) rfl (Gd ?_));simp only[E1];refine Gb (Ee ?_);refine Gb (Tt hz rfl (x:=.ref TO) rfl ?_);refine Gb (Di hz (by simp) λh₁ q C=>?_);replace q:E5 h₁ z TI TO .ellipsis:=q;have Y:∀c o,c≠z->s.heap.get? c=Ga o->h₁.get? c=Ga o:=λc o h e=>C.extBut _ _ h e;refine Gb ?_;simp only[List.zipIdx_cons,List.zipIdx_nil,List.forIn_cons,List.forIn_nil];refine Gb (Gb (EN ?_));show wpAny _ _ (Builtin.SmallTypes.nextOf (.ref i1)>>=_) _ _ _;refine Gb (W.item _ _ _ k x _ (W.keep k _ h₁ h1 λc N o e=>Y c o (by rcases N with rfl|rfl;exact D.i1z;exact D.l1z) e) hx λT L n=>Gd ?_);have t:Dk T TO a b:=n.extBut _ _ D.TOi1 (Y _ _ D.TOz ab);refine Gb (TY t rfl ?_);refine Gb (Em t λI m j=>?_);replace m:Dk I TO x b:=m;refine Gb (EH (Gd ?_));have Z:∀c o,c≠z->c≠i1->c≠TO->s.heap.get? c=Ga o->I.get? c=Ga o:=λc o J R S e=>j.extBut _ _ S (n.extBut _ _ R (Y c o J e));refine Gb (Gb (EN ?_));show wpAny _ _ (Builtin.SmallTypes.nextOf (.ref i2)>>=_) _ _ _;refine Gb (X.item _ _ _ k y _ (X.keep k _ I h2 λc N o e=>by
  rcases N with rfl|rfl
  ·exact Z _ o D.i2z D.i12.symm D.TOi2.symm e
  ·exact Z _ o D.l2z D.l2i1 D.l2TO e) hy λU M g=>Gd ?_)
 have u:Dk U TO x b:=g.extBut _ _ D.TOi2 m;refine Gb (TY u rfl ?_);refine Gb (Em u λd i f=>?_);replace i:Dk d TO x y:=i;refine Gb (EH (Gd (Gd ?_)));refine Gb (TY i rfl ?_);refine Gb (Lw ?_);have hsz:d.objs.size=s.heap.objs.size:=by rw[f.1,g.1,j.1,n.1,C.1]
 have H:E5 d z TI TO .ellipsis:=f.extBut _ _ D.TOz.symm (g.extBut _ _ D.i2z.symm (j.extBut _ _ D.TOz.symm (n.extBut _ _ D.i1z.symm q)));have O:∀c o,c≠z->c≠TO->c≠i1->c≠i2->s.heap.get? c=Ga o->d.get? c=Ga o:=λc o J R S c4 e=>f.extBut _ _ R (g.extBut _ _ c4 (Z c o J S R e));have K:z<d.objs.size:=Heap.lt_size H;show wpAny _ _ (Builtin.SmallTypes.ownedTupleHandOut (.ref z) (.ref d.objs.size)>>=_) _ _ _;refine Gb ?_;unfold Builtin.SmallTypes.ownedTupleHandOut;have P:E5 (d.push {cls:=.type "tuple",data:=.seq #[x,y]}) z TI TO .ellipsis:=Heap.get?_push_of_some _ H;refine Gb (Di P (by simp) λV r F=>?_);replace r:E5 V z TI TO (rawInt d.objs.size):=r;refine Di r (by simp) λl p G=>?_;replace p:E5 l z TI TO (rawInt d.objs.size):=p;have up:∀c o,c≠z->d.get? c=Ga o->l.get? c=Ga o:=λc o J e=>G.extBut _ _ J (F.extBut _ _ J (Heap.get?_push_of_some _ e));have B:Dk l d.objs.size x y:=G.extBut _ _ (Tn K) (F.extBut _ _ (Tn K) (Heap.get?_push_size _ Xb));rw[hsz]at p B;refine Gd ⟨_,Xb,?_⟩;show Q (.ref d.objs.size) _;rw[hsz];have a1:S1 (k+1) l:=W.keep _ _ _ L λc N o e=>by
  rcases N with rfl|rfl
  ·exact up _ o D.i1z (f.extBut _ _ D.TOi1.symm (g.extBut _ _ D.i12 (j.extBut _ _ D.TOi1.symm e)))
  ·exact up _ o D.l1z (f.extBut _ _ D.l1TO (g.extBut _ _ D.l1i2 (j.extBut _ _ D.l1TO e)))
 have a2:S2 (k+1) l:=X.keep _ _ _ M λc N o e=>by
  rcases N with rfl|rfl
  ·exact up _ o D.i2z (f.extBut _ _ D.TOi2.symm e)
  ·exact up _ o D.l2z (f.extBut _ _ D.l2TO e)
 exact hQ l p (up _ _ D.TOz i) a1 a2 B λc o J R S c4 e=>up c o J (O c o J R S c4 e)
theorem Qef{a:Gc}{f:Bool}{h:DJ}{Q:Bool->Gi->Prop}(hz:Ie s.heap z TI TO a f)(g:s.heap.get? a=Ga h)(e:∀h',Ie h' z TI TO a Ge->Heap.SameBut z s.heap h'->Q Gp {s with heap:=h'}):
  wpAny (GO prog w) A (Builtin.SmallTypes.ownedTupleIsFree (.ref z)) Q E s:=by
 unfold Builtin.SmallTypes.ownedTupleIsFree;refine Gb (Tt hz rfl (x:=rawInt a) rfl ?_);show wpAny _ _ (loadIfAlive ((a:Int).toNat)>>=_) _ _ _;rw[T5];refine Gb (PySem.W.kdx_alive g ?_);simp only[Option.isNone_some,Tu,T8];refine Gb (Tt hz rfl (x:=.bool f) rfl ?_);cases f with
 |true=>rw[Gg (show¬((Value.bool Ge !=Value.bool Ge)=Ge)from Gv)];exact Gd (e _ hz (Heap.SameBut.refl _ _))
 |false=>rw[Gk (show(Value.bool Gp !=Value.bool Ge)=Ge from rfl)];exact Gb (Di hz (by simp) λd b c=>Gd (e d b c))
end
section
variable{prog:Gj}{w:Gu}{A:Tz}{E:Value->Gi->Prop}{s:Gi}{z TI TO i1 i2 l1 l2:Gc}{k:Nat}{xs ys:Array Value}{S1 S2:Nat->Heap->Prop}
theorem Qrs{y:Value}{a:Gc}{f:Bool}{M:DJ}(D:Lv z TI TO i1 i2 l1 l2)(r:Nxt prog w i1 l1 xs S1)(t:Nxt prog w i2 l2 ys S2)
  (hz:Ie s.heap z TI TO a f)(J:s.heap.get? a=Ga M)(F:Dk s.heap TI (.ref i1) (.ref i2))(h1:S1 k s.heap)(h2:S2 k s.heap)(K:xs[k]?=Ga x)(L:ys[k]?=Ga y)
  (I:∀h',Ie h' z TI TO a Ge->S1 (k+1) h'->S2 (k+1) h'->Dk h' s.heap.objs.size x y->
   (∀c o,c≠z->c≠i1->c≠i2->s.heap.get? c=Ga o->h'.get? c=Ga o)->Q (.ref s.heap.objs.size) {s with heap:=h'}):
  wpAny (GO prog w) A (Builtin.«zip.__next__» ⟨[.ref z],[]⟩) (λfin s'=>∃v,fin=.done (.ret v)/\Q v s') E s:=by
 show wpAny _ _ (field (.ref z) 2>>=_) _ _ _;refine Gb (Tt hz rfl (x:=.bool Gp) rfl ?_);show wpAny _ _ (field (.ref z) 3>>=_) _ _ _;refine Gb (Tt hz rfl (x:=.ref TI) rfl ?_);refine Gb (TY F rfl ?_);show wpAny _ _ (Builtin.SmallTypes.ownedTupleIsFree (.ref z)>>=_) _ _ _;refine Gb (Qef hz J λh₁ n i=>?_);have G:∀c o,c≠z->s.heap.get? c=Ga o->h₁.get? c=Ga o:=λc o h e=>i.extBut _ _ h e;simp only[Tu,T8];refine Gb ?_;rw[<-D0];simp only[List.forIn_cons,List.forIn_nil];refine Gb (Gb (TL ?_));show wpAny _ _ (Builtin.SmallTypes.nextOf (.ref i1)>>=_) _ _ _;refine Gb (r.item _ _ _ k x _ (r.keep k _ h₁ h1 λc p o e=>G c o (by rcases p with rfl|rfl;exact D.i1z;exact D.l1z) e) K λj l d=>Gd (Gd ?_));have u:∀c o,c≠z->c≠i1->s.heap.get? c=Ga o->j.get? c=Ga o:=λc o B C e=>d.extBut _ _ C (G c o B e);refine Gb (Gb (TL ?_));show wpAny _ _ (Builtin.SmallTypes.nextOf (.ref i2)>>=_) _ _ _;refine Gb (t.item _ _ _ k y _ (t.keep k _ j h2 λc p o e=>by
  rcases p with rfl|rfl
  ·exact u _ o D.i2z D.i12.symm e
  ·exact u _ o D.l2z D.l2i1 e) L λg m b=>Gd (Gd (Gd ?_)))
 refine Gb (Lw (hsz:=by show 2<=Gh;decide) ?_);have hsz:g.objs.size=s.heap.objs.size:=by rw[b.1,d.1,i.1]
 refine Gd ⟨_,Xb,?_⟩;show Q (.ref g.objs.size) _;rw[hsz];have q:∀c o,g.get? c=Ga o->(g.push {cls:=.type "tuple",data:=.seq #[x,y]}).get? c=Ga o:=λc o e=>Heap.get?_push_of_some _ e;refine I _ (q _ _ (b.extBut _ _ D.i2z.symm (d.extBut _ _ D.i1z.symm n))) (r.keep _ _ _ l λc p o e=>q _ _ ?_) (t.keep _ _ _ m λc p o e=>q _ _ e) (by rw[<-hsz];exact Heap.get?_push_size _ Xb) λc o B C H e=>q _ _ (b.extBut _ _ H (u c o B C e));rcases p with rfl|rfl
 ·exact b.extBut _ _ D.i12 e
 ·exact b.extBut _ _ D.l1i2 e
theorem Qqq{a b:Value}{Q:Fin->Gi->Prop}(U:A.handled=Gf)(D:Lv z TI TO i1 i2 l1 l2)(L:Nxt prog w i1 l1 xs S1)(R:Nxt prog w i2 l2 ys S2)
  (hz:E5 s.heap z TI TO .none\/∃c f oa,Ie s.heap z TI TO c f/\s.heap.get? c=Ga oa)(N:Dk s.heap TI (.ref i1) (.ref i2))(Y:Dk s.heap TO a b)(h1:S1 k s.heap)(h2:S2 k s.heap)(G:xs[k]?=Gf\/ys[k]?=Gf)
  (S:∀h' e,(∀c o,c≠z->c≠TO->c≠i1->c≠i2->s.heap.get? c=Ga o->h'.get? c=Ga o)->(∃o,h'.get? e=Ga o/\o.cls=.type "StopIteration")->E (.ref e) {s with heap:=h'}):
  wpAny (GO prog w) A (Builtin.«zip.__next__» ⟨[.ref z],[]⟩) Q E s:=by
 rcases hz with hz|⟨ca,f,oa,hz,ha⟩
 ·show wpAny _ _ (field (.ref z) 2>>=_) _ _ _;refine Gb (Tt hz rfl (x:=.bool Gp) rfl ?_);show wpAny _ _ (field (.ref z) 3>>=_) _ _ _;refine Gb (Tt hz rfl (x:=.ref TI) rfl ?_);refine Gb (TY N rfl ?_);show wpAny _ _ (Builtin.SmallTypes.ownedTupleIsFree (.ref z)>>=_) _ _ _;refine Gb ?_;unfold Builtin.SmallTypes.ownedTupleIsFree;refine Gb (Tt hz rfl (x:=.none) rfl (Gd ?_));simp only[E1];refine Gb (Ee ?_);refine Gb (Tt hz rfl (x:=.ref TO) rfl ?_);refine Gb (Di hz (by simp) λh₁ j n=>?_);replace j:E5 h₁ z TI TO .ellipsis:=j;have F:∀c o,c≠z->s.heap.get? c=Ga o->h₁.get? c=Ga o:=λc o h e=>n.extBut _ _ h e;refine Gb ?_;simp only[List.zipIdx_cons,List.zipIdx_nil,List.forIn_cons,List.forIn_nil];refine Gb (Gb (EN ?_));show wpAny _ _ (Builtin.SmallTypes.nextOf (.ref i1)>>=_) _ _ _;have B:=L.keep k _ h₁ h1 λc I o e=>F c o (by rcases I with rfl|rfl;exact D.i1z;exact D.l1z) e;cases hx:xs[k]? with
  |none=>
   refine Gb (L.fin _ _ _ k _ U B hx λi e d J=>?_);obtain⟨oe,m,r⟩:=J;have v:E5 i z TI TO .ellipsis:=d _ _ D.i1z.symm j;have K:e≠z:=λx=>by subst x;rw[v]at m;cases m;simp at r
   refine Di v (by simp) λl _ g=>S l e (λc o q _ C _ x=>g.extBut _ _ q (d _ _ C (F _ _ q x))) ⟨oe,g.extBut _ _ K m,r⟩
  |some x=>
   have Z:ys[k]?=Gf:=by rcases G with h|h;rw[hx]at h;cases h;exact h
   refine Gb (L.item _ _ _ k x _ B hx λi H d=>Gd ?_);have p:Dk i TO a b:=d.extBut _ _ D.TOi1 (F _ _ D.TOz Y);refine Gb (TY p rfl ?_);refine Gb (Em p λl T g=>?_);refine Gb (EH (Gd ?_));have W:∀c o,c≠z->c≠i1->c≠TO->s.heap.get? c=Ga o->l.get? c=Ga o:=λc o q M C e=>g.extBut _ _ C (d.extBut _ _ M (F c o q e));refine Gb (Gb (EN ?_));show wpAny _ _ (Builtin.SmallTypes.nextOf (.ref i2)>>=_) _ _ _;refine Gb (R.fin _ _ _ k _ U (R.keep k _ l h2 λc I o e=>by
    rcases I with rfl|rfl
    ·exact W _ o D.i2z D.i12.symm D.TOi2.symm e
    ·exact W _ o D.l2z D.l2i1 D.l2TO e) Z λO e t J=>?_)
   obtain⟨oe,m,r⟩:=J;have y:E5 O z TI TO .ellipsis:=t _ _ D.i2z.symm (g.extBut _ _ D.TOz.symm (d.extBut _ _ D.i1z.symm j));have K:e≠z:=λx=>by subst x;rw[y]at m;cases m;simp at r
   refine Di y (by simp) λP _ u=>S P e (λc o q M C X x=>u.extBut _ _ q (t _ _ X (W c o q C M x))) ⟨oe,u.extBut _ _ K m,r⟩
 ·show wpAny _ _ (field (.ref z) 2>>=_) _ _ _;refine Gb (Tt hz rfl (x:=.bool Gp) rfl ?_);show wpAny _ _ (field (.ref z) 3>>=_) _ _ _;refine Gb (Tt hz rfl (x:=.ref TI) rfl ?_);refine Gb (TY N rfl ?_);show wpAny _ _ (Builtin.SmallTypes.ownedTupleIsFree (.ref z)>>=_) _ _ _;refine Gb (Qef hz ha λh₁ j n=>?_);have F:∀c o,c≠z->s.heap.get? c=Ga o->h₁.get? c=Ga o:=λc o h e=>n.extBut _ _ h e;simp only[Tu,T8];refine Gb ?_;rw[<-D0];simp only[List.forIn_cons,List.forIn_nil];refine Gb (Gb (TL ?_));show wpAny _ _ (Builtin.SmallTypes.nextOf (.ref i1)>>=_) _ _ _;have B:=L.keep k _ h₁ h1 λc I o e=>F c o (by rcases I with rfl|rfl;exact D.i1z;exact D.l1z) e;cases hx:xs[k]? with
  |none=>exact Gb (L.fin _ _ _ k _ U B hx λi e d J=>S i e (λc o q _ C _ x=>d _ _ C (F _ _ q x)) J)
  |some x=>
   have Z:ys[k]?=Gf:=by rcases G with h|h;rw[hx]at h;cases h;exact h
   refine Gb (L.item _ _ _ k x _ B hx λi H d=>Gd (Gd ?_));have V:∀c o,c≠z->c≠i1->s.heap.get? c=Ga o->i.get? c=Ga o:=λc o q M e=>d.extBut _ _ M (F c o q e);refine Gb (Gb (TL ?_));show wpAny _ _ (Builtin.SmallTypes.nextOf (.ref i2)>>=_) _ _ _;exact Gb (R.fin _ _ _ k _ U (R.keep k _ i h2 λc I o e=>by
    rcases I with rfl|rfl
    ·exact V _ o D.i2z D.i12.symm e
    ·exact V _ o D.l2z D.l2i1 e) Z λl e g J=>S l e (λc o q _ C X x=>g _ _ X (V c o q C x)) J)
structure ZSt(S1 S2:Nat->Heap->Prop)(xs ys:Array Value)(z TI TO i1 i2 S:Gc)(i:Nat)(h:Heap)(acc:List Value):Prop where
 zip:(i=0/\E5 h z TI TO .none)\/∃c f oa,Ie h z TI TO c f/\h.get? c=Ga oa/\c≠S/\c≠z/\c≠TO/\c≠i1/\c≠i2
 ti:Dk h TI (.ref i1) (.ref i2)
 to:∃a b,Dk h TO a b
 s1:S1 i h
 s2:S2 i h
 len:acc.length=i
 sl:S<h.objs.size
 out:∀(j:Nat)v,acc[j]?=Ga v->∃c x y,v=.ref c/\xs[j]?=Ga x/\ys[j]?=Ga y/\Dk h c x y/\c≠S/\c≠z/\c≠TO/\c≠i1/\c≠i2/\z<c
theorem Qc1{Q:Option Value->Gi->Prop}{R:Value->Gi->Prop}(c:s.TypeIs (.ref z) "zip")(h:wpAny (GO prog w) A.in1 (Builtin.«zip.__next__» ⟨[.ref z],[]⟩) (λfin s'=>∃v,fin=.done (.ret v)/\Q (Ga v) s') (λe s'=>∃o,(∃a,e=.ref a/\s'.heap.get? a=Ga o/\o.cls=.type "StopIteration")/\Q Gf s') s):wpAny (GO prog w) A (pyNext (.ref z)) Q E s:=by
 unfold pyNext;refine Gb (Eh (Tw (name:=Dc "__next__") c F.slot_zip_next
  (To F.slot_zip_next c F.entry_zip_next (Dh h (λfin s'⟨v,e,q⟩=>⟨v,e,Gd q⟩) λe s'⟨o,⟨a,ea,f,d⟩,q⟩=>?_) (F.args_zip_next_1 _))))
 subst ea;exact Gb (DW (T:="StopIteration") (b:=Ge) ⟨o,f,d⟩ Sg (Gd q))
theorem ZSt.type{S:Gc}{h:Heap}{acc:List Value}(x:ZSt S1 S2 xs ys z TI TO i1 i2 S i h acc):LI {s with heap:=h} (.ref z) "zip":=by
 rcases x.zip with⟨_,e⟩|⟨c,f,a,e,_⟩
 ·exact⟨_,e,Xb⟩
 ·exact⟨_,e,Xb⟩
theorem Qtu{S:Gc}(hh:A.handled=Gf)(D:Lv z TI TO i1 i2 l1 l2)(B:Nxt prog w i1 l1 xs S1)(C:Nxt prog w i2 l2 ys S2)(hS:S≠z/\S≠TI/\S≠TO/\S≠i1/\S≠i2/\S≠l1/\S≠l2):
  Qlt prog w A z S [z,TO,i1,i2] (min xs.size ys.size) (ZSt S1 S2 xs ys z TI TO i1 i2 S)
   (λh acc=>∀(j:Nat)v,acc[j]?=Ga v->∃c x y,v=.ref c/\xs[j]?=Ga x/\ys[j]?=Ga y/\Dk h c x y/\c≠S/\z<c):=by
 have nf:∀{c:Gc},c≠z->c≠TO->c≠i1->c≠i2->c∉[z,TO,i1,i2]:=λa b c d h=>by simp at h;rcases h with h|h|h|h<;>contradiction
 have fn:∀{c:Gc},c∉[z,TO,i1,i2]->c≠z/\c≠TO/\c≠i1/\c≠i2:=λh=>by simp at h;exact h
 refine⟨λi s acc Q E hi st Z=>?_,λs acc Q E st Z=>?_,λi h h' acc st k n=>?_⟩
 ·have hx:xs[i]?=Ga xs[i]:=Ta (by omega);have hy:ys[i]?=Ga ys[i]:=Ta (by omega);obtain⟨ta,tb,g⟩:=st.to;have n:=st.sl;refine Qc1 (R:=λ_ _=>True) st.type ?_;have fin:∀h',(∃c f p,Ie h' z TI TO c f/\h'.get? c=Ga p/\c≠S/\c≠z/\c≠TO/\c≠i1/\c≠i2)->(∃a b,Dk h' TO a b)->S1 (i+1) h'->S2 (i+1) h'->Dk h' s.heap.objs.size xs[i] ys[i]->(∀c o,c≠z->c≠TO->c≠i1->c≠i2->s.heap.get? c=Ga o->h'.get? c=Ga o)->Q (Ga (.ref s.heap.objs.size)) {s with heap:=h',toks:=s.toks}:=by
   intro h' aa N G H t l;have W:z<s.heap.objs.size:=by rcases st.zip with⟨_,e⟩|⟨c,f,p,e,_⟩<;>exact Heap.lt_size e
   have u:TO<s.heap.objs.size:=Heap.lt_size g;have ab:i1≠s.heap.objs.size:=GV (B.there _ _ st.s1).1;have ac:i2≠s.heap.objs.size:=GV (C.there _ _ st.s2).1;refine Z _ h' s.toks ⟨.inr aa,l _ _ D.TIz D.TITO D.TIi1 D.TIi2 st.ti,N,G,H,by simp[st.len],LR n (Heap.lt_size t),λj v m=>?_⟩ λb o hb e=>l b o (fn hb).1 (fn hb).2.1 (fn hb).2.2.1 (fn hb).2.2.2 e;rcases Te j acc.length with h|h
   ·rw[List.getElem?_append_left h]at m;obtain⟨c,x,y,J,K,L,M,F,P,T,U,V,I⟩:=st.out j v m;exact⟨c,x,y,J,K,L,l _ _ P T U V M,F,P,T,U,V,I⟩
   ·rw[List.getElem?_append_right h]at m;have h0:j - acc.length=0:=by have:=(List.getElem?_eq_some_iff.mp m).1;simp at this;omega
    rw[h0]at m;simp at m;subst m;have:j=i:=by have:=st.len;omega
    subst this;exact⟨_,_,_,Xb,hx,hy,t,Tn n,Tn W,Tn u,Gm ab,Gm ac,W⟩
  have W:z<s.heap.objs.size:=by rcases st.zip with⟨_,e⟩|⟨c,f,p,e,_⟩<;>exact Heap.lt_size e
  have u:TO<s.heap.objs.size:=Heap.lt_size g;rcases st.zip with⟨_,hz⟩|⟨c,f,p,hz,q,O,c2,c3,c4,c5⟩
  ·exact Qjq D B C hz st.ti g st.s1 st.s2 hx hy λh' X Y G H t l=>fin h' ⟨_,_,_,X,t,Tn n,Tn W,Tn u,Tn (B.there _ _ st.s1).1,Tn (C.there _ _ st.s2).1⟩ ⟨_,_,Y⟩ G H t l
  ·exact Qrs D B C hz q st.ti st.s1 st.s2 hx hy λh' X G H t l=>fin h' ⟨c,Ge,p,X,l _ _ c2 c4 c5 q,O,c2,c3,c4,c5⟩ ⟨_,_,l _ _ D.TOz D.TOi1 D.TOi2 g⟩ G H t λb o b1 _ b3 b4 e=>l b o b1 b3 b4 e
 ·obtain⟨ta,tb,g⟩:=st.to;refine Qc1 (R:=λ_ _=>True) st.type (Qqq (k:=min xs.size ys.size) hh D B C ?_ st.ti g st.s1 st.s2 ?_ λh' e l he=>?_)
  ·rcases st.zip with⟨_,hz⟩|⟨c,f,p,hz,q,_⟩
   ·exact .inl hz
   ·exact .inr ⟨c,f,p,hz,q⟩
  ·rcases Nat.le_total xs.size ys.size with h|h
   ·exact .inl (T3 (by omega))
   ·exact .inr (T3 (by omega))
  ·obtain⟨o,ho,q⟩:=he;refine⟨o,⟨e,Xb,ho,q⟩,Z h' s.toks (λj v m=>?_) λb o hb e=>l b o (fn hb).1 (fn hb).2.1 (fn hb).2.2.1 (fn hb).2.2.2 e⟩;obtain⟨c,x,y,J,K,L,M,F,P,T,U,V,I⟩:=st.out j v m;exact⟨c,x,y,J,K,L,l _ _ P T U V M,F,I⟩
 ·obtain⟨ta,tb,g⟩:=st.to;refine⟨?_,k _ _ (Gm hS.2.1) st.ti,⟨ta,tb,k _ _ (Gm hS.2.2.1) g⟩,B.keep _ _ _ st.s1 λb hb o e=>k b o ?_ e,C.keep _ _ _ st.s2 λb hb o e=>k b o ?_ e,st.len,n,λj v m=>?_⟩
  ·rcases st.zip with⟨I,hz⟩|⟨c,f,p,hz,q,O,r⟩
   ·exact .inl ⟨I,k _ _ (Gm hS.1) hz⟩
   ·exact .inr ⟨c,f,p,k _ _ (Gm hS.1) hz,k _ _ O q,O,r⟩
  ·rcases hb with rfl|rfl
   ·exact Gm hS.2.2.2.1
   ·exact Gm hS.2.2.2.2.2.1
  ·rcases hb with rfl|rfl
   ·exact Gm hS.2.2.2.2.1
   ·exact Gm hS.2.2.2.2.2.2
  ·obtain⟨c,x,y,J,K,L,M,F,r⟩:=st.out j v m;exact⟨c,x,y,J,K,L,k _ _ F M,F,r⟩
end
theorem Qjw:typeLookup (.type "zip") "__len__"=pure Gf:=by rw[Et,DP];kernel_rfl
theorem Qil:typeLookup (.type "zip") "__length_hint__"=pure Gf:=by rw[Et,DP];kernel_rfl
section
variable{prog:Gj}{w:Gu}{A:Tz}{E:Value->Gi->Prop}{s:Gi}
theorem Qo6{z:Gc}{Q:Bool->Gi->Prop}(a:s.TypeIs (.ref z) "zip")(h:Q Ge s):wpAny (GO prog w) A (Builtin.List.listLengthHint (.ref z)) Q E s:=by unfold Builtin.List.listLengthHint;refine Gb (Do a Qjw ?_);show wpAny _ A (specialOf (Value.ref z) (Dc "__length_hint__")>>=_) _ _ _;refine Gb (Do a Qil ?_);exact Gd h
end
abbrev Qk7(h:Heap)(l1:Gc):Heap:=h.push {cls:=.type "tuple_iterator",data:=.fields #[.ref l1,.int 0 0]}
abbrev Qmg(h:Heap)(l1 l2:Gc):Heap:=(Qk7 h l1).push {cls:=.type "tuple_iterator",data:=.fields #[.ref l2,.int 0 0]}
abbrev Qmo(h:Heap)(l1 l2:Gc):Heap:=(Qmg h l1 l2).push {cls:=.type "tuple",data:=.seq #[.ref h.objs.size,.ref (Qk7 h l1).objs.size]}
abbrev Qmb(h:Heap)(l1 l2:Gc):Heap:=(Qmo h l1 l2).push {cls:=.type "tuple",data:=.seq #[.none,.none]}
abbrev Qdd(h:Heap)(l1 l2:Gc):Heap:=(Qmb h l1 l2).push {cls:=.type "zip",data:=.fields #[.none,.bool Gp,.bool Gp,.ref (Qmg h l1 l2).objs.size,.ref (Qmo h l1 l2).objs.size]}
theorem Qdo(l1 l2:Gc)(xs ys:Array Value):
  Meets (Builtin.«zip.__new__» ⟨[.type "zip",.ref l1,.ref l2],[]⟩) (λ_ R s=>s.heap.IsTuple l1 xs/\s.heap.IsTuple l2 ys/\
   R (.ok (.ret (.ref (Qmb s.heap l1 l2).objs.size))) {s with heap:=Qdd s.heap l1 l2}):=
 .of_wp λprog w A R s h=>by
  obtain⟨f,g,d,tk,os⟩:=s;obtain⟨c,e,h⟩:=h;have i:=sub_zip;have a:Heap.IsTuple (Fa ⟨f,g,d,tk,os⟩) l1 xs:=c;have b:Heap.IsTuple (Fa ⟨f.push {cls:=.type "tuple_iterator",data:=.fields #[.ref l1,.int 0 0]},g,d,tk,os⟩) l2 ys:=Heap.IsTuple.push e _;wp_walk using Ew a,Ew b
  exact⟨_,Xb,h⟩
section
variable{prog:Gj}{w:Gu}{A:Tz}{E:Value->Gi->Prop}{s:Gi}
theorem Qg1{l1 l2:Gc}{ys:Array Value}(b:s.heap.IsTuple l1 xs)(d:s.heap.IsTuple l2 ys)
  (h:∀h',E5 h' (s.heap.objs.size+4) (s.heap.objs.size+2) (s.heap.objs.size+3) .none->Dk h' (s.heap.objs.size+2) (.ref s.heap.objs.size) (.ref (s.heap.objs.size+1))->
   Dk h' (s.heap.objs.size+3) .none .none->h'.IsTupleIter s.heap.objs.size l1 0->h'.IsTupleIter (s.heap.objs.size+1) l2 0->h'.objs.size=s.heap.objs.size+5->
   (∀c o,s.heap.get? c=Ga o->h'.get? c=Ga o)->Q (.ref (s.heap.objs.size+4)) {s with heap:=h'}):
  wpAny (GO prog w) A (call (.type "zip") [.ref l1,.ref l2]) Q E s:=by
 refine callType_new F.called_zip (by decide) (F.typeCall_zip_2 _ _) (F.newCall_zip_2 _ _) (λobj=>F.args_object_init_3 obj _ _) F.entry_zip_new
  (Qdo l1 l2 xs ys) ⟨b,d,?_⟩
 have e:(Qk7 s.heap l1).objs.size=s.heap.objs.size+1:=Heap.size_push ..;have f:(Qmg s.heap l1 l2).objs.size=s.heap.objs.size+2:=by rw[Heap.size_push,e]
 have g:(Qmo s.heap l1 l2).objs.size=s.heap.objs.size+3:=by rw[Heap.size_push,f]
 have i:(Qmb s.heap l1 l2).objs.size=s.heap.objs.size+4:=by rw[Heap.size_push,g]
 have n:(Qdd s.heap l1 l2).objs.size=s.heap.objs.size+5:=by rw[Heap.size_push,i]
 have a:(Qdd s.heap l1 l2).get? (Qmb s.heap l1 l2).objs.size=Ga _:=Heap.get?_push_size _ rfl;have l:(Qdd s.heap l1 l2).get? (Qmo s.heap l1 l2).objs.size=Ga _:=Heap.get?_push_of_some _ (Heap.get?_push_size _ Xb);have k:(Qdd s.heap l1 l2).get? (Qmg s.heap l1 l2).objs.size=Ga _:=Heap.get?_push_of_some _ (Heap.get?_push_of_some _ (Heap.get?_push_size _ Xb));have j:(Qdd s.heap l1 l2).get? (Qk7 s.heap l1).objs.size=Ga _:=Heap.get?_push_of_some _ (Heap.get?_push_of_some _ (Heap.get?_push_of_some _ (Heap.get?_push_size _ Xb)));have m:(Qdd s.heap l1 l2).get? s.heap.objs.size=Ga _:=Heap.get?_push_of_some _ (Heap.get?_push_of_some _ (Heap.get?_push_of_some _ (Heap.get?_push_of_some _ (Heap.get?_push_size _ Xb))));show _/\_;rw[f,g,i]at a;rw[e,f]at k;rw[g]at l;rw[e]at j;rw[i];exact⟨⟨_,a,Xb⟩,h _ a k l ⟨_,m,Xb,Xb⟩ ⟨_,j,Xb,Xb⟩ n λc o x=>Heap.get?_push_of_some _ (Heap.get?_push_of_some _ (Heap.get?_push_of_some _ (Heap.get?_push_of_some _ (Heap.get?_push_of_some _ x))))⟩
theorem Qh7{S1 S2:Nat->Heap->Prop}{l1 l2:Gc}{ys:Array Value}{n0:Nat}(M:A.handled=Gf)(q:Nxt prog w n0 l1 xs S1)(r:Nxt prog w (n0+1) l2 ys S2)(h1:l1<n0)(h2:l2<n0)(hsz:s.heap.objs.size=n0+5)
  (hz:E5 s.heap (n0+4) (n0+2) (n0+3) .none)(g:Dk s.heap (n0+2) (.ref n0) (.ref (n0+1)))(i:Dk s.heap (n0+3) .none .none)(m:S1 0 s.heap)(p:S2 0 s.heap)(P:min xs.size ys.size<=Gh)
  (L:∀h' tk acc c,(∀b o,b<n0->s.heap.get? b=Ga o->h'.get? b=Ga o)->h'.get? (n0+5)=Ga {cls:=.type "list",dict:=Gf,data:=.seq acc c,slots:=#[]}->acc.size=min xs.size ys.size->
   (∀(j:Nat)v,acc.toList[j]?=Ga v->∃c x y,v=.ref c/\xs[j]?=Ga x/\ys[j]?=Ga y/\Dk h' c x y/\c≠n0+5/\n0<=c)->Q (.ref (n0+5)) {s with heap:=h',toks:=tk}):
  wpAny (GO prog w) A (call (.type "list") [.ref (n0+4)]) Q E s:=by
 have D:=Lx (n:=n0) h1 h2;have G:=Qtu (A:=A.in1.in1) (S:=s.heap.objs.size) M D q r ⟨by rw[hsz];exact Tn (Dx _),by rw[hsz];exact Tn (by show n0+2<n0+5;exact DI (by decide) _),by rw[hsz];exact Tn (by show n0+3<n0+5;exact DI (by decide) _),by rw[hsz];exact Tn (ET (by decide)),by rw[hsz];exact Tn (by show n0+1<n0+5;exact DI (by decide) _),by rw[hsz];exact Tn (Tb h1 (T4 _ _)),by rw[hsz];exact Tn (Tb h2 (T4 _ _))⟩;refine Qhl (T:="zip") (hb:=Ge) G (λb hb=>?_) (by rw[hsz];exact Dx _) P (λK a l=>⟨.inl ⟨Xb,a _ _ hz⟩,a _ _ g,⟨_,_,a _ _ i⟩,q.keep _ _ _ m λb _ o e=>a b o e,r.keep _ _ _ p λb _ o e=>a b o e,Xb,l,λj v k=>by simp at k⟩) (λh acc st=>st.type) (by decide) (by decide) (λA E h Q st d=>?_) (λA E h Q st d=>Qo6 st.type d) (λh' tk acc c N hS O t=>?_)
 ·simp only[List.mem_cons,List.not_mem_nil,EB]at hb;rw[hsz];rcases hb with h|h|h|h<;>rw[h]
  ·exact Dx _
  ·exact DI (by decide) _
  ·exact ET (by decide)
  ·exact DI (by decide) _
 ·rcases st.zip with⟨_,e⟩|⟨c,f,R,e,_⟩
  ·exact wpAny_pyIter_zip e d
  ·refine EI (s:={s with heap:=h}) ⟨_,e,Xb⟩ F.slot_zip_iter (To F.slot_zip_iter ⟨_,e,Xb⟩ F.entry_zip_iter ?_ (F.args_zip_iter_1 _));show wpAny _ _ (ret (.ref (n0+4))) _ _ _;exact Gd ⟨_,Xb,"zip",_,⟨_,e,Xb⟩,F.slot_zip_next.lookup,d⟩
 ·rw[hsz]at hS t⊢;refine L h' tk acc c (λb o hb e=>N b o (λz=>?_) e) hS O λj v k=>?_
  ·simp only[List.mem_cons,List.not_mem_nil,EB]at z;rcases z with h|h|h|h<;>rw[h]at hb
   ·exact absurd hb (SD.mpr (T4 _ _))
   ·exact absurd hb (SD.mpr (T4 _ _))
   ·exact absurd hb (Dw _)
   ·exact absurd hb (SD.mpr (T4 _ _))
  ·obtain⟨c,x,y,u,B,C,H,I,J⟩:=t j v k;exact⟨c,x,y,u,B,C,H,I,EV (EA (T4 _ _) J)⟩
end
end PySem
namespace L2
open PySem PySem.Spec PyProof.Rows
theorem Inv.Q13{X:Cx}{pins:List (Gc×DJ)}{σ:List (Option V)}{H H':Hp}{s:Gi}{h':Heap}{t':Nat}(I:Inv X pins σ H s)(k:∀b u,s.heap.get? b=Ga u->h'.get? b=Ga u)(a:∀b,b<s.heap.objs.size->H' b=H b)
  (new:∀b o,s.heap.objs.size<=b->H' b=Ga o->Yk X.prog X.w H' h' b o):Inv X pins σ H' {s with heap:=h',toks:=t'}:=by
 have d:∀b o,H b=Ga o->H' b=Ga o:=λb o e=>by rw[a b (I.Z4 b o e).lt];exact e
 refine I.un ⟨λb u q _ _ _=>k b u q,λb u q _ _ _=>⟨u.slots,k b u q⟩,λb u q n _=>by rw[a b (Heap.lt_size q)];exact n,λb u q _=>⟨u,k b u q⟩,λb xs e=>d b _ e,λb o u e=>d b _ e,λb ps e=>⟨#[],by rw[d b _ e];simp⟩⟩ λb o e=>?_;by_cases hb:b<s.heap.objs.size
 ·rw[a b hb]at e;exact(I.Z4 b o e).Qir (λc u _ q=>k c u q) (λc q=>d c _ q) λc xs q=>d c _ q
 ·exact new b o (Lb hb) e
def PrV(H:Hp)(v:V)(p:V×V):Prop:=∃c,v=.ref c/\H c=Ga (.tup [p.1,p.2])
def Q0y(K:PySem.W.Frag):List V->Hp->VK->Prop:=λvs H Q=>∃p q xs ys,vs=[.ref p,.ref q]/\((Zc K H p xs/\Zc K H q ys)\/(Q9 K H p xs/\Q9 K H q ys))/\
 ∀(r:Gc)(es:List V)(H':Hp),Q5 H H'->H r=Gf->H' r=Ga (.lst es)->Paired (PrV H') es (xs.zip ys)->Q (.ref r) H'
open Classical in
noncomputable def Qd5(H:Hp)(r:Gc)(es:List V)(xs ys:List V):Hp:=λb=>if b=r then Ga (.lst es)else if h:∃p:V×V,∃j:Nat,es[j]?=Ga (.ref b)/\xs[j]?=Ga p.1/\ys[j]?=Ga p.2 then Ga (.tup [(Ef h).1,(Ef h).2])else H b
section
variable{X:Cx}{pins:List (Gc×DJ)}{σ:St}{H:Hp}{s:Gi}
theorem Qk6{h':Heap}{tk c:Nat}{n0:Nat}{acc:Array Value}{xs ys:List V}{us R:List Value}(I:Inv X pins σ H s)(i:s.heap.objs.size=n0)(T:Z0 xs us)(U:Z0 ys R)(hk:∀b o,b<n0->s.heap.get? b=Ga o->h'.get? b=Ga o)
  (hS:h'.get? (n0+5)=Ga {cls:=.type "list",dict:=Gf,data:=.seq acc c,slots:=#[]})(C:acc.size=min us.length R.length)(hz:xs.length<=Gh)
  (J:∀(j:Nat)v,acc.toList[j]?=Ga v->∃c x y,v=.ref c/\us[j]?=Ga x/\R[j]?=Ga y/\Dk h' c x y/\c≠n0+5/\n0<=c):
  ∃es H',Inv X pins σ H' {s with heap:=h',toks:=tk}/\Q5 H H'/\H (n0+5)=Gf/\H' (n0+5)=Ga (.lst es)/\Paired (PrV H') es (xs.zip ys):=by
 have lx:=T.length;have ly:=U.length;have ex:∀j:Nat,j<acc.size->∃c,acc.toList[j]?=Ga (Value.ref c):=λj A=>by
  have e:acc.toList[j]?=Ga acc[j]:=by rw[TM,Ta A]
  obtain⟨c,x,y,a,_⟩:=J j _ e;exact⟨c,by rw[e,a]⟩
 let es:List V:=(List.range acc.size).map λj=>match acc.toList[j]? with|some (Value.ref c)=>V.ref c|_=>V.non
 have f:∀(j:Nat)c,acc.toList[j]?=Ga (Value.ref c)->es[j]?=Ga (V.ref c):=λj c e=>by
  have A:j<acc.size:=by rw[<-Ts];exact(List.getElem?_eq_some_iff.mp e).1
  show((List.range acc.size).map _)[j]?=_;rw[List.getElem?_map,List.getElem?_range A,TF];simp only[e]
 have w:∀(j:Nat)b,es[j]?=Ga (V.ref b)->acc.toList[j]?=Ga (Value.ref b):=λj b e=>by
  have A:j<acc.size:=by have:=(List.getElem?_eq_some_iff.mp e).1;simpa[es]using this
  obtain⟨c,F⟩:=ex j A;rw[f j c F]at e;cases e;exact F
 have g:es.length=acc.size:=by simp[es]
 have M:acc.size=(xs.zip ys).length:=by rw[List.length_zip,C,lx,ly]
 have key:∀b(p:V×V)(j:Nat),es[j]?=Ga (.ref b)->xs[j]?=Ga p.1->ys[j]?=Ga p.2->∃u v,RelV p.1 u/\RelV p.2 v/\Dk h' b u v/\b≠n0+5/\n0<=b:=λb p j a d q=>by obtain⟨c,x,y,Y,Z,f3,f4,f5,f6⟩:=J j _ (w j b a);cases Y;obtain⟨u,S,ru⟩:=T.get d;obtain⟨v,B,rv⟩:=U.get q;rw[Z]at S;cases S;rw[f3]at B;cases B;exact⟨x,y,ru,rv,f4,f5,f6⟩
 have D:∀b(p:V×V)(j:Nat),es[j]?=Ga (.ref b)->xs[j]?=Ga p.1->ys[j]?=Ga p.2->Qd5 H (n0+5) es xs ys b=Ga (.tup [p.1,p.2]):=λb p j a d q=>by obtain⟨u,v,N,P,n,hb,_⟩:=key b p j a d q;have z:∃p:V×V,∃j:Nat,es[j]?=Ga (.ref b)/\xs[j]?=Ga p.1/\ys[j]?=Ga p.2:=⟨p,j,a,d,q⟩;unfold Qd5;rw[Gg hb,dif_pos z];obtain⟨j',g1,g2,g3⟩:=E9 z;obtain⟨u',W,O,Q,K,_⟩:=key b (Ef z) j' g1 g2 g3;have:({cls:=.type "tuple",data:=.seq #[u,v]}:DJ)={cls:=.type "tuple",data:=.seq #[u',W]}:=Tc (n.symm.trans K);injection this with _ _ hd;injection hd with hd;injection hd with hd;injection hd with h1 h2;injection h2 with h2;subst h1 h2;rw[N.inj O,P.inj Q]
 have t:∀b,b<n0->Qd5 H (n0+5) es xs ys b=H b:=λb hb=>by unfold Qd5;rw[Gg (GV (Tb hb (T4 _ _))),dif_neg];rintro⟨p,j,a,d,q⟩;obtain⟨_,_,_,_,_,_,h⟩:=key b p j a d q;exact absurd hb (SD.mpr h)
 have k:∀b,n0<=b->H b=Gf:=λb hb=>I.Z4.fresh (by rw[i];exact hb);refine⟨es,Qd5 H (n0+5) es xs ys,?_,λb o e=>?_,k _ (T4 _ _),by unfold Qd5;rw[Gk rfl],?_⟩
 ·refine I.Q13 (λb u e=>hk b u (by rw[<-i];exact Heap.lt_size e) e) (λb hb=>t b (by rw[<-i];exact hb)) λb o hb e=>?_;by_cases h1:b=n0+5
  ·subst h1;have:o=.lst es:=by unfold Qd5 at e;rw[Gk rfl]at e;exact(Tc e).symm
   subst this;refine⟨by rw[g,M,List.length_zip];omega,acc.toList,c,?_,by rw[DB];exact hS⟩;have all:∀(l:List Value)(m:List V),l.length=m.length->(∀j:Nat,∀v,l[j]?=Ga v->∃c,v=.ref c/\m[j]?=Ga (V.ref c))->Z0 m l:=by
    intro l;induction l with
    |nil=>intro m G _;cases m with
     |nil=>exact .nil
     |cons _ _=>simp at G
    |cons v l L=>intro m G E;cases m with
     |nil=>simp at G
     |cons x m=>obtain⟨r,a,d⟩:=E 0 v rfl;simp at d;subst a d;exact .cons rfl (L m (by simpa using G) λj v B=>by have:=E (j+1) v (by simpa using B);simpa using this)
   refine all acc.toList es (by rw[g,Ts]) λj v B=>?_;obtain⟨r,x,y,a,_⟩:=J j v B;subst a;exact⟨r,Xb,f j r B⟩
  ·by_cases h2:∃p:V×V,∃j:Nat,es[j]?=Ga (.ref b)/\xs[j]?=Ga p.1/\ys[j]?=Ga p.2
   ·obtain⟨p,j,a,d,q⟩:=h2;rw[D b p j a d q]at e;cases e;obtain⟨u,v,N,P,n,_⟩:=key b p j a d q;exact⟨by show 2<=Gh;decide,[u,v],.cons N (.cons P .nil),_,n,Xb,_,Xb⟩
   ·exfalso;unfold Qd5 at e;rw[Gg h1,dif_neg h2,k b (by rw[<-i];exact hb)]at e;cases e
 ·rw[t b (by rw[<-i];exact(I.Z4 b o e).lt)];exact e
 ·have all:∀(m:List V)(l:List (V×V)),m.length=l.length->(∀(j:Nat)p,l[j]?=Ga p->∃v,m[j]?=Ga v/\PrV (Qd5 H (n0+5) es xs ys) v p)->Paired (PrV (Qd5 H (n0+5) es xs ys)) m l:=by
   intro m;induction m with
   |nil=>intro l C _;cases l with
    |nil=>exact .nil
    |cons _ _=>simp at C
   |cons v m L=>intro l C E;cases l with
    |nil=>simp at C
    |cons p l=>obtain⟨W,a,d⟩:=E 0 p rfl;simp at a;subst a;exact .cons d (L l (by simpa using C) λj p n=>by have:=E (j+1) p (by simpa using n);simpa using this)
  refine all es (xs.zip ys) (by rw[g,M]) λj p n=>?_;rw[List.getElem?_zip_eq_some]at n;have A:j<acc.size:=by have h1:=(List.getElem?_eq_some_iff.mp n.1).1;have h2:=(List.getElem?_eq_some_iff.mp n.2).1;rw[M,List.length_zip];omega
  obtain⟨r,F⟩:=ex j A;have:=f j r F;exact⟨.ref r,this,r,Xb,D r p j this n.1 n.2⟩
end
section
variable{X:Cx}{a b:TJ}{ta:TA}{p1 p2 pos1 pos2:E6}
theorem Qdx(hc:X.calm=Ge)(E:Gl X "list")(J:X.mg "list"=Gf)(F:Gl X "zip")(L:X.mg "zip"=Gf)(ha:PA X [a,b] ta)
  (z:GY [Fv (.Name "zip" p2) [a,b] [] pos2] X.env=(Gp,eval (.Call (.Name "zip" p2) [a,b] [] pos2) X.env)::GY [] X.env:=by rfl)(D:GY [a,b] X.env=(Gp,eval a X.env)::GY [b] X.env:=by rfl)
  (P:(Ds pos1 (GY ([]:List TJ) X.env)).any (·.1)=Gp:=by rfl)(R:(Ds pos2 (GY [b] X.env)).any (·.1)=Gp:=by rfl):
  PE X (.Call (.Name "list" p1) [.Call (.Name "zip" p2) [a,b] [] pos2] [] pos1) (tCB (Q0y X.K) ta):=by
 intro pins s σ H Q I h;refine TX (V5 I E J boot_list ?_);refine callWith_type1 ?_ z P;rw[z];show wpAny _ _ (spliced ((Gp,eval (.Call (.Name "zip" p2) [a,b] [] pos2) X.env)::Ds pos1 (GY ([]:List TJ) X.env))) _ _ s;refine Ez ?_;refine TX (V5 I F L boot_zip ?_);refine callWith_type1 (Yz (ha pos2 pins s σ H _ I h) λus s1⟨vs,H1,i,r1,q1⟩=>?_) D R;obtain⟨p,q,xs,ys,rfl,hq,Z⟩:=q1;obtain⟨u,v,rfl,ru,rv⟩:=vals2 r1;cases(show u=Value.ref p from ru);cases(show v=Value.ref q from rv);have Y:=i.ok.hd hc;rcases hq with⟨h1,h2⟩|⟨h1,h2⟩
 ·obtain⟨us,A,d,U⟩:=i.list h1;obtain⟨ws,W,f,V⟩:=i.list h2;have x:p<s1.heap.objs.size:=by obtain⟨_,e,_⟩:=d.isList;exact Heap.lt_size e
  have y:q<s1.heap.objs.size:=by obtain⟨_,e,_⟩:=f.isList;exact Heap.lt_size e
  have lx:=A.length;refine call_zip_2 d.isList f.isList λh' hz k l m n hsz t=>D2 ?_;refine Qh7 (s:={s1 with heap:=h'}) (n0:=s1.heap.objs.size) Y (Qgx (GV x)) (Qgx (GV (Tb y (T4 _ _)))) x y hsz hz k l ⟨m,Heap.IsList.at d.isList (λo e=>t _ o e)⟩ ⟨n,Heap.IsList.at f.isList (λo e=>t _ o e)⟩ (by rw[List.size_toArray,List.size_toArray];omega) λC tk acc c w hS G N=>?_;obtain⟨es,H',B,g,M,S,O⟩:=Qk6 (tk:=tk) i rfl A W (λb o hb e=>w b o hb (t b o e)) hS (by simpa using G) (by omega) (λj v T=>by simpa using N j v T);exact⟨.ref (s1.heap.objs.size+5),H',B,Xb,Z _ es H' g M S O⟩
 ·obtain⟨us,A,d,U⟩:=i.tuple h1;obtain⟨ws,W,f,V⟩:=i.tuple h2;have d:s1.heap.IsTuple p us.toArray:=d;have f:s1.heap.IsTuple q ws.toArray:=f;have x:p<s1.heap.objs.size:=by obtain⟨_,e,_⟩:=d;exact Heap.lt_size e
  have y:q<s1.heap.objs.size:=by obtain⟨_,e,_⟩:=f;exact Heap.lt_size e
  have lx:=A.length;refine Qg1 d f λh' hz k l m n hsz t=>D2 ?_;refine Qh7 (s:={s1 with heap:=h'}) (n0:=s1.heap.objs.size) Y (Qlk (GV x)) (Qlk (GV (Tb y (T4 _ _)))) x y hsz hz k l ⟨m,let⟨o,e,r⟩:=d;⟨o,t _ o e,r⟩⟩ ⟨n,let⟨o,e,r⟩:=f;⟨o,t _ o e,r⟩⟩ (by rw[List.size_toArray,List.size_toArray];omega) λC tk acc c w hS G N=>?_;obtain⟨es,H',B,g,M,S,O⟩:=Qk6 (tk:=tk) i rfl A W (λb o hb e=>w b o hb (t b o e)) hS (by simpa using G) (by omega) (λj v T=>by simpa using N j v T);exact⟨.ref (s1.heap.objs.size+5),H',B,Xb,Z _ es H' g M S O⟩
end
end L2
namespace PySem
theorem Qja:typeLookup (.type "list_reverseiterator") "__len__"=pure Gf:=by rw[Et,DP];kernel_rfl
theorem Qhu:typeLookup (.type "list_reverseiterator") "__length_hint__"=pure (Ga (.builtin "list_reverseiterator.__length_hint__")):=by rw[Et,DP];kernel_rfl
section
variable{prog:Gj}{w:Gu}{A:Tz}{E:Value->Gi->Prop}{s:Gi}
theorem Qo4{z:Gc}{Q:Bool->Gi->Prop}(d:s.TypeIs (.ref z) "list_reverseiterator")(h:Q Gp s):wpAny (GO prog w) A (Builtin.List.listLengthHint (.ref z)) Q E s:=by
 unfold Builtin.List.listLengthHint;refine Gb (Do d Qja ?_);show wpAny _ A (specialOf (Value.ref z) (Dc "__length_hint__")>>=_) _ _ _;refine Gb (Do d Qhu ?_);generalize c:("list_reverseiterator.__length_hint__":String)=e
 wp_delta
 rw[show splitId e=Ga ("list_reverseiterator","__length_hint__")from by subst c;decide+kernel];subst c;refine Gb (DW (T:="list_reverseiterator") (b:=Ge) d (by rw[isSubtype_type];kernel_rfl) ?_);refine Es (λa=>absurd a (by decide)) (λ_=>?_);refine Es (λ_=>?_) (λa=>absurd (by decide+kernel) a);refine Es (λa=>absurd a (by decide+kernel)) (λ_=>?_);exact Gd h
structure Q1w(xs:Array Value)(it l S:Gc)(i:Nat)(h:Heap)(acc:List Value):Prop where
 rv:h.IsRevIter it l ((xs.size:Int) - 1 - (i:Int))
 ls:h.IsList l xs
 acc:acc=xs.toList.reverse.take i
theorem Qt8{xs:Array Value}{it l S:Gc}(p:A.handled=Gf)(hS:S≠it/\S≠l)(d:l≠it):Qlt prog w A it S [it] xs.size (Q1w xs it l S) (λ_ acc=>acc=xs.toList.reverse):=by
 refine⟨λi s acc Q E hi st c=>?_,λs acc Q E st c=>?_,λi h h' acc st k _=>?_⟩
 ·have g:xs[xs.size - 1 - i]?=Ga xs[xs.size - 1 - i]:=Ta (by omega);have e:(xs.size:Int) - 1 - (i:Int)=((xs.size - 1 - i:Nat):Int):=by omega
  have a:=st.rv;rw[e]at a;refine Sa a st.ls g λh' f j=>?_;have q:xs.toList.reverse[i]?=Ga xs[xs.size - 1 - i]:=by rw[List.getElem?_reverse (by rw[Ts];exact hi),Ts,TM];exact g
  refine c _ h' s.toks ⟨?_,st.ls.extBut j.extBut d,?_⟩ λb o hb e=>j.extBut b o (λz=>hb (by simp[z])) e
  ·have m:((xs.size - 1 - i:Nat):Int) - 1=(xs.size:Int) - 1 - ((i+1:Nat):Int):=by omega
   rw[<-m];exact f
  ·rw[st.acc,List.take_add_one,q];rfl
 ·have a:=st.rv;rw[show(xs.size:Int) - 1 - (xs.size:Int)= -1 by omega]at a;refine Si p a λh' n=>c h' s.toks ?_ λb o hb e=>n b o (λz=>hb (by simp[z])) e;rw[st.acc,<-Ts,<-List.length_reverse,List.take_length]
 ·exact⟨st.rv.at λo e=>k it o (Gm hS.1) e,st.ls.at λo e=>k l o (Gm hS.2) e,st.acc⟩
end
end PySem
namespace L2
open PySem PySem.Spec PyProof.Rows
def Qz1(K:PySem.W.Frag):List V->Hp->VK->Prop:=λvs H Q=>∃p xs,vs=[.ref p]/\Zc K H p xs/\∀r,H r=Gf->Q (.ref r) (upd H r (.lst xs.reverse))
theorem Qh1:∀{xs:List V}{us:List Value},Z0 xs us->Z0 xs.reverse us.reverse
 |_,_,.nil=>.nil
 |_,_,.cons h t=>by rw[List.reverse_cons,List.reverse_cons];exact(Qh1 t).append (.cons h .nil)
theorem Qjo{X:Cx}{a:TJ}{ta:TA}{p1 p2 pos1 pos2:E6}(f:X.calm=Ge)(r:Gl X "list")(v:X.mg "list"=Gf)(t:Gl X "reversed")(x:X.mg "reversed"=Gf)(J:PA X [a] ta)
  (g:GY [Fv (.Name "reversed" p2) [a] [] pos2] X.env=(Gp,eval (.Call (.Name "reversed" p2) [a] [] pos2) X.env)::GY [] X.env:=by rfl)(p:GY [a] X.env=(Gp,eval a X.env)::GY [] X.env:=by rfl)
  (y:(Ds pos1 (GY ([]:List TJ) X.env)).any (·.1)=Gp:=by rfl)(B:(Ds pos2 (GY ([]:List TJ) X.env)).any (·.1)=Gp:=by rfl):
  PE X (.Call (.Name "list" p1) [.Call (.Name "reversed" p2) [a] [] pos2] [] pos1) (tCB (Qz1 X.K) ta):=by
 intro pins s σ H Q I h;refine TX (V5 I r v boot_list ?_);refine callWith_type1 ?_ g y;rw[g];show wpAny _ _ (spliced ((Gp,eval (.Call (.Name "reversed" p2) [a] [] pos2) X.env)::Ds pos1 (GY ([]:List TJ) X.env))) _ _ s;refine Ez ?_;refine TX (V5 I t x LH ?_);refine callWith_type1 (Yz (J pos2 pins s σ H _ I h) λus s1⟨vs,H1,k,O,N⟩=>?_) p B;obtain⟨b,xs,rfl,j,q⟩:=N;obtain⟨u,rfl,P⟩:=vals1 O;cases(show u=Value.ref b from P);obtain⟨its,rv,pt,hz⟩:=k.list j;have R:=rv.length;have C:b<s1.heap.objs.size:=by obtain⟨_,e,_⟩:=pt.isList;exact Heap.lt_size e
 refine SA pt.isList (D2 ?_);have hsz:(s1.heap.push (revObj b ((its.toArray.size:Int) - 1))).objs.size=s1.heap.objs.size+1:=Heap.size_push ..;have m:(s1.heap.push (revObj b ((its.toArray.size:Int) - 1))).objs.size≠s1.heap.objs.size:=by rw[hsz];exact Le _
 have n:(s1.heap.push (revObj b ((its.toArray.size:Int) - 1))).objs.size≠b:=by rw[hsz];exact Tn (SR C)
 refine Qhl (s:={s1 with heap:=s1.heap.push (revObj b ((its.toArray.size:Int) - 1))}) (T:="list_reverseiterator") (hb:=Gp) (Qt8 (xs:=its.toArray) (l:=b) (k.ok.hd f) ⟨m,n⟩ (GV C)) (λc f=>?_) (by show s1.heap.objs.size<(s1.heap.push _).objs.size;rw[hsz];exact Dx _) (by rw[List.size_toArray];omega)
  (λh2 D _=>⟨?_,pt.isList.at λo e=>D _ o (Heap.get?_push_of_some _ e),by simp⟩) (λh acc st=>let⟨o,i,f,_⟩:=st.rv;⟨o,i,f⟩) (by decide) (by decide) (λA E h Q st j=>El (s:={s1 with heap:=h}) st.rv j) (λA E h Q st j=>Qo4 (s:={s1 with heap:=h}) (let⟨o,i,f,_⟩:=st.rv;⟨o,i,f⟩) j) (λh' tk acc c L hS M i=>?_)
 ·have e:c=s1.heap.objs.size:=by simpa using f
  rw[e];show s1.heap.objs.size<(s1.heap.push _).objs.size;rw[hsz];exact Dx _
 ·have G:(its.toArray.size:Int) - 1 - ((0:Nat):Int)=(its.toArray.size:Int) - 1:=by omega
  rw[G];exact⟨_,D _ _ (Heap.get?_push_size _ Xb),Xb,Xb⟩
 ·have hS:h'.get? (s1.heap.push (revObj b ((its.toArray.size:Int) - 1))).objs.size=Ga {cls:=.type "list",dict:=Gf,data:=.seq acc c,slots:=#[]}:=hS;have d:s1.heap.objs.size<=(s1.heap.push (revObj b ((its.toArray.size:Int) - 1))).objs.size:=by rw[hsz];exact D1 _
  have F:Inv X pins σ (upd H1 (s1.heap.push (revObj b ((its.toArray.size:Int) - 1))).objs.size (.lst xs.reverse)) {s1 with heap:=h',toks:=tk}:=
   k.laid (t':=tk) (λc o e=>L c o (λz=>by
    have:c=s1.heap.objs.size:=by simpa using z
    exact absurd (Heap.lt_size e) (by rw[this];exact Dw _)) (Heap.get?_push_of_some _ e)) d
    (show Yk X.prog X.w _ h' _ (.lst _)from⟨by rw[List.length_reverse];omega,acc.toList,c,by rw[i];exact Qh1 rv,by rw[DB];exact hS⟩)
  exact⟨.ref (s1.heap.push (revObj b ((its.toArray.size:Int) - 1))).objs.size,_,F,Xb,q _ (k.Z4.fresh d)⟩
end L2
namespace Nt
inductive Qaa:Nat->List (Nat×Nat)->Nat->Prop
 |nil (p:Nat):Qaa p [] p
 |cons {p q z:Nat} {r:List (Nat×Nat)}:Qaa q r z->Qaa p ((p,q)::r) z
theorem Qgs:∀{l:List Nat}{p z:Nat},l.head?=Ga p->l.getLast?=Ga z->Qaa p (l.zip (l.drop 1)) z
 |[],_,_,h,_=>by simp at h
 |[x],p,z,h1,h2=>by simp at h1 h2;subst h1 h2;exact .nil _
 |x::y::r,p,z,h1,h2=>by simp at h1;subst h1;have a:=Qgs (l:=y::r) (p:=y) (z:=z) rfl (by rw[List.getLast?_cons_cons]at h2;exact h2);simp only[List.drop_succ_cons,List.drop_zero,List.zip_cons_cons]at a⊢;exact .cons a
theorem Ch.last{up:Nat->Option Nat}{p:Nat}{l:List Nat}(h:Ch up p l):∃a,l=a++[Zx l]:=by have b:=h.ne;refine⟨l.dropLast,?_⟩;unfold Zx;rw[List.getLastD_eq_getLast?,List.getLast?_eq_some_getLast b];exact(List.dropLast_concat_getLast b).symm
def Qaj(up:Nat->Option Nat)(one a:Nat)(st:List (Nat×Nat)):Prop:=∃(l1 l2 P Q s:List Nat)(m:Nat),Ch up one l1/\Ch up a l2/\l1=P++m::s/\l2=Q++m::s/\(P=[]\/Q=[]\/P.getLast?≠Q.getLast?)/\st=(P++m::Q.reverse).zip ((P++m::Q.reverse).drop 1)
theorem Qpe{P b s s':List Nat}{m d:Nat}(h:P++m::s=b++d::s')(c:s.length<s'.length):∃u,P=b++d::u/\s'=u++m::s:=by
 rcases List.append_eq_append_iff.mp h with⟨a,h1,h2⟩|⟨a,h1,h2⟩
 ·have:=congrArg List.length h2;simp at this;cases a with
  |nil=>simp at h2;rw[h2.2]at c;omega
  |cons y a=>simp at this;omega
 ·cases a with
  |nil=>simp at h2;rw[h2.2]at c;omega
  |cons y a=>simp only[List.cons_append,List.cons.injEq]at h2;exact⟨a,by rw[h1,h2.1],h2.2⟩
theorem Qaj.uniq{up:Nat->Option Nat}{one c:Nat}{st g:List (Nat×Nat)}(a:Qaj up one c st)(b:Qaj up one c g):st=g:=by
 obtain⟨l1,l2,P,Q,s,m,w,x,y,A,ne,rfl⟩:=a;obtain⟨B,C,h,i,s',f,j,k,l,n,q,rfl⟩:=b;have E:=w.uniq j;have F:=x.uniq k;subst E F;have o:P++m::s=h++f::s':=by rw[<-y,l]
 have p:Q++m::s=i++f::s':=by rw[<-A,n]
 have d:∀{P Q h i s s':List Nat}{m f:Nat},P++m::s=h++f::s'->Q++m::s=i++f::s'->(P=[]\/Q=[]\/P.getLast?≠Q.getLast?)->¬s.length<s'.length:=λh1 h2 ne e=>by
  obtain⟨u,p1,p2⟩:=Qpe h1 e;obtain⟨v,r,D⟩:=Qpe h2 e;have:u=v:=by have:=p2.symm.trans D;exact List.append_cancel_right this
  subst this;rcases ne with z|z|z
  ·rw[p1]at z;simp at z
  ·rw[r]at z;simp at z
  ·rw[p1,r,List.getLast?_append,List.getLast?_append,List.getLast?_eq_some_getLast (List.cons_ne_nil _ _)]at z;exact z rfl
 have e:s.length=s'.length:=by have h1:=d o p ne;have h2:=d o.symm p.symm q;omega
 obtain⟨G,t⟩:=List.append_inj' o (by simp[e]);obtain⟨H,_⟩:=List.append_inj' p (by simp[e]);simp only[List.cons.injEq]at t;rw[G,H,t.1]
structure Way(x:Nst W ρ)(one other:Nat)(st:List (Nat×Nat)):Prop where
 path:Qaa one st other
 lk:∀p q,(p,q)∈st->∃k,x.Xg p q=Ga k/\∀n,Cn (x.links.take n) one other->k<n
 len:st.length<=2*x.S.length
 rel:Qaj x.up one other st
end Nt
namespace K03
open PySem L2 Sb Nt
def Qtq(H:Hp)(v:V)(p:Nat×Nat):Prop:=∃c,v=.ref c/\H c=Ga (.tup [jv p.1,jv p.2])
def Qsi(P:Gj)(w:Gu)(C:Gc):Sp:=λvs H Q _=>∃(n:Gc)(A:Na)(fs:List Fm)(tb:Nat)(x:Nn)(one a:Nat),vs=[.ref n,jv one,jv a]/\Z6 P w C H n A fs tb x/\X9 (Yh fs) (Zp fs) x []/\one∈x.S/\a∈x.S/\x.lead one=x.lead a/\x.S.length<=1000/\
 ∀(r:Gc)(es:List V)(st:List (Nat×Nat))(H':Hp),Q5 H H'->H r=Gf->H' r=Ga (.lst es)->Paired (Qtq H') es st->Way x one a st->Q (.ref r) H'
theorem Qv8(P:List Nat)(a m:Nat):atI ((P++[a,m]).map jv) (-2:Int)=Ga (jv a):=by
 unfold atI ixN;rw[Gg (by decide),Gk (by simp;omega)];have e:((-2:Int)+(((P++[a,m]).map jv).length:Int)).toNat=P.length:=by simp;omega
 rw[e];simp
theorem Qxc(Q:List Nat)(m:Nat):Uq ((Q++[m]).map jv) Gf (Ga (-1:Int))=Q.map jv:=by
 unfold Uq;rw[HT.R8];have e:HT.Wh ((Q++[m]).map jv).length ((Q++[m]).map jv).length (Ga (-1:Int))=Q.length:=by show(if(-1:Int)<0 then((-1:Int)+(((Q++[m]).map jv).length:Int)).toNat else min (-1:Int).toNat ((Q++[m]).map jv).length)=_;rw[Gk (by decide)];simp;omega
 rw[e];simp
theorem Qzc(l:List V):Uq l (Ga 1) Gf=l.drop 1:=by
 cases l with
 |nil=>rfl
 |cons x r=>rw[Qc5];rfl
theorem Qcr{H:Hp}:∀{es:List V}{l m:List Nat},Paired (PrV H) es ((l.map jv).zip (m.map jv))->Paired (Qtq H) es (l.zip m)
 |_,[],m,h=>by simp at h;cases h;simp;exact .nil
 |_,x::l,[],h=>by simp at h;cases h;simp;exact .nil
 |_,x::l,y::m,h=>by
  simp only[List.map_cons,List.zip_cons_cons]at h⊢;cases h with
  |cons h t=>exact .cons h (Qcr t)
section
variable{P:Gj}{w:Gu}{K:PySem.W.Frag}{mg:GJ->Option Value}{base:Heap}
theorem Qvl:Q3 ["self","one","other","climb","descent","stops"] ["self","one","other"] (Qn Qt5):=by eq_refl
set_option hygiene false
local macro_rules
 |`(tactic|infer_instance)=>`(tactic|(
 refine⟨_,Xb,_,Xb,_,Xb,_,Xb,⟨rd,_,Xb,Zc.of ed,λr1 hr1'=>?_⟩⟩
 rw[Qxc]
 have z1:=Qk (o:=.lst (_root_.List.map jv Qq)) ec (Qd ec hr1')
 refine⟨r1,_,Xb,Zc.of Qb,λr2 hr2'=>?_⟩
 have z2:=Qk (o:=.lst (_root_.List.map jv Qq).reverse) z1 (Qd z1 hr2')
 refine⟨rc,r2,_,_,Xb,Xb,z2,Qb,small (by rw[List.length_reverse,List.length_map,List.length_map,List.length_append];simp only[List.length_cons,List.length_nil];omega),λr3 hr3'=>?_⟩
 have ecat:List.map jv (Pp++[mm])++(List.map jv Qq).reverse=(Pp++mm::Qq.reverse).map jv:=by simp
 rw[ecat]
 dsimp only[V2]
 refine⟨_,Xb,_,Xb,⟨_,Xb,⟨r3,_,Xb,Zc.of Qb,λr4 hr4'=>?_⟩⟩⟩
 rw[Qzc]
 have n34:r3≠r4:=Qd Qb hr4'
 have s5:Q5 H3 (upd (upd (upd (upd H3 r1 (.lst (List.map jv Qq))) r2 (.lst (List.map jv Qq).reverse)) r3 (.lst ((Pp++mm::Qq.reverse).map jv))) r4 (.lst (((Pp++mm::Qq.reverse).map jv).drop 1))):=((Qf hr1' _).trans (Qf hr2' _)).trans ((Qf hr3' _).trans (Qf hr4' _))
 refine⟨r3,r4,_,_,Xb,.inl ⟨Zc.of (Qk Qb n34),Zc.of Qb⟩,λr es H' sm r0 hr' pr=>?_⟩
 rw[<-List.map_drop]at pr
 exact q r es _ H' (g3.trans (s5.trans sm)) (g3.free (s5.free r0)) hr' (Qcr pr) ⟨Qgs hone hoth,λp q' hm=>I.fst.way h1 h2 k1 k2 hne p q' hm,by rw[List.length_zip,List.length_append,List.length_cons,List.length_reverse];omega,_,_,_,_,_,_,h1,h2,k1,k2,hne,Xb⟩))
set_option hygiene true
theorem Qwm{f fU C:Gc}{fd R:Tf}(F:Wz K "way" "Net.way" Qt5 f fd)(T:V7 K mg C)(B:J0 mg)(mU:Yd K C "way_up" fU)(GU:Qz P w K mg base Yb 1 fU R ["self","place"] (Qlw P w C))(bU:Binds K R ["self","place"] []):
  Qz P w K mg base Yb 2 f fd ["self","one","other"] (Qsi P w C):=by
 refine F.ok Qvl (λvs H Q E h=>?_) (λcdv A outer s H vs Q E g h=>?_)
 ·obtain⟨n,A,fs,tb,x,one,d,rfl,_⟩:=h;rfl
 obtain⟨n,A,fs,tb,x,one,d,rfl,X,I,oS,tS,he,hS,q⟩:=h;have W:Yf 1 _:=g.mono (by omega);have nd:=Qvl.nd;refine⟨_,Qc (Qy 3 nd (Zg (pv 0) T.cl mU GU W bU .nil Q7 (Qa (pv 1) Qe)))
  (Qc (Qy 4 nd (Zg (pv 0) T.cl mU GU W bU .nil Q7 (Qa (pv 2) Qe)))
  (Qc (Wn Gs (PW.pt (Qai (Qo Qp6 (Qp Z2 rfl B.len PySem.boot_len (Qa (pv 3) Qe)) Qi (Qs _)) (Qai (Qo Qp6 (Qp Z2 rfl B.len PySem.boot_len (Qa (pv 4) Qe)) Qi (Qs _))
    (Oa (Qo Xi (Ql Ze (pv 3) (Jl Vj Qi)) (Ql Ze (pv 4) (Jl Vj Qi)) (Qs _))))))
   (Qc (Zk (Qab PySem.F.plainAttrs_list PySem.F.slot_list_pop PySem.F.type_list_pop Qav (pv 3)))
   (Qh (Zk (Qab PySem.F.plainAttrs_list PySem.F.slot_list_pop PySem.F.type_list_pop Qav (pv 4))))))
  (Qc (Qy 5 nd (Zs Vi (pv 3) (Qjo rfl rfl B.list rfl B.reversed (Qa (Yl Ub (pv 4) Xl (Yn (Jl Vj Qi))) Qe))))
  (Qh (Qt (Qdx rfl rfl B.list rfl B.zip (Qa (pv 5) (Qa (Yl Ub (pv 5) (Yn Qi) Xl) Qe)))))))),?_⟩
 obtain⟨l1,h1⟩:=I.fst.chain one oS;obtain⟨l2,h2⟩:=I.fst.chain d tS;have sub1:=I.fst.chS h1 oS;have J:=I.fst.chS h2 tS;have ah:=Xo h1.nodup sub1;have ai:=Xo h2.nodup J;obtain⟨dx,o1⟩:=X.ob;refine⟨_,Xb,n,dx,_,Xb,o1,Qh5 _,_,Xb,n,A,fs,tb,x,one,l1,Xb,X,h1,sub1,by omega,λrc H1 g1 c1 e1=>?_⟩;refine⟨_,Xb,n,dx,_,Xb,g1 _ _ o1,Qh5 _,_,Xb,n,A,fs,tb,x,d,l2,Xb,X.same g1,h2,J,by omega,λrd H2 g2 d2 e2=>?_⟩;have af:=g1.trans g2;have ag:H rd=Gf:=g1.free d2;have aa:rc≠rd:=Qd e1 d2;have er:Zx l1=Zx l2:=(I.root one d l1 l2 oS tS h1 h2).mp he;obtain⟨P0,f1⟩:=h1.last;obtain⟨Q0,f2⟩:=h2.last;dsimp only[V2];refine⟨λm σ H3=>∃(Pp Qq s0:List Nat)(mm:Nat),m=Pp.length/\l1=Pp++mm::s0/\l2=Qq++mm::s0/\σ=[Ga (.ref n),Ga (jv one),Ga (jv d),Ga (.ref rc),Ga (.ref rd),Gf]/\Q5 H H3/\H3 rc=Ga (.lst ((Pp++[mm]).map jv))/\H3 rd=Ga (.lst ((Qq++[mm]).map jv)),
  ⟨_,P0,Q0,[],Zx l1,Xb,f1,by rw[er];exact f2,Xb,af,by rw[<-f1];exact g2 _ _ e1,by rw[er,<-f2];exact e2⟩,?_⟩
 rintro m σ H3 ⟨Pp,Qq,s0,mm,rfl,k1,k2,rfl,g3,ec,ed⟩;have lc:((Pp++[mm]).map jv).length=Pp.length+1:=by simp
 have ld:((Qq++[mm]).map jv).length=Qq.length+1:=by simp
 have lP:Pp.length+1<=l1.length:=by rw[k1];simp
 have lQ:Qq.length+1<=l2.length:=by rw[k2];simp
 have hone:(Pp++mm::Qq.reverse).head?=Ga one:=by
  obtain⟨r,g⟩:=h1.head;rw[k1]at g;cases Pp with
  |nil=>simp at g⊢;exact g.1
  |cons a Pp=>simp at g⊢;exact g.1
 have hoth:(Pp++mm::Qq.reverse).getLast?=Ga d:=by
  obtain⟨r,g⟩:=h2.head;rw[k2]at g;rw[List.getLast?_append];have:(mm::Qq.reverse).getLast?=Ga d:=by
   cases Qq with
   |nil=>simp at g⊢;exact g.1
   |cons a Qq=>simp at g;rw[List.reverse_cons,<-List.cons_append,List.getLast?_concat,g.1]
  rw[this];rfl
 refine⟨_,Xb,rc,_,Xb,.inl (Zc.of ec),_,_,Xb,Xb,_,Xb,?_⟩;rw[lc];by_cases S:Pp=[]
 ·have hne:Pp=[]\/Qq=[]\/Pp.getLast?≠Qq.getLast?:=.inl S;rw[Gq (by rw[S];decide)];refine Q6 (Q6 ?_);infer_instance
 rw[Gr (by have:0<Pp.length:=List.length_pos_iff.mpr S;omega)];refine Yy ⟨_,Xb,rd,_,Xb,.inl (Zc.of ed),_,_,Xb,Xb,_,Xb,?_⟩;rw[ld];by_cases U:Qq=[]
 ·have hne:Pp=[]\/Qq=[]\/Pp.getLast?≠Qq.getLast?:=.inr (.inl U);rw[Gq (by rw[U];decide)];refine Q6 (Q6 ?_);infer_instance
 rw[Gr (by have:0<Qq.length:=List.length_pos_iff.mpr U;omega)];obtain⟨y,a,eP⟩:∃y a,Pp=y++[a]:=⟨Pp.dropLast,Pp.getLast S,(List.dropLast_concat_getLast S).symm⟩;obtain⟨G,b,eQ⟩:∃G b,Qq=G++[b]:=⟨Qq.dropLast,Qq.getLast U,(List.dropLast_concat_getLast U).symm⟩;have ad:H3 rc=Ga (.lst ((y++[a,mm]).map jv)):=by rw[ec,eP];simp
 have ae:H3 rd=Ga (.lst ((G++[b,mm]).map jv)):=by rw[ed,eQ];simp
 refine Yy ⟨_,Xb,⟨_,Xb,rc,_,_,_,Xb,Xb,Zc.of ad,Qv8 _ _ _,_,Xb,⟨_,Xb,rd,_,_,_,Xb,Xb,Zc.of ae,Qv8 _ _ _,Xb,_,Xb,?_⟩⟩⟩;rw[Qfg];by_cases N:a=b
 ·subst N;subst eP eQ;rw[Gr rfl];refine Yy ⟨_,λ_ _ h=>h,?_⟩;have Y:((y++[a]++[mm]).map jv)[((y++[a]++[mm]).map jv).length - 1]?=Ga (jv mm):=by simp
  have Z:((G++[a]++[mm]).map jv)[((G++[a]++[mm]).map jv).length - 1]?=Ga (jv mm):=by simp
  have ab:((y++[a]++[mm]).map jv).dropLast=(y++[a]).map jv:=by rw[List.map_append (l₂:=[mm])];simp
  have ac:((G++[a]++[mm]).map jv).dropLast=(G++[a]).map jv:=by rw[List.map_append (l₂:=[mm])];simp
  refine⟨_,Xb,.inl ⟨Xb,_,Zc.of ec⟩,rc,_,_,Xb,Xb,ec,Y,?_⟩;rw[ab];have O:(upd H3 rc (.lst ((y++[a]).map jv))) rd=Ga (.lst ((G++[a]++[mm]).map jv)):=by rw[Qg (Gm aa)];exact ed
  refine⟨_,Xb,.inl ⟨Xb,_,Zc.of O⟩,rd,_,_,Xb,Xb,O,Z,?_⟩;rw[ac];refine⟨y.length,by simp,y,G,mm::s0,a,Xb,by rw[k1];simp,by rw[k2];simp,Xb,λc o e=>?_,?_,Qb⟩
  ·rw[Qg (Qd e ag),Qg (Qd e c1)];exact g3 c o e
  ·rw[Qg aa,Qb]
 ·have hne:Pp=[]\/Qq=[]\/Pp.getLast?≠Qq.getLast?:=.inr (.inr (by rw[eP,eQ,List.getLast?_concat,List.getLast?_concat];intro z;exact N (Tc z)));rw[Gq N];refine Q6 ?_;infer_instance
end
end K03
namespace PySem
section
variable{prog:Gj}{w:Gu}{A:Tz}{E:Value->Gi->Prop}{s:Gi}{d v:Gc}{es:Array DO}{ep:Nat}
theorem Qnj{Q:Value->Gi->Prop}(f:s.heap.IsValuesView v d)(j:s.heap.Jp d es ep)
  (h:Q (.ref s.heap.objs.size) {s with heap:=s.heap.push {cls:=.type "dict_valueiterator",data:=.fields #[.ref d,.int 0 0,.int es.size 0,.int ep 0]}}):
  wpAny (GO prog w) A (pyIter (.ref v)) Q E s:=by
 obtain⟨ov,e,i,c⟩:=id f;obtain⟨o,g,k,a⟩:=id j;refine EI f.typeIs F.slot_dict_values_iter (To F.slot_dict_values_iter f.typeIs F.entry_dict_values_iter ?_ (F.args_dict_values_iter_1 _));unfold Builtin.«dict_values.__iter__»;refine Gb (Gd ?_);refine Gb ?_;unfold Builtin.Dict_items.dictOf;refine Gb (Tt e c (x:=.ref d) rfl (Gd ?_));refine Gb ?_;unfold Builtin.Dict_items.newIterator;refine Gb (De g a ?_);refine Gb (DN g a ?_);have b:Builtin.Dict_items.ownsTuple "dict_valueiterator"=Gp:=by decide
 simp only[b,Tu,T8];refine Tp (Gd ⟨_,Xb,"dict_valueiterator",_,⟨_,Heap.get?_push_size _ Xb,Xb⟩,F.slot_dict_valueiterator_next.lookup,?_⟩);simpa[rawInt]using h
theorem Qnz{it:Gc}{i:Nat}{e:DO}{Q:Option Value->Gi->Prop}(a:s.heap.IsValIter it d i es.size ep)(r:s.heap.Jp d es ep)(k:es[i]?=Ga e)
  (m:∀h',h'.IsValIter it d (i+1) es.size ep->Heap.SameBut it s.heap h'->Q (Ga e.val) {s with heap:=h'}):
  wpAny (GO prog w) A (pyNext (.ref it)) Q E s:=by
 obtain⟨o,l,n,hd⟩:=id a;obtain⟨od,g,p,f⟩:=id r;unfold pyNext;refine Gb (Eh (Tw (name:=Dc "__next__") a.typeIs F.slot_dict_valueiterator_next
  (To F.slot_dict_valueiterator_next a.typeIs F.entry_dict_valueiterator_next ?_ (F.args_dict_valueiterator_next_1 _))))
 refine Gb (Gd ?_);refine Gb ?_;refine Gb ?_;first|refine Gb (Dl a.typeIs (Gd ?_))|refine Gb (DF a.typeIs (Gd ?_))
 refine Gb (EC l hd ?_);have j:Builtin.Dict_items.ownsTuple "dict_valueiterator"=Gp:=by decide
 simp only[j,Tu,T8];show wpAny _ _ (if(Value.ref d==Value.none)=Ge then _ else _) _ _ s;rw[Gg (show¬((Value.ref d==Value.none)=Ge)from Gv)];refine Gb (Gd ?_);refine Gb (De g f ?_);rw[Gg (by simp)];refine Gb (Gd ?_);refine Gb (DN g f ?_);rw[Gg (by simp)];refine Gd ?_;have c:i<es.size:=by
  rcases Te i es.size with h|h
  ·exact h
  ·rw[T3 h]at k;cases k
 have q:es[i]=e:=by rw[Ta c]at k;exact Tc k
 simp only[show¬((i:Int)<0)from by omega,T8,T5,Ta c];refine Gb ?_;first|refine Gb (Dl a.typeIs (Gd ?_))|refine Gb (DF a.typeIs (Gd ?_))
 refine Gb (Ed a.typeIs ?_);show wpAny _ _ (setField (.ref it) 1 (rawInt ((i:Int)+1))>>=_) _ _ s;refine Gb (DT l hd (by simp) ?_);have b:(s.heap.update it (Ei (·.setIfInBounds 1 (rawInt ((i:Int)+1))))).IsValIter it d (i+1) es.size ep:=
  ⟨_,Heap.get?_update_self _ l (Eb (Dy hd _)),(EJ ..).trans n,by rw[Dy hd];simp[rawInt]⟩
 refine Gb (TL ?_);refine Gb (Ed (s:={s with heap:=s.heap.update it (Ei (·.setIfInBounds 1 (rawInt ((i:Int)+1))))}) b.typeIs ?_);refine Gb (Ed (s:={s with heap:=s.heap.update it (Ei (·.setIfInBounds 1 (rawInt ((i:Int)+1))))}) b.typeIs ?_);show wpAny _ _ (pure es[i].val) _ _ _;rw[q];exact Gd (Gd ⟨_,Xb,Gd (m _ b (Heap.SameBut.update ..))⟩)
theorem Qry{it:Gc}{i:Nat}{Q:Option Value->Gi->Prop}(n:A.handled=Gf)(c:s.heap.IsValIter it d i es.size ep)(p:s.heap.Jp d es ep)(h:es.size<=i)
  (k:∀h',Heap.ExtBut it s.heap h'->Q Gf {s with heap:=h'}):wpAny (GO prog w) A (pyNext (.ref it)) Q E s:=by
 obtain⟨o,j,q,hd⟩:=id c;obtain⟨od,f,l,e⟩:=id p;unfold pyNext;refine Gb (Eh (Tw (name:=Dc "__next__") c.typeIs F.slot_dict_valueiterator_next
  (To F.slot_dict_valueiterator_next c.typeIs F.entry_dict_valueiterator_next ?_ (F.args_dict_valueiterator_next_1 _))))
 refine Gb (Gd ?_);refine Gb ?_;refine Gb ?_;first|refine Gb (Dl c.typeIs (Gd ?_))|refine Gb (DF c.typeIs (Gd ?_))
 refine Gb (EC j hd ?_);have g:Builtin.Dict_items.ownsTuple "dict_valueiterator"=Gp:=by decide
 simp only[g,Tu,T8];show wpAny _ _ (if(Value.ref d==Value.none)=Ge then _ else _) _ _ s;rw[Gg (show¬((Value.ref d==Value.none)=Ge)from Gv)];refine Gb (Gd ?_);refine Gb (De f e ?_);rw[Gg (by simp)];refine Gb (Gd ?_);refine Gb (DN f e ?_);rw[Gg (by simp)];refine Gd ?_;simp only[show¬((i:Int)<0)from by omega,T8,T5,T3 h];refine Gb ?_;first|refine Gb (Dl c.typeIs (Gd ?_))|refine Gb (DF c.typeIs (Gd ?_))
 show wpAny _ _ (setField (.ref it) 0 .none>>=_) _ _ s;refine Gb (DT j hd (by simp) ?_);show wpAny _ _ (newExc (.type "StopIteration") []>>=_) _ _ _;refine Gb ?_;simp only[newExc,newTuple];refine Gb (Tp ?_ (by size_fits));refine Gb (m:=firstArgMember _ _) (Lf (a:=Value.none) (by first|rfl|(simp only[firstArgMember];rfl)) ?_);refine Tp ?_ (by size_fits);simp only[raiseNew];refine Gb (So ?_);rw[show A.in1.handled=Gf from n];refine Gb (Gd (Lg ?_));refine Gb (DW (T:="StopIteration") (b:=Ge) ⟨_,Heap.get?_push_size _ Xb,Xb⟩ Sg ?_);exact Gd (k _ (((Heap.SameBut.update ..).extBut.push _).push _))
theorem Walks.Qum(m:A.handled=Gf)(I d:Gc)(j:d≠I)(es:Array DO)(ep:Nat):
  Walks prog w A I [I,d] [I] es.size (λi v=>∃e,es[i]?=Ga e/\v=e.val) (λi h=>h.IsValIter I d i es.size ep/\h.Jp d es ep) where
 sub:=λb hb=>by simp at hb;simp[hb]
 frame:=λ_ _ _ st k=>⟨st.1.at λo e=>k I (by simp) o e,st.2.at λo e=>k d (by simp) o e⟩
 item:=λi s Q E hi st a=>by have l:es[i]?=Ga es[i]:=Ta hi;refine Qnz st.1 st.2 l λh' c f=>?_;exact a _ h' s.toks ⟨_,l,Xb⟩ ⟨c,st.2.at λo e=>(f.2 d j).trans e⟩ λb o hb e=>f.extBut b o (λh=>hb (by simp[h])) e
 done:=λs Q E st a=>Qry m st.1 st.2 (Gn _) λh' g=>a h' s.toks λb o hb e=>g b o (λh=>hb (by simp[h])) e
 self:=λ_ _ _ _ st a=>wpAny_pyIter_valiter st.1 a
theorem Qqx:PySem.W.KdlSrc prog w "dict_values" v d es.size (λi x=>∃e,es[i]?=Ga e/\x=e.val) (λh=>h.IsValuesView v d/\h.Jp d es ep) where
 type:=λ_ a=>a.1.typeIs
 there:=λ_ a=>⟨let⟨_,ho,_⟩:=a.1;Heap.lt_size ho,a.2.lt⟩
 keep:=λ_ _ a c=>⟨let⟨o,ho,x⟩:=a.1;⟨o,c v (.inl Xb) o ho,x⟩,a.2.at λo e=>c d (.inr Xb) o e⟩
 notList:=by decide
 notTuple:=by decide
 hint:=λ_ _ _ _ a b=>PySem.W.kdl_hint_values a.1.typeIs b
 iter:=λ_ _ f a=>⟨_,_,(λ_ _ b=>Qnj a.1 a.2 b),Walks.Qum f _ d (GV a.2.lt) es ep,⟨⟨_,Heap.get?_push_size _ Xb,Xb,Xb⟩,a.2.at λo e=>Heap.get?_push_of_some _ e⟩⟩
end
end PySem
namespace L2
open PySem PySem.Spec PyProof.Rows
variable{P:Gj}{w:Gu}{H:Hp}{X:Cx}{σ:St}{a:Gc}{kvs:List (Xz×V)}{tg:TJ}
def vvw(v d:Gc):HO:=.ext λh=>h.IsValuesView v d
theorem Qxw{h:Heap}{v d:Gc}(x:h.IsValuesView v d):Yk P w H h v (vvw v d):=by
 refine⟨x,?_,?_⟩
 ·obtain⟨o,a,_⟩:=x;exact⟨o,a⟩
 ·rintro h1 h2 ⟨o,a,r⟩ k;exact⟨o,k o a,r⟩
section
variable{X:Cx}{o:TJ}{to:TE}{name:GJ}{apos cpos:E6}{id:String}{r:V->List V->Hp->VK->Prop}
def Qyq(P:Gj)(w:Gu)(r:V->List V->Hp->VK->Prop)(to:TE):TE:=λσ H Q=>to σ H λx H1=>(∃d kvs,x=.ref d/\H1 d=Ga (Vn P w d kvs))/\r x [] H1 Q
theorem Qti(slot:Slot "dict" name id)(c:typeOf (.builtin id)=pure (.type "method_descriptor"))(g:MtR X id r)(i:PE X o to)
  (a:attributeBase o name X.env (eval o X.env)=eval o X.env:=by rfl)(b:(apos.endLine==cpos.line)=Ge:=by rfl):PE X (.Call (.Attribute o name apos) [] [] cpos) (Qyq X.prog X.w r to):=by
 intro pins s σ H Q I h;refine ER a b (Yz (i pins s σ H _ I h) λv s1⟨x,H1,e,k,ty,j⟩=>?_);obtain⟨d,kvs,rfl,f⟩:=ty;cases(show v=Value.ref d from k);obtain⟨h1,h2⟩:=Qg2 e f;exact⟨"dict",id,PySem.F.plainAttrs_dict,slot,c,h1,h2,DL rfl (PySem.evalArgs_none (g pins s1 σ H1 (.ref d) [] _ [] Q e rfl .nil j))⟩
def Qz3(P:Gj)(w:Gu):V->List V->Hp->VK->Prop:=λx vs H Q=>∃d kvs,x=.ref d/\vs=[]/\DH P w H d kvs/\∀v,H v=Gf->Q (.ref v) (upd H v (vvw v d))
theorem Qu8:MtR X "dict.values" (Qz3 X.prog X.w):=by intro pins s σ H x vs v us Q I c rv h;obtain⟨d,kvs,rfl,rfl,D,q⟩:=h;cases(show v=Value.ref d from c);cases rv;obtain⟨z,hd,ys,rel,o,es,ep,h1,h2,e,f,nodup⟩:=Qad I D.at_;have b:s.TypeIs (.ref d) "dict":=⟨o,h1,h2.1⟩;refine To PySem.F.slot_dict_values b PySem.F.entry_dict_values ?_ (PySem.F.args_dict_values_1 _);refine Gb ?_;unfold Builtin.Dict.noArgs;refine Gb (Ea b ?_);show wpAny _ _ (pure d) _ _ s;refine Gd ?_;show wpAny _ _ (Builtin.Dict.showsAll d>>=_) _ _ s;unfold Builtin.Dict.showsAll;rw[Gg (by rw[hd];exact Gv)];refine Gb (Gd ?_);refine Gb (Tp (Gd ⟨_,Xb,?_⟩));exact⟨.ref s.heap.objs.size,_,I.laid (a:=s.heap.objs.size) (o:=vvw s.heap.objs.size d) (t':=s.toks) (λ_ _ q=>Heap.get?_push_of_some _ q) (Gn _) (Qxw ⟨_,Heap.get?_push_size _ Xb,Xb,Xb⟩),Xb,q _ (I.Z4.fresh (Gn _))⟩
theorem Qd0(B:X.calm=Ge):V1 X (.type "list") (λxs H Q=>∃v d kvs,xs=[.ref v]/\H v=Ga (vvw v d)/\DH X.prog X.w H d kvs/\∀l,H l=Gf->Q (.ref l) (upd H l (.lst (kvs.map λp=>p.2.2)))):=by
 intro pins s σ H xs us Q I r h;obtain⟨v,d,kvs,rfl,k,D,q⟩:=h;obtain⟨u,rfl,G⟩:=vals1 r;cases(show u=Value.ref v from G);obtain⟨z,hd,ys,rel,o,es,ep,h1,h2,A,m,nodup⟩:=Qad I D.at_;have n:s.heap.IsValuesView v d:=(I.Z4 v _ k).1;have e:es.size=kvs.length:=by rw[Paired.length rel,<-List.length_map (f:=entryOfKey (Vc X.prog X.w)),<-m,Ts]
 refine PySem.W.kdl_call (Qqx (es:=es) (ep:=ep)) (I.ok.hd B) ⟨n,o,h1,h2,A⟩ (by rw[e];exact z) λh' tk a y kp hS b=>?_;have g:(kvs.map λp=>p.2.2).length<=Gh:=by rw[List.length_map];exact z
 have k:Z0 (kvs.map λp=>p.2.2) a.toList:=by
  have j:es.toList.map (·.val)=ys.map λq=>q.2.2:=by rw[m,List.map_map];rfl
  have c:a.toList=es.toList.map (·.val):=by
   refine List.ext_getElem? λi=>?_;by_cases hi:i<a.size
   ·obtain⟨en,C,k⟩:=b.2 i a[i] (Ta hi);rw[TM,Ta hi,List.getElem?_map,TM,C,k];rfl
   ·have hsz:=b.1;rw[List.getElem?_eq_none (by simp;omega),List.getElem?_eq_none (by simp;omega)]
  rw[c,j];clear q z m j c g e b D nodup;induction rel with
  |nil=>exact .nil
  |@cons p q ps J E t F=>rw[List.map_cons,List.map_cons];exact .cons E.2.2 F
 have x:Inv X pins σ (upd H s.heap.objs.size (.lst (kvs.map λp=>p.2.2))) {s with heap:=h',toks:=tk}:=
  I.laid (t':=tk) kp (Gn _) (show Yk X.prog X.w _ h' _ (.lst _)from⟨g,a.toList,y,k,by rw[DB];exact hS⟩)
 exact⟨.ref s.heap.objs.size,_,x,Xb,q _ (I.Z4.fresh (Gn _))⟩
end
def Pln:HO->Prop
 |.dK _=>True
 |.frz _ (.dK _)=>True
 |_=>False
theorem Inv.swap{pins:List (Gc×DJ)}{s:Gi}{u d:HO}(I:Inv X pins σ H s)(e:H a=Ga u)(f:Pln u)(k:Pln d)(hz:∀o v,X.H₀ a≠Ga (.frz o v))(new:Yk X.prog X.w (upd H a d) s.heap a d):Inv X pins σ (upd H a d) s:=by
 have nn:∀b,H b=Gf->b≠a:=λb hb z=>by rw[z,e]at hb;cases hb
 have tp:∀b xs,H b=Ga (.tup xs)->b≠a:=λb xs hb z=>by rw[z,e]at hb;cases hb;exact f
 have r:∀b y,H b=Ga (.own y)->b≠a:=λb xs hb z=>by rw[z,e]at hb;cases hb;exact f
 have tb:∀b ps,H b=Ga (.tbl ps)->b≠a:=λb xs hb z=>by rw[z,e]at hb;cases hb;exact f
 refine⟨I.ok,I.os,I.bare,⟨I.base.keep,I.base.slot,λb o i n l=>?_,I.base.there,λb xs h=>?_,λb o v h=>?_,λb ps h=>?_⟩,I.loc,I.cell,?_,λx c h=>?_,λp h=>?_,λb o h=>?_,I.len⟩
 ·have:=I.base.free b o i n l;rw[Qg (nn b this)];exact this
 ·have:=I.base.Qr b xs h;rw[Qg (tp b xs this)];exact this
 ·have ne:b≠a:=λz=>hz o v (z▸h);rw[Qg ne];exact I.base.Of b o v h
 ·obtain⟨m,g⟩:=I.base.Qbg b ps h;exact⟨m,by rw[Qg (tb _ _ g)];exact g⟩
 ·rw[Qg (nn _ I.free)];exact I.free
 ·rw[Qg (nn _ (I.Jk x c h))];exact I.Jk x c h
 ·obtain⟨h1,h2,j⟩:=I.pin p h;exact⟨h1,by rw[Qg (nn _ h2)];exact h2,j⟩
 ·by_cases hb:b=a
  ·subst hb;rw[Qb]at h;cases h;exact new
  ·rw[Qg hb]at h;exact(I.Z4 b o h).Qir (λc v _ q=>q) (λc q=>by rw[Qg (r c b q)];exact q) λc xs q=>by rw[Qg (tp c xs q)];exact q
def fz(o:DJ)(kvs:List (Xz×V)):HO:=.frz o (.dK kvs)
theorem Qu3{H':Hp}{h:Heap}(x:Yk P w H h a (.dK kvs)):Yk P w H' h a (.dK kvs):=x
def ItF(a:Gc)(o:DJ)(kvs:List (Xz×V)):It:=⟨λi H=>i<kvs.length/\H a=Ga (fz o kvs),λi H x H'=>H'=H/\∃p,kvs[i]?=Ga p/\x=kV p.1,λi H=>kvs.length<=i/\H a=Ga (fz o kvs)⟩
theorem Qxh{k:Xz}{u:Value}(h:Qdw k u=Ge):RelV (kV k) u:=by
 rcases Y1 h with⟨i,t,rfl,rfl⟩|⟨x,t,rfl,rfl⟩
 ·exact⟨t,Xb⟩
 ·exact⟨t,Xb⟩
theorem Qxa{vs:List (Xz×Value)}(r:KV kvs vs){i:Nat}{p:Xz×V}(h:kvs[i]?=Ga p):∃u,vs[i]?=Ga (p.1,u):=by
 unfold KV at r;induction r generalizing i with
 |nil=>simp at h
 |@cons a b f bs d t e=>
  cases i with
  |zero=>simp at h;subst h;obtain⟨g,c⟩:=b;exact⟨c,by simp[d.1]⟩
  |succ i=>simp only[List.getElem?_cons_succ]at h⊢;exact e h
theorem Qoo{K:PySem.W.Frag}(a it:Gc)(o:DJ)(kvs:List (Xz×V))(es:Array DO)(ep:Nat)(p:o.data=.dict es ep):Qfs P w K tg (ItF a o kvs) [it] it (λi h=>h.IsKeyIter it a i kvs.length ep) where
 mem:=by simp
 obj:=λi h st b hb=>by
  have e:b=it:=by simpa using hb
  subst e;obtain⟨o,e,c,d⟩:=st;exact⟨o,e,λv z=>by rw[d]at z;cases z⟩
 keep:=λi h h' st k=>st.at λo e=>k it (by simp) o e
 item:=by
  intro X F hw D M i pins s σ H E I n st G;subst F hw D;obtain⟨hi,J⟩:=G;obtain⟨h1,z,hd,vs,rel,q⟩:=I.Z4 a _ J;obtain⟨r,o',t,g,j,f,L⟩:=q.dictAt;rw[h1]at g;cases g;rw[p]at f;cases f;have N:kvs[i]?=Ga kvs[i]:=List.getElem?_eq_getElem hi;obtain⟨u,hu⟩:=Qxa rel N;obtain⟨x,y,U,A,B,C⟩:=n it (by simp);have m:s.heap.IsKeyIter it a i vs.length ep:=by rw[<-rel.length];exact st
  refine wpAny_pyNext_dict_item (knd:=Yp X.prog X.w) m ⟨o,es,h1,j,p,L⟩ hu λkey h' Y l sb=>?_;have O:Inv X pins σ H {s with heap:=h'}:=I.turned (t':=s.toks) (λb o hb e=>(sb.2 b hb).trans e) x y A B C;rw[<-rel.length]at l;obtain⟨o2,S,Q,R⟩:=id l;exact⟨key,Xb,Qep (s:={s with heap:=h'}) S Q R (by decide) ⟨kV kvs[i].1,H,O,Qxh Y,⟨Xb,_,N,Xb⟩,l,λb hb=>(n b hb).1⟩⟩
 done:=by
  intro X F hw D M i pins s σ H E I n st G;subst F hw D;obtain⟨hi,J⟩:=G;obtain⟨h1,z,hd,vs,rel,q⟩:=I.Z4 a _ J;obtain⟨r,o',t,g,j,f,L⟩:=q.dictAt;rw[h1]at g;cases g;rw[p]at f;cases f;obtain⟨x,y,U,A,B,C⟩:=n it (by simp);have Z:kvs.length=vs.length:=rel.length;have m:s.heap.IsKeyIter it a i vs.length ep:=by rw[<-Z];exact st
  exact wpAny_pyNext_dict_end (knd:=Yp X.prog X.w) (I.ok.hd M) m ⟨o,es,h1,j,p,L⟩ (List.getElem?_eq_none (by omega)) λh' T=>⟨Xb,I.turned (t':=s.toks) (λb o hb e=>T b o hb e) x y A B C⟩
 self:=λ_ _ _ _ _ st h=>Sh st h
def Qzn(te:TE):TI:=λσ H R=>te σ H λx H1=>∃a kvs,x=.ref a/\((H1 a=Ga (.dK kvs)/\∀o,R (ItF a o kvs) (upd H1 a (fz o kvs))))
def Qy7(t:TS):TS:=λD σ H=>∃a kvs,H a=Ga (.dK kvs)/\t {nx:=(λb H'=>∃o,H' a=Ga (fz o kvs)/\D.nx b (upd H' a (.dK kvs))),rt:=(λv H'=>∃o,H' a=Ga (fz o kvs)/\D.rt v (upd H' a (.dK kvs))),bk:=(λb H'=>∃o,H' a=Ga (fz o kvs)/\D.bk b (upd H' a (.dK kvs))),ct:=(λb H'=>∃o,H' a=Ga (fz o kvs)/\D.ct b (upd H' a (.dK kvs)))} σ H
section
variable{X:Cx}{tg:TJ}
theorem Inv.Qx7{pins:List (Gc×DJ)}{s:Gi}(I:Inv X pins σ H s)(e:H a=Ga (.dK kvs)):∀o v,X.H₀ a≠Ga (.frz o v):=λo v z=>by rw[I.base.Of a o v z]at e;cases e
theorem Qmq{e:TJ}{te:TE}(l:PE X e te):PI X tg e (Qzn te):=by
 intro pins s σ H R I h;refine Yz (l pins s σ H _ I h) λv s1⟨x,H1,d,n,m⟩=>?_;obtain⟨a,kvs,e,g,q⟩:=m;subst e;cases n;obtain⟨z,hd,vs,rel,i⟩:=Qla d.Z4 g;obtain⟨ep,o,es,j,k,c,r⟩:=i.dictAt;refine wpAny_pyIter_dict (knd:=Yp X.prog X.w) hd ⟨o,es,j,k,c,r⟩ ?_;have f:Inv X pins σ (upd H1 a (fz o kvs)) s1:=d.swap g trivial trivial (d.Qx7 g) ⟨j,z,hd,vs,rel,i⟩;refine⟨s1.heap.objs.size,[s1.heap.objs.size],_,_,_,Xb,f.kept (t':=s1.toks) λb o e=>Heap.get?_push_of_some _ e,Qoo a _ o kvs es ep c,?_,λb hb=>?_,q o⟩
 ·rw[rel.length];exact⟨_,Heap.get?_push_size _ Xb,Xb,Xb⟩
 ·have e:b=s1.heap.objs.size:=by simpa using hb
  subst e;exact f.Qiv (Gn _) (f.Z4.fresh (Gn _))
theorem Qln{st:T2}{t:TS}(h:PS X st t):PS X st (Qy7 t):=by
 intro pins s σ H D I i;obtain⟨a,kvs,e,q⟩:=i;have j:=I.Qx7 e;have un:∀{b:St}{H':Hp}{s':Gi}{o:DJ},Inv X pins b H' s'->H' a=Ga (fz o kvs)->Inv X pins b (upd H' a (.dK kvs)) s':=λc d=>c.swap d trivial trivial j (by obtain⟨_,r⟩:=c.Z4 a _ d;exact Qu3 r)
 refine Yz (h pins s σ H _ I q) λf s' r=>?_;cases f with
 |next=>obtain⟨b,H',c,o,d,g⟩:=r;exact⟨b,_,un c d,g⟩
 |cont=>obtain⟨b,H',c,o,d,g⟩:=r;exact⟨b,_,un c d,g⟩
 |brk=>obtain⟨b,H',c,o,d,g⟩:=r;exact⟨b,_,un c d,g⟩
 |ret v=>obtain⟨x,b,H',c,k,o,d,g⟩:=r;exact⟨x,b,_,un c d,k,g⟩
end
theorem Qij{o:DJ}{g:TG}{tb:TS}{D:Ends}(Pv:Nat->St->Hp->Prop)(j:Pv 0 σ H)(k:∀i σ H,i<=kvs.length->Pv i σ H->H a=Ga (fz o kvs))
  (l:∀i p σ H,kvs[i]?=Ga p->Pv i σ H->g (kV p.1) σ H λc H2=>tb {D with nx:=Pv (i+1),ct:=Pv (i+1),bk:=D.nx} c H2)(hd:∀σ H,Pv kvs.length σ H->D.nx σ H):
  ∃W:Nat->Nat->St->Hp->Prop,(∃m,W 0 m σ H)/\∀i m σ H,W i m σ H->
   ((ItF a o kvs).stop i H/\D.nx σ H)\/((ItF a o kvs).go i H/\∃N:St->Hp->Prop,(∀b H',N b H'->∃f,f<m/\W (i+1) f b H')/\∀x H',(ItF a o kvs).yld i H x H'->g x σ H' λc H2=>tb {D with nx:=N,ct:=N,bk:=D.nx} c H2):=by
 refine⟨λi m σ H=>m=kvs.length - i/\i<=kvs.length/\Pv i σ H,⟨kvs.length,by simp,Gx _,j⟩,?_⟩;rintro i m σ H ⟨rfl,hi,p⟩;have q:=k i σ H hi p;by_cases d:i<kvs.length
 ·refine .inr ⟨⟨d,q⟩,Pv (i+1),λb H' r=>⟨kvs.length - (i+1),by omega,Xb,d,r⟩,λx H' y=>?_⟩;obtain⟨e,y,n,h⟩:=y;subst e h;exact l i y σ _ n p
 ·have e:i=kvs.length:=by omega
  subst e;exact .inl ⟨⟨Gn _,q⟩,hd σ H p⟩
def Itd(lo:Int)(n:Nat):It:=⟨λi _=>i<n,λi H x H'=>H'=H/\x=.int (lo - i),λi _=>n<=i⟩
theorem Qny{K:PySem.W.Frag}(it:Gc)(lo:Int)(n:Nat):Qfs P w K tg (Itd lo n) [it] it (λi h=>Sd h it (lo+(i:Nat)*(-1)) ((n:Int) - (i:Nat)) (-1)) where
 mem:=by simp
 obj:=λi h st b hb=>by
  have e:b=it:=by simpa using hb
  subst e;exact⟨_,st,λv z=>by have C:LY _=Fq v:=z;cases C⟩
 keep:=λi h h' st k=>k it (by simp) _ st
 item:=by intro X p hw m q i pins s σ H E I c st r;subst p hw m;obtain⟨d,f,y,g,j,l⟩:=c it (by simp);have W:=Walks.range (prog:=X.prog) (w:=X.w) (I.ok.hd q) it lo (-1) n;refine W.item i s _ _ r st λv h' tk A a B=>?_;obtain⟨t,rfl⟩:=A;have u:Inv X pins σ H {s with heap:=h',toks:=tk}:=I.turned (λb o hb e=>B b o (by simpa using hb) e) d f g j l;refine⟨_,Xb,Qep (s:={s with heap:=h',toks:=tk}) (n:="range_iterator") a rfl rfl (by decide) ⟨.int (lo - i),H,u,⟨t,?_⟩,⟨Xb,Xb⟩,a,λb hb=>(c b hb).1⟩⟩;congr 1;omega
 done:=by intro X p hw m q i pins s σ H E I c st r;subst p hw m;obtain⟨d,f,y,g,j,l⟩:=c it (by simp);exact EW (I.ok.hd q) st (by have:n<=i:=r;omega) λh' x=>⟨Xb,I.turned (t':=s.toks) (λb o hb e=>x b o hb e) d f g j l⟩
 self:=λ_ _ _ _ _ st h=>EX st h
theorem rangeSize_down(n:Nat):Builtin.Range.rangeSize ((n:Int) - 1) (-1) (-1)=n:=by unfold Builtin.Range.rangeSize;simp only[show¬((-1:Int)>0) by decide,T8,show -(-1:Int)=1 by decide,LN];split<;>omega
theorem small_down{n:Nat}(h:n<=1000000):Builtin.Range.small ((n:Int) - 1) (-1) (-1)=Ge:=by unfold Builtin.Range.small;rw[rangeSize_down];simp only[Builtin.Range.rangeFitsLong,Td,Bool.or_eq_true,decide_eq_true_eq,Ey,show¬((-1:Int)>0) by decide,T8];omega
def Qx6(ta:TA):TI:=λσ H R=>ta σ H λvs H1=>∃n:Nat,vs=[.int ((n:Int) - 1),.int (-1),.int (-1)]/\n<=1000000/\R (Itd ((n:Int) - 1) n) H1
theorem Qt1{a b c:TJ}{ta:TA}{p pos:E6}(v:Gl X "range")(w:X.mg "range"=Gf)(u:PA X [a,b,c] ta)(y:GY [a,b,c] X.env=[(Gp,eval a X.env),(Gp,eval b X.env),(Gp,eval c X.env)]:=by rfl)(f:GY [b,c] X.env=[(Gp,eval b X.env),(Gp,eval c X.env)]:=by rfl):
  PI X tg (.Call (.Name "range" p) [a,b,c] [] pos) (Qx6 ta):=by
 intro pins s σ H R I h;refine Fw (V5 I v w Fg (T9 (Yz (u pos pins s σ H _ I h) λus s1⟨vs,H1,k,B,z⟩=>?_) (by rw[y,f]) (by rw[f];rfl)));obtain⟨n,e,x,q⟩:=z;subst e;cases B with
 |cons r g=>
  cases g with
  |cons A g=>
   cases g with
   |cons j g=>
    cases g;obtain⟨t,rfl⟩:=r;obtain⟨t',rfl⟩:=A;obtain⟨d,rfl⟩:=j;refine call_range_3 (by decide) ?_ (.inl (EY (by omega)));refine Ss (LZ ..) (small_down x) ?_;have i:Inv X pins σ H1 {s1 with heap:=s1.heap.push {cls:=.type "range",data:=.fields #[.int ((n:Int) - 1) t,.int (-1) t',.int (-1) d]},toks:=s1.toks}:=k.kept λb o e=>Heap.get?_push_of_some _ e;refine⟨(s1.heap.push {cls:=.type "range",data:=.fields #[.int ((n:Int) - 1) t,.int (-1) t',.int (-1) d]}).objs.size,[(s1.heap.push {cls:=.type "range",data:=.fields #[.int ((n:Int) - 1) t,.int (-1) t',.int (-1) d]}).objs.size],_,_,H1,Xb,
     i.kept (t':=s1.toks) λb o e=>Heap.get?_push_of_some _ e,Qny _ ((n:Int) - 1) n,?_,λb hb=>?_,q⟩
    ·have l:((n:Int) - 1)+((0:Nat):Int)*(-1)=(n:Int) - 1:=by simp
     have m:(n:Int) - ((0:Nat):Int)=Builtin.Range.rangeSize ((n:Int) - 1) (-1) (-1):=by rw[rangeSize_down];simp
     show Sd _ _ (((n:Int) - 1)+((0:Nat):Int)*(-1)) ((n:Int) - ((0:Nat):Int)) (-1);rw[l,m];exact Heap.get?_push_size _ rfl
    ·have e:b=(s1.heap.push {cls:=.type "range",data:=.fields #[.int ((n:Int) - 1) t,.int (-1) t',.int (-1) d]}).objs.size:=by simpa using hb
     subst e;exact i.Qiv (Gn _) (i.Z4.fresh (Gn _))
theorem Qqj{lo:Int}{n:Nat}{g:TG}{tb:TS}{D:Ends}(Pv:Nat->St->Hp->Prop)(f:Pv 0 σ H)
  (h:∀i σ H,i<n->Pv i σ H->g (.int (lo - i)) σ H λc H2=>tb {D with nx:=Pv (i+1),ct:=Pv (i+1),bk:=D.nx} c H2)(hd:∀σ H,Pv n σ H->D.nx σ H):
  ∃W:Nat->Nat->St->Hp->Prop,(∃m,W 0 m σ H)/\∀i m σ H,W i m σ H->
   ((Itd lo n).stop i H/\D.nx σ H)\/((Itd lo n).go i H/\∃N:St->Hp->Prop,(∀b H',N b H'->∃d,d<m/\W (i+1) d b H')/\∀x H',(Itd lo n).yld i H x H'->g x σ H' λc H2=>tb {D with nx:=N,ct:=N,bk:=D.nx} c H2):=by
 refine⟨λi m σ H=>m=n - i/\i<=n/\Pv i σ H,⟨n,by simp,Gx _,f⟩,?_⟩;rintro i m σ H ⟨rfl,hi,p⟩;by_cases a:i<n
 ·refine .inr ⟨a,Pv (i+1),λb H' j=>⟨n - (i+1),by omega,Xb,a,j⟩,λx H' y=>?_⟩;obtain⟨e,y⟩:=y;subst e y;exact h i σ _ a p
 ·have e:i=n:=by omega
  subst e;exact .inl ⟨Gn _,hd σ H p⟩
def Qty:List V->Hp->VK->Prop:=λvs H Q=>∃d kvs a,vs=[.ref d]/\H d=Ga (.dK kvs)/\kvs.map (·.1)=a.map Eu/\kvs.length<64/\∀(r:Gc)(ns:List Int),H r=Gf->ns.Perm a->ns.Pairwise (·<=·)->Q (.ref r) (upd H r (.lst (ns.map V.int)))
theorem Ql4{P:Gj}{w:Gu}{h:Heap}:∀{kvs:List (Xz×V)}{vs:List (Xz×Value)}{b:List Int}{acc:List Value},KV kvs vs->kvs.map (·.1)=b.map Eu->acc.length=vs.length->(∀(i:Nat)(u:Value),acc[i]?=Ga u->∃k x,vs[i]?=Ga (k,x)/\(Yp P w).is k u=Ge)->E3 acc b
 |[],[],[],[],_,_,_,_=>.nil
 |[],[],[],_::_,_,_,a,_=>by simp at a
 |[],[],_::_,_,_,e,_,_=>by simp at e
 |p::kvs,q::vs,[],_,_,e,_,_=>by simp at e
 |p::kvs,q::vs,k::b,[],_,_,a,_=>by simp at a
 |p::kvs,q::vs,k::b,u::acc,.cons r t,e,a,c=>by
  simp only[List.map_cons,List.cons.injEq]at e;obtain⟨j,x,d,f⟩:=c 0 u rfl;simp at d;have:j=Eu k:=by rw[<-e.1,r.1,d]
  subst this;obtain⟨t',rfl⟩:=Value.isInt_shape (k:=k) (v:=u) f;exact .cons _ _ (Ql4 (P:=P) (w:=w) (h:=h) t e.2 (by simpa using a) λi u g=>c (i+1) u g)
theorem Qnd{acc:List Value}{a:List Int}(h:E3 acc a):Z0 (a.map V.int) acc:=by
 induction h with
 |nil=>exact .nil
 |cons n t r b=>exact .cons ⟨_,Xb⟩ b
theorem Qg7(K:X.calm=Ge):V1 X (.builtin "sorted") Qty:=by
 intro pins s σ H xs us Q I r h;obtain⟨d,kvs,B,rfl,N,y,M,q⟩:=h;obtain⟨u,rfl,R⟩:=vals1 r;cases(show u=Value.ref d from R);obtain⟨z,hd,vs,rel,G⟩:=Qla I.Z4 N;obtain⟨ep,l⟩:=G.dictAt;have c:kvs.length=vs.length:=rel.length;refine EE kind_sorted plain_sorted entry_sorted (args_sorted1 _) ?_;unfold Builtin.«sorted»;refine Gb (m:=checkCount "sorted" 1 1 _) (Gd ?_);refine Gb (PySem.W.kdu_collect (A:=X.A.in1) (PySem.W.kdl_dict (knd:=Yp X.prog X.w) (kvs:=vs) (ep:=ep) hd) (I.ok.hd K) l (by rw[<-c];exact z) λh' tk acc p f=>?_);have g:acc.toList.length=vs.length:=by rw[Ts];exact f.1
 have J:E3 acc.toList B:=Ql4 (P:=X.prog) (w:=X.w) (h:=h') rel y g λi u O=>f.2 i u (by rw[<-TM];exact O);have v:Inv X pins σ H {s with heap:=h',toks:=tk}:=I.kept p;refine Gb (wpAny_newList ?_ (by rw[g,<-c];exact z));have n:(h'.push {cls:=.type "list",data:=.seq acc.toList.toArray}).get? h'.objs.size=Ga (seqObj "list" acc.toList.toArray 0):=Heap.get?_push_size _ rfl;refine Gb (TL ?_);refine To PySem.F.slot_list_sort ⟨_,n,Xb⟩ PySem.F.entry_list_sort ?_ (PySem.F.args_list_sort_1 _);refine list_sort_tree n J (by rw[g,<-c];exact M) λout j D x E=>?_;refine⟨_,Xb,?_⟩;refine Gd ⟨_,Xb,?_⟩;obtain⟨e,L⟩:=sortedHeap_at (out:=out) n;have keep:∀b o,h'.get? b=Ga o->(sortedHeap (h'.push {cls:=.type "list",data:=.seq acc.toList.toArray}) h'.objs.size acc.toList out).get? b=Ga o:=λb o k=>by rw[sortedHeap_old (GV (Heap.lt_size k)) (by rw[size_push'];exact SR (Heap.lt_size k))];exact Heap.get?_push_of_some _ k
 have t:j.length<=Gh:=by
  rw[x.length_eq];have:B.length=kvs.length:=by have:=congrArg List.length y;simpa using this.symm
  rw[this];exact z
 have C:=v.laid (a:=h'.objs.size) (o:=.lst (j.map V.int)) (t':=tk) keep (Gn _) ⟨by rw[List.length_map];exact t,out.toList,e,Qnd D,by rw[DB];exact L⟩;exact⟨.ref h'.objs.size,_,C,Xb,q _ _ (v.Z4.fresh (Gn _)) x E⟩
end L2
namespace K03
open PySem L2 Sb Nt
variable{X:Gc->Prop}{H H' H1:Hp}{v:V}{k a b p q tb m j:Nat}{fs:List Fm}{x:Nn}{N:Nat->Nat->Option Nat}{ps S ts U:List Th}{u t:Th}{f C r n L d D fW fB M fR fL f0 fI fN CP CB fC fA:Gc}{fd fdW fdB fdR fdL fdI fdN:Tf}{A:Na}{lks:List Lk}{xs ys:List V}{P:Gj}{w:Gu}{ens:List En}{tl:Tl}{α:Type}
def Qif(C:Gc):Sp:=λvs H Q _=>∃(n:Gc)(A:Na)(fs:List Fm)(x:Nn)(p:Nat),vs=[.ref n,jv p]/\(∃dx,H n=Ga (.ins C dx (Xe A)))/\(∃a,H A.f=Ga (.lst a)/\Paired (Rm H) a fs)/\Rd H A.l (.dK (dS x.S λp=>jv (x.lead p)))/\p<fs.length/\(∀q∈Zp fs p,q∈x.S)/\(Zp fs p).length<=1000000/\
 ∀(c:Gc)(H':Hp),Q5 H H'->H c=Gf->Rm H' (.ref c) (Zn (Yh fs) (Zp fs) x.lead p)->Q (.ref c) H'
abbrev Row:=GJ×List Nat×Nat
def Uc(H:Hp)(X:Gc->Prop)(v:V)(r:Row):Prop:=∃c l,v=.ref c/\H c=Ga (.tup [.str r.1,.ref l,jv r.2.2])/\H l=Ga (.lst (r.2.1.map jv))/\¬X l
theorem Uc.kp(tp:∀{c:Gc}{ys:List V},H c=Ga (.tup ys)->H' c=Ga (.tup ys))(lp:∀{c:Gc}{ys:List V},H c=Ga (.lst ys)->¬X c->H' c=Ga (.lst ys)){r:Row}(h:Uc H X v r):Uc H' X v r:=by obtain⟨c,l,h1,h2,b,a⟩:=h;exact⟨c,l,h1,tp h2,lp b a,a⟩
theorem Uc.ex{Y:Gc->Prop}(d:∀c ys,H c=Ga (.lst ys)->¬X c->¬Y c){r:Row}(h:Uc H X v r):Uc H Y v r:=by obtain⟨c,l,h1,h2,a,b⟩:=h;exact⟨c,l,h1,h2,a,d _ _ a b⟩
def Ul(H:Hp)(X:Gc->Prop)(v:V)(a:List Row):Prop:=∃r es,v=.ref r/\H r=Ga (.lst es)/\¬X r/\Paired (Uc H X) es a
theorem Ul.kp{X:Gc->Prop}{H H':Hp}(tp:∀{c:Gc}{ys:List V},H c=Ga (.tup ys)->H' c=Ga (.tup ys))(lp:∀{c:Gc}{ys:List V},H c=Ga (.lst ys)->¬X c->H' c=Ga (.lst ys)){v:V}{b:List Row}(h:Ul H X v b):Ul H' X v b:=by obtain⟨r,es,h1,h2,a,d⟩:=h;exact⟨r,es,h1,lp h2 a,a,L2.Paired.Z7 d λ_ _ h=>h.kp tp lp⟩
theorem Ul.ex{X Y:Gc->Prop}{H:Hp}(a:∀c ys,H c=Ga (.lst ys)->¬X c->¬Y c){v:V}{b:List Row}(h:Ul H X v b):Ul H Y v b:=by obtain⟨r,es,h1,h2,d,e⟩:=h;exact⟨r,es,h1,h2,a _ _ h2 d,L2.Paired.Z7 e λ_ _ h=>h.ex a⟩
def W3(fs:List Fm)(x:Nn)(N:Nat->Nat)(p:Nat):Row:=(Yh fs p,(Zp fs p).map (λq=>N (x.lead q)),N (x.lead p))
structure Wok(fs:List Fm)(x:Nn)(rs:List Row):Prop where
 ex:∃N:Nat->Nat,(∀p∈x.S,∀q∈x.S,N (x.lead p)=N (x.lead q)->x.lead p=x.lead q)/\(∀p∈x.S,W3 fs x N p∈rs)/\∀r∈rs,∃p∈x.S,r=W3 fs x N p
 nd:(rs.map λr=>(r.1,r.2.1)).Nodup
def Qp5(P:Gj)(w:Gu)(C:Gc):Sp:=λvs H Q _=>∃(n:Gc)(A:Na)(fs:List Fm)(tb:Nat)(x:Nn),vs=[.ref n]/\Z6 P w C H n A fs tb x/\Qd7 fs x.S/\X9 (Yh fs) (Zp fs) x []/\x.S.length<=1000/\
 ∀(v:V)(a:List Row)(H':Hp),Q5 H H'->Ul H' (λb=>∃o,H b=Ga o) v a->Wok fs x a->Q v H'
theorem Qpd{a:List Nat}{l:Nat}(c:l∉a)(b:k∈a++[l]):(a++[l]).idxOf k=if k=l then a.length else a.idxOf k:=by
 rw[List.idxOf_append];by_cases h:k=l
 ·subst h;rw[Gg c,Gk rfl];simp
 ·have:k∈a:=by
   rcases List.mem_append.mp b with z|z
   ·exact z
   ·exact absurd (by simpa using z) h
  rw[Gk this,Gg h]
theorem Qf0{c:List Nat}(d:a∈c)(hb:b∈c)(h:c.idxOf a=c.idxOf b):a=b:=by have h1:=List.getElem_idxOf (List.idxOf_lt_length_of_mem d);have h2:=List.getElem_idxOf (List.idxOf_lt_length_of_mem hb);rw[<-h1,<-h2];simp only[h]
def EnR(fs:List Fm)(x:Nn)(N:Nat->Nat)(X:Gc->Prop)(H:Hp)(e:KE)(p:Nat):Prop:=e.1=Xc (Zn (Yh fs) (Zp fs) x.lead p)/\Uc H X e.2.2 (W3 fs x N p)
theorem Qgt{N:Nat->Nat}{d:List KE}{ps:List Nat}(h:Paired (EnR fs x N X H) d ps)(k:Fm):(Yg d (Xc k)).isSome=Ge↔∃p∈ps,Zn (Yh fs) (Zp fs) x.lead p=k:=by
 induction h with
 |nil=>simp[Yg]
 |@cons e p d ps f t g=>
  by_cases c:e.1=Xc k
  ·rw[Yr c];simp only[Sx,true_iff];exact⟨p,List.mem_cons_self,U3 (f.1.symm.trans c)⟩
  ·rw[Yq c,g];constructor
   ·rintro⟨q,a,b⟩;exact⟨q,List.mem_cons_of_mem _ a,b⟩
   ·rintro⟨q,a,b⟩;rcases List.mem_cons.mp a with rfl|a
    ·exact absurd (by rw[f.1,b]) c
    ·exact⟨q,a,b⟩
theorem Quw{N:Nat->Nat}{d:List KE}{ps:List Nat}(g:Uc H X v (W3 fs x N p))(a:∀q∈ps,Zn (Yh fs) (Zp fs) x.lead q=Zn (Yh fs) (Zp fs) x.lead p->W3 fs x N q=W3 fs x N p)(h:Paired (EnR fs x N X H) d ps):
  Paired (EnR fs x N X H) (d.map λe=>if e.1=Xc (Zn (Yh fs) (Zp fs) x.lead p)then(e.1,e.2.1,v)else e) ps:=by
 induction h with
 |nil=>exact .nil
 |@cons e q d ps c t i=>
  refine .cons ?_ (i λq f=>a q (List.mem_cons_of_mem _ f));dsimp only;by_cases b:e.1=Xc (Zn (Yh fs) (Zp fs) x.lead p)
  ·rw[Gk b];refine⟨c.1,?_⟩;rw[a q List.mem_cons_self (U3 (c.1.symm.trans b))];exact g
  ·rw[Gg b];exact c
theorem Qt0{a:Gc}{u:HO}(r:Rd H a u)(g:Q5 H H'):Rd H' a u:=by
 rcases r with r|⟨o,r⟩
 ·exact .inl (g _ _ r)
 ·exact .inr ⟨o,g _ _ r⟩
theorem Qf9{a:Gc}{S:List Nat}{f:Nat->V}(h:Rd H a (.dK (dS S f)))(b:p∈S):Wy H a (jv p) (Ga (f p)):=.inl ⟨_,ki p,h,Xb,(Qez b).symm⟩
section
variable{P:Gj}{w:Gu}{K:PySem.W.Frag}{mg:GJ->Option Value}{base:Heap}
theorem Qm1(F:Wz K "key_of" "Net.key_of" Rw f fd)(T:V7 K mg C)(B:J0 mg):Qz P w K mg base Yb 1 f fd ["self","place"] (Qif C):=by
 refine F.ok Qbv (λvs H Q E h=>?_) (λcdv A outer s H vs Q E Z h=>?_)
 ·obtain⟨n,A,fs,x,p,rfl,_⟩:=h;rfl
 obtain⟨n,A,fs,x,p,rfl,⟨dx,M⟩,⟨O,X,I⟩,le,J,v,hl,g⟩:=h;have hu:=Ur Z;have nd:=Qbv.nd;refine⟨_,Qc (Qy 2 nd (Ql Ze (Qu (pv 0) rfl) (pv 1)))
  (Qh (Qt (Zf (Qa (Ql Qm (pv 2) Qi) (Qa (Xh Vd rfl B.tuple Tx (Qa
   (Vl (te:=Qhr (Qtg K (Vv 1) "leads") (Vv 0)) (own:=["part"]) (fv:=[(0,"self")]) rfl (S:=(by eq_refl:Xx (Qn Rw) _)) (.cons rfl (TR Xb) rfl .nil) (Uj (Ql Qm (pv 2) Qi))
    (λ_ _ _ _ _=>Xf (i:=0) Qx5 rfl (TR Xb) (Dp Xb)) (λ_ _ _ _ _=>X6) (λ_ _ _ _ _=>Zv hu (Qu (pv 1) rfl) (pv 0) (λ_ _=>rfl))) Qe)) Qe))))),?_⟩
 have hw:p<O.length:=by rw[Paired.length I];exact J
 obtain⟨y,L,c,e,W,h1,h2⟩:=Qw I (List.getElem?_eq_getElem hw);rw[Qe4 J]at L;cases L;have U:atI [V.str (Yh fs p),V.ref e] (1:Int)=Ga (.ref e):=Qj (j:=1) rfl;refine⟨_,Xb,n,C,dx,_,_,Xb,M,T.cl,T.Qcy,Uz _,_,Xb,A.f,O,_,_,Xb,Xb,Zc.of X,Qj (List.getElem?_eq_getElem hw),?_⟩;rw[W];refine⟨_,Xb,c,_,_,_,Xb,Xb,Q9.of h1,Ru _ _,_,Xb,c,_,_,_,Xb,Xb,Q9.of h1,U,e,Xb,⟨_,Q9.of h2⟩,λr t=>?_⟩;have s3:=Qf t (.lst []);refine Uu (K:=K) (a:=e) (xs:=(Zp fs p).map jv) (small (by rw[List.length_map];omega)) (λi ys σ H2=>(∃R,σ=[R,Ga (.ref n)])/\Q5 H H2/\ys=((Zp fs p).take i).map λq=>jv (x.lead q))
  ⟨⟨_,Xb⟩,s3,by simp⟩ (λi ys σ H2 _ h=>Q9.of (h.2.1 _ _ h2)) ?_ ?_
 ·rintro i y ys σ H2 hi z ⟨⟨R,rfl⟩,d,rfl⟩ u;rw[List.getElem?_map]at hi;cases eq:(Zp fs p)[i]? with
  |none=>rw[eq]at hi;cases hi
  |some q=>
   rw[eq]at hi;cases hi;refine⟨_,Xb,n,C,dx,_,_,Xb,d _ _ M,T.cl,T.W0,Yt _,_,Xb,A.l,_,Xb,Qf9 (Qt0 le d) (v q (List.mem_of_getElem? eq)),u,⟨_,Xb⟩,λb o G=>?_,?_⟩
   ·rw[Qg (Qd G t)];exact d _ _ G
   ·rw[List.take_add_one,eq,List.map_append];rfl
 ·rintro ys σ H2 z ⟨_,d,rfl⟩ u;rw[List.length_map,List.take_length]at u;refine⟨r,_,Xb,.inl ⟨Zc.of u,λm Y=>?_⟩⟩;have s4:=Qf Y (.tup ((Zp fs p).map λq=>jv (x.lead q)));refine⟨by show 2<=Gh;decide,λD k=>?_⟩;have N:=Qf k (.tup [.str (Yh fs p),.ref m]);refine g D _ ((d.trans s4).trans N) (d.free (s4.free k)) ⟨D,m,Xb,Qb,?_⟩;rw[N _ _ Qb];simp only[Zn,List.map_map];rfl
theorem Qv2{S:List Nat}{f:Nat->V}{i:Nat}{pr:Xz×V}(h:(dS S f)[i]?=Ga pr):∃p,S[i]?=Ga p/\pr=(ki p,f p):=by
 unfold dS at h;rw[List.getElem?_map]at h;cases e:S[i]? with
 |none=>rw[e]at h;cases h
 |some p=>rw[e]at h;cases h;exact⟨p,Xb,Xb⟩
theorem Qpp:Q3 ["self","numbers","place","found","key"] ["self"] (Qn Qid):=by eq_refl
theorem Q1a:(["lead","numbers"]:List GJ).Nodup:=by decide+kernel
theorem Qs8{fK:Gc}{ax:Tf}(F:Wz K "rows" "Net.rows" Qid f fd)(T:V7 K mg C)(B:J0 mg)(mK:Yd K C "key_of" fK)(GK:Qz P w K mg base Yb 1 fK ax ["self","place"] (Qif C))(bK:Binds K ax ["self","place"] []):
  Qz P w K mg base Yb 2 f fd ["self"] (Qp5 P w C):=by
 refine F.ok Qpp (λvs H Q E h=>?_) (λcdv A outer s H vs Q E hr h=>?_)
 ·obtain⟨n,A,fs,tb,x,rfl,_⟩:=h;rfl
 obtain⟨n,A,fs,tb,x,rfl,X,FO,I,hS,q⟩:=h;have hu:=Ur hr;have aC:=hr.units;have aO:Yf 1 _:=hr.mono (by omega);have nd:=Qpp.nd;refine⟨_,Qc (Vg (i:=1) nd rfl (Dp Xb) Ux)
  (Qc (Qln (Z5 Gs rfl (Qmq (Qu (pv 0) rfl)) (Zw 2 nd)
   (Qh (Zk (X0 PySem.F.plainAttrs_dict PySem.F.slot_dict_setdefault PySem.F.type_dict_setdefault Qki (pv 1) (Qa (Zv hu (Qu (pv 0) rfl) (pv 2) (λ_ _=>rfl)) (Qa (Qp Qn0 rfl B.len PySem.boot_len (Qa (pv 1) Qe)) Qe)))))))
  (Qc (Vg (i:=3) (te:=Qjs P w) nd rfl (TR Xb) Ig)
  (Qc (Qln (Z5 Gs rfl (Qmq (Qu (pv 0) rfl)) (Zw 2 nd)
   (Qc (Qy 4 nd (Zg (pv 0) T.cl mK GK aO bK .nil Q7 (Qa (pv 2) Qe)))
   (Qh (Ry (Zf (Qa (Ql Qm (pv 4) Qi) (Qa
     (Vl (te:=Qhr (Vv 1) (Vv 0)) (own:=["lead"]) (fv:=[(1,"numbers")]) rfl (S:=(by eq_refl:Xx (Qn Qid) _)) (.cons rfl (TR Xb) rfl .nil) (Uj (Ql Qm (pv 4) Qi))
      (λ_ _ _ _ _=>Xf (i:=0) Q1a rfl (TR Xb) (Dp Xb)) (λ_ _ _ _ _=>X6) (λ_ _ _ _ _=>Zv hu (pv 1) (pv 0) (λ_ _=>rfl)))
     (Qa (Zv hu (pv 1) (Zv hu (Qu (pv 0) rfl) (pv 2) (λ_ _=>rfl)) (λ_ _=>rfl)) Qe))))
    (Qam (pv 3) (pv 4) (Qak aC)))))))
  (Qh (Qt (Xh (Qd0 Xb) rfl B.list Ti (Qa (Qti PySem.F.slot_dict_values PySem.F.type_dict_values Qu8 (pv 3)) Qe))))))),?_⟩
 obtain⟨dx,o1⟩:=X.ob;intro num ab;have s1:=Qf ab (.dK []);have X1:=X.same s1;have nl:num≠A.l:=Gm (Qd X.le ab);have nn:num≠n:=Gm (Qd o1 ab);have ln:n≠A.l:=Yi o1 X.le nofun;refine⟨A.l,_,X1.le,?_⟩;refine⟨_,Xb,n,C,dx,_,_,Xb,s1 _ _ o1,T.cl,T.W0,Yt _,A.l,_,Xb,X1.le,λo=>Qij (λi σ H2=>∃(x2:Option V)(N:List Nat),σ=[Ga (.ref n),Ga (.ref num),x2,Gf,Gf]/\H2 num=Ga (.dK (dS N λk=>jv (N.idxOf k)))/\N.Nodup/\N.length<=i/\(∀p∈x.S.take i,x.lead p∈N)/\H2 A.l=Ga (fz o (dS x.S λp=>jv (x.lead p)))/\∀b u,H b=Ga u->b≠A.l->H2 b=Ga u)
  ⟨_,[],Xb,Qk Qb nl,List.nodup_nil,Gx _,by simp,Qb,λb u e hb=>Qk (s1 _ _ e) hb⟩ (λi σ H2 _⟨_,_,_,_,_,_,_,h,_⟩=>h) ?_ ?_⟩
 ·rintro i pr σ H2 hi ⟨x2,N,rfl,Z,au,am,J,ag,fr⟩;obtain⟨p,D,rfl⟩:=Qv2 hi;have pS:p∈x.S:=List.mem_of_getElem? D;have aM:i<x.S.length:=(List.getElem?_eq_some_iff.mp D).1;refine⟨_,Xb,.inr (.inr (.inl ⟨Xb,.inl ⟨_,Z⟩⟩)),_,Xb,n,C,dx,_,_,Xb,fr _ _ o1 ln,T.cl,T.W0,Yt _,_,Xb,A.l,_,Xb,Qf9 (.inr ⟨o,ag⟩) pS,_,Xb,num,_,Xb,Z,num,ki (x.lead p),_,_,Xb,Xb,Z,by rw[Va,Gy];omega,λv hv=>?_,λhv=>?_⟩
  ·have M:x.lead p∈N:=by refine Ly λz=>?_;rw[Qkn z]at hv;cases hv
   refine⟨_,N,Xb,Z,au,by omega,λr hr=>?_,ag,fr⟩;rw[List.take_add_one,D]at hr;rcases List.mem_append.mp hr with h|h
   ·exact J r h
   ·have:r=p:=by simpa using h
    rw[this];exact M
  ·have M:x.lead p∉N:=λz=>by rw[Qez z]at hv;cases hv
   have eo:W8 (dS N λk=>jv (N.idxOf k)) (ki (x.lead p)) (.int ((dS N λk=>jv (N.idxOf k)).length:Int))=dS (N++[x.lead p]) λk=>jv ((N++[x.lead p]).idxOf k):=by rw[Qal M,Va];refine Wp λk hk=>?_;rw[Qpd M hk];split<;>rfl
   rw[eo];refine⟨_,N++[x.lead p],Xb,Qb,List.nodup_append.mpr ⟨au,by simp,λa ha b hb=>by simp at hb;subst hb;exactλz=>M (z▸ha)⟩,by rw[List.length_append,List.length_singleton];omega,λr hr=>?_,Qk ag (Gm nl),λb u e hb=>Qk (fr b u e hb) (Qd e ab)⟩;rw[List.take_add_one,D]at hr;rcases List.mem_append.mp hr with h|h
   ·exact List.mem_append_left _ (J r h)
   ·have:r=p:=by simpa using h
    rw[this];simp
 rintro σ H2 ⟨x2,N,rfl,Z,au,am,J,ag,fr⟩;rw[Va,List.take_length]at J;rw[Va]at am;refine⟨o,ag,?_⟩;have t2:∀b u,H b=Ga u->(upd H2 A.l (.dK (dS x.S λp=>jv (x.lead p)))) b=Ga u:=λb u e=>by
  by_cases h:b=A.l
  ·subst h;rw[Qb,<-e];exact X.le.symm
  ·exact Qk (fr b u e h) h
 generalize az:(dS N λk=>jv (N.idxOf k))=kvs at Z;have ae:∀p∈x.S,Y9 kvs (ki (x.lead p))=Ga (jv (N.idxOf (x.lead p))):=λp D=>by rw[<-az];exact Qez (J p D)
 generalize ay:(λk=>N.idxOf k)=G;have ae:∀p∈x.S,Y9 kvs (ki (x.lead p))=Ga (jv (G (x.lead p))):=λp D=>by rw[<-ay];exact ae p D
 have ak:∀p∈x.S,∀q∈x.S,G (x.lead p)=G (x.lead q)->x.lead p=x.lead q:=λp D q R e=>by rw[<-ay]at e;exact Qf0 (J p D) (J q R) e
 have av:(upd H2 A.l (.dK (dS x.S λp=>jv (x.lead p)))) num=Ga (.dK kvs):=Qk Z nl;generalize upd H2 A.l (.dK (dS x.S λp=>jv (x.lead p)))=H3 at t2 av;intro fo ah;have s4:=Qf ah (Vn P w fo []);have g4:Q5 H (upd H3 fo (Vn P w fo [])):=λb u e=>s4 _ _ (t2 b u e);have X4:=X.same g4;have nf:num≠fo:=Qd av ah;have fl:A.l≠fo:=Qd (t2 _ _ X.le) ah;refine⟨A.l,_,X4.le,?_⟩;refine⟨_,Xb,n,C,dx,_,_,Xb,g4 _ _ o1,T.cl,T.W0,Yt _,A.l,_,Xb,X4.le,λo=>Qij (λi σ U=>∃(x2 x4:Option V)(O:List KE),σ=[Ga (.ref n),Ga (.ref num),x2,Ga (.ref fo),x4]/\DH P w U fo O/\(∃ps:List Nat,ps.length<=i/\Paired (EnR fs x G (λb=>∃o,H b=Ga o) U) O ps/\(ps.map λp=>Zn (Yh fs) (Zp fs) x.lead p).Nodup/\(∀p∈ps,p∈x.S)/\∀p∈x.S.take i,∃p'∈ps,Zn (Yh fs) (Zp fs) x.lead p'=Zn (Yh fs) (Zp fs) x.lead p)/\U num=Ga (.dK kvs)/\U A.l=Ga (fz o (dS x.S λp=>jv (x.lead p)))/\∀b u,H b=Ga u->b≠A.l->U b=Ga u)
  ⟨_,_,[],Xb,⟨Qk Qb (Gm fl),(λp D=>nomatch D)⟩,⟨[],Gx _,.nil,List.nodup_nil,(λp D=>nomatch D),by simp⟩,Qk (Qk av nf) nl,Qb,λb u e hb=>Qk (g4 _ _ e) hb⟩ (λi σ U _⟨_,_,_,_,_,_,_,h,_⟩=>h) ?_ ?_⟩
 ·rintro i pr σ U hi ⟨x2,x4,O,rfl,D5,⟨ps,ap,ac,af,L,W⟩,an,d,Y⟩;obtain⟨p,D,rfl⟩:=Qv2 hi;have pS:p∈x.S:=List.mem_of_getElem? D;have aM:i<x.S.length:=(List.getElem?_eq_some_iff.mp D).1;have few:=FO.few p;obtain⟨ws,f1,f2⟩:=X.fo;have tu:Q4 H U:=λb xs e=>Y b _ e (Yi e X.le nofun);have fA:U A.f=Ga (.lst ws):=Y _ _ f1 (Yi f1 X.le nofun);have o5:=Y _ _ o1 ln;refine⟨_,Xb,n,dx,_,Xb,o5,Qcw _,_,Xb,n,A,fs,x,p,Xb,⟨dx,o5⟩,⟨ws,fA,L2.Paired.Z7 f2 λ_ _ h=>h.Qr tu⟩,.inr ⟨o,d⟩,FO.lt p pS,FO.pts p pS,by omega,λc H6 g6 aX fm=>?_⟩;obtain⟨c',e,ec,h1,h2⟩:=id fm;cases ec;simp only[Zn]at h1 h2;have aw:=g6 _ _ an;have D6:DH P w H6 fo O:=⟨g6 _ _ D5.at_,Zh (Q4.of g6) D5.keys⟩;refine⟨_,Xb,c,_,_,_,Xb,Xb,Q9.of h1,Ru _ _,_,Xb,c,_,_,_,Xb,Xb,Q9.of h1,I8 _ _ _,e,Xb,⟨_,Q9.of h2⟩,λr aq=>?_⟩;have s7:=Qf aq (.lst []);have aY:=Paired.length ac;refine Uu (K:=K) (a:=e) (xs:=((Zp fs p).map x.lead).map jv) (small (by rw[List.length_map,List.length_map];omega)) (λi ys σ H7=>(∃x0,σ=[x0,Ga (.ref num)])/\Q5 H6 H7/\ys=((Zp fs p).take i).map λq=>jv (G (x.lead q))) ⟨⟨_,Xb⟩,s7,by simp⟩ (λi ys σ H7 _ h=>Q9.of (h.2.1 _ _ h2)) ?_ ?_
  ·rintro j y ys σ H7 hj aR ⟨⟨x0,rfl⟩,g7,rfl⟩ ai;rw[List.getElem?_map,List.getElem?_map]at hj;cases eq:(Zp fs p)[j]? with
   |none=>rw[eq]at hj;cases hj
   |some r'=>rw[eq]at hj;cases hj;have hv:=ae r' (FO.pts p pS r' (List.mem_of_getElem? eq));refine⟨_,Xb,_,Xb,num,_,Xb,(by have:=Wy.k (k:=ki (x.lead r')) (g7 _ _ aw);rw[hv]at this;exact this),ai,⟨_,Xb⟩,λb o eb=>Qk (g7 _ _ eb) (Qd eb aq),?_⟩;rw[List.take_add_one,eq,List.map_append];rfl
  ·rintro ys σ H7 aR ⟨_,g7,rfl⟩ ai;rw[List.length_map,List.length_map,List.take_length]at ai;have hv:=ae p pS;have aV:=g7 _ _ aw;have dg:Wy H7 num (jv (x.lead p)) (Ga (jv (G (x.lead p)))):=by have:=Wy.k (k:=ki (x.lead p)) aV;rw[hv]at this;exact this
   refine⟨_,Xb,_,Xb,n,C,dx,_,_,Xb,g7 _ _ (g6 _ _ o5),T.cl,T.W0,Yt _,_,Xb,A.l,_,Xb,Qf9 (.inr ⟨o,g7 _ _ (g6 _ _ d)⟩) pS,num,_,Xb,dg,by show 3<=Gh;decide,λm hm=>?_⟩;generalize aP:jv (G (x.lead p))=v;have s8:=Qf hm (.tup [.str (Yh fs p),.ref r,v]);have g8:Q5 H6 (upd H7 m (.tup [.str (Yh fs p),.ref r,v])):=g7.trans s8;have D8:DH P w (upd H7 m (.tup [.str (Yh fs p),.ref r,v])) fo O:=⟨g8 _ _ D6.at_,Zh (Q4.of g8) D6.keys⟩;have k8:=(fm.Qr (Q4.of g8)).key (FO.str p);refine⟨_,Xb,_,Xb,fo,c,_,O,Xb,Xb,D8,k8,by rw[Gy];omega,?_⟩;have aW:∀b o,H b=Ga o->∃u,H6 b=Ga u:=λb o eb=>by
    by_cases hb:b=A.l
    ·rw[hb];exact⟨_,g6 _ _ d⟩
    ·exact⟨o,g6 _ _ (Y b o eb hb)⟩
   have aD:Uc (upd H7 m (.tup [.str (Yh fs p),.ref r,v])) (λb=>∃o,H b=Ga o) (.ref m) (W3 fs x G p):=⟨m,r,Xb,by rw[<-aP];exact Qb,by
    show _=Ga (HO.lst (((Zp fs p).map λq=>G (x.lead q)).map jv));rw[List.map_map];exact s8 _ _ ai,λ⟨o,eo⟩=>by
    obtain⟨u,aB⟩:=aW _ _ eo;rw[aq]at aB;cases aB⟩
   generalize al:Wj O (Xc (Zn (Yh fs) (Zp fs) x.lead p)) c (.ref m)=aj;have aG:∀{b:Gc}{xs:List V},(upd H7 m (.tup [.str (Yh fs p),.ref r,v])) b=Ga (.tup xs)->(upd (upd H7 m (.tup [.str (Yh fs p),.ref r,v])) fo (Vn P w fo aj)) b=Ga (.tup xs):=λe=>Qk e (Yi e D8.at_ nofun);have aU:∀{b:Gc}{xs:List V},(upd H7 m (.tup [.str (Yh fs p),.ref r,v])) b=Ga (.lst xs)->(upd (upd H7 m (.tup [.str (Yh fs p),.ref r,v])) fo (Vn P w fo aj)) b=Ga (.lst xs):=λe=>Qk e (Yi e D8.at_ nofun);have ad:Paired (EnR fs x G (λb=>∃o,H b=Ga o) (upd H7 m (.tup [.str (Yh fs p),.ref r,v]))) O ps:=L2.Paired.Z7 ac λ_ _ h=>⟨h.1,h.2.kp (λe=>g8 _ _ (g6 _ _ e)) (λe _=>g8 _ _ (g6 _ _ e))⟩;have ar:∀q∈ps,Zn (Yh fs) (Zp fs) x.lead q=Zn (Yh fs) (Zp fs) x.lead p->W3 fs x G q=W3 fs x G p:=λq R e=>by have hl:=I.cong (L q R) pS e;simp only[Zn,T1]at e;unfold W3;rw[e.1,hl];congr 2;have:=congrArg (List.map G) e.2;rw[List.map_map,List.map_map]at this;exact this
   have fin:∃aa:List Nat,aa.length<=i+1/\Paired (EnR fs x G (λb=>∃o,H b=Ga o) (upd H7 m (.tup [.str (Yh fs p),.ref r,v]))) aj aa/\(aa.map λp=>Zn (Yh fs) (Zp fs) x.lead p).Nodup/\(∀p∈aa,p∈x.S)/\∀q∈x.S.take (i+1),∃p'∈aa,Zn (Yh fs) (Zp fs) x.lead p'=Zn (Yh fs) (Zp fs) x.lead q:=by
    rw[<-al];unfold Wj;by_cases M:(Yg O (Xc (Zn (Yh fs) (Zp fs) x.lead p))).isSome=Ge
    ·rw[Gk M];refine⟨ps,by omega,Quw aD ar ad,af,L,λq R=>?_⟩;rw[List.take_add_one,D]at R;rcases List.mem_append.mp R with h|h
     ·exact W q h
     ·have:q=p:=by simpa using h
      rw[this];exact(Qgt ad _).mp M
    ·rw[Gg M];have aN:∀q∈ps,Zn (Yh fs) (Zp fs) x.lead q≠Zn (Yh fs) (Zp fs) x.lead p:=λq R e=>M ((Qgt ad _).mpr ⟨q,R,e⟩);refine⟨ps++[p],by rw[List.length_append,List.length_singleton];omega,Paired.snoc ad ⟨Xb,aD⟩,?_,λq R=>?_,λq R=>?_⟩
     ·rw[List.map_append];refine List.nodup_append.mpr ⟨af,by simp,λa ha b hb=>?_⟩;obtain⟨q,R,rfl⟩:=List.mem_map.mp ha;have:b=Zn (Yh fs) (Zp fs) x.lead p:=by simpa using hb
      rw[this];exact aN q R
     ·rcases List.mem_append.mp R with h|h
      ·exact L q h
      ·have:q=p:=by simpa using h
       rw[this];exact pS
     ·rw[List.take_add_one,D]at R;rcases List.mem_append.mp R with h|h
      ·obtain⟨p',h1,h2⟩:=W q h;exact⟨p',List.mem_append_left _ h1,h2⟩
      ·have:q=p:=by simpa using h
       rw[this];exact⟨p,by simp,Xb⟩
   obtain⟨aa,aH,aI,aJ,aK,aL⟩:=fin;exact⟨_,_,aj,Xb,⟨Qb,Zh (λb xs e=>aG e) (by rw[<-al];exact D8.keys.put k8)⟩,⟨aa,aH,L2.Paired.Z7 aI λ_ _ h=>⟨h.1,h.2.kp aG (λe _=>aU e)⟩,aJ,aK,aL⟩,Qk (g8 _ _ aw) nf,Qk (g8 _ _ (g6 _ _ d)) fl,λb u e hb=>Qk (g8 _ _ (g6 _ _ (Y b u e hb))) (Qd (t2 _ _ e) ah)⟩
 ·rintro σ U ⟨x2,x4,O,rfl,D5,⟨ps,ap,ac,af,L,W⟩,an,d,Y⟩;rw[Va,List.take_length]at W;refine⟨o,d,?_⟩;have t6:Q5 H (upd U A.l (.dK (dS x.S λp=>jv (x.lead p)))):=λb u e=>by
   by_cases h:b=A.l
   ·subst h;rw[Qb,<-e];exact X.le.symm
   ·exact Qk (Y b u e h) h
  have aF:∀{b:Gc}{xs:List V},U b=Ga (.tup xs)->(upd U A.l (.dK (dS x.S λp=>jv (x.lead p)))) b=Ga (.tup xs):=λe=>Qk e (Yi e d nofun);have aT:∀{b:Gc}{xs:List V},U b=Ga (.lst xs)->(upd U A.l (.dK (dS x.S λp=>jv (x.lead p)))) b=Ga (.lst xs):=λe=>Qk e (Yi e d nofun);have D6:DH P w (upd U A.l (.dK (dS x.S λp=>jv (x.lead p)))) fo O:=⟨Qk D5.at_ (Gm fl),Zh (λb xs e=>aF e) D5.keys⟩;have ao:Paired (EnR fs x G (λb=>∃o,H b=Ga o) (upd U A.l (.dK (dS x.S λp=>jv (x.lead p))))) O ps:=L2.Paired.Z7 ac λ_ _ h=>⟨h.1,h.2.kp aF (λe _=>aT e)⟩;generalize upd U A.l (.dK (dS x.S λp=>jv (x.lead p)))=H6 at t6 D6 ao;refine⟨_,Xb,⟨fo,O,Xb,D6.at_⟩,fo,O,Xb,Xb,D6,λvw aQ=>?_⟩;have s7:=Qf aQ (vvw vw fo);have D7:DH P w (upd H6 vw (vvw vw fo)) fo O:=⟨s7 _ _ D6.at_,Zh (Q4.of s7) D6.keys⟩;refine⟨vw,fo,O,Xb,Qb,D7,λl hl=>?_⟩;have s8:=Qf hl (.lst (O.map λp=>p.2.2));have aE:=s7.trans s8;refine q (.ref l) (ps.map (W3 fs x G)) _ (t6.trans aE) ⟨l,_,Xb,Qb,(λ⟨o,eo⟩=>by rw[s7.free hl|>t6.free]at eo;cases eo),?_⟩ ⟨⟨G,ak,λp D=>?_,λr hr=>?_⟩,?_⟩
  ·have gen:∀{H':Hp},Q5 H6 H'->∀{O:List KE}{ps:List Nat},Paired (EnR fs x G (λb=>∃o,H b=Ga o) H6) O ps->Paired (Uc H' (λb=>∃o,H b=Ga o)) (O.map λp=>p.2.2) (ps.map (W3 fs x G)):=λ{H'}g{O ps}h=>by
    induction h with
    |nil=>exact .nil
    |cons h t ih=>exact .cons (h.2.kp (λe=>g _ _ e) (λe _=>g _ _ e)) ih
   exact gen aE ao
  ·obtain⟨p',h1,h2⟩:=W p D;have hl:=I.cong (L p' h1) D h2;refine List.mem_map.mpr ⟨p',h1,?_⟩;simp only[Zn,T1]at h2;unfold W3;rw[h2.1,hl];congr 2;have:=congrArg (List.map G) h2.2;rw[List.map_map,List.map_map]at this;exact this
  ·obtain⟨p,D,rfl⟩:=List.mem_map.mp hr;exact⟨p,L p D,Xb⟩
  ·rw[List.map_map];have:∀{ps:List Nat},(∀p∈ps,p∈x.S)->(ps.map λp=>Zn (Yh fs) (Zp fs) x.lead p).Nodup->(ps.map ((λr:Row=>(r.1,r.2.1))∘W3 fs x G)).Nodup:=by
    intro ps aA nd;unfold List.Nodup at nd⊢;rw[List.pairwise_map]at nd⊢;refine List.Pairwise.imp_of_mem (λ{a b}ha hb h z=>h ?_) nd;simp only[Fy,W3,T1]at z;simp only[Zn,T1];refine⟨z.1,?_⟩;have aS:=aA a ha;have bS:=aA b hb;have inj:∀{l m:List Nat},(∀q∈l,q∈x.S)->(∀q∈m,q∈x.S)->l.map (λq=>G (x.lead q))=m.map (λq=>G (x.lead q))->l.map x.lead=m.map x.lead:=by
     intro l;induction l with
     |nil=>intro m _ _ e;cases m with
      |nil=>rfl
      |cons _ _=>simp at e
     |cons u l ih=>
      intro m hl hm e;cases m with
      |nil=>simp at e
      |cons u' m=>simp only[List.map_cons,List.cons.injEq]at e⊢;exact⟨ak u (hl u List.mem_cons_self) u' (hm u' List.mem_cons_self) e.1,ih (λq R=>hl q (List.mem_cons_of_mem _ R)) (λq R=>hm q (List.mem_cons_of_mem _ R)) e.2⟩
    exact inj (FO.pts a aS) (FO.pts b bS) z.2
   exact this L af
end
def Wa(fs:List Fm)(lk:Lk):List (Nat×Nat):=match lk.2.2 with
 |none=>(Zp fs lk.1).zip (Zp fs lk.2.1)
 |some _=>[]
def Qf6(P:Gj)(w:Gu)(C:Gc):Sp:=λvs H Q _=>∃(n:Gc)(A:Na)(fs:List Fm)(tb:Nat)(x:Nn)(v:V)(lk:Lk),vs=[.ref n,v]/\Z6 P w C H n A fs tb x/\Rr H v lk/\lk.1<fs.length/\lk.2.1<fs.length/\
 ∀(r:Gc)(es:List V)(H':Hp),Q5 H H'->H r=Gf->H' r=Ga (.lst es)->Paired (Qtq H') es (Wa fs lk)->Q (.ref r) H'
structure Nd(fs:List Fm)(x:Nn)(one other:Nat)(ns:List Nat):Prop where
 lt:∀k∈ns,k<x.links.length
 top:∀st,Qaj x.up one other st->∀p q,(p,q)∈st->∀k,x.Xg p q=Ga k->k∈ns
 low:∀k∈ns,∀lk,x.links[k]?=Ga lk->∀p q,(p,q)∈Wa fs lk->∀st,Qaj x.up p q st->∀u v,(u,v)∈st->∀j,x.Xg u v=Ga j->j∈ns/\j<k
 only:∀k∈ns,∃st p q j,Qaj x.up one other st/\(p,q)∈st/\x.Xg p q=Ga j/\k<=j
def Qg3(P:Gj)(w:Gu)(C:Gc):Sp:=λvs H Q _=>∃(n:Gc)(A:Na)(fs:List Fm)(tb:Nat)(x:Nn)(one a:Nat),vs=[.ref n,jv one,jv a]/\Z6 P w C H n A fs tb x/\X9 (Yh fs) (Zp fs) x []/\Qd7 fs x.S/\one∈x.S/\a∈x.S/\x.lead one=x.lead a/\x.S.length<=1000/\x.links.length<64/\
 ∀(r:Gc)(ns:List Nat)(H':Hp),Q5 H H'->H r=Gf->H' r=Ga (.lst (ns.map jv))->ns.Nodup->ns.Pairwise (·<=·)->Nd fs x one a ns->Q (.ref r) H'
theorem Qp7{r:Option U5}(h:Qog H v r):decide (v=V.non)= !r.isSome:=by
 cases r with
 |none=>rw[show v=V.non from h];rfl
 |some r=>
  cases r with
  |told n=>obtain⟨c,rfl,_⟩:=h;rfl
  |asked=>obtain⟨c,rfl,_⟩:=h;rfl
theorem Qmj(I:X9 (Yh fs) (Zp fs) x []){lk:Lk}(d:x.links[k]?=Ga lk)(c:(p,q)∈Wa fs lk):p∈x.S/\q∈x.S/\Cn (x.links.take k) p q:=by
 obtain⟨a,b,r⟩:=lk;obtain⟨aS,bS,h⟩:=I.lnk k a b r d;cases r with
 |some r=>simp[Wa]at c
 |none=>simp only[Wa]at c;obtain⟨_,e,h⟩:=h rfl;obtain⟨i,hi⟩:=List.mem_iff_getElem?.mp c;rw[List.getElem?_zip_eq_some]at hi;exact⟨I.pt_ a aS p (List.mem_of_getElem? hi.1),I.pt_ b bS q (List.mem_of_getElem? hi.2),h i p q hi.1 hi.2⟩
section
variable{P:Gj}{w:Gu}{K:PySem.W.Frag}{mg:GJ->Option Value}{base:Heap}
theorem Qk2:Q3 ["net","link"] ["net","link"] (Qn Qf3):=by eq_refl
theorem Qo3(F:Wz K "pairs_below" "pairs_below" Qf3 f fd)(T:V7 K mg C)(B:J0 mg):Qz P w K mg base Yb 1 f fd ["net","link"] (Qf6 P w C):=by
 refine F.ok Qk2 (λvs H Q E h=>?_) (λcdv A outer s H vs Q E W h=>?_)
 ·obtain⟨n,A,fs,tb,x,v,lk,rfl,_⟩:=h;rfl
 obtain⟨n,A,fs,tb,x,v,lk,rfl,X,⟨c,r,rfl,z,G⟩,l1,l2,q⟩:=h;have nd:=Qk2.nd;refine⟨_,Qc (Zb (Qo Oc (Ql Qm (pv 1) Qi) Uo (Qs _)) (Qh (Qt (Zr Qe))) Qv)
  (Qh (Qt (Qdx rfl rfl B.list rfl B.zip (Qa (Ql Qm (Ql Ze (Qu (pv 0) rfl) (Ql Qm (pv 1) Qi)) Qi) (Qa (Ql Qm (Ql Ze (Qu (pv 0) rfl) (Ql Qm (pv 1) Qi)) Qi) Qe))))),?_⟩
 refine⟨_,Xb,c,_,_,_,Xb,Xb,Q9.of z,Qit _ _ _ _,Xb,_,Xb,?_⟩;rw[Qp7 G];obtain⟨a,b,M⟩:=lk;cases M with
 |some M=>refine Yy ⟨Gx _,λp J=>?_⟩;exact q p [] _ (Qf J _) J Qb .nil
 |none=>
  refine Q6 ?_;obtain⟨dx,L⟩:=X.ob;obtain⟨k,I,j⟩:=X.fo;have d:a<k.length:=by rw[Paired.length j];exact l1
  have e:b<k.length:=by rw[Paired.length j];exact l2
  obtain⟨Y,g,N,R,l,o,u⟩:=Qw j (List.getElem?_eq_getElem d);obtain⟨Z,i,O,S,m,t,y⟩:=Qw j (List.getElem?_eq_getElem e);rw[Qe4 l1]at g;rw[Qe4 l2]at i;cases g;cases i;refine⟨_,Xb,n,C,dx,_,_,Xb,L,T.cl,T.Qcy,Uz _,_,Xb,c,_,_,_,Xb,Xb,Q9.of z,Ru _ _,A.f,k,_,_,Xb,Xb,Zc.of I,Qj (List.getElem?_eq_getElem d),N,_,_,_,l,Xb,Q9.of o,I8 _ _ _,?_⟩;refine⟨_,Xb,n,C,dx,_,_,Xb,L,T.cl,T.Qcy,Uz _,_,Xb,c,_,_,_,Xb,Xb,Q9.of z,I8 _ _ _,A.f,k,_,_,Xb,Xb,Zc.of I,Qj (List.getElem?_eq_getElem e),O,_,_,_,m,Xb,Q9.of t,I8 _ _ _,?_⟩;exact⟨R,S,_,_,Xb,.inr ⟨Q9.of u,Q9.of y⟩,λr es H' V U D pr=>q r es H' V U D (Qcr pr)⟩
theorem Qdn(T:V7 K mg C){es:List V}{st:List (Nat×Nat)}{N0:List Nat}{v1 v2 l x5 x6 x7:Option V}{D:Ends}
  (X:Z6 P w C H n A fs tb x)(g1:Q5 H H1)(d0:H d=Gf)(hd:H1 d=Ga (.dK (dS N0 λ_=>V.bl Ge)))(hL:H1 L=Ga (.lst es))(G:Paired (Qtq H1) es st)(hk:∀p q,(p,q)∈st->∃k,x.Xg p q=Ga k/\k<m)(ad:N0.Nodup)(hm:m<=64)(hN:∀k∈N0,k<64)
  (q:∀N l H',N.Nodup->(∀k∈N0,k∈N)->(∀k∈N,k∈N0\/(k<m/\∃p q,(p,q)∈st/\x.Xg p q=Ga k))->(∀p q k,(p,q)∈st->x.Xg p q=Ga k->k∈N)->Iw d H1 H'->H' d=Ga (.dK (dS N λ_=>V.bl Ge))->D.nx [Ga (.ref n),v1,v2,Ga (.ref d),l,x5,x6,x7] H'):
  ∃W:Nat->Nat->St->Hp->Prop,(∃m,W 0 m [Ga (.ref n),v1,v2,Ga (.ref d),l,x5,x6,x7] H1)/\∀i m σ H,W i m σ H->
   ((Itl K L).stop i H/\D.nx σ H)\/((Itl K L).go i H/\∃N:St->Hp->Prop,(∀M H',N M H'->∃m',m'<m/\W (i+1) m' M H')/\∀x H',(Itl K L).yld i H x H'->V2 4 x σ H' λae H2=>Qvo (Vv 3) (Qhr (Qtg K (Vv 0) "link_at") (Vv 4)) (tC (V.bl Ge)) {D with nx:=N,ct:=N,bk:=D.nx} ae H2):=by
 obtain⟨dx,o1⟩:=X.ob;obtain⟨kvs,Q,af,Y⟩:=X.at_;have Ld:L≠d:=Yi hL hd nofun;refine Ys (K:=K) (a:=L) (xs:=es) (λi σ H2=>∃(l:Option V)(N:List Nat),σ=[Ga (.ref n),v1,v2,Ga (.ref d),l,x5,x6,x7]/\N.Nodup/\(∀k∈N0,k∈N)/\(∀k∈N,k∈N0\/(k<m/\∃p q,(p,q)∈st/\x.Xg p q=Ga k))/\(∀p q k,(p,q)∈st.take i->x.Xg p q=Ga k->k∈N)/\Iw d H1 H2/\H2 d=Ga (.dK (dS N λ_=>V.bl Ge)))
  ⟨l,N0,Xb,ad,λ_ h=>h,λ_ h=>.inl h,by simp,Iw.refl,hd⟩ (λi σ H2 _⟨_,_,_,_,_,_,_,b,_⟩=>Zc.of (b _ _ hL Ld)) ?_ ?_
 ·rintro i y σ H2 hi ⟨l,N,rfl,f,s1,s2,R,E,S⟩;obtain⟨⟨p,r⟩,he,c,rfl,hc⟩:=Qw G hi;have s:(p,r)∈st:=List.mem_of_getElem? he;obtain⟨k,u,ab⟩:=hk p r s;have nd1:n≠d:=Qd o1 d0;have ac:A.a≠d:=Qd Q d0;have o2:=E _ _ (g1 _ _ o1) nd1;have U:=E _ _ (g1 _ _ Q) ac;have Z:=E _ _ hc (Yi hc hd nofun);have dg:Wy H2 A.a (.ref c) (Ga (jv k)):=by have:=Wy.t (k:=[ki p,ki r]) U (show H2 c=Ga (.tup ([ki p,ki r].map kV))from Z);rw[Y p r,u]at this;exact this
  have ag:N.length<=64:=by have:N.length<=(List.range 64).length:=Xo f λk hk=>List.mem_range.mpr ((s2 k hk).elim (hN k) (λh=>by have:=h.1;omega));rwa[List.length_range]at this
  have dp:=I9.k (k:=ki k) (v:=V.bl Ge) S (by rw[Va,Gy];omega);refine⟨_,Xb,_,Xb,n,C,dx,_,_,Xb,o2,T.cl,T.Qb2,O9 _,_,Xb,A.a,_,Xb,dg,d,_,Xb,dp,?_⟩;have F:Iw d H1 (upd H2 d (.dK (W8 (dS N λ_=>V.bl Ge) (ki k) (V.bl Ge)))):=λc o e h=>Qk (E c o e h) h;have tk:∀{O:List Nat},(∀j∈N,j∈O)->k∈O->∀p q k,(p,q)∈st.take (i+1)->x.Xg p q=Ga k->k∈O:=λ{O}hs aa p' q' k' J B=>by
   rw[List.take_add_one,he]at J;rcases List.mem_append.mp J with h|h
   ·exact hs _ (R p' q' k' h B)
   ·have:(p',q')=(p,r):=by simpa using h
    cases this;rw[u]at B;cases B;exact aa
  by_cases g:k∈N
  ·refine⟨_,N,Xb,f,s1,s2,tk (λ_ h=>h) g,F,?_⟩;rw[Qb,Qi3 g];congr 2;exact Wp λp _=>by split<;>rfl
  ·refine⟨_,N++[k],Xb,List.nodup_append.mpr ⟨f,by simp,λa Q b hb=>by simp at hb;subst hb;exactλz=>g (z▸Q)⟩,λj I=>List.mem_append_left _ (s1 j I),λj I=>?_,tk (λj I=>List.mem_append_left _ I) (by simp),F,?_⟩
   ·rcases List.mem_append.mp I with h|h
    ·exact s2 j h
    ·have:j=k:=by simpa using h
     rw[this];exact .inr ⟨ab,p,r,s,u⟩
   ·rw[Qb,Qal g];congr 2;exact Wp λp _=>by split<;>rfl
 ·rintro σ H2 ⟨l,N,rfl,f,s1,s2,R,E,S⟩;rw[Paired.length G,List.take_length]at R;exact q N l H2 f s1 s2 R E S
theorem Qhx:Q3 ["net","one","other","needed","step","number","part","twin"] ["net","one","other"] (Qn Qbz):=by eq_refl
theorem Qmx(F:Wz K "links_needed" "links_needed" Qbz f fd)(T:V7 K mg C)(B:J0 mg)(mW:Yd K C "way" fW)(GW:Qz P w K mg base Yb 2 fW fdW ["self","one","other"] (Qsi P w C))(bW:Binds K fdW ["self","one","other"] [])
  (GB:Qz P w K mg base Yb 1 fB fdB ["net","link"] (Qf6 P w C))(kB:KI K fB)(bB:Binds K fdB ["net","link"] [])(mB:MG mg "pairs_below" fB):
  Qz P w K mg base Yb 3 f fd ["net","one","other"] (Qg3 P w C):=by
 refine F.ok Qhx (λvs H Q E h=>?_) (λcdv A outer s H vs Q E hr h=>?_)
 ·obtain⟨n,A,fs,tb,x,one,G,rfl,_⟩:=h;rfl
 obtain⟨n,A,fs,tb,x,one,G,rfl,X,I,FO,oS,tS,he,hS,aI,q⟩:=h;have hu:=Ur hr;have aG:Yf 1 _:=hr.mono (by omega);have nd:=Qhx.nd;refine⟨_,Qc (Qy 3 nd Ux)
  (Qc (Z5 Gs rfl (Z9 (Zg (pv 0) T.cl mW GW hr bW .nil Q7 (Qa (pv 1) (Qa (pv 2) Qe)))) (Zw 4 nd)
   (Qh (Ww hu (pv 3) (Zv hu (Qu (pv 0) rfl) (pv 4) (λ_ _=>rfl)) Ye Xb)))
  (Qc (Z5 Gs rfl (Qt1 rfl B.range (Qa (Zs Qck (Qp Z2 rfl B.len PySem.boot_len (Qa (Qu (pv 0) rfl) Qe)) Qi) (Qa (Jl Vj Qi) (Qa (Jl Vj Qi) Qe)))) (Zw 5 nd)
   (Qh (Zb (Qgm (Qj7 hu (pv 5) (pv 3)))
    (Qh (Z5 Gs rfl (Z9 (Zo GB aG rfl mB kB bB .nil Q7 (Qa (pv 0) (Qa (Ql Ze (Qu (pv 0) rfl) (pv 5)) Qe)))) (Vh rfl (Zl (Zw 6 nd) (Zl (Zw 7 nd) Wc)))
     (Qh (Z5 Gs rfl (Z9 (Zg (pv 0) T.cl mW GW hr bW .nil Q7 (Qa (pv 6) (Qa (pv 7) Qe)))) (Zw 4 nd)
      (Qh (Ww hu (pv 3) (Zv hu (Qu (pv 0) rfl) (pv 4) (λ_ _=>rfl)) Ye Xb)))))) Qv)))
  (Qh (Qt (Qp (Qg7 Xb) rfl B.sorted LJ (Qa (pv 3) Qe)))))),?_⟩
 intro d d0;have s1:=Qf d0 (.dK []);obtain⟨dx,o1⟩:=X.ob;obtain⟨ls,an,av⟩:=X.li;have ar:=Paired.length av;have aH:∀p q k,x.Xg p q=Ga k->k<x.links.length:=λp q k h=>by obtain⟨r,h|h⟩:=I.fst.Qga p q k h<;>exact(List.getElem?_eq_some_iff.mp h).1
 refine⟨_,Xb,n,dx,_,Xb,s1 _ _ o1,Qj6 _,_,Xb,_,Xb,n,A,fs,tb,x,one,G,Xb,X.same s1,I,oS,tS,he,hS,λL es st H2 g2 L0 hL aB W=>⟨L,Xb,⟨_,Zc.of hL⟩,?_⟩⟩;refine Qdn T X (s1.trans g2) d0 (N0:=[]) (g2 _ _ Qb) hL aB (m:=x.links.length) (λp q h=>?_) List.nodup_nil (by omega) (λk g=>nomatch g) λN x4 H3 R i1 i2 i3 bt e3=>?_
 ·obtain⟨k,h1,h2⟩:=W.lk p q h;exact⟨k,h1,aH _ _ _ h1⟩
 have g3:Q5 H H3:=λb o e=>bt _ _ (g2 _ _ (s1 _ _ e)) (Qd e d0);refine⟨_,Xb,n,C,dx,_,_,Xb,g3 _ _ o1,T.cl,T.links,U2 _,A.k,_,Xb,.inl (Zc.of (g3 _ _ an)),_,_,Xb,Xb,_,Xb,_,Xb,x.links.length,by rw[ar],by omega,?_⟩;refine Qqj (λi σ H4=>∃(x4 x5 x6 x7:Option V)(N:List Nat),σ=[Ga (.ref n),Ga (jv one),Ga (jv G),Ga (.ref d),x4,x5,x6,x7]/\Q5 H H4/\H4 d=Ga (.dK (dS N λ_=>V.bl Ge))/\N.Nodup/\(∀k∈N,k<x.links.length)/\(∀p q k,(p,q)∈st->x.Xg p q=Ga k->k∈N)/\(∀k∈N,∃p q j,(p,q)∈st/\x.Xg p q=Ga j/\k<=j)/\
   ∀k∈N,x.links.length - i<=k->∀lk,x.links[k]?=Ga lk->∀p q,(p,q)∈Wa fs lk->∀st,Qaj x.up p q st->∀u v,(u,v)∈st->∀j,x.Xg u v=Ga j->j∈N/\j<k)
  ⟨_,_,_,_,N,Xb,g3,e3,R,λk g=>(i2 k g).elim nofun (·.1),i3,λk g=>(i2 k g).elim nofun (λ⟨_,p,q,h1,h2⟩=>⟨p,q,k,h1,h2,Gn _⟩),λk g h=>?_⟩ ?_ ?_
 ·have:=(i2 k g).elim nofun (·.1);omega
 ·rintro i σ H4 hi ⟨x4,x5,x6,x7,N,rfl,g4,e4,R,Z,Y,l,U⟩;have ai:((x.links.length:Int) - 1 - (i:Int))=((x.links.length - 1 - i:Nat):Int):=by omega
  rw[ai];generalize aL:x.links.length - 1 - i=J;have kl:J<x.links.length:=by omega
  have dg:Wy H4 d (jv J) (Y9 (dS N λ_=>V.bl Ge) (ki J)):=Wy.k (k:=ki J) e4;refine⟨_,Xb,_,Xb,d,_,Xb,dg,_,Xb,?_⟩;rw[Qle];by_cases af:J∈N
  ·rw[Gr af];refine Yy ?_;have am:J<ls.length:=by omega
   obtain⟨lk,ac,aq⟩:=Qw av (List.getElem?_eq_getElem am);have ah:=aq.Qr (Q4.of g4);obtain⟨a,b,rs⟩:=lk;obtain⟨aS,bS,_⟩:=I.lnk J a b rs ac;refine⟨_,Xb,_,Xb,n,C,dx,_,_,Xb,g4 _ _ o1,T.cl,T.links,U2 _,_,Xb,A.k,ls,_,_,Xb,Xb,Zc.of (g4 _ _ an),Qj (List.getElem?_eq_getElem am),n,A,fs,tb,x,_,(a,b,rs),Xb,X.same g4,ah,FO.lt a aS,FO.lt b bS,λL5 aA H5 g5 aw aj ag=>⟨L5,Xb,⟨_,Zc.of aj⟩,?_⟩⟩;have ax:L5≠d:=Gm (Qd e4 aw);have low:∀{O:List Nat}{i':Nat},(∀k∈N,k∈O)->(∀k∈O,k∈N\/k<J)->(∀p q,(p,q)∈Wa fs (a,b,rs)->∀st,Qaj x.up p q st->∀u v,(u,v)∈st->∀j,x.Xg u v=Ga j->j∈O/\j<J)->
     ∀k∈O,x.links.length - (i+1)<=k->∀lk,x.links[k]?=Ga lk->∀p q,(p,q)∈Wa fs lk->∀st,Qaj x.up p q st->∀u v,(u,v)∈st->∀j,x.Xg u v=Ga j->j∈O/\j<k:=λ{O i'}a1 a2 a3 k g h lk ad p q t S D u v M j hj=>by
    rcases Te k (x.links.length - i)with h2|h2
    ·have:k=J:=by omega
     subst this;rw[ac]at ad;cases ad;exact a3 p q t S D u v M j hj
    ·have aD:k∈N:=(a2 k g).elim id λz=>by omega
     obtain⟨b1,b2⟩:=U k aD h2 lk ad p q t S D u v M j hj;exact⟨a1 _ b1,b2⟩
   refine Ys (K:=K) (a:=L5) (xs:=aA) (λi5 σ H6=>∃(x4 x6 x7:Option V)(O:List Nat),σ=[Ga (.ref n),Ga (jv one),Ga (jv G),Ga (.ref d),x4,Ga (jv J),x6,x7]/\Iw d H5 H6/\H6 d=Ga (.dK (dS O λ_=>V.bl Ge))/\O.Nodup/\(∀k∈N,k∈O)/\(∀k∈O,k∈N\/k<J)/\
     ∀p q,(p,q)∈(Wa fs (a,b,rs)).take i5->∀st,Qaj x.up p q st->∀u v,(u,v)∈st->∀j,x.Xg u v=Ga j->j∈O/\j<J)
    ⟨_,_,_,N,Xb,Iw.refl,g5 _ _ e4,R,λ_ h=>h,λ_ h=>.inl h,by simp⟩ (λi5 σ H6 _⟨_,_,_,_,_,bt,_⟩=>Zc.of (bt _ _ aj ax)) ?_ ?_
   ·rintro i5 y σ H6 aC ⟨x4,x6,x7,O,rfl,ab,e6,ae,sub,only,done⟩;obtain⟨⟨p,r⟩,ap,c,rfl,hc⟩:=Qw ag aC;have ao:(p,r)∈Wa fs (a,b,rs):=List.mem_of_getElem? ap;obtain⟨pS,rS,cn⟩:=Qmj I ac ao;have g6:Q5 H H6:=λb o e=>ab _ _ (g5 _ _ (g4 _ _ e)) (Qd e d0);have aF:x.lead p=x.lead r:=(I.conn p pS r rS).mpr (cn.mono λz hz=>List.mem_of_mem_take hz);have c6:=ab _ _ hc (Yi hc (g5 _ _ e4) nofun);refine⟨c,_,Xb,Q9.of c6,Xb,_,_,Xb,_,_,Xb,Xb,?_⟩;refine⟨_,Xb,n,dx,_,Xb,g6 _ _ o1,Qj6 _,_,Xb,_,Xb,n,A,fs,tb,x,p,r,Xb,X.same g6,I,pS,rS,aF,hS,λL7 aK aM H7 g7 aJ ak al W7=>⟨L7,Xb,⟨_,Zc.of ak⟩,?_⟩⟩;refine Qdn T X (g6.trans g7) d0 (N0:=O) (g7 _ _ e6) ak al (m:=J) (λp q h=>?_) ae (by omega) (λk g=>?_) λN8 x4 H8 au i1 i2 i3 ay e8=>?_
    ·obtain⟨k,h1,h2⟩:=W7.lk p q h;exact⟨k,h1,h2 J cn⟩
    ·rcases only k g with h|h
     ·have:=Z k h;omega
     ·omega
    ·refine⟨_,_,_,N8,Xb,λb o e h=>ay _ _ (g7 _ _ (ab _ _ e h)) h,e8,au,λk g=>i1 k (sub k g),λk g=>(i2 k g).elim (only k) (λh=>.inr h.1),λp' q' t S D u v M j hj=>?_⟩;rw[List.take_add_one,ap]at t;rcases List.mem_append.mp t with h|h
     ·obtain⟨b1,b2⟩:=done p' q' h S D u v M j hj;exact⟨i1 _ b1,b2⟩
     ·have:(p',q')=(p,r):=by simpa using h
      cases this;have:=D.uniq W7.rel;subst this;obtain⟨k,h1,h2⟩:=W7.lk u v M;rw[hj]at h1;cases h1;exact⟨i3 u v j M hj,h2 J cn⟩
   ·rintro σ H6 ⟨x4,x6,x7,O,rfl,ab,e6,ae,sub,only,done⟩;rw[Paired.length ag,List.take_length]at done;exact⟨_,_,_,_,O,Xb,λb o e=>ab _ _ (g5 _ _ (g4 _ _ e)) (Qd e d0),e6,ae,λk g=>(only k g).elim (Z k) (λh=>by omega),λp q k h1 h2=>sub _ (Y p q k h1 h2),λk g=>(only k g).elim (l k) (λh=>by obtain⟨p,q,j,h1,h2,h3⟩:=l J af;exact⟨p,q,j,h1,h2,by omega⟩),low (i':=0) sub only done⟩
  ·rw[Gq af];refine Q6 ⟨_,_,_,_,N,Xb,g4,e4,R,Z,Y,l,λk g h=>?_⟩;rcases Te k (x.links.length - i)with h2|h2
   ·have:k=J:=by omega
    exact absurd (this▸g) af
   ·exact U k g h2
 ·rintro σ H4 ⟨x4,x5,x6,x7,N,rfl,g4,e4,R,Z,Y,l,U⟩;have aE:N.length<64:=by have:N.length<=(List.range x.links.length).length:=Xo R λk g=>List.mem_range.mpr (Z k g);rw[List.length_range]at this;omega
  refine⟨_,Xb,d,_,N.map (λk:Nat=>(k:Int)),Xb,e4,?_,by rw[Va];exact aE,λr ns r0 hp hs=>?_⟩
  ·unfold dS;rw[List.map_map,List.map_map];rfl
  have az:ns=(ns.map Dm).map (λk:Nat=>(k:Int)):=by rw[List.map_map];refine(List.map_id ns).symm.trans (List.map_congr_left λz hz=>?_);have:=hp.mem_iff.mp hz;obtain⟨k,_,rfl⟩:=List.mem_map.mp this;rfl
  have aa:(ns.map Dm).Perm N:=by
   have:=hp.map Dm;rw[List.map_map]at this;have e:(N.map (Dm∘λk:Nat=>(k:Int)))=N:=by refine(List.map_congr_left λk _=>?_).trans (List.map_id N);rfl
   rwa[e]at this
  have eo:HO.lst (ns.map V.int)=HO.lst ((ns.map Dm).map jv):=by
   congr 1
   conv=>lhs;rw[az]
   rw[List.map_map];rfl
  have pw:(ns.map Dm).Pairwise (·<=·):=by rw[List.pairwise_map];exact hs.imp λh=>by omega
  rw[eo];refine q r (ns.map Dm) _ (g4.trans (Qf r0 _)) (g4.free r0) Qb (aa.nodup_iff.mpr R) pw ⟨λk g=>Z k (aa.mem_iff.mp g),λS D p q' t k g=>?_,λk g lk ac p q' t S D u v M j hj=>?_,λk g=>?_⟩
  ·have:=D.uniq W.rel;subst this;exact aa.mem_iff.mpr (Y p q' k t g)
  ·obtain⟨b1,b2⟩:=U k (aa.mem_iff.mp g) (by omega) lk ac p q' t S D u v M j hj;exact⟨aa.mem_iff.mpr b1,b2⟩
  ·obtain⟨p,q',j,h1,h2,h3⟩:=l k (aa.mem_iff.mp g);exact⟨st,p,q',j,W.rel,h1,h2,h3⟩
end
inductive Lr where
 |told (n:Nat)
 |asked
 |turn (k:Nat)
 |chain (ks:List Nat)
 |like (ks:List Nat)
abbrev Ln:=Nat×Nat×Lr
variable{ls:List Ln}
def Chn(pre:List Ln):Nat->List Nat->Nat->Prop
 |p,[],q=>p=q
 |p,k::a,q=>∃m r,pre[k]?=Ga (p,m,r)/\Chn pre m a q
def Okl(fs:List Fm)(lks:List Lk)(pre:List Ln)(a b:Nat):Lr->Prop
 |.told n=>(a,b,Ga (.told n))∈lks
 |.asked=>(a,b,Ga .asked)∈lks
 |.turn k=>∃r,pre[k]?=Ga (b,a,r)
 |.chain c=>Chn pre a c b
 |.like c=>Yh fs a=Yh fs b/\(Zp fs a).length=(Zp fs b).length/\c.length=(Zp fs a).length/\∀j k p q:Nat,c[j]?=Ga k->(Zp fs a)[j]?=Ga p->(Zp fs b)[j]?=Ga q->∃r,pre[k]?=Ga (p,q,r)
def Gdl(fs:List Fm)(lks:List Lk)(ls:List Ln):Prop:=∀(i a b:Nat)r,ls[i]?=Ga (a,b,r)->Okl fs lks (ls.take i) a b r
theorem Gdl.nil:Gdl fs lks []:=λi a b r h=>by simp at h
theorem Gdl.snoc{r:Lr}(g:Gdl fs lks ls)(h:Okl fs lks ls a b r):Gdl fs lks (ls++[(a,b,r)]):=λi d e f hi=>by
 rcases Te i ls.length with c|c
 ·rw[List.getElem?_append_left c]at hi;rw[List.take_append_of_le_length (by omega)];exact g i d e f hi
 ·rw[List.getElem?_append_right c]at hi;have:i=ls.length:=by
   rcases Te (i - ls.length) 1 with h1|h1
   ·omega
   ·rw[List.getElem?_eq_none (by simpa using h1)]at hi;cases hi
  subst this;simp at hi;obtain⟨rfl,rfl,rfl⟩:=hi;rw[List.take_left];exact h
def Iy(H:Hp)(X:Gc->Prop)(v:V):Lr->Prop
 |.told n=>∃c,v=.ref c/\H c=Ga (.tup [.str "told",jv n])
 |.asked=>∃c,v=.ref c/\H c=Ga (.tup [.str "asked"])
 |.turn k=>∃c,v=.ref c/\H c=Ga (.tup [.str "turn",jv k])
 |.chain a=>∃c l,v=.ref c/\H c=Ga (.tup [.str "chain",.ref l])/\H l=Ga (.lst (a.map jv))/\¬X l/\a.length<=1000000
 |.like a=>∃c l,v=.ref c/\H c=Ga (.tup [.str "like",.ref l])/\H l=Ga (.lst (a.map jv))/\¬X l/\a.length<=1000000
def Qfp(H:Hp)(X:Gc->Prop)(us:List V)(v:V)(l:Ln):Prop:=∃c a b rv,v=.ref c/\H c=Ga (.tup [a,b,rv])/\us[l.1]?=Ga a/\us[l.2.1]?=Ga b/\Iy H X rv l.2.2
structure Ii(L M:Gc)(H H':Hp):Prop where
 keep:∀b o,H b=Ga o->b≠L->b≠M->H' b=Ga o
 there:∀b,H' b=Gf->H b=Gf
theorem Ii.refl:Ii L M H H:=⟨λ_ _ e _ _=>e,λ_ h=>h⟩
theorem Ii.trans{H2:Hp}(a:Ii L M H H1)(b:Ii L M H1 H2):Ii L M H H2:=⟨λc o e h1 h2=>b.keep c o (a.keep c o e h1 h2) h1 h2,λc h=>a.there c (b.there c h)⟩
theorem Ii.of(g:Q5 H H1):Ii L M H H1:=⟨λc o e _ _=>g c o e,λc h=>g.free h⟩
theorem Iy.kp(tp:∀{c:Gc}{ys:List V},H c=Ga (.tup ys)->H' c=Ga (.tup ys))(lp:∀{c:Gc}{ys:List V},H c=Ga (.lst ys)->¬X c->H' c=Ga (.lst ys)):∀{r:Lr},Iy H X v r->Iy H' X v r:=by
 intro r h;cases r with
 |told n=>obtain⟨c,h1,h2⟩:=h;exact⟨c,h1,tp h2⟩
 |asked=>obtain⟨c,h1,h2⟩:=h;exact⟨c,h1,tp h2⟩
 |turn k=>obtain⟨c,h1,h2⟩:=h;exact⟨c,h1,tp h2⟩
 |chain e=>obtain⟨c,l,h1,h2,b,a,d⟩:=h;exact⟨c,l,h1,tp h2,lp b a,a,d⟩
 |like e=>obtain⟨c,l,h1,h2,b,a,d⟩:=h;exact⟨c,l,h1,tp h2,lp b a,a,d⟩
theorem Qfp.kp{X:Gc->Prop}{H H':Hp}(tp:∀{c:Gc}{ys:List V},H c=Ga (.tup ys)->H' c=Ga (.tup ys))(lp:∀{c:Gc}{ys:List V},H c=Ga (.lst ys)->¬X c->H' c=Ga (.lst ys)){us:List V}{v:V}{l:Ln}(h:Qfp H X us v l):Qfp H' X us v l:=by obtain⟨c,e,f,rv,h1,h2,a,b,d⟩:=h;exact⟨c,e,f,rv,h1,tp h2,a,b,d.kp tp lp⟩
theorem Iy.ex{Y:Gc->Prop}(e:∀c ys,H c=Ga (.lst ys)->¬X c->¬Y c):∀{r:Lr},Iy H X v r->Iy H Y v r:=by
 intro r h;cases r with
 |told n=>exact h
 |asked=>exact h
 |turn k=>exact h
 |chain f=>obtain⟨c,l,h1,h2,a,b,d⟩:=h;exact⟨c,l,h1,h2,a,e _ _ a b,d⟩
 |like f=>obtain⟨c,l,h1,h2,a,b,d⟩:=h;exact⟨c,l,h1,h2,a,e _ _ a b,d⟩
theorem Qfp.ex{X Y:Gc->Prop}{H:Hp}(e:∀c ys,H c=Ga (.lst ys)->¬X c->¬Y c){us:List V}{v:V}{l:Ln}(h:Qfp H X us v l):Qfp H Y us v l:=by obtain⟨c,f,g,rv,h1,h2,a,b,d⟩:=h;exact⟨c,f,g,rv,h1,h2,a,b,d.ex e⟩
structure Sv where
 sh:Gc
 n:Gc
 t:Gc
 L:Gc
 M:Gc
 A:Na
 fs:List Fm
 tb:Nat
 x:Nn
 us:List V
 H0:Hp
 Ex:Gc->Prop
def Qa3(v:Sv):List (GJ×V):=[("things",.ref v.t),("net",.ref v.n),("lines",.ref v.L),("numbers",.ref v.M)]
structure Vb(P:Gj)(w:Gu)(C D:Gc)(v:Sv)(H:Hp)(ls:List Ln)(N:Nat->Nat->Option Nat):Prop where
 ob:∃dx,H v.sh=Ga (.ins D dx (Qa3 v))
 O1:Q5 v.H0 H
 L0:v.H0 v.L=Gf
 M0:v.H0 v.M=Gf
 net:Z6 P w C v.H0 v.n v.A v.fs v.tb v.x
 th:v.H0 v.t=Ga (.lst v.us)
 li:∃vs,H v.L=Ga (.lst vs)/\Paired (Qfp H v.Ex v.us) vs ls
 nu:∃kvs,H v.M=Ga (.dT kvs)/\kvs.length<=ls.length/\∀i j:Nat,Y9 kvs [ki i,ki j]=(N i j).map jv
 ok:∀i j k,N i j=Ga k->∃r,ls[k]?=Ga (i,j,r)
 good:Gdl v.fs v.x.links ls
 exL:v.Ex v.L
 exA:∀b,v.Ex b->∃o,H b=Ga o
theorem Ii.tp{kvs:List (List Xz×V)}(F:Ii L M H H')(b:H M=Ga (.dT kvs))(a:H L=Ga (.lst xs)){c:Gc}(e:H c=Ga (.tup ys)):H' c=Ga (.tup ys):=F.keep _ _ e (Yi e a nofun) (Yi e b nofun)
theorem Ii.lp{kvs:List (List Xz×V)}(F:Ii L M H H')(b:H M=Ga (.dT kvs))(a:X L){c:Gc}(e:H c=Ga (.lst ys))(h:¬X c):H' c=Ga (.lst ys):=F.keep _ _ e (λz=>h (z▸a)) (Yi e b nofun)
theorem Vb.fr{v:Sv}(S:Vb P w C D v H ls N)(g:Q5 H H'):Vb P w C D v H' ls N:=by obtain⟨dx,a⟩:=S.ob;obtain⟨vs,l1,l2⟩:=S.li;obtain⟨kvs,n1,n2,n3⟩:=S.nu;exact⟨⟨dx,g _ _ a⟩,S.O1.trans g,S.L0,S.M0,S.net,S.th,⟨vs,g _ _ l1,L2.Paired.Z7 l2 λ_ _ h=>h.kp (λe=>g _ _ e) (λe _=>g _ _ e)⟩,⟨kvs,g _ _ n1,n2,n3⟩,S.ok,S.good,S.exL,λb hb=>let⟨o,e⟩:=S.exA b hb;⟨o,g _ _ e⟩⟩
theorem Vb.more{v:Sv}(S:Vb P w C D v H ls N)(d:H r=Gf):Vb P w C D {v with Ex:=λb=>v.Ex b\/b=r} (upd H r (.lst [])) ls N:=by
 have S1:=S.fr (Qf d (.lst []));obtain⟨vs,l1,l2⟩:=S.li;obtain⟨f,a,i⟩:=S1.li;have:f=vs:=by rw[Qf d (.lst []) _ _ l1]at a;cases a;rfl
 subst this;refine⟨S1.ob,S1.O1,S1.L0,S1.M0,S1.net,S1.th,⟨f,a,L2.Paired.Z7 l2 λ_ _ h=>(h.ex (Y:=λb=>v.Ex b\/b=r) λc ys e g z=>?_).kp (λe=>Qf d _ _ _ e) (λe _=>Qf d _ _ _ e)⟩,S1.nu,S1.ok,S1.good,.inl S1.exL,λb hb=>?_⟩
 ·rcases z with z|z
  ·exact g z
  ·rw[z,d]at e;cases e
 ·rcases hb with hb|hb
  ·exact S1.exA b hb
  ·exact⟨_,by rw[hb];exact Qb⟩
theorem Vb.less{v:Sv}(S:Vb P w C D {v with Ex:=λb=>v.Ex b\/b=r} H ls N)(a:v.Ex v.L):Vb P w C D v H ls N:=by obtain⟨vs,l1,l2⟩:=S.li;exact⟨S.ob,S.O1,S.L0,S.M0,S.net,S.th,⟨vs,l1,L2.Paired.Z7 l2 λ_ _ h=>h.ex λc ys e d z=>d (.inl z)⟩,S.nu,S.ok,S.good,a,λb hb=>S.exA b (.inl hb)⟩
theorem Vb.grow{v:Sv}{zs:List V}(S:Vb P w C D v H ls N)(j:v.Ex r)(c:H r=Ga (.lst ys))(g:r≠v.L)(f:v.H0 r=Gf):Vb P w C D v (upd H r (.lst zs)) ls N:=by
 obtain⟨dx,d⟩:=S.ob;obtain⟨vs,l1,l2⟩:=S.li;obtain⟨kvs,n1,n2,n3⟩:=S.nu;refine⟨⟨dx,Qk d (Yi d c nofun)⟩,λb o e=>Qk (S.O1 _ _ e) (Qd e f),S.L0,S.M0,S.net,S.th,⟨vs,Qk l1 (Gm g),L2.Paired.Z7 l2 λ_ _ h=>h.kp (λe=>Qk e (Yi e c nofun)) (λe i=>Qk e (λz=>i (z▸j)))⟩,⟨kvs,Qk n1 (Yi n1 c nofun),n2,n3⟩,S.ok,S.good,S.exL,λb hb=>?_⟩;by_cases a:b=r
 ·exact⟨_,by rw[a];exact Qb⟩
 ·obtain⟨o,e⟩:=S.exA b hb;exact⟨o,Qk e a⟩
theorem Vb.same{v:Sv}(S:Vb P w C D v H ls N)(F:Ii v.L v.M H H'):Q5 v.H0 H':=λb o e=>F.keep b o (S.O1 b o e) (Qd e S.L0) (Qd e S.M0)
def putN(N:Nat->Nat->Option Nat)(a b m:Nat):Nat->Nat->Option Nat:=λi j=>if i=a/\j=b then Ga m else N i j
structure Qne(K:PySem.W.Frag)(D:Gc):Prop where
 cl:Cls K D
 things:Yx K D "things"
 net:Yx K D "net"
 lines:Yx K D "lines"
 U6:Yx K D "numbers"
theorem Qek(v:Sv):(Qa3 v).lookup ("things":GJ)=Ga (.ref v.t):=by rfl
theorem Qr2(v:Sv):(Qa3 v).lookup ("net":GJ)=Ga (.ref v.n):=by rfl
theorem Qdc(v:Sv):(Qa3 v).lookup ("lines":GJ)=Ga (.ref v.L):=by rfl
theorem W6(v:Sv):(Qa3 v).lookup ("numbers":GJ)=Ga (.ref v.M):=by rfl
theorem Qht(v:Sv):(Qa3 v).lookup ("write":GJ)=Gf:=by rfl
theorem Qfm(v:Sv):(Qa3 v).lookup ("write_link":GJ)=Gf:=by rfl
theorem Rq(v:Sv):(Qa3 v).lookup ("line_for":GJ)=Gf:=by rfl
def Qfz(P:Gj)(w:Gu)(C D:Gc):Sp:=λvs H Q _=>∃(v:Sv)(ls:List Ln)(N:Nat->Nat->Option Nat)(a b:Nat)(rv:V)(r:Lr),vs=[.ref v.sh,jv a,jv b,rv]/\Vb P w C D v H ls N/\a<v.us.length/\b<v.us.length/\Iy H v.Ex rv r/\Okl v.fs v.x.links ls a b r/\ls.length<=1000000/\
 ∀H',Vb P w C D v H' (ls++[(a,b,r)]) (putN N a b ls.length)->Ii v.L v.M H H'->Q .non H'
section
variable{P:Gj}{w:Gu}{K:PySem.W.Frag}{mg:GJ->Option Value}{base:Heap}
theorem Qsx:Q3 ["self","one","other","reason"] ["self","one","other","reason"] (Qn Qfy):=by eq_refl
theorem Qoy(F:Wz K "write" "Showing.write" Qfy f fd)(T:Qne K D)(B:J0 mg):Qz P w K mg base Yb 1 f fd ["self","one","other","reason"] (Qfz P w C D):=by
 refine F.ok Qsx (λvs H Q E h=>?_) (λcdv A outer s H vs Q E hr h=>?_)
 ·obtain⟨v,ls,N,a,b,rv,r,rfl,_⟩:=h;rfl
 obtain⟨v,ls,N,a,b,rv,r,rfl,S,al,bl,U,Z4,X,q⟩:=h;have hu:=Ur hr;refine⟨_,Qc (Ww hu (Qu (pv 0) rfl) (Zf (Qa (pv 1) (Qa (pv 2) Qe))) (Qp Z2 rfl B.len PySem.boot_len (Qa (Qu (pv 0) rfl) Qe)) rfl)
  (Qh (Zk (X0 PySem.F.plainAttrs_list PySem.F.slot_list_append PySem.F.type_list_append Z3 (Qu (pv 0) rfl) (Qa (Zf (Qa (Ql Ze (Qu (pv 0) rfl) (pv 1)) (Qa (Ql Ze (Qu (pv 0) rfl) (pv 2)) (Qa (pv 3) Qe)))) Qe)))),?_⟩
 obtain⟨dx,n⟩:=S.ob;obtain⟨vs,l1,l2⟩:=S.li;obtain⟨kvs,n1,n2,n3⟩:=S.nu;have R:=Paired.length l2;refine⟨_,Xb,v.sh,D,dx,_,_,Xb,n,T.cl,T.lines,Qdc _,v.L,vs,Xb,.inl (Zc.of l1),_,Xb,v.sh,D,dx,_,_,Xb,n,T.cl,T.U6,W6 _,_,Xb,_,Xb,by show 2<=Gh;decide,λc hc=>?_⟩;have s1:=Qf hc (.tup [jv a,jv b]);have dp:=I9.t (k:=[ki a,ki b]) (v:=.int (vs.length:Int)) (s1 _ _ n1) (show(upd H c (.tup [jv a,jv b])) c=Ga (.tup ([ki a,ki b].map kV))from Qb) (by rw[Gy];omega);refine⟨v.M,_,Xb,dp,?_⟩;have W:v.L≠v.M:=Yi l1 n1 nofun;have Y:v.sh≠v.M:=Yi n n1 nofun;have oL:v.sh≠v.L:=Yi n l1 nofun;generalize l:upd (upd H c (.tup [jv a,jv b])) v.M (.dT (W8 kvs [ki a,ki b] (.int (vs.length:Int))))=H2;have G:∀{d o},H d=Ga o->d≠v.M->H2 d=Ga o:=λe h=>by rw[<-l];exact Qk (s1 _ _ e) h
 have t2:∀{d},H2 d=Gf->H d=Gf:=λ{d}h=>by rw[<-l]at h;exact s1.free (Z1 h)
 have M2:H2 v.M=Ga (.dT (W8 kvs [ki a,ki b] (.int (vs.length:Int)))):=by rw[<-l];exact Qb
 have V:=G n Y;have g:=G l1 W;have Z:H v.t=Ga (.lst v.us):=S.O1 _ _ S.th;have y:=G Z (Yi Z n1 nofun);have ua:v.us[a]?=Ga v.us[a]:=List.getElem?_eq_getElem al;have ub:v.us[b]?=Ga v.us[b]:=List.getElem?_eq_getElem bl;refine⟨_,Xb,v.sh,D,dx,_,_,Xb,V,T.cl,T.lines,Qdc _,.inl ⟨Xb,_,Zc.of g⟩,_,Xb,v.sh,D,dx,_,_,Xb,V,T.cl,T.things,Qek _,_,Xb,v.t,v.us,_,_,Xb,Xb,Zc.of y,Qj ua,_,Xb,v.sh,D,dx,_,_,Xb,V,T.cl,T.things,Qek _,_,Xb,v.t,v.us,_,_,Xb,Xb,Zc.of y,Qj ub,_,Xb,by show 3<=Gh;decide,λp m=>?_⟩;have I:=Qf m (.tup [v.us[a],v.us[b],rv]);have J:p≠v.L:=Gm (Qd g m);have aa:p≠v.M:=Gm (Qd M2 m);refine⟨v.L,vs,_,Xb,Xb,I _ _ g,by rw[Gy];omega,?_⟩;have F:Ii v.L v.M H (upd (upd H2 p (.tup [v.us[a],v.us[b],rv])) v.L (.lst (vs++[.ref p]))):=⟨λd o e h1 h2=>Qk (I _ _ (G e h2)) h1,λd h=>t2 (I.free (Z1 h))⟩;refine q _ ⟨⟨dx,F.keep _ _ n oL Y⟩,S.same F,S.L0,S.M0,S.net,S.th,⟨_,Qb,Paired.snoc (L2.Paired.Z7 l2 λ_ _ h=>h.kp (F.tp n1 l1) (F.lp n1 S.exL)) ⟨p,v.us[a],v.us[b],rv,Xb,Qk Qb J,ua,ub,U.kp (F.tp n1 l1) (F.lp n1 S.exL)⟩⟩,⟨_,Qk (I _ _ M2) (Gm W),?_,λi j=>?_⟩,λi j k u=>?_,S.good.snoc Z4,S.exL,λd O=>?_⟩ F
 ·have:=Wg kvs [ki a,ki b] (.int (vs.length:Int));rw[List.length_append,List.length_singleton];omega
 ·rw[Qdl,n3];unfold putN;by_cases h:i=a/\j=b
  ·obtain⟨rfl,rfl⟩:=h;rw[Gk Xb,Gk ⟨Xb,Xb⟩,R];rfl
  ·rw[Gg h,Gg];intro z;simp only[List.cons.injEq,Ls]at z;exact h ⟨Jf z.1,Jf z.2⟩
 ·unfold putN at u;by_cases h:i=a/\j=b
  ·rw[Gk h]at u;cases u;obtain⟨rfl,rfl⟩:=h;exact⟨r,by simp⟩
  ·rw[Gg h]at u;obtain⟨r',x⟩:=S.ok i j k u;exact⟨r',by rw[List.getElem?_append_left (List.getElem?_eq_some_iff.mp x).1];exact x⟩
 ·obtain⟨o,e⟩:=S.exA d O;exact ED.mp λz=>by rw[F.there d z]at e;cases e
end
def Dr(N:Nat->Nat->Option Nat)(a b:Nat):Prop:=(N a b).isSome=Ge\/(N b a).isSome=Ge
def Qfu(N a:Nat->Nat->Option Nat):Prop:=∀i j,(N i j).isSome=Ge->(a i j).isSome=Ge
def Cov(v:Sv)(N:Nat->Nat->Option Nat)(m:Nat):Prop:=∀i j,(N i j).isSome=Ge->Cn (v.x.links.take m) i j
theorem Dr.sub{c:Nat->Nat->Option Nat}(h:Dr N a b)(s:Qfu N c):Dr c a b:=h.elim (λh=>.inl (s _ _ h)) λh=>.inr (s _ _ h)
theorem Qlp:Qfu N (putN N a b m):=λi j h=>by
 unfold putN;split
 ·rfl
 ·exact h
theorem Qmn{v:Sv}(h:Cov v N m)(c:Cn (v.x.links.take m) a b):Cov v (putN N a b k) m:=λi j z=>by
 unfold putN at z;split at z
 ·rename_i e
  rw[e.1,e.2];exact c
 ·exact h i j z
theorem Qkm:putN N a b m a b=Ga m:=Gk ⟨Xb,Xb⟩
structure Go(v:Sv)(N:Nat->Nat->Option Nat)(a b:Nat):Prop where
 inv:X9 (Yh v.fs) (Zp v.fs) v.x []
 aS:a∈v.x.S
 bS:b∈v.x.S
 eq:v.x.lead a=v.x.lead b
 hS:v.x.S.length<=1000
 st:∀st,Qaj v.x.up a b st->∀p q,(p,q)∈st->Dr N p q
def Qcd(P:Gj)(w:Gu)(C D:Gc)(g:Bool):Sp:=λvs H Q _=>∃(v:Sv)(ls:List Ln)(N:Nat->Nat->Option Nat)(a b:Nat),vs=[.ref v.sh,jv a,jv b]/\Vb P w C D v H ls N/\a<v.us.length/\b<v.us.length/\(∀p∈v.x.S,p<v.us.length)/\(Dr N a b\/(g=Ge/\Go v N a b))/\ls.length+(if g=Ge then 3000 else 0)<=900000/\
 ∀(k:Nat)(more:List Ln)(c:Nat->Nat->Option Nat)(H':Hp),Vb P w C D v H' (ls++more) c->Ii v.L v.M H H'->c a b=Ga k->Qfu N c->more.length<=2*v.x.S.length+1->(∀m,Cov v N m->Cn (v.x.links.take m) a b->Cov v c m)->(N a b=Gf->∃r,(ls++more).getLast?=Ga (a,b,r))->(g=Gp->more.length<=1)->(N a b≠Gf->more=[])->Q (jv k) H'
def Qq5(P:Gj)(w:Gu)(C D:Gc):Bool->Sp
 |true=>Qcd P w C D Gp
 |false=>λ_ _ _ _=>False
theorem Qpa{ls:List Ln}:∀{st:List (Nat×Nat)}{a:List Nat}{p q:Nat},Qaa p st q->a.length=st.length->(∀j k u v:Nat,a[j]?=Ga k->st[j]?=Ga (u,v)->∃r,ls[k]?=Ga (u,v,r))->Chn ls p a q
 |[],[],p,q,h,_,_=>by cases h;rfl
 |[],_::_,_,_,_,h,_=>by simp at h
 |_::_,[],_,_,_,h,_=>by simp at h
 |_::st,k::a,p,q,.cons t,h,f=>by obtain⟨r,b⟩:=f 0 k _ _ rfl rfl;exact⟨_,r,b,Qpa t (by simpa using h) λj c u v h1 h2=>f (j+1) c u v h1 h2⟩
theorem Qpj{more:List Ln}{l:Ln}(h:ls[k]?=Ga l):(ls++more)[k]?=Ga l:=by rw[List.getElem?_append_left (List.getElem?_eq_some_iff.mp h).1];exact h
section
variable{P:Gj}{w:Gu}{K:PySem.W.Frag}{mg:GJ->Option Value}{base:Heap}
theorem Qe6:Q3 ["self","one","other","reason"] ["self","one","other"] (Qn Ih):=by eq_refl
theorem Qzk:(["start","end","self"]:List GJ).Nodup:=by decide+kernel
set_option hygiene false
local macro_rules
 |`(tactic|infer_instance)=>`(tactic|(
 obtain⟨dx1,o1'⟩:=S1.ob
 refine⟨_,Xb,v.sh,dx1,_,Xb,o1',Qht _,_,Xb,_,Xb,_,Xb,v,ls++more1,N1,a,b,rv,r,Xb,S1,al,bl,hrv,Z4,by rw[List.length_append];omega,λH2 S2 F2=>?_⟩
 obtain⟨dx2,o2⟩:=S2.ob
 obtain⟨kv2,m2,_,vv2⟩:=S2.nu
 refine⟨_,Xb,v.sh,D,dx2,_,_,Xb,o2,T.cl,T.U6,W6 _,_,Xb,_,Xb,by show 2<=Gh;decide,λc3 hc3=>?_⟩
 have s3:=Qf hc3 (.tup [jv a,jv b])
 have dg3:=Wy.t (k:=[ki a,ki b]) (s3 _ _ m2) (show(upd H2 c3 (.tup [jv a,jv b])) c3=Ga (.tup ([ki a,ki b].map kV))from Qb)
 rw[vv2,Qkm]at dg3
 refine⟨v.M,_,Xb,dg3,?_⟩
 have S3:=S2.fr s3
 rw[List.append_assoc]at S3
 exact q _ (more1++[(a,b,r)]) _ _ S3 ((F1.trans F2).trans (Ii.of s3)) Qkm (λi j h=>Qlp _ _ (sub1 i j h)) (by rw[List.length_append,List.length_singleton];omega) (λm hc hm=>Qmn (cov1 m hc hm) hm) (λ_=>⟨r,by rw[<-List.append_assoc,List.getLast?_concat]⟩) (λhg=>by rw[List.length_append,List.length_singleton];have:=mof hg;omega) (λz=>absurd hN z)))
set_option hygiene true
theorem Qli{g:Bool}(hk:2<=k)(F:Wz K "line_for" "Showing.line_for" Ih f fd)(T:Qne K D)(TN:V7 K mg C)(mL:Yd K D "line_for" f)(bL:Binds K fd ["self","one","other"] [])(G:Qz P w K mg base Yb k f fd ["self","one","other"] (Qq5 P w C D g))
  (mW:Yd K C "way" fW)(GW:Qz P w K mg base Yb 2 fW fdW ["self","one","other"] (Qsi P w C))(bW:Binds K fdW ["self","one","other"] [])(mR:Yd K D "write" fR)(GR:Qz P w K mg base Yb 1 fR fdR ["self","one","other","reason"] (Qfz P w C D))(bR:Binds K fdR ["self","one","other","reason"] []):
  Qz P w K mg base Yb (k+1) f fd ["self","one","other"] (Qcd P w C D g):=by
 refine F.ok Qe6 (λvs H Q E h=>?_) (λcdv A outer s H vs Q E hr h=>?_)
 ·obtain⟨v,ls,N,a,b,rfl,_⟩:=h;rfl
 obtain⟨v,ls,N,a,b,rfl,S,al,bl,Sl,pre,ao,q⟩:=h;have hu:=Ur hr;have aF:Yf 1 _:=hr.mono (by omega);have aG:Yf 2 _:=hr.mono (by omega);have nd:=Qe6.nd;have aD:ls.length<=900000:=by omega
 refine⟨_,Qc (Zb (Qgm (Qm7 hu (Zf (Qa (pv 1) (Qa (pv 2) Qe))) (Qu (pv 0) rfl)))
   (Qc (Zb (Qgm (Qj7 hu (Zf (Qa (pv 2) (Qa (pv 1) Qe))) (Qu (pv 0) rfl)))
    (Qh (Qy 3 nd (Zf (Qa Zj (Qa (Zv hu (Qu (pv 0) rfl) (Zf (Qa (pv 2) (Qa (pv 1) Qe))) (λ_ _=>rfl)) Qe)))))
    (Qh (Qy 3 nd (Zf (Qa Zj (Qa
     (Vl (te:=Qhz D "line_for" (Qq5 P w C D g) [] E0 (Vv 2) (Qa8 (Vv 0) (Qa8 (Vv 1) Qjx))) (g:=Qxs K 2 (Qh6 (V2 0) (Qh6 (V2 1) Qwq))) (own:=["start","end"]) (fv:=[(0,"self")]) rfl (S:=(by eq_refl:Xx (Qn Ih) _)) (.cons rfl (TR Xb) rfl .nil)
      (Z9 (Zg (Qu (pv 0) rfl) TN.cl mW GW aG bW .nil Q7 (Qa (pv 1) (Qa (pv 2) Qe))))
      (λ_ _ _ _ _=>Vh rfl (Zl (Xf (i:=0) Qzk rfl (TR Xb) (Dp Xb)) (Zl (Xf (i:=1) Qzk rfl (TR Xb) (Dp Xb)) Wc))) (λ_ _ _ _ _=>X6)
      (λ_ _ _ _ _=>Zg (pv 2) T.cl mL G hr bL .nil Q7 (Qa (pv 0) (Qa (pv 1) Qe)))) Qe))))))
   (Qh (Zk (Zg (pv 0) T.cl mR GR aF bR .nil Q7 (Qa (pv 1) (Qa (pv 2) (Qa (pv 3) Qe))))))) Qv)
  (Qh (Qt (Zv hu (Qu (pv 0) rfl) (Zf (Qa (pv 1) (Qa (pv 2) Qe))) (λ_ _=>rfl)))),?_⟩
 obtain⟨dx,o1⟩:=S.ob;obtain⟨kvs,n1,n2,n3⟩:=S.nu;refine⟨_,Xb,_,Xb,by show 2<=Gh;decide,λc hc=>?_⟩;have s1:=Qf hc (.tup [jv a,jv b]);have aj:=Wy.t (k:=[ki a,ki b]) (s1 _ _ n1) (show(upd H c (.tup [jv a,jv b])) c=Ga (.tup ([ki a,ki b].map kV))from Qb);rw[n3]at aj;refine⟨_,Xb,v.sh,D,dx,_,_,Xb,s1 _ _ o1,T.cl,T.U6,W6 _,v.M,_,Xb,aj,_,Xb,?_⟩;cases hN:N a b with
 |some B=>refine Q6 ?_;have S1:=S.fr s1;obtain⟨dx2,o2⟩:=S1.ob;obtain⟨kv2,m2,_,vv2⟩:=S1.nu;refine⟨_,Xb,v.sh,D,dx2,_,_,Xb,o2,T.cl,T.U6,W6 _,_,Xb,_,Xb,by show 2<=Gh;decide,λc3 hc3=>?_⟩;have s3:=Qf hc3 (.tup [jv a,jv b]);have dg3:=Wy.t (k:=[ki a,ki b]) (s3 _ _ m2) (show(upd (upd H c (.tup [jv a,jv b])) c3 (.tup [jv a,jv b])) c3=Ga (.tup ([ki a,ki b].map kV))from Qb);rw[vv2,hN]at dg3;refine⟨v.M,_,Xb,dg3,?_⟩;have S3:=S1.fr s3;exact q B [] N _ (by rw[List.append_nil];exact S3) (Ii.of (s1.trans s3)) hN (λ_ _ h=>h) (Gx _) (λ_ h _=>h) (λz=>by rw[hN]at z;cases z) (λ_=>Gx _) (λ_=>rfl)
 |none=>
  refine Yy ?_;refine⟨_,Xb,_,Xb,by show 2<=Gh;decide,λc2 ay=>?_⟩;have s2:=s1.trans (Qf ay (.tup [jv b,jv a]));have ak:=Wy.t (k:=[ki b,ki a]) (s2 _ _ n1) (show(upd (upd H c (.tup [jv a,jv b])) c2 (.tup [jv b,jv a])) c2=Ga (.tup ([ki b,ki a].map kV))from Qb);rw[n3]at ak;refine⟨_,Xb,v.sh,D,dx,_,_,Xb,s2 _ _ o1,T.cl,T.U6,W6 _,v.M,_,Xb,ak,_,Xb,?_⟩;generalize upd (upd H c (.tup [jv a,jv b])) c2 (.tup [jv b,jv a])=Hb at s2;have Sb:=S.fr s2;cases hT:N b a with
  |some B=>
   refine Yy ?_;obtain⟨r0,aE⟩:=S.ok b a B hT;obtain⟨dx2,o2⟩:=Sb.ob;obtain⟨kv2,m2,_,vv2⟩:=Sb.nu;refine⟨_,Xb,v.sh,D,dx2,_,_,Xb,o2,T.cl,T.U6,W6 _,_,Xb,_,Xb,by show 2<=Gh;decide,λc3 hc3=>?_⟩;have s3:=Qf hc3 (.tup [jv b,jv a]);have dg3:=Wy.t (k:=[ki b,ki a]) (s3 _ _ m2) (show(upd Hb c3 (.tup [jv b,jv a])) c3=Ga (.tup ([ki b,ki a].map kV))from Qb);rw[vv2,hT]at dg3;refine⟨v.M,_,Xb,dg3,by show 2<=Gh;decide,λR ad=>?_⟩;have s4:=Qf ad (.tup [.str "turn",jv B]);have S1:Vb P w C D v (upd (upd Hb c3 (.tup [jv b,jv a])) R (.tup [.str "turn",jv B])) (ls++[]) N:=by rw[List.append_nil];exact(Sb.fr s3).fr s4
   have F1:Ii v.L v.M H (upd (upd Hb c3 (.tup [jv b,jv a])) R (.tup [.str "turn",jv B])):=Ii.of ((s2.trans s3).trans s4);generalize O:V.ref R=rv;have hrv:Iy (upd (upd Hb c3 (.tup [jv b,jv a])) R (.tup [.str "turn",jv B])) v.Ex rv (.turn B):=⟨R,O.symm,Qb⟩;have Z4:Okl v.fs v.x.links (ls++[]) a b (.turn B):=⟨r0,by rw[List.append_nil];exact aE⟩;obtain⟨more1,J⟩:∃m:List Ln,m=[]:=⟨_,Xb⟩;rw[<-J]at S1 Z4;obtain⟨r,hr'⟩:∃r:Lr,r=.turn B:=⟨_,Xb⟩;rw[<-hr']at hrv Z4;obtain⟨N1,ac⟩:∃N1:Nat->Nat->Option Nat,N1=N:=⟨_,Xb⟩;have sub1:Qfu N N1:=by rw[ac];exactλ_ _ h=>h
   have cov1:∀m,Cov v N m->Cn (v.x.links.take m) a b->Cov v N1 m:=by rw[ac];exactλ_ h _=>h
   rw[<-ac]at S1;have ml:more1.length=0:=by rw[J];rfl
   have mof:g=Gp->more1.length=0:=λ_=>ml;infer_instance
  |none=>
   refine Q6 ?_;cases g with
   |false=>
    exfalso;rcases pre with(h|h)|⟨h,_⟩
    ·rw[hN]at h;cases h
    ·rw[hT]at h;cases h
    ·cases h
   |true=>
   have go:Go v N a b:=by
    rcases pre with(h|h)|⟨_,h⟩
    ·rw[hN]at h;cases h
    ·rw[hT]at h;cases h
    ·exact h
   have X2:=S.net.same Sb.O1;obtain⟨ax,on⟩:=X2.ob;obtain⟨dx2,o2⟩:=Sb.ob;refine⟨_,Xb,v.sh,D,dx2,_,_,Xb,o2,T.cl,T.net,Qr2 _,v.n,ax,_,Xb,on,Qj6 _,_,Xb,_,Xb,v.n,v.A,v.fs,v.tb,v.x,a,b,Xb,X2,go.inv,go.aS,go.bS,go.eq,go.hS,λL5 es st H5 g5 X am an W=>⟨L5,Xb,⟨_,Zc.of am⟩,λU d=>?_⟩⟩;have aO:=W.len;have aN:=Paired.length an;have hS:=go.hS;have S5:=Sb.fr g5;have au:L5≠v.L:=λz=>by obtain⟨vs,l1,_⟩:=Sb.li;rw[z,l1]at X;cases X
   have av:L5≠v.M:=λz=>by obtain⟨vs,l1,_⟩:=Sb.nu;rw[z,l1]at X;cases X
   have aq:U≠v.L:=λz=>by obtain⟨vs,l1,_⟩:=S5.li;rw[z,l1]at d;cases d
   have aM:U≠v.M:=λz=>by obtain⟨vs,l1,_⟩:=S5.nu;rw[z,l1]at d;cases d
   have aL:v.H0 U=Gf:=S5.O1.free d;have s5:=Qf d (.lst []);obtain⟨aT,aH,_⟩:=S5.li;obtain⟨aQ,aI,_⟩:=S5.nu;refine Ip (K:=K) (a:=L5) (xs:=es) (small (by omega)) (λi ys σ H6=>∃(x0 x1:Option V)(more:List Ln)(N1:Nat->Nat->Option Nat)(ks:List Nat),σ=[x0,x1,Ga (.ref v.sh)]/\ys=ks.map jv/\ks.length=i/\Vb P w C D {v with Ex:=λb=>v.Ex b\/b=U} H6 (ls++more) N1/\Ii v.L v.M H5 H6/\Qfu N N1/\more.length<=i/\(∀m,Cov v N m->Cn (v.x.links.take m) a b->Cov v N1 m)/\
     (∀j k u u':Nat,ks[j]?=Ga k->st[j]?=Ga (u,u')->∃r,(ls++more)[k]?=Ga (u,u',r)))
    ⟨_,_,[],N,[],Xb,Xb,Xb,by rw[List.append_nil];exact S5.more d,Ii.of s5,λ_ _ h=>h,Gx _,λ_ h _=>h,by simp⟩ (λi ys σ H6 _⟨_,_,_,_,_,_,_,_,_,F6,_⟩=>Zc.of (F6.keep _ _ am au av)) ?_ ?_
   ·rintro i y ys σ H6 hi hyl ⟨x0,x1,more,N1,ks,rfl,rfl,ae,S6,F6,aa,aK,ah,ab⟩ af;obtain⟨⟨p,Z⟩,hp,c5,rfl,az⟩:=Qw an hi;have Y:(p,Z)∈st:=List.mem_of_getElem? hp;have c6:=F6.tp aI aH az;have il:i<es.length:=(List.getElem?_eq_some_iff.mp hi).1;obtain⟨kk,aA,aB⟩:=W.lk p Z Y;obtain⟨rr,ap⟩:=go.inv.fst.Qga p Z kk aA;have pS:p∈v.x.S/\Z∈v.x.S:=by
     rcases ap with h|h
     ·exact⟨(go.inv.lnk _ _ _ _ h).1,(go.inv.lnk _ _ _ _ h).2.1⟩
     ·exact⟨(go.inv.lnk _ _ _ _ h).2.1,(go.inv.lnk _ _ _ _ h).1⟩
    have cn:∀m,Cn (v.x.links.take m) a b->Cn (v.x.links.take m) p Z:=λm hm=>by
     have km:=aB m hm;rcases ap with h|h
     ·exact .link (List.mem_of_getElem? (i:=kk) (by rw[List.getElem?_take_of_lt km];exact h))
     ·exact .symm (.link (List.mem_of_getElem? (i:=kk) (by rw[List.getElem?_take_of_lt km];exact h)))
    obtain⟨aw,o6⟩:=S6.ob;refine⟨c5,_,Xb,Q9.of c6,Xb,_,_,Xb,_,_,Xb,Xb,?_⟩;refine⟨_,Xb,v.sh,aw,_,Xb,o6,Rq v,_,Xb,_,Xb,{v with Ex:=λb=>v.Ex b\/b=U},ls++more,N1,p,Z,Xb,S6,Sl p pS.1,Sl Z pS.2,Sl,.inl ((go.st st W.rel p Z Y).sub aa),by rw[Gg (by decide)];rw[Gk rfl]at ao;rw[List.length_append];omega,λk' ag N2 H7 S7 F7 aC ar aR ai _ aJ _=>?_⟩;have r7:=F7.keep _ _ af aq aM;have aP:=aJ rfl;refine⟨r7,_,_,more++ag,N2,ks++[k'],Xb,by rw[List.map_append];rfl,by rw[List.length_append,List.length_singleton,ae],by rw[<-List.append_assoc];exact S7.grow (.inr Xb) r7 aq aL,⟨λb' o e h1 h2=>Qk (F7.keep _ _ (F6.keep _ _ e h1 h2) h1 h2) (Qd e d),λb' h=>F6.there _ (F7.there _ (Z1 h))⟩,λi j h=>ar _ _ (aa _ _ h),by rw[List.length_append];omega,λm hc hm=>ai m (ah m hc hm) (cn m hm),λj B u u' h1 h2=>?_⟩
    ·rcases Te j ks.length with hj|hj
     ·rw[List.getElem?_append_left hj]at h1;obtain⟨r,hr'⟩:=ab j B u u' h1 h2;rw[<-List.append_assoc];exact⟨r,Qpj hr'⟩
     ·rw[List.getElem?_append_right hj]at h1;have:j=ks.length:=by
       rcases Te (j - ks.length) 1 with h'|h'
       ·omega
       ·rw[List.getElem?_eq_none (by simpa using h')]at h1;cases h1
      subst this;simp at h1;subst h1;rw[ae,hp]at h2;cases h2;rw[<-List.append_assoc];exact S7.ok _ _ _ aC
   ·rintro ys σ H6 hyl ⟨x0,x1,more1,N1,ks,rfl,rfl,ae,S6,F6,sub1,aK,cov1,ab⟩ af;refine⟨by show 2<=Gh;decide,λR ad=>?_⟩;have s4:=Qf ad (.tup [.str "chain",.ref U]);have S1:=(S6.less S.exL).fr s4;have F1:Ii v.L v.M H (upd H6 R (.tup [.str "chain",.ref U])):=(Ii.of (s2.trans g5)).trans (F6.trans (Ii.of s4));generalize O:V.ref R=rv;obtain⟨r,hr'⟩:∃r:Lr,r=.chain ks:=⟨_,Xb⟩;have hrv:Iy (upd H6 R (.tup [.str "chain",.ref U])) v.Ex rv r:=by rw[hr'];exact⟨R,U,O.symm,Qb,s4 _ _ af,(λz=>by obtain⟨o,e⟩:=S5.exA U z;rw[d]at e;cases e),by omega⟩
    have Z4:Okl v.fs v.x.links (ls++more1) a b r:=by rw[hr'];exact Qpa W.path (by omega) ab
    have ml:more1.length<=2*v.x.S.length:=by omega
    have mof:Ge=Gp->more1.length=0:=λz=>by cases z
    infer_instance
theorem Qyr:Qz P w K mg base Yb 2 f fd ["self","one","other"] (Qq5 P w C D Gp):=
 ⟨λvs H Q E h=>False.elim h,λA outer s H args us vs Q E _ _ _ _ h=>False.elim h⟩
end
def Qms(P:Gj)(w:Gu)(C D:Gc):Sp:=λvs H Q _=>∃(v:Sv)(ls:List Ln)(N:Nat->Nat->Option Nat)(lv:V)(a b:Nat)(c:Option U5),vs=[.ref v.sh,lv]/\Vb P w C D v H ls N/\Rr H lv (a,b,c)/\(a,b,c)∈v.x.links/\a<v.fs.length/\b<v.fs.length/\v.fs.length=v.us.length/\(∀p∈v.x.S,p<v.us.length)/\v.x.S.length<=60/\(Zp v.fs a).length<=100/\
 (c=Gf->Yh v.fs a=Yh v.fs b/\(Zp v.fs a).length=(Zp v.fs b).length)/\(∀p q,(p,q)∈Wa v.fs (a,b,c)->Go v N p q)/\ls.length<=880000/\
 ∀(more:List Ln)(d:Nat->Nat->Option Nat)(r:Lr)(H':Hp),Vb P w C D v H' (ls++more++[(a,b,r)]) (putN d a b (ls++more).length)->Ii v.L v.M H H'->Qfu N d->more.length<=12100->(∀m,Cov v N m->(∀p q,(p,q)∈Wa v.fs (a,b,c)->Cn (v.x.links.take m) p q)->Cov v d m)->Q .non H'
theorem Go.sub{v:Sv}{N d:Nat->Nat->Option Nat}{a b:Nat}(g:Go v N a b)(s:Qfu N d):Go v d a b:=⟨g.inv,g.aS,g.bS,g.eq,g.hS,λst c p q h=>(g.st st c p q h).sub s⟩
section
variable{P:Gj}{w:Gu}{K:PySem.W.Frag}{mg:GJ->Option Value}{base:Heap}
theorem Qlz:Q3 ["self","link","reason"] ["self","link"] (Qn Vz):=by eq_refl
theorem Qya:(["part","twin","self"]:List GJ).Nodup:=by decide+kernel
set_option hygiene false
local macro_rules
 |`(tactic|infer_instance)=>`(tactic|(
 obtain⟨dx1,o1'⟩:=S1.ob
 refine⟨_,Xb,v.sh,dx1,_,Xb,o1',Qht _,_,Xb,c,_,_,_,Xb,Xb,Q9.of hc1,Ru _ _,_,Xb,c,_,_,_,Xb,Xb,Q9.of hc1,I8 _ _ _,_,Xb,v,ls++more1,N1,a,b,rv,r,Xb,S1,al,bl,hrv,Z4,by rw[List.length_append];omega,λH2 S2 F2=>?_⟩
 exact q more1 N1 r H2 S2 (F1.trans F2) sub1 ml cov1))
set_option hygiene true
theorem Qpg(F:Wz K "write_link" "Showing.write_link" Vz f fd)(T:Qne K D)(mL:Yd K D "line_for" fL)(bL:Binds K fdL ["self","one","other"] [])(GL:Qz P w K mg base Yb 4 fL fdL ["self","one","other"] (Qcd P w C D Ge))
  (GB:Qz P w K mg base Yb 1 fB fdB ["net","link"] (Qf6 P w C))(kB:KI K fB)(bB:Binds K fdB ["net","link"] [])(mB:MG mg "pairs_below" fB)(mR:Yd K D "write" fR)(GR:Qz P w K mg base Yb 1 fR fdR ["self","one","other","reason"] (Qfz P w C D))(bR:Binds K fdR ["self","one","other","reason"] []):
  Qz P w K mg base Yb 5 f fd ["self","link"] (Qms P w C D):=by
 refine F.ok Qlz (λvs H Q E h=>?_) (λcdv A outer s H vs Q E hr h=>?_)
 ·obtain⟨v,ls,N,lv,a,b,rs,rfl,_⟩:=h;rfl
 obtain⟨v,ls,N,lv,a,b,rs,rfl,S,⟨c,rv,rfl,hc,R⟩,aj,av,aw,aM,Sl,hS,few,ad,aB,aK,q⟩:=h;have al:a<v.us.length:=by omega
 have bl:b<v.us.length:=by omega
 have ak:Yf 1 _:=hr.mono (by omega);have nd:=Qlz.nd;refine⟨_,Qc (Qy 2 nd (Ql Qm (pv 1) Qi))
  (Qc (Zb (Qo Qwg (pv 2) Uo (Qs _))
   (Qh (Qy 2 nd (Zf (Qa Zj (Qa
     (Vl (te:=Qhz D "line_for" (Qcd P w C D Ge) [] E0 (Vv 2) (Qa8 (Vv 0) (Qa8 (Vv 1) Qjx))) (g:=Qxs K 2 (Qh6 (V2 0) (Qh6 (V2 1) Qwq))) (own:=["part","twin"]) (fv:=[(0,"self")]) rfl (S:=(by eq_refl:Xx (Qn Vz) _)) (.cons rfl (TR Xb) rfl .nil)
      (Z9 (Zo GB ak rfl mB kB bB .nil Q7 (Qa (Qu (pv 0) rfl) (Qa (pv 1) Qe))))
      (λ_ _ _ _ _=>Vh rfl (Zl (Xf (i:=0) Qya rfl (TR Xb) (Dp Xb)) (Zl (Xf (i:=1) Qya rfl (TR Xb) (Dp Xb)) Wc))) (λ_ _ _ _ _=>X6)
      (λ_ _ _ _ _=>Zg (pv 2) T.cl mL GL hr bL .nil Q7 (Qa (pv 0) (Qa (pv 1) Qe)))) Qe))))) Qv)
  (Qh (Zk (Zg (pv 0) T.cl mR GR ak bR .nil Q7 (Qa (Ql Qm (pv 1) Qi) (Qa (Ql Qm (pv 1) Qi) (Qa (pv 2) Qe))))))),?_⟩
 refine⟨_,Xb,c,_,_,_,Xb,Xb,Q9.of hc,Qit _ _ _ _,?_⟩;refine⟨_,Xb,Xb,_,Xb,?_⟩;rw[Qp7 R];cases rs with
 |some rs=>
  refine Q6 ?_;have S1:Vb P w C D v H (ls++[]) N:=by rw[List.append_nil];exact S
  have F1:Ii v.L v.M H H:=Ii.refl;have hc1:=hc;obtain⟨r,hrv,Z4⟩:∃r:Lr,Iy H v.Ex rv r/\Okl v.fs v.x.links (ls++[]) a b r:=by
   cases rs with
   |told n=>exact⟨.told n,R,aj⟩
   |asked=>exact⟨.asked,R,aj⟩
  obtain⟨more1,B⟩:∃m:List Ln,m=[]:=⟨_,Xb⟩;rw[<-B]at S1 Z4;obtain⟨N1,ab⟩:∃N1:Nat->Nat->Option Nat,N1=N:=⟨_,Xb⟩;have sub1:Qfu N N1:=by rw[ab];exactλ_ _ h=>h
  have cov1:∀m,Cov v N m->(∀p q,(p,q)∈Wa v.fs (a,b,Ga rs)->Cn (v.x.links.take m) p q)->Cov v N1 m:=by rw[ab];exactλ_ h _=>h
  rw[<-ab]at S1;have ml:more1.length<=12100:=by rw[B];exact Gx _
  infer_instance
 |none=>
  refine Yy ?_;have X2:=S.net.same S.O1;obtain⟨dx,o1⟩:=S.ob;refine⟨_,Xb,v.sh,D,dx,_,_,Xb,o1,T.cl,T.net,Qr2 _,_,Xb,v.n,v.A,v.fs,v.tb,v.x,.ref c,(a,b,Gf),Xb,X2,⟨c,rv,Xb,hc,R⟩,av,aw,λL5 es H5 g5 O ah ai=>⟨L5,Xb,⟨_,Zc.of ah⟩,λJ d=>?_⟩⟩;obtain⟨aE,aD⟩:=ad rfl;have aJ:=Paired.length ai;have aN:(Wa v.fs (a,b,Gf)).length=(Zp v.fs a).length:=by simp only[Wa,List.length_zip];omega
  have Z:=S.fr g5;have ar:L5≠v.L:=λz=>by obtain⟨vs,l1,_⟩:=S.li;rw[z,l1]at O;cases O
  have au:L5≠v.M:=λz=>by obtain⟨vs,l1,_⟩:=S.nu;rw[z,l1]at O;cases O
  have ap:J≠v.L:=λz=>by obtain⟨vs,l1,_⟩:=Z.li;rw[z,l1]at d;cases d
  have aI:J≠v.M:=λz=>by obtain⟨vs,l1,_⟩:=Z.nu;rw[z,l1]at d;cases d
  have aH:v.H0 J=Gf:=Z.O1.free d;have s5:=Qf d (.lst []);obtain⟨aP,an,_⟩:=Z.li;obtain⟨aO,ao,_⟩:=Z.nu;refine Ip (K:=K) (a:=L5) (xs:=es) (small (by omega)) (λi ys σ Y=>∃(x0 x1:Option V)(more:List Ln)(N1:Nat->Nat->Option Nat)(ks:List Nat),σ=[x0,x1,Ga (.ref v.sh)]/\ys=ks.map jv/\ks.length=i/\Vb P w C D {v with Ex:=λb=>v.Ex b\/b=J} Y (ls++more) N1/\Ii v.L v.M H5 Y/\Qfu N N1/\more.length<=i*121/\(∀m,Cov v N m->(∀p q,(p,q)∈Wa v.fs (a,b,Gf)->Cn (v.x.links.take m) p q)->Cov v N1 m)/\
    (∀j k u u':Nat,ks[j]?=Ga k->(Wa v.fs (a,b,Gf))[j]?=Ga (u,u')->∃r,(ls++more)[k]?=Ga (u,u',r)))
   ⟨_,_,[],N,[],Xb,Xb,Xb,by rw[List.append_nil];exact Z.more d,Ii.of s5,λ_ _ h=>h,Gx _,λ_ h _=>h,by simp⟩ (λi ys σ Y _⟨_,_,_,_,_,_,_,_,_,U,_⟩=>Zc.of (U.keep _ _ ah ar au)) ?_ ?_
  ·rintro i y ys σ Y hi hyl ⟨x0,x1,more,N1,ks,rfl,rfl,ac,S6,U,X,aF,af,aa⟩ ae;obtain⟨⟨p,p'⟩,hp,c5,rfl,az⟩:=Qw ai hi;have W:(p,p')∈Wa v.fs (a,b,Gf):=List.mem_of_getElem? hp;have c6:=U.tp ao an az;have il:i<es.length:=(List.getElem?_eq_some_iff.mp hi).1;have go:=(aB p p' W).sub X;obtain⟨ax,o6⟩:=S6.ob;refine⟨c5,_,Xb,Q9.of c6,Xb,_,_,Xb,_,_,Xb,Xb,?_⟩;refine⟨_,Xb,v.sh,ax,_,Xb,o6,Rq v,_,Xb,_,Xb,{v with Ex:=λb=>v.Ex b\/b=J},ls++more,N1,p,p',Xb,S6,Sl p go.aS,Sl p' go.bS,Sl,.inr ⟨Xb,⟨go.inv,go.aS,go.bS,go.eq,go.hS,go.st⟩⟩,by rw[Gk Xb,List.length_append];omega,λk' G N2 H7 S7 F7 aC aq aG ag _ _ _=>?_⟩;have r7:=F7.keep _ _ ae ap aI;have aL:G.length<=2*v.x.S.length+1:=aG;refine⟨r7,_,_,more++G,N2,ks++[k'],Xb,by rw[List.map_append];rfl,by rw[List.length_append,List.length_singleton,ac],by rw[<-List.append_assoc];exact S7.grow (.inr Xb) r7 ap aH,⟨λb' o e h1 h2=>Qk (F7.keep _ _ (U.keep _ _ e h1 h2) h1 h2) (Qd e d),λb' h=>U.there _ (F7.there _ (Z1 h))⟩,λi j h=>aq _ _ (X _ _ h),by rw[List.length_append];omega,λm aA hm=>ag m (af m aA hm) (hm p p' W),λj k0 u u' h1 h2=>?_⟩;rcases Te j ks.length with hj|hj
   ·rw[List.getElem?_append_left hj]at h1;obtain⟨r,hr'⟩:=aa j k0 u u' h1 h2;rw[<-List.append_assoc];exact⟨r,Qpj hr'⟩
   ·rw[List.getElem?_append_right hj]at h1;have:j=ks.length:=by
     rcases Te (j - ks.length) 1 with h'|h'
     ·omega
     ·rw[List.getElem?_eq_none (by simpa using h')]at h1;cases h1
    subst this;simp at h1;subst h1;rw[ac,hp]at h2;cases h2;rw[<-List.append_assoc];exact S7.ok _ _ _ aC
  ·rintro ys σ Y hyl ⟨x0,x1,more1,N1,ks,rfl,rfl,ac,S6,U,sub1,aF,cov1,aa⟩ ae;refine⟨by show 2<=Gh;decide,λc4 ay=>?_⟩;have s4:=Qf ay (.tup [.str "like",.ref J]);have S1:=(S6.less S.exL).fr s4;have F1:Ii v.L v.M H (upd Y c4 (.tup [.str "like",.ref J])):=(Ii.of g5).trans (U.trans (Ii.of s4));have hc1:=s4 _ _ (U.tp ao an (g5 _ _ hc));generalize am:V.ref c4=rv;obtain⟨r,hr'⟩:∃r:Lr,r=.like ks:=⟨_,Xb⟩;have hrv:Iy (upd Y c4 (.tup [.str "like",.ref J])) v.Ex rv r:=by rw[hr'];exact⟨c4,J,am.symm,Qb,s4 _ _ ae,(λz=>by obtain⟨o,e⟩:=Z.exA J z;rw[d]at e;cases e),by omega⟩
   have Z4:Okl v.fs v.x.links (ls++more1) a b r:=by rw[hr'];refine⟨aE,aD,by omega,λj k p p' h1 h2 h3=>aa j k p p' h1 ?_⟩;simp only[Wa];rw[List.getElem?_zip_eq_some];exact⟨h2,h3⟩
   have ml:more1.length<=12100:=by omega
   infer_instance
end
def Qic(P:Gj)(w:Gu)(C D:Gc):Sp:=λvs H Q _=>∃(sh dx t n:Gc)(A:Na)(fs:List Fm)(tb:Nat)(x:Nn)(us:List V)(H0:Hp),vs=[.ref sh,.ref t,.ref n]/\H sh=Ga (.ins D dx [])/\H0 sh=Gf/\Q5 H0 H/\Z6 P w C H0 n A fs tb x/\H0 t=Ga (.lst us)/\
 ∀(L M:Gc)(H':Hp),Vb P w C D ⟨sh,n,t,L,M,A,fs,tb,x,us,H0,λb=>b=L\/∃o,H0 b=Ga o⟩ H' [] (λ_ _=>Gf)->Q .non H'
def Qk5(H:Hp)(X:Gc->Prop)(us:List V)(v:V)(ls:List Ln):Prop:=∃L vs,v=.ref L/\H L=Ga (.lst vs)/\¬X L/\Paired (Qfp H X us) vs ls/\ls.length<=900000
def Qie(P:Gj)(w:Gu)(C:Gc):Sp:=λvs H Q _=>∃(t n:Gc)(A:Na)(fs:List Fm)(tb:Nat)(x:Nn)(us:List V)(one a:Nat),vs=[.ref t,.ref n,jv one,jv a]/\Z6 P w C H n A fs tb x/\X9 (Yh fs) (Zp fs) x []/\Qd7 fs x.S/\one∈x.S/\a∈x.S/\x.lead one=x.lead a/\x.S.length<=60/\x.links.length<64/\(∀p,(Zp fs p).length<=100)/\H t=Ga (.lst us)/\fs.length=us.length/\
 ∀(v:V)(ls:List Ln)(H':Hp),Q5 H H'->Qk5 H' (λb=>∃o,H b=Ga o) us v ls->Gdl fs x.links ls->(∃r,ls.getLast?=Ga (one,a,r))->Q v H'
abbrev mkv(sh n t L M:Gc)(A:Na)(fs:List Fm)(tb:Nat)(x:Nn)(us:List V)(H0:Hp):Sv:=⟨sh,n,t,L,M,A,fs,tb,x,us,H0,λb=>b=L\/∃o,H0 b=Ga o⟩
theorem Qfr(I:X9 (Yh fs) (Zp fs) x []){st:List (Nat×Nat)}(h:Qaj x.up a b st)(g:(p,q)∈st):∃k,x.Xg p q=Ga k/\∀n,Cn (x.links.take n) a b->k<n:=by obtain⟨l1,l2,P,Q,s,m,c,d,e,f,ne,rfl⟩:=h;exact I.fst.way c d e f ne p q g
section
variable{P:Gj}{w:Gu}{K:PySem.W.Frag}{mg:GJ->Option Value}{base:Heap}
theorem Qoz:Q3 ["self","things","net"] ["self","things","net"] (Qn Qb5):=by eq_refl
theorem Qnf(F:Wz K "__init__" "Showing.__init__" Qb5 f0 fd)(T:Qne K D):Qz P w K mg base Yb 1 f0 fd ["self","things","net"] (Qic P w C D):=by
 refine F.ok Qoz (λvs H Q E h=>?_) (λcdv A outer s H vs Q E G h=>?_)
 ·obtain⟨sh,dx,t,n,A,fs,tb,x,us,H0,rfl,_⟩:=h;rfl
 obtain⟨sh,dx,t,n,A,fs,tb,x,us,H0,rfl,g,u,d,X,B,q⟩:=h;refine⟨_,Qc (Xj (pv 0) (pv 1) rfl) (Qc (Xj (pv 0) (pv 2) rfl) (Qc (Xj (pv 0) (Zr Qe) rfl) (Qh (Xj (pv 0) Qdb Xb)))),?_⟩;refine⟨_,Xb,_,Xb,sh,D,dx,[],Xb,g,T.cl,T.things,by show 0<1000;decide,?_⟩;refine⟨_,Xb,_,Xb,sh,D,dx,_,Xb,Qb,T.cl,T.net,by show 1<1000;decide,Gx _,λL v=>?_⟩;rw[Wt]at v⊢;have a:H L=Gf:=Z1 v;have l:L≠sh:=Gm (Qd g a);refine⟨_,Xb,sh,D,dx,_,Xb,Qk Qb (Gm l),T.cl,T.lines,by show 2<1000;decide,λM y=>?_⟩;have f:=Z1 y;have m:=Z1 f;have c:H M=Gf:=Z1 m;have r:M≠sh:=Gm (Qd g c);have p:L≠M:=λz=>by rw[<-z,Qb]at f;cases f
 refine⟨_,Xb,sh,D,dx,_,Xb,Qk Qb (Gm r),T.cl,T.U6,by show 3<1000;decide,?_⟩;refine q L M _ ⟨⟨dx,Qb⟩,λb o e=>?_,d.free a,d.free c,X,B,⟨[],?_,.nil⟩,⟨[],?_,Gx _,λi j=>rfl⟩,(λi j k h=>nomatch h),Gdl.nil,.inl Xb,λb hb=>?_⟩
 ·have bs:b≠sh:=Qd e u;exact Qk (Qk (Qk (Qk (Qk (d _ _ e) bs) (Qd (d _ _ e) a)) bs) (Qd (d _ _ e) c)) bs
 ·exact Qk (Qk (Qk Qb l) p) l
 ·exact Qk Qb r
 ·have hb:b=L\/∃o,H0 b=Ga o:=hb;rcases hb with hb|⟨o,e⟩
  ·rw[hb];exact⟨_,Qk (Qk (Qk Qb l) p) l⟩
  ·have bs:b≠sh:=Qd e u;exact⟨o,Qk (Qk (Qk (Qk (Qk (d _ _ e) bs) (Qd (d _ _ e) a)) bs) (Qd (d _ _ e) c)) bs⟩
theorem Qh9:Q3 ["things","net","one","other","showing","number"] ["things","net","one","other"] (Qn Qfq):=by eq_refl
theorem Qom(F:Wz K "lines_between" "lines_between" Qfq f fd)(T:Qne K D)(TN:V7 K mg C)(mD:MG mg "Showing" D)(aB:Mk K D fI)(GI:Qz P w K mg base Yb 1 fI fdI ["self","things","net"] (Qic P w C D))(bI:Binds K fdI ["self","things","net"] [])
  (GN:Qz P w K mg base Yb 3 fN fdN ["net","one","other"] (Qg3 P w C))(kN:KI K fN)(bN:Binds K fdN ["net","one","other"] [])(mN:MG mg "links_needed" fN)
  (mL:Yd K D "line_for" fL)(bL:Binds K fdL ["self","one","other"] [])(GL:Qz P w K mg base Yb 4 fL fdL ["self","one","other"] (Qcd P w C D Ge))(mW:Yd K D "write_link" fW)(bW:Binds K fdW ["self","link"] [])(GW:Qz P w K mg base Yb 5 fW fdW ["self","link"] (Qms P w C D)):
  Qz P w K mg base Yb 6 f fd ["things","net","one","other"] (Qie P w C):=by
 refine F.ok Qh9 (λvs H Q E h=>?_) (λcdv A outer s H vs Q E hr h=>?_)
 ·obtain⟨t,n,A,fs,tb,x,us,one,d,rfl,_⟩:=h;rfl
 obtain⟨t,n,A,fs,tb,x,us,one,d,rfl,X,I,FO,oS,tS,he,hS,aq,few,ht,ae,q⟩:=h;have aI:Yf 2 _:=hr.mono (by omega);have aJ:Yf 3 _:=hr.mono (by omega);have aK:Yf 4 _:=hr.mono (by omega);have nd:=Qh9.nd;refine⟨_,Qc (Qy 4 nd (Qlq aB GI aI rfl mD bI .nil Q7 (Qa (pv 0) (Qa (pv 1) Qe))))
  (Qc (Z5 Gs rfl (Z9 (Zo GN aJ rfl mN kN bN .nil Q7 (Qa (pv 1) (Qa (pv 2) (Qa (pv 3) Qe))))) (Zw 5 nd)
   (Qh (Zk (Zg (pv 4) T.cl mW GW hr bW .nil Q7 (Qa (Ql Ze (Qu (pv 1) rfl) (pv 5)) Qe)))))
  (Qc (Zk (Zg (pv 4) T.cl mL GL aK bL .nil Q7 (Qa (pv 2) (Qa (pv 3) Qe))))
  (Qh (Qt (Qu (pv 4) rfl))))),?_⟩
 refine⟨_,Xb,_,Xb,λsh dx av aG aV=>?_⟩;have s0:Q5 H (upd (upd H dx (.own sh)) sh (.ins D dx [])):=λc o e=>by rw[Qg (Qd e av),Qg (Qd e aG)];exact e
 refine⟨sh,dx,t,n,A,fs,tb,x,us,H,Xb,Qb,av,s0,X,ht,λL M H1 S1=>⟨Xb,?_⟩⟩;have X1:=X.same S1.O1;obtain⟨ax,au,ay⟩:=X.li;obtain⟨aE,on⟩:=X.ob;refine⟨_,Xb,_,Xb,_,Xb,n,A,fs,tb,x,one,d,Xb,X1,I,FO,oS,tS,he,by omega,aq,λL2 ns H2 g2 aa ao ak aO Dn=>⟨L2,Xb,⟨_,Zc.of ao⟩,?_⟩⟩;have S2:=S1.fr g2;have S2:Vb P w C D (mkv sh n t L M A fs tb x us H) H2 [] (λ_ _=>Gf):=S2;have az:L2≠L:=λz=>by obtain⟨vs,l1,_⟩:=S1.li;rw[z,l1]at aa;cases aa
 have aA:L2≠M:=λz=>by obtain⟨vs,l1,_⟩:=S1.nu;rw[z,l1]at aa;cases aa
 have al:∀{j i k J:Nat},j<i->ns[j]?=Ga k->ns[i]?=Ga J->k<J:=λ{j i k J}ab h1 h2=>by obtain⟨a1,b1⟩:=List.getElem?_eq_some_iff.mp h1;obtain⟨a2,b2⟩:=List.getElem?_eq_some_iff.mp h2;have le:=List.pairwise_iff_getElem.mp aO j i a1 a2 ab;have ne:=List.pairwise_iff_getElem.mp ak j i a1 a2 ab;rw[b1,b2]at le ne;omega
 have an:∀{N:Nat->Nat->Option Nat}{i:Nat},(∀j k a b r,j<i->ns[j]?=Ga k->x.links[k]?=Ga (a,b,r)->(N a b).isSome=Ge)->∀{u u' j k:Nat},j<i->ns[j]?=Ga k->x.Xg u u'=Ga k->Dr N u u':=λ{N i}h{u u' j k}B hk hl=>by
  obtain⟨r,h1|h1⟩:=I.fst.Qga u u' k hl
  ·exact .inl (h j k u u' r B hk h1)
  ·exact .inr (h j k u' u r B hk h1)
 have aQ:=Paired.length ay;refine Ys (K:=K) (a:=L2) (xs:=ns.map jv) (λi σ H3=>∃(x5:Option V)(ls:List Ln)(N:Nat->Nat->Option Nat),σ=[Ga (.ref t),Ga (.ref n),Ga (jv one),Ga (jv d),Ga (.ref sh),x5]/\Vb P w C D (mkv sh n t L M A fs tb x us H) H3 ls N/\Ii L M H2 H3/\ls.length<=i*12101/\
   (∀j k a b r,j<i->ns[j]?=Ga k->x.links[k]?=Ga (a,b,r)->(N a b).isSome=Ge)/\(∀m,(∀j k,j<i->ns[j]?=Ga k->k<m)->Cov (mkv sh n t L M A fs tb x us H) N m)/\((N one d).isSome=Ge->∃r,ls.getLast?=Ga (one,d,r)))
  ⟨_,[],_,Xb,S2,Ii.refl,Gx _,(λj k a b r h=>by omega),(λm _ i j h=>by cases h),(λh=>by cases h)⟩ (λi σ H3 _⟨_,_,_,_,_,F3,_⟩=>Zc.of (F3.keep _ _ ao az aA)) ?_ ?_
 ·rintro i y σ H3 hi ⟨x5,ls,N,rfl,S3,F3,ar,Z,R,U⟩;rw[List.getElem?_map]at hi;cases eq:ns[i]? with
  |none=>rw[eq]at hi;cases hi
  |some k=>
   rw[eq]at hi;cases hi;have ah:k∈ns:=List.mem_of_getElem? eq;have kl:=Dn.lt k ah;have kw:k<ax.length:=by omega
   have aR:i<ns.length:=(List.getElem?_eq_some_iff.mp eq).1;have aH:ns.length<=64:=by have:ns.length<=(List.range x.links.length).length:=Xo ak λk hk=>List.mem_range.mpr (Dn.lt k hk);rw[List.length_range]at this;omega
   obtain⟨⟨a,b,rs⟩,l,aw⟩:=Qw ay (List.getElem?_eq_getElem kw);obtain⟨aS,bS,W⟩:=I.lnk k a b rs l;have aN:=S3.O1 _ _ on;have aL:=S3.O1 _ _ au;obtain⟨ad,o3⟩:=S3.ob;have aP:Q4 H H3:=Q4.of S3.O1;have aF:∀p q,(p,q)∈Wa fs (a,b,rs)->Go (mkv sh n t L M A fs tb x us H) N p q:=λp q v=>by
    obtain⟨pS,qS,cn⟩:=Qmj I l v;refine⟨I,pS,qS,(I.conn p pS q qS).mpr (cn.mono λz hz=>List.mem_of_mem_take hz),by show x.S.length<=1000;omega,λst G u u' Y=>?_⟩;obtain⟨J,g,_⟩:=Qfr I G Y;obtain⟨d1,d2⟩:=Dn.low k ah _ l p q v st G u u' Y J g;obtain⟨j,B⟩:=List.mem_iff_getElem?.mp d1;have ab:j<i:=by
     rcases SS j i with h|h|h
     ·exact h
     ·subst h;rw[eq]at B;cases B;omega
     ·have:=al h eq B;omega
    exact an Z ab B g
   refine⟨_,Xb,sh,ad,_,Xb,o3,Qfm _,_,Xb,n,C,aE,_,_,Xb,aN,TN.cl,TN.links,U2 _,_,Xb,A.k,ax,_,_,Xb,Xb,Zc.of aL,Qj (List.getElem?_eq_getElem kw),mkv sh n t L M A fs tb x us H,ls,N,_,a,b,rs,Xb,S3,aw.Qr aP,List.mem_of_getElem? l,FO.lt a aS,FO.lt b bS,ae,λp hp=>by show p<us.length;rw[<-ae];exact FO.lt p hp,hS,few a,λz=>⟨(W z).1,(W z).2.1⟩,aF,by omega,λmore N1 r H4 S4 F4 ac aj O=>?_⟩;have aC:∀m,k<m->∀p q,(p,q)∈Wa fs (a,b,rs)->Cn (x.links.take m) p q:=λm hm p q v=>by
    obtain⟨pS,qS,cn⟩:=Qmj I l v;refine cn.mono λz hz=>?_;have:x.links.take k=(x.links.take m).take k:=by rw[List.take_take,Ep (by omega)]
    rw[this]at hz;exact List.mem_of_mem_take hz
   have am:Cov (mkv sh n t L M A fs tb x us H) N1 k:=O k (R k λj J B g=>al B g eq) λp q v=>(Qmj I l v).2.2;refine⟨_,ls++more++[(a,b,r)],_,Xb,S4,F3.trans F4,by rw[List.length_append,List.length_append,List.length_singleton];omega,λj J a' b' r' B af ag=>?_,λm hm=>?_,λh=>?_⟩
   ·rcases Te j i with h|h
    ·exact Qlp _ _ (ac _ _ (Z j J a' b' r' h af ag))
    ·have:j=i:=by omega
     subst this;rw[eq]at af;cases af;rw[l]at ag;cases ag;rw[Qkm];rfl
   ·have km:=hm i k (by omega) eq;exact Qmn (O m (R m λj J B g=>hm j J (by omega) g) (aC m km)) (.link (List.mem_of_getElem? (i:=k) (by rw[List.getElem?_take_of_lt km];exact l)))
   ·by_cases ap:one=a/\d=b
    ·obtain⟨rfl,rfl⟩:=ap;exact⟨r,List.getLast?_concat⟩
    ·unfold putN at h;rw[Gg ap]at h;have cn:=am _ _ h;obtain⟨st,p,q',j,G,v,B,aU⟩:=Dn.only k ah;obtain⟨J,g,hb⟩:=Qfr I G v;rw[B]at g;cases g;have:=hb k cn;omega
 ·rintro σ H3 ⟨x5,ls,N,rfl,S3,F3,ar,Z,R,U⟩;rw[List.length_map]at ar Z;have aH:ns.length<=64:=by have:ns.length<=(List.range x.links.length).length:=Xo ak λk hk=>List.mem_range.mpr (Dn.lt k hk);rw[List.length_range]at this;omega
  obtain⟨ad,o3⟩:=S3.ob;have go:Go (mkv sh n t L M A fs tb x us H) N one d:=by refine⟨I,oS,tS,he,by show x.S.length<=1000;omega,λst G u u' Y=>?_⟩;obtain⟨J,g,_⟩:=Qfr I G Y;obtain⟨j,B⟩:=List.mem_iff_getElem?.mp (Dn.top st G u u' Y J g);exact an Z (List.getElem?_eq_some_iff.mp B).1 B g
  have Sl:∀p∈x.S,p<us.length:=λp hp=>by rw[<-ae];exact FO.lt p hp
  refine⟨_,Xb,sh,ad,_,Xb,o3,Rq _,_,Xb,_,Xb,mkv sh n t L M A fs tb x us H,ls,N,one,d,Xb,S3,Sl one oS,Sl d tS,Sl,.inr ⟨Xb,go⟩,by rw[Gk rfl];omega,λk more N4 H4 S4 F4 aT ac aj O ai _ aM=>?_⟩;obtain⟨aD,o4⟩:=S4.ob;obtain⟨vs,l1,l2⟩:=S4.li;refine⟨_,Xb,sh,D,aD,_,_,Xb,o4,T.cl,T.lines,Qdc _,q (.ref L) (ls++more) H4 S4.O1 ⟨L,vs,Xb,l1,(λ⟨o,e⟩=>by have:=S4.L0;dsimp only[mkv]at this;rw[this]at e;cases e),(_root_.L2.Paired.Z7 l2 λ_ _ h=>h.ex λc ys _ hx z=>hx (.inr z)),(by rw[List.length_append];have aj:more.length<=2*x.S.length+1:=aj;omega)⟩ S4.good ?_⟩;cases hN:N one d with
  |none=>exact ai hN
  |some k0=>rw[aM (by rw[hN];exactλz=>nomatch z),List.append_nil];exact U (by rw[hN];rfl)
end
def tfs(ts:List Th):List Fm:=ts.map (fm ts)
def tg(ts:List Th)(p:Nat):Th:=ts.getD p (.mk DU [])
theorem Ud(h:ts[p]?=Ga t):tg ts p=t:=by unfold tg;rw[List.getD_eq_getElem?_getD,h];rfl
theorem Rj(h:t∈ts):tg ts (ts.idxOf t)=t:=Ud (Iv h)
theorem X7(h:p<ts.length):ts[p]?=Ga (tg ts p):=by rw[List.getElem?_eq_getElem h,Ud (List.getElem?_eq_getElem h)]
theorem Wl(h:ts[p]?=Ga t):Yh (tfs ts) p=t.word/\Zp (tfs ts) p=t.parts.map λq=>ts.idxOf q:=by unfold Yh Zp tfs;rw[List.getD_eq_getElem?_getD,List.getElem?_map,h];exact⟨Xb,Xb⟩
theorem Ve(ts:List Th):(tfs ts).length=ts.length:=by simp[tfs]
structure Eqs(fs:List Fm)(x:Nn)(sm:List (Nat×Nat)):Prop where
 ins:∀p q,(p,q)∈sm->p∈x.S/\q∈x.S
 eq:∀p q,(p,q)∈sm->x.lead p=x.lead q
 snd:∀E,Ec (Yh fs) (Zp fs) x.S E->(∀p q,(p,q)∈sm->E p q)->∀p∈x.S,∀q∈x.S,x.lead p=x.lead q->E p q
def Qdi(a:List En):List (Nat×Nat):=a.filterMap λ(e:En)=>if e.1=("same":GJ)then Ga e.2 else Gf
theorem Vx:(p,q)∈Qdi ens↔sme p q∈ens:=by
 unfold Qdi;rw[List.mem_filterMap];constructor
 ·rintro⟨⟨k,a,b⟩,h,e⟩;split at e
  ·rename_i c
   have c:k=("same":GJ):=c;cases e;subst c;exact h
  ·cases e
 ·exactλh=>⟨_,h,Gk Xb⟩
theorem Qmt(U:Tup fs x ens ens.length):Eqs fs x (Qdi ens):=by refine⟨λp q h=>U.ins _ (Vx.mp h),λp q h=>?_,λE X h=>U.snd E X λj p q _ a=>h p q (Vx.mpr (List.mem_of_getElem? a))⟩;obtain⟨j,a⟩:=List.mem_iff_getElem?.mp (Vx.mp h);exact U.eq j p q (List.getElem?_eq_some_iff.mp a).1 a
theorem Quu{d:Nn}{c:List (Nat×Nat)}{r:Option U5}(Q:Eqs fs x c)(M:Mgd fs x d a b r [])(aS:a∈x.S)(bS:b∈x.S):Eqs fs d (c++[(a,b)]):=by
 have e:=M.S;refine⟨λp q h=>?_,λp q h=>?_,λE X h=>?_⟩
 ·rw[e];rcases List.mem_append.mp h with h|h
  ·exact Q.ins p q h
  ·simp at h;rw[h.1,h.2];exact⟨aS,bS⟩
 ·rcases List.mem_append.mp h with h|h
  ·obtain⟨i,j⟩:=Q.ins p q h;exact M.mono p i q j (Q.eq p q h)
  ·simp at h;rw[h.1,h.2];exact M.eq.nil
 ·rw[e]at X;have f:=Q.snd E X λp q g=>h p q (List.mem_append_left _ g);exact(M.snd E X ⟨f,λu v s m=>by simp at m;rw[m.1,m.2.1];exact h a b (by simp)⟩).1
theorem Eqs.cg(nd:ts.Nodup)(cl:Vw ts){y:List (Nat×Nat)}(I:X9 (Yh (tfs ts)) (Zp (tfs ts)) x [])(C:Qd7 (tfs ts) x.S)(Q:Eqs (tfs ts) x y)
  (h1:∀a b,(Ge,a,b)∈tl->∃p q,(p,q)∈y/\ts[p]?=Ga a/\ts[q]?=Ga b)(h2:∀p q,(p,q)∈y->(Ge,tg ts p,tg ts q)∈tl)(d:p∈x.S)(f:q∈x.S):x.lead p=x.lead q↔Cg tl (tg ts p) (tg ts q):=by
 have lt:∀p∈x.S,p<ts.length:=λp d=>by have:=C.lt p d;rwa[Ve]at this
 have at_:∀p∈x.S,ts[p]?=Ga (tg ts p):=λp d=>X7 (lt p d);have mem:∀p∈x.S,tg ts p∈ts:=λp d=>List.mem_of_getElem? (at_ p d);have m:∀p∈x.S,ts.idxOf (tg ts p)=p:=λp d=>Rl nd (at_ p d);constructor
 ·refineλh=>Q.snd (λp q=>Cg tl (tg ts p) (tg ts q)) ⟨λ_=>.refl _,λ_ _ h=>.symm h,λ_ _ _ h k=>.trans h k,λp d q f hw g=>?_⟩ (λp q h=>.told (h2 p q h)) p d q f h;obtain⟨A,l⟩:=Wl (at_ p d);obtain⟨B,z⟩:=Wl (at_ q f);rw[A,B]at hw;rw[l,z]at g;have K:=mem p d;have L:=mem q f;generalize tg ts p=a at*;generalize tg ts q=b at*;cases a with
  |mk u ps=>
   cases b with
   |mk v O=>simp only[Th.word,Th.parts]at hw g;subst hw;have p1:=Xv cl K;have p2:=Xv cl L;simp only[Th.parts]at p1 p2;obtain⟨G,g⟩:=g;rw[List.length_map,List.length_map]at G;refine .cong (CgL.of G λi s t J j=>?_);have:=g i (ts.idxOf s) (ts.idxOf t) (by rw[List.getElem?_map,J];rfl) (by rw[List.getElem?_map,j];rfl);dsimp only at this;rwa[Rj (p1 s (List.mem_of_getElem? J)),Rj (p2 t (List.mem_of_getElem? j))]at this
 ·intro c;have T:Rb tl (x.S.map (tg ts)) (λt=>((x.lead (ts.idxOf t):Nat):Int)):=by
   refine⟨λw ps h q f=>?_,λa b h=>?_,λw ps O n r e=>?_⟩
   ·obtain⟨p,d,e⟩:=List.mem_map.mp h;have o:=Xv cl (mem p d) q (by rw[e];exact f);obtain⟨_,l⟩:=Wl (at_ p d);have:ts.idxOf q∈Zp (tfs ts) p:=by rw[l,e];exact List.mem_map.mpr ⟨q,f,Xb⟩
    exact List.mem_map.mpr ⟨_,C.pts p d _ this,Rj o⟩
   ·obtain⟨p,q,H,ea,F⟩:=h1 a b h;obtain⟨M,N⟩:=Q.ins p q H;refine⟨List.mem_map.mpr ⟨p,M,Ud ea⟩,List.mem_map.mpr ⟨q,N,Ud F⟩,?_⟩;rw[Rl nd ea,Rl nd F,Q.eq p q H]
   ·obtain⟨p,d,D⟩:=List.mem_map.mp n;obtain⟨q,f,E⟩:=List.mem_map.mp r;obtain⟨A,l⟩:=Wl (at_ p d);obtain⟨B,z⟩:=Wl (at_ q f);have:=I.cong d f (by simp only[Zn,T1];rw[A,B,l,z,D,E];refine⟨Xb,?_⟩;simp only[Th.parts,List.map_map];have:=congrArg (List.map Dm) e;simp only[List.map_map]at this;exact this)
    rw[<-D,<-E,m p d,m q f,this]
  have:=T.complete (List.mem_map.mpr ⟨p,d,Xb⟩) (List.mem_map.mpr ⟨q,f,Xb⟩) c;simp only[m p d,m q f]at this;omega
abbrev Lt:=Th×Th×Lr
def Cht(pre:List Lt):Th->List Nat->Th->Prop
 |p,[],q=>p=q
 |p,k::a,q=>∃m r,pre[k]?=Ga (p,m,r)/\Cht pre m a q
def Okt(tl:Tl)(pr:Option (Th×Th))(pre:List Lt)(a b:Th):Lr->Prop
 |.told n=>tl[n]?=Ga (Ge,a,b)
 |.asked=>pr=Ga (a,b)
 |.turn k=>∃r,pre[k]?=Ga (b,a,r)
 |.chain c=>Cht pre a c b
 |.like c=>a.word=b.word/\a.parts.length=b.parts.length/\c.length=a.parts.length/\∀(j k:Nat)(p q:Th),c[j]?=Ga k->a.parts[j]?=Ga p->b.parts[j]?=Ga q->∃r,pre[k]?=Ga (p,q,r)
def Gdt(tl:Tl)(pr:Option (Th×Th))(ls:List Lt):Prop:=∀(i:Nat)a b r,ls[i]?=Ga (a,b,r)->Okt tl pr (ls.take i) a b r
def lth(ts:List Th)(l:Ln):Lt:=(tg ts l.1,tg ts l.2.1,l.2.2)
theorem Qfw{pre:List Ln}{r:Lr}(h:pre[k]?=Ga (p,q,r)):(pre.map (lth ts))[k]?=Ga (tg ts p,tg ts q,r):=by rw[List.getElem?_map,h];rfl
theorem Qpt{ts:List Th}{pre:List Ln}:∀{a:List Nat}{p q:Nat},Chn pre p a q->Cht (pre.map (lth ts)) (tg ts p) a (tg ts q)
 |[],p,q,h=>by have:p=q:=h;rw[this];rfl
 |k::a,p,q,⟨m,r,h1,h2⟩=>⟨tg ts m,r,Qfw h1,Qpt h2⟩
theorem Qju(cl:Vw ts){pr:Option (Th×Th)}(g:Gdl (tfs ts) lks ls)(lt:∀l∈ls,l.1<ts.length/\l.2.1<ts.length)
  (A:∀a b n,(a,b,Ga (.told n))∈lks->tl[n]?=Ga (Ge,tg ts a,tg ts b))(y:∀a b,(a,b,Ga .asked)∈lks->pr=Ga (tg ts a,tg ts b)):Gdt tl pr (ls.map (lth ts)):=by
 intro i a b r hi;rw[List.getElem?_map]at hi;cases e:ls[i]? with
 |none=>rw[e]at hi;cases hi
 |some l=>
  rw[e]at hi;obtain⟨p,q,F⟩:=l;cases hi;dsimp only;generalize F=r at*;have ok:=g i p q r e;obtain⟨lp,t⟩:=lt _ (List.mem_of_getElem? e);rw[<-List.map_take];cases r with
  |told n=>exact A p q n ok
  |asked=>exact y p q ok
  |turn k=>obtain⟨d,h⟩:=ok;exact⟨d,Qfw h⟩
  |chain C=>exact Qpt ok
  |like C=>obtain⟨h1,h2,m,x⟩:=ok;obtain⟨G,f⟩:=Wl (X7 lp);obtain⟨H,w⟩:=Wl (X7 t);have D:tg ts p∈ts:=List.mem_of_getElem? (X7 lp);have E:tg ts q∈ts:=List.mem_of_getElem? (X7 t);rw[f,w,List.length_map,List.length_map]at h2;rw[f,List.length_map]at m;refine⟨by rw[<-G,<-H];exact h1,h2,m,λj k u v z o s=>?_⟩;have B:=x j k (ts.idxOf u) (ts.idxOf v) z (by rw[f,List.getElem?_map,o];rfl) (by rw[w,List.getElem?_map,s];rfl);obtain⟨d,c⟩:=B;have:=Qfw (ts:=ts) c;rw[Rj (Xv cl D u (List.mem_of_getElem? o)),Rj (Xv cl E v (List.mem_of_getElem? s))]at this;exact⟨d,this⟩
def Qxq(H:Hp)(X:Gc->Prop)(v:V)(l:Lt):Prop:=∃c a b rv,v=.ref c/\H c=Ga (.tup [a,b,rv])/\Zu H a l.1/\Zu H b l.2.1/\Iy H X rv l.2.2/\l.1.good/\l.2.1.good
def Wd(H:Hp)(X:Gc->Prop)(v:V)(ls:List Lt):Prop:=∃L vs,v=.ref L/\H L=Ga (.lst vs)/\¬X L/\Paired (Qxq H X) vs ls/\ls.length<=900000
theorem Wd.kp{X:Gc->Prop}{H H':Hp}(a:Q4 H H')(lp:∀{c:Gc}{ys:List V},H c=Ga (.lst ys)->¬X c->H' c=Ga (.lst ys)){v:V}{ls:List Lt}(h:Wd H X v ls):Wd H' X v ls:=by obtain⟨L,vs,h1,h2,b,d,f⟩:=h;exact⟨L,vs,h1,lp h2 b,b,L2.Paired.Z7 d λ_ _⟨c,n,o,rv,g,i,j,k,l,m⟩=>⟨c,n,o,rv,g,a _ _ i,j.Qr a,k.Qr a,l.kp (λe=>a _ _ e) lp,m⟩,f⟩
theorem Wd.ex{X Y:Gc->Prop}{H:Hp}(a:∀c ys,H c=Ga (.lst ys)->¬X c->¬Y c){v:V}{ls:List Lt}(h:Wd H X v ls):Wd H Y v ls:=by obtain⟨L,vs,h1,h2,b,d,e⟩:=h;exact⟨L,vs,h1,h2,a _ _ h2 b,L2.Paired.Z7 d λ_ _⟨c,m,n,rv,f,g,i,j,k,l⟩=>⟨c,m,n,rv,f,g,i,j,k.ex a,l⟩,e⟩
theorem Qpf{us:List V}(e:Zq H us ts)(d:∀t∈ts,t.good)(h:Qk5 H X us v ls):Wd H X v (ls.map (lth ts))/\∀l∈ls,l.1<ts.length/\l.2.1<ts.length:=by
 obtain⟨L,vs,h1,h2,q,i,n⟩:=h;have a:=e.length;have key:∀{vs:List V}{ls:List Ln},Paired (Qfp H X us) vs ls->Paired (Qxq H X) vs (ls.map (lth ts))/\∀l∈ls,l.1<ts.length/\l.2.1<ts.length:=by
  intro vs ls h;induction h with
  |nil=>exact⟨.nil,λl o=>nomatch o⟩
  |@cons v l vs ls p t j=>
   obtain⟨c,x,y,rv,r,s,k,m,u⟩:=p;have l1:l.1<ts.length:=by rw[<-a];exact(List.getElem?_eq_some_iff.mp k).1
   have l2:l.2.1<ts.length:=by rw[<-a];exact(List.getElem?_eq_some_iff.mp m).1
   obtain⟨z,f,i1⟩:=e.at (X7 l1);obtain⟨A,g,i2⟩:=e.at (X7 l2);rw[k]at f;rw[m]at g;cases f;cases g;refine⟨.cons ⟨c,x,y,rv,r,s,i1,i2,u,d _ (List.mem_of_getElem? (X7 l1)),d _ (List.mem_of_getElem? (X7 l2))⟩ j.1,λw b=>?_⟩;rcases List.mem_cons.mp b with rfl|b
   ·exact⟨l1,l2⟩
   ·exact j.2 w b
 exact⟨⟨L,vs,h1,h2,q,(key i).1,by rw[List.length_map];exact n⟩,(key i).2⟩
structure Wth(tl:Tl)(S:List Th)(rs:List Row):Prop where
 ex:∃L:Th->Nat,(∀s∈S,∀t∈S,L s=L t↔Cg tl s t)/\(∀t∈S,(t.word,t.parts.map L,L t)∈rs)/\∀r∈rs,∃t∈S,r=(t.word,t.parts.map L,L t)
 cl:∀t∈S,∀p∈t.parts,p∈S
 nd:(rs.map λr=>(r.1,r.2.1)).Nodup
 good:∀t∈S,t.good
 len:rs.length<=1000
theorem Qn6[DecidableEq α]{l S:List α}(nd:l.Nodup)(h:∀p∈l,p∈S):l.length<=S.length:=by
 induction l generalizing S with
 |nil=>simp
 |cons a r c=>rw[List.nodup_cons]at nd;have:=c (S:=S.erase a) nd.2 λp b=>(List.mem_erase_of_ne (show p≠a fromλz=>nd.1 (by rw[<-z];exact b))).mpr (h p (List.mem_cons_of_mem _ b));have e:=List.length_erase_of_mem (h a List.mem_cons_self);have pos:0<S.length:=List.length_pos_of_mem (h a List.mem_cons_self);simp only[List.length_cons];omega
theorem Qqr(f:∀t∈ts,t.good)(nd:ts.Nodup)(cl:Vw ts){m:List Row}(l:Qd7 (tfs ts) x.S)(o:x.S.length<=1000)(W:Wok (tfs ts) x m)(h:∀p∈x.S,∀q∈x.S,x.lead p=x.lead q↔Cg tl (tg ts p) (tg ts q)):Wth tl (x.S.map (tg ts)) m:=by
 have lt:∀p∈x.S,p<ts.length:=λp a=>by have:=l.lt p a;rwa[Ve]at this
 have at_:∀p∈x.S,ts[p]?=Ga (tg ts p):=λp a=>X7 (lt p a);have mem:∀p∈x.S,tg ts p∈ts:=λp a=>List.mem_of_getElem? (at_ p a);have j:∀p∈x.S,ts.idxOf (tg ts p)=p:=λp a=>Rl nd (at_ p a);obtain⟨N,n1,n2,n3⟩:=W.ex;have d:∀p∈x.S,W3 (tfs ts) x N p=((tg ts p).word,(tg ts p).parts.map (λt=>N (x.lead (ts.idxOf t))),N (x.lead (ts.idxOf (tg ts p)))):=λp a=>by obtain⟨u,k⟩:=Wl (at_ p a);unfold W3;rw[u,k,List.map_map,j p a];rfl
 refine⟨⟨λt=>N (x.lead (ts.idxOf t)),λs n t b=>?_,λt b=>?_,λr i=>?_⟩,λt b q c=>?_,W.nd,λt b=>?_,?_⟩
 ·obtain⟨p,a,rfl⟩:=List.mem_map.mp n;obtain⟨q,c,rfl⟩:=List.mem_map.mp b;dsimp only;rw[j p a,j q c,<-h p a q c];exact⟨n1 p a q c,λe=>by rw[e]⟩
 ·obtain⟨p,a,rfl⟩:=List.mem_map.mp b;rw[<-d p a];exact n2 p a
 ·obtain⟨p,a,rfl⟩:=n3 r i;exact⟨_,List.mem_map.mpr ⟨p,a,Xb⟩,d p a⟩
 ·obtain⟨p,a,rfl⟩:=List.mem_map.mp b;have g:=Xv cl (mem p a) q c;obtain⟨_,k⟩:=Wl (at_ p a);have:ts.idxOf q∈Zp (tfs ts) p:=by rw[k];exact List.mem_map.mpr ⟨q,c,Xb⟩
  exact List.mem_map.mpr ⟨_,l.pts p a _ this,Rj g⟩
 ·obtain⟨p,a,rfl⟩:=List.mem_map.mp b;exact f _ (mem p a)
 ·have h1:=Qn6 W.nd (S:=(x.S.map (W3 (tfs ts) x N)).map λr=>(r.1,r.2.1)) λz hz=>by obtain⟨r,i,rfl⟩:=List.mem_map.mp hz;obtain⟨p,a,rfl⟩:=n3 r i;exact List.mem_map.mpr ⟨_,List.mem_map.mpr ⟨p,a,Xb⟩,Xb⟩
  rw[List.length_map,List.length_map,List.length_map]at h1;omega
def Wr(p t e:Gc):List (GJ×V):=[("places",.ref p),("told",.ref t),("entries",.ref e)]
theorem Ut(p t e:Gc):(Wr p t e).lookup ("places":GJ)=Ga (.ref p):=by rfl
theorem Qf1(p t e:Gc):(Wr p t e).lookup ("told":GJ)=Ga (.ref t):=by rfl
theorem Vt(p t e:Gc):(Wr p t e).lookup ("entries":GJ)=Ga (.ref e):=by rfl
theorem Qnm(p t e:Gc):(Wr p t e).lookup ("answer":GJ)=Gf:=by rfl
theorem Qn3(p t e:Gc):(Wr p t e).lookup ("go_back":GJ)=Gf:=by rfl
theorem Qtp(p t e:Gc):(Wr p t e).lookup ("tell":GJ)=Gf:=by rfl
theorem Qw5(p t e:Gc):(Wr p t e).lookup ("ask":GJ)=Gf:=by rfl
theorem Jz(p t e:Gc):(Wr p t e).lookup ("lines_for":GJ)=Gf:=by rfl
theorem Qm9(a f d:Gc):(I0 a f d).lookup ("things":GJ)=Ga (.ref a):=by rfl
theorem Qg9(a f d:Gc):(I0 a f d).lookup ("forms":GJ)=Ga (.ref f):=by rfl
theorem Qc2(a f d:Gc):(I0 a f d).lookup ("place_of":GJ)=Gf:=by rfl
theorem Qni(p t e t':Gc):Yv "told" (.ref t') (Wr p t e)=Wr p t' e:=by rfl
theorem R3(p t e a:Gc):Yv "entries" (.ref a) (Wr p t e)=Wr p t a:=by rfl
def Qd2(ts:List Th):List En->Tl->Prop:=Paired λ(e:En)(p:Bool×Th×Th)=>e.1=tw p.1/\ts[e.2.1]?=Ga p.2.1/\ts[e.2.2]?=Ga p.2.2
structure Vy(P:Gj)(w:Gu)(CP CB:Gc)(H:Hp)(bk p a f d t e:Gc)(ts:List Th)(tl:Tl):Prop where
 ob:∃dx,H bk=Ga (.ins CB dx (Wr p t e))
 pl:Pl P w CP H p a f d ts
 to:∃vs,H t=Ga (.lst vs)/\Ra H vs tl
 en:∃es ens,H e=Ga (.lst es)/\Paired (Qdj H) es ens/\Qd2 ts ens tl
 ta:t≠a
 tf:t≠f
 te:t≠e
 ea:e≠a
 ef:e≠f
structure Few(U ts:List Th)(tl:Tl):Prop where
 sub:∀t∈ts,t∈U
 cl:Vw U
 good:∀t∈U,t.good
 len:U.length<=60
 tl:tl.length<=900
theorem Qo5{l:List Th}(nd:l.Nodup)(h:∀p∈l,p∈S):l.length<=S.length:=by
 induction l generalizing S with
 |nil=>simp
 |cons a r c=>rw[List.nodup_cons]at nd;have:=c (S:=S.erase a) nd.2 λp b=>(List.mem_erase_of_ne (show p≠a fromλz=>nd.1 (by rw[<-z];exact b))).mpr (h p (List.mem_cons_of_mem _ b));have e:=List.length_erase_of_mem (h a List.mem_cons_self);have pos:0<S.length:=List.length_pos_of_mem (h a List.mem_cons_self);simp only[List.length_cons];omega
theorem Few.le(h:Few U ts tl)(nd:ts.Nodup):ts.length<=60:=TD (Qo5 nd h.sub) h.len
def Lst(tl b:Tl)(n:Nat)(a c:Th):Prop:=tl[n]?=Ga (Gp,a,c)/\Cg b a c/\∀(j:Nat)d e,j<n->tl[j]?=Ga (Gp,d,e)->¬Cg b d e
def Jo(H:Hp)(X:Gc->Prop)(tl:Tl):Dd->V->Prop
 |.back i,v=>v=(Jq tl (.back i)).2
 |.tell b s t,v=>(¬We (tl++[(b,s,t)])/\v=.int ((tl.length:Int)+1))\/
   ∃d n a c lv ls,v=.ref d/\H d=Ga (.tup [.str "clash",jv n,lv])/\Lst (tl++[(b,s,t)]) (tl++[(b,s,t)]) n a c/\Wd H X lv ls/\Gdt (tl++[(b,s,t)]) Gf ls/\∃r,ls.getLast?=Ga (a,c,r)
 |.ask s t,v=>(Cg tl s t/\∃d lv ls,v=.ref d/\H d=Ga (.tup [.str "equal",lv])/\Wd H X lv ls/\Gdt tl Gf ls/\∃r,ls.getLast?=Ga (s,t,r))\/
   (¬Cg tl s t/\∃d n a c lv ls,v=.ref d/\H d=Ga (.tup [.str "unlike",jv n,lv])/\Lst tl (tl++[(Ge,s,t)]) n a c/\Wd H X lv ls/\Gdt tl (Ga (s,t)) ls/\∃r,ls.getLast?=Ga (a,c,r))\/
   (¬Cg tl s t/\(∀a c,(Gp,a,c)∈tl->¬Cg (tl++[(Ge,s,t)]) a c)/\∃d g h e f S,v=.ref d/\H d=Ga (.tup [.str "open",g,h])/\Ul H X g e/\Ul H X h f/\Wth tl S e/\Wth (tl++[(Ge,s,t)]) S f/\s∈S/\t∈S/\∀b a c,(b,a,c)∈tl->a∈S/\c∈S)
theorem Jo.kp{X:Gc->Prop}{H H':Hp}(f:Q4 H H')(lp:∀{c:Gc}{ys:List V},H c=Ga (.lst ys)->¬X c->H' c=Ga (.lst ys)){tl:Tl}:∀{d:Dd}{v:V},Jo H X tl d v->Jo H' X tl d v
 |.back i,v,h=>h
 |.tell b s t,v,h=>by
  rcases h with h|⟨g,n,a,c,lv,ls,h1,h2,j,k,m⟩
  ·exact .inl h
  ·exact .inr ⟨g,n,a,c,lv,ls,h1,f _ _ h2,j,k.kp f lp,m⟩
 |.ask s t,v,h=>by
  rcases h with⟨l,g,lv,ls,h1,h2,j,k⟩|⟨l,g,n,a,c,lv,ls,h1,h2,j,k,m⟩|⟨l,o,g,r,u,p,q,S,h1,h2,j,k,m⟩
  ·exact .inl ⟨l,g,lv,ls,h1,f _ _ h2,j.kp f lp,k⟩
  ·exact .inr (.inl ⟨l,g,n,a,c,lv,ls,h1,f _ _ h2,j,k.kp f lp,m⟩)
  ·exact .inr (.inr ⟨l,o,g,r,u,p,q,S,h1,f _ _ h2,j.kp (λe=>f _ _ e) lp,k.kp (λe=>f _ _ e) lp,m⟩)
theorem Jo.ex{X Y:Gc->Prop}{H:Hp}(l:∀c ys,H c=Ga (.lst ys)->¬X c->¬Y c){tl:Tl}:∀{d:Dd}{v:V},Jo H X tl d v->Jo H Y tl d v
 |.back i,v,h=>h
 |.tell b s t,v,h=>by
  rcases h with h|⟨e,n,a,c,lv,ls,h1,h2,f,g,k⟩
  ·exact .inl h
  ·exact .inr ⟨e,n,a,c,lv,ls,h1,h2,f,g.ex l,k⟩
 |.ask s t,v,h=>by
  rcases h with⟨j,e,lv,ls,h1,h2,f,g⟩|⟨j,e,n,a,c,lv,ls,h1,h2,f,g,k⟩|⟨j,m,e,q,r,o,p,S,h1,h2,f,g,k⟩
  ·exact .inl ⟨j,e,lv,ls,h1,h2,f.ex l,g⟩
  ·exact .inr (.inl ⟨j,e,n,a,c,lv,ls,h1,h2,f,g.ex l,k⟩)
  ·exact .inr (.inr ⟨j,m,e,q,r,o,p,S,h1,h2,f.ex l,g.ex l,k⟩)
theorem Qoj(h:t.good):t.parts.length<=100:=by
 cases t with
 |mk u ps=>have:=Zd ps;have:=h.2.2;simp only[Th.size]at this;simp only[Th.parts];omega
theorem Qjf{p:Th}(h:p∈t.parts):p.depth<t.depth:=by
 cases t with
 |mk u ps=>simp only[Th.parts]at h;have:=W5 h;simp only[Th.depth];omega
theorem Qt9(h:t.ok=Ge):TC t.word=Ge:=by
 cases t with
 |mk u ps=>simp only[Th.ok,Td]at h;exact h.1
theorem Qlo(h:¬p<ts.length):Yh (tfs ts) p=DU/\Zp (tfs ts) p=[]:=by unfold Yh Zp tfs;rw[List.getD_eq_getElem?_getD,List.getElem?_eq_none (by rw[List.length_map];omega)];exact⟨Xb,Xb⟩
theorem Qvj(nd:ts.Nodup)(cl:Vw ts)(c:∀t∈ts,t.good)(l:ts.length<=60):Qwd (tfs ts) (λp=>(tg ts p).depth)/\∀p,(tg ts p).depth<59:=by
 have mem:∀{p:Nat},p<ts.length->tg ts p∈ts:=λh=>List.mem_of_getElem? (X7 h);refine⟨⟨λp=>?_,λp=>?_,λp a q b=>?_,λp q a b d e=>?_,by rw[Ve];omega⟩,λp=>?_⟩
 ·by_cases h:p<ts.length
  ·rw[(Wl (X7 h)).1];exact Qt9 (c _ (mem h)).1
  ·rw[(Qlo h).1];decide+kernel
 ·by_cases h:p<ts.length
  ·rw[(Wl (X7 h)).2,List.length_map];exact Qoj (c _ (mem h))
  ·rw[(Qlo h).2];exact Gx _
 ·rw[Ve]at a⊢;rw[(Wl (X7 a)).2]at b;obtain⟨s,f,rfl⟩:=List.mem_map.mp b;have:=Xv cl (mem a) s f;refine⟨List.idxOf_lt_length_of_mem this,?_⟩;rw[Rj this];exact Qjf f
 ·rw[Ve]at a b;obtain⟨j,g⟩:=Wl (X7 a);obtain⟨k,i⟩:=Wl (X7 b);rw[j,k]at d;rw[g,i]at e;have:=Qi7 (ts:=ts) (Xv cl (mem a)) (Xv cl (mem b)) (SJ d e);rw[<-Rl nd (X7 a),<-Rl nd (X7 b),this]
 ·by_cases h:p<ts.length
  ·have:=(c _ (mem h)).2.1;omega
  ·have:tg ts p=.mk DU []:=by unfold tg;rw[List.getD_eq_getElem?_getD,List.getElem?_eq_none (by omega)];rfl
   rw[this];simp[Th.depth,Wo]
theorem Qb9{b:Bool}(h:("same":GJ)=tw b):b=Ge:=by
 cases b with
 |true=>rfl
 |false=>exact absurd h (by decide+kernel)
theorem Qkd{b:Bool}(h:("unlike":GJ)=tw b):b=Gp:=by
 cases b with
 |true=>exact absurd h (by decide+kernel)
 |false=>rfl
theorem Qbs(R:Qd2 ts ens tl){k:GJ}(h:ens[j]?=Ga (k,p,q)):∃b,k=tw b/\tl[j]?=Ga (b,tg ts p,tg ts q):=by obtain⟨⟨b,s,t⟩,h1,h2,a,c⟩:=Qw R h;exact⟨b,h2,by rw[h1,Ud a,Ud c]⟩
theorem Ot(R:Qd2 ts ens tl){b:Bool}{s:Th}(h:tl[j]?=Ga (b,s,t)):∃p q,ens[j]?=Ga (tw b,p,q)/\ts[p]?=Ga s/\ts[q]?=Ga t:=by
 have e:=Paired.length R;have a:j<ens.length:=by rw[e];exact(List.getElem?_eq_some_iff.mp h).1
 obtain⟨⟨f,s',t'⟩,h1,h2,c,d⟩:=Qw R (List.getElem?_eq_getElem a);rw[h]at h1;cases h1;refine⟨ens[j].2.1,ens[j].2.2,?_,c,d⟩;rw[List.getElem?_eq_getElem a,<-h2]
theorem Qh3{c:List En}(R:Qd2 ts ens tl)(e:∀p q,sme p q∈c↔sme p q∈ens):
  (∀a b,(Ge,a,b)∈tl->∃p q,(p,q)∈Qdi c/\ts[p]?=Ga a/\ts[q]?=Ga b)/\∀p q,(p,q)∈Qdi c->(Ge,tg ts p,tg ts q)∈tl:=by
 constructor
 ·intro a b h;obtain⟨j,d⟩:=List.mem_iff_getElem?.mp h;obtain⟨p,q,h1,h2,f⟩:=Ot R d;exact⟨p,q,Vx.mpr ((e p q).mpr (List.mem_of_getElem? h1)),h2,f⟩
 ·intro p q h;obtain⟨j,d⟩:=List.mem_iff_getElem?.mp ((e p q).mp (Vx.mp h));obtain⟨b,h1,h2⟩:=Qbs R d;rw[Qb9 h1]at h2;exact List.mem_of_getElem? h2
theorem Qly{b:Tl}(R:Qd2 ts ens tl)(hS:∀e∈ens,e.2.1∈x.S/\e.2.2∈x.S)(cg:∀p∈x.S,∀q∈x.S,x.lead p=x.lead q↔Cg b (tg ts p) (tg ts q))(h:Qwz x ens Gf):∀a c,(Gp,a,c)∈tl->¬Cg b a c:=λa c i f=>by obtain⟨j,g⟩:=List.mem_iff_getElem?.mp i;obtain⟨p,q,h1,h2,d⟩:=Ot R g;obtain⟨k,l⟩:=hS _ (List.mem_of_getElem? h1);refine h j p q h1 ((cg p k q l).mpr ?_);rw[Ud h2,Ud d];exact f
theorem Qmi{a:Tl}{n:Nat}(R:Qd2 ts ens tl)(hS:∀e∈ens,e.2.1∈x.S/\e.2.2∈x.S)(cg:∀p∈x.S,∀q∈x.S,x.lead p=x.lead q↔Cg a (tg ts p) (tg ts q))(h:Qwz x ens (Ga n)):
  ∃p q,ens[n]?=Ga (unl p q)/\x.lead p=x.lead q/\p∈x.S/\q∈x.S/\Lst tl a n (tg ts p) (tg ts q):=by
 obtain⟨⟨p,q,h1,h2⟩,r⟩:=h;obtain⟨l,o⟩:=hS _ (List.mem_of_getElem? h1);obtain⟨b,hb,g⟩:=Qbs R h1;rw[Qkd hb]at g;refine⟨p,q,h1,h2,l,o,g,(cg p l q o).mp h2,λj w y t c s=>?_⟩;obtain⟨k,m,i,u,v⟩:=Ot R c;obtain⟨d,f⟩:=hS _ (List.mem_of_getElem? i);refine r j k m t i ((cg k d m f).mpr ?_);rw[Ud u,Ud v];exact s
structure Qhh(K:PySem.W.Frag)(mg:GJ->Option Value)(C:Gc):Prop where
 cl:Cls K C
 places:Yx K C "places"
 told:Yx K C "told"
 entries:Yx K C "entries"
 mgC:mg "Book"=Ga (.ref C)
 no:∃u,mg "NO_MOMENT"=Ga u/\RelV (.str "no moment") u
structure Lng(fs:List Fm)(x:Nn):Prop where
 inv:X9 (Yh fs) (Zp fs) x []
 fok:Qd7 fs x.S
 len:x.S.length<=60
 lk:x.links.length<64
 few:∀p,(Zp fs p).length<=100
def Rv(P:Gj)(w:Gu)(C CP c:Gc):Sp:=λvs H Q _=>∃(bk p a f d t e:Gc)(ts:List Th)(tl:Tl)(n:Gc)(A:Na)(tb:Nat)(x:Nn)(ev:V)(k:GJ)(p1 p2:Nat),vs=[.ref bk,.ref n,ev]/\Vy P w CP c H bk p a f d t e ts tl/\Qdj H ev (k,p1,p2)/\Z6 P w C H n A (tfs ts) tb x/\Lng (tfs ts) x/\p1∈x.S/\p2∈x.S/\x.lead p1=x.lead p2/\(∀t∈ts,t.good)/\
 ∀(v:V)(ls:List Ln)(H':Hp),Q5 H H'->Wd H' (λb=>∃o,H b=Ga o) v (ls.map (lth ts))->(∀l∈ls,l.1<ts.length/\l.2.1<ts.length)->Gdl (tfs ts) x.links ls->(∃r,ls.getLast?=Ga (p1,p2,r))->Q v H'
section
variable{P:Gj}{w:Gu}{K:PySem.W.Frag}{mg:GJ->Option Value}{base:Heap}
theorem Vy.same{CP c:Gc}{H H':Hp}{bk p a f d t e:Gc}{ts:List Th}{tl:Tl}(B:Vy P w CP c H bk p a f d t e ts tl)(g:Q5 H H'):Vy P w CP c H' bk p a f d t e ts tl:=by obtain⟨dx,l⟩:=B.ob;obtain⟨vs,m,n⟩:=B.to;obtain⟨es,b,i,j,k⟩:=B.en;exact⟨⟨dx,g _ _ l⟩,B.pl.same g,⟨vs,g _ _ m,n.Qr (Q4.of g)⟩,⟨es,b,g _ _ i,L2.Paired.Z7 j λ_ _ h=>h.Qr (Q4.of g),k⟩,B.ta,B.tf,B.te,B.ea,B.ef⟩
theorem Qi9:Q3 ["self","net","entry"] ["self","net","entry"] (Qn Ij):=by eq_refl
theorem Qib(F:Wz K "lines_for" "Book.lines_for" Ij f0 fd)(T:Qhh K mg CB)(TP:Qca K mg CP)(G:Qz P w K mg base Yb 6 fB fdB ["things","net","one","other"] (Qie P w C))(D:KI K fB)(o:Binds K fdB ["things","net","one","other"] [])(I:MG mg "lines_between" fB):
  Qz P w K mg base Yb 7 f0 fd ["self","net","entry"] (Rv P w C CP CB):=by
 refine F.ok Qi9 (λvs H Q E h=>?_) (λcdv A outer s H vs Q E z h=>?_)
 ·obtain⟨bk,p,a,f,d,t,e,ts,tl,n,A,tb,x,ev,k,p1,p2,rfl,_⟩:=h;rfl
 obtain⟨bk,p,a,f,d,t,e,ts,tl,n,A,tb,x,ev,k,p1,p2,rfl,B,⟨c,rfl,l⟩,X,i,M,N,r,j,q⟩:=h;refine⟨_,Qh (Qt (Zo G z rfl I D o .nil Q7 (Qa (Qu (Qu (pv 0) rfl) rfl) (Qa (pv 1) (Qa (Ql Qm (pv 2) Qi) (Qa (Ql Qm (pv 2) Qi) Qe)))))),?_⟩;obtain⟨dx,J⟩:=B.ob;obtain⟨dp,L⟩:=B.pl.ob;obtain⟨us,O,m⟩:=B.pl.th;refine⟨_,Xb,bk,CB,dx,_,_,Xb,J,T.cl,T.places,Ut _ _ _,p,CP,dp,_,_,Xb,L,TP.cl,TP.nT,Qm9 _ _ _,_,Xb,_,Xb,c,_,_,_,Xb,Xb,Q9.of l,I8 _ _ _,_,Xb,c,_,_,_,Xb,Xb,Q9.of l,Qit _ _ _ _,a,n,A,tfs ts,tb,x,us,p1,p2,Xb,X,i.inv,i.fok,M,N,r,i.len,i.lk,i.few,O,by rw[Ve,m.length],λv ls H' g y u b=>?_⟩;obtain⟨l1,l2⟩:=Qpf (m.same g) j y;exact q v ls H' g l1 l2 u b
end
theorem Nok.same{P:Gj}{w:Gu}{C:Gc}{H0 H H':Hp}{n:Gc}{A:Na}{fs:List Fm}{tb:Nat}{x:Nn}(N:Nok P w C H0 H n A fs tb x)(g:Q5 H H'):Nok P w C H0 H' n A fs tb x:=⟨N.at_.same g,N.inv,N.fok,N.new,N.nn,N.O1.trans g,N.len,N.tt,N.cl,N.tbb⟩
theorem Nok.lng{H0:Hp}(N:Nok P w C H0 H n A fs tb x)(few:∀p,(Zp fs p).length<=100):Lng fs x:=⟨N.inv,N.fok,N.len,by have:=N.cl;have:=N.len;omega,few⟩
theorem Nok.room{H0:Hp}(N:Nok P w C H0 H n A fs tb x):x.S.length<=10000/\Vr x<=10000/\cls x+x.links.length<=10000/\tb+cls x*Vr x<=900000:=by
 have b:=N.len;have a:=N.tt;have c:=N.cl;have d:=N.tbb;have e:x.links.length*Vr x+cls x*Vr x<=60*6000:=by rw[<-DK];exact Lu (by omega) a
 exact⟨by omega,by omega,by omega,by omega⟩
def Qvz(P:Gj)(w:Gu)(CP c:Gc):Sp:=λvs H Q _=>∃(bk p a f d t e:Gc)(ts:List Th)(tl:Tl)(U:List Th)(ev:V)(p1 p2:Nat),vs=[.ref bk,ev]/\Vy P w CP c H bk p a f d t e ts tl/\Few U ts tl/\Qdj H ev (("ask":GJ),p1,p2)/\p1<ts.length/\p2<ts.length/\
 ∀(v:V)(H':Hp),Q5 H H'->Jo H' (λb=>∃o,H b=Ga o) tl (.ask (tg ts p1) (tg ts p2)) v->Q v H'
variable{w:GJ}
theorem Qre(R:Qd2 ts ens tl):∀e∈ens,e.2.1<ts.length/\e.2.2<ts.length:=λe c=>by obtain⟨j,d⟩:=List.mem_iff_getElem?.mp c;obtain⟨y,_,_,a,b⟩:=Qw R d;exact⟨(List.getElem?_eq_some_iff.mp a).1,(List.getElem?_eq_some_iff.mp b).1⟩
theorem Qcq(h:∃r,ls.getLast?=Ga (p,q,r)):∃r,(ls.map (lth ts)).getLast?=Ga (tg ts p,tg ts q,r):=by obtain⟨r,h⟩:=h;exact⟨r,by rw[List.getLast?_map,h];rfl⟩
section
variable{P:Gj}{w:Gu}{K:PySem.W.Frag}{mg:GJ->Option Value}{base:Heap}
theorem Qvn:Q3 ["self","entry","net","apart","number"] ["self","entry"] (Qn Quv):=by eq_refl
theorem Qws{fE fM:Gc}{an ao am:Tf}(F:Wz K "ask" "Book.ask" Quv f0 fd)(T:Qhh K mg CB)(TP:Qca K mg CP)(TN:V7 K mg C)
  (GN:Qz P w K mg base Yb 61 fN fdN ["forms","told"] (Qfk P w C))(kN:KI K fN)(bN:Binds K fdN ["forms","told"] [])(mN:MG mg "net_of" fN)
  (mE:Yd K C "equal" fE)(GE:Qz P w K mg base Yb 1 fE an ["self","one","other"] (Qb4 P w C))(bE:Binds K an ["self","one","other"] [])(mR:Yd K C "rows" fR)(GR:Qz P w K mg base Yb 2 fR fdR ["self"] (Qp5 P w C))(bR:Binds K fdR ["self"] [])
  (mM:Yd K C "merge" fM)(GM:Qz P w K mg base Yb 4 fM ao ["self","one","other","reason"] (Qfo P w C))(bM:Binds K ao ["self","one","other","reason"] [])
  (GC:Qz P w K mg base Yb 2 fC am ["net","entries"] (Qft P w C))(kC:KI K fC)(bC:Binds K am ["net","entries"] [])(mC:MG mg "least_clash" fC)
  (mL:Yd K CB "lines_for" fL)(GL:Qz P w K mg base Yb 7 fL fdL ["self","net","entry"] (Rv P w C CP CB))(bL:Binds K fdL ["self","net","entry"] []):
  Qz P w K mg base Yb 62 f0 fd ["self","entry"] (Qvz P w CP CB):=by
 refine F.ok Qvn (λvs H Q E h=>?_) (λcdv A outer s H vs Q E hr h=>?_)
 ·obtain⟨bk,p,a,f,d,t,e,ts,tl,U,ev,p1,p2,rfl,_⟩:=h;rfl
 obtain⟨bk,p,a,f,d,t,e,ts,tl,U,ev,p1,p2,rfl,B,I,⟨i,rfl,D⟩,aq,ar,q⟩:=h;have aQ:Yf 1 _:=hr.mono (by omega);have ah:Yf 2 _:=hr.mono (by omega);have aR:Yf 4 _:=hr.mono (by omega);have av:Yf 7 _:=hr.mono (by omega);have nd:=Qvn.nd;refine⟨_,Qc (Qy 2 nd (Zo GN hr rfl mN kN bN .nil Q7 (Qa (Qu (Qu (pv 0) rfl) rfl) (Qa (Zs Vi (Qu (pv 0) rfl) (Zr (Qa (pv 1) Qe))) Qe))))
  (Qc (Zb (Yc (Zg (pv 2) TN.cl mE GE aQ bE .nil Q7 (Qa (Ql Qm (pv 1) Qi) (Qa (Ql Qm (pv 1) Qi) Qe))))
   (Qh (Qt (Zf (Qa Zj (Qa (Zg (pv 0) T.cl mL GL av bL .nil Q7 (Qa (pv 2) (Qa (pv 1) Qe))) Qe))))) Qv)
  (Qc (Qy 3 nd (Qig (pv 2) TN.cl mR GR ah bR .nil Q7))
  (Qc (Zk (Zg (pv 2) TN.cl mM GM aR bM .nil Q7 (Qa (Ql Qm (pv 1) Qi) (Qa (Ql Qm (pv 1) Qi) (Qa (Zf (Qa Zj Qe)) Qe)))))
  (Qc (Qy 4 nd (Zo GC ah rfl mC kC bC .nil Q7 (Qa (pv 2) (Qa (Qu (pv 0) rfl) Qe))))
  (Qc (Zb (Qo Oc (pv 4) Uo (Qs _))
   (Qh (Qt (Zf (Qa Zj (Qa (pv 4) (Qa (Zg (pv 0) T.cl mL GL av bL .nil Q7 (Qa (pv 2) (Qa (Ql Ze (Qu (pv 0) rfl) (pv 4)) Qe))) Qe)))))) Qv)
  (Qh (Qt (Zf (Qa Zj (Qa (pv 3) (Qa (Qig (pv 2) TN.cl mR GR ah bR .nil Q7) Qe))))))))))),?_⟩
 obtain⟨dx,o1⟩:=B.ob;obtain⟨dp,o2⟩:=B.pl.ob;obtain⟨ws,f1,f2⟩:=B.pl.fo;obtain⟨es,g,e1,e2,R⟩:=B.en;have G:=B.pl.nd;have k:=B.pl.cl;have ab:=I.le G;obtain⟨TK,aB⟩:=Qvj G k (λt X=>I.good t (I.sub t X)) ab;have aT:es.length=tl.length:=(Paired.length e2).trans (Paired.length R);have aU:=I.tl;refine⟨_,Xb,bk,CB,dx,_,_,Xb,o1,T.cl,T.places,Ut _ _ _,p,CP,dp,_,_,Xb,o2,TP.cl,TP.nF,Qg9 _ _ _,_,Xb,bk,CB,dx,_,_,Xb,o1,T.cl,T.entries,Vt _ _ _,_,Xb,by show 1<=Gh;decide,λr0 aP=>?_⟩;have s0:=Qf aP (.lst [.ref i]);refine⟨e,r0,es,[.ref i],Xb,Xb,s0 _ _ e1,Qb,by rw[Gy];simp only[List.length_singleton];omega,λr1 au=>?_⟩;have s1:=s0.trans (Qf au (.lst (es++[.ref i])));have g1:(upd (upd H r0 (.lst [.ref i])) r1 (.lst (es++[.ref i]))) r1=Ga (.lst (es++[.ref i])):=Qb;generalize upd (upd H r0 (.lst [.ref i])) r1 (.lst (es++[.ref i]))=H1 at s1 g1;have al:=Q4.of s1;have aA:Paired (Qdj H1) (es++[.ref i]) (g++[(("ask":GJ),p1,p2)]):=Paired.snoc (L2.Paired.Z7 e2 λ_ _ h=>h.Qr al) ⟨i,Xb,al _ _ D⟩;refine⟨f,r1,ws,_,tfs ts,_,_,Xb,s1 _ _ f1,L2.Paired.Z7 f2 λ_ _ h=>h.Qr al,g1,aA,TK,by rw[Ve];exact ab,aB,λen ag=>?_,by rw[<-Paired.length aA,List.length_append,List.length_singleton];omega,λn A tb x H2 N _ U=>?_⟩
 ·rw[Ve];rcases List.mem_append.mp ag with h|h
  ·exact Qre R en h
  ·have:en=(("ask":GJ),p1,p2):=by simpa using h
   rw[this];exact⟨aq,ar⟩
 have S2:Q5 H H2:=s1.trans N.O1;have L:∀p q,sme p q∈g++[(("ask":GJ),p1,p2)]↔sme p q∈g:=λp q=>by
  rw[List.mem_append];constructor
  ·rintro(h|h)
   ·exact h
   ·rw[List.mem_singleton]at h;exact absurd (show("same":GJ)="ask"from congrArg (·.1) h) (by decide+kernel)
  ·exact .inl
 obtain⟨aC,aD⟩:=Qh3 R L;have EQ:=Qmt U;have ac:∀p∈x.S,∀q∈x.S,x.lead p=x.lead q↔Cg tl (tg ts p) (tg ts q):=λp hp q hq=>EQ.cg G k N.inv N.fok aC aD hp hq;have O:∀a b n,(a,b,Ga (.told n))∈x.links->tl[n]?=Ga (Ge,tg ts a,tg ts b):=λa b n h=>by
  rcases U.rsn _ h with z|⟨j,p',q',h1,h2⟩
  ·cases z
  ·cases h1;have hj:n<g.length:=by
    rcases Te n g.length with h|h
    ·exact h
    ·rw[List.getElem?_append_right h]at h2;have:n - g.length=0:=by
      rcases Te (n - g.length) 1 with h'|h'
      ·omega
      ·rw[List.getElem?_eq_none (by simpa using h')]at h2;cases h2
     rw[this]at h2;have h2:((("ask":GJ),p1,p2):En)=sme a b:=by simpa using h2
     exact absurd (show("ask":GJ)="same"from congrArg (·.1) h2) (by decide+kernel)
   rw[List.getElem?_append_left hj]at h2;obtain⟨b',h3,h4⟩:=Qbs R h2;rw[Qb9 h3]at h4;exact h4
 have M:∀a b,¬(a,b,Ga U5.asked)∈x.links:=λa b h=>by
  rcases U.rsn _ h with z|⟨j,p',q',h1,h2⟩
  ·cases z
  ·cases h1
 obtain⟨Z,qS⟩:=U.ins (("ask":GJ),p1,p2) (by simp);have Z:p1∈x.S:=Z;have qS:p2∈x.S:=qS;have aa:∀en∈g,en.2.1∈x.S/\en.2.2∈x.S:=λen ag=>U.ins en (List.mem_append_left _ ag);obtain⟨dn,on⟩:=N.at_.ob;refine⟨_,Xb,n,dn,_,Xb,on,Qcf _,_,Xb,i,_,_,_,Xb,Xb,Q9.of (S2 _ _ D),I8 _ _ _,_,Xb,i,_,_,_,Xb,Xb,Q9.of (S2 _ _ D),Qit _ _ _ _,n,A,_,tb,x,p1,p2,Xb,N.at_,Z,qS,_,Xb,?_⟩;by_cases J:x.lead p1=x.lead p2
 ·rw[Gr J];refine Yy ?_;have hC:=(ac p1 Z p2 qS).mp J;refine⟨_,Xb,bk,dx,_,Xb,S2 _ _ o1,Jz _ _ _,_,Xb,_,Xb,bk,p,a,f,d,t,e,ts,tl,n,A,tb,x,.ref i,_,p1,p2,Xb,B.same S2,⟨i,Xb,S2 _ _ D⟩,N.at_,N.lng TK.few,Z,qS,J,(λt X=>I.good t (I.sub t X)),λlv ls H3 g3 hl hb hg l=>?_⟩;refine⟨by show 2<=Gh;decide,λc5 aL=>?_⟩;have s5:=Qf aL (.tup [.str "equal",lv]);refine q _ _ ((S2.trans g3).trans s5) (.inl ⟨hC,c5,lv,ls.map (lth ts),Xb,Qb,(hl.ex λc ys _ L⟨o,ho⟩=>L ⟨o,S2 _ _ ho⟩).kp (Q4.of s5) (λe _=>s5 _ _ e),Qju k hg hb O (λa b h=>absurd h (M a b)),Qcq l⟩)
 ·rw[Gq J];refine Q6 ?_;have hC:¬Cg tl (tg ts p1) (tg ts p2):=λz=>J ((ac p1 Z p2 qS).mpr z);refine⟨_,Xb,n,dn,_,Xb,on,Qmh _,n,A,_,tb,x,Xb,N.at_,N.fok,N.inv,by have:=N.len;omega,λv1 aE H3 g3 aw W1=>?_⟩;have S3:=S2.trans g3;have N3:=N.same g3;refine⟨_,Xb,n,dn,_,Xb,g3 _ _ on,Qhs _,_,Xb,i,_,_,_,Xb,Xb,Q9.of (S3 _ _ D),I8 _ _ _,_,Xb,i,_,_,_,Xb,Xb,Q9.of (S3 _ _ D),Qit _ _ _ _,by show 1<=Gh;decide,λc4 aK=>?_⟩;have s4:=Qf aK (.tup [.str "asked"]);have N4:=N3.same s4;obtain⟨z1,z2,z3,z4⟩:=N.room;refine⟨n,A,_,tb,x,p1,p2,.ref c4,Ga .asked,Xb,N4.at_,N.fok,⟨c4,Xb,Qb⟩,by simp,Z,qS,N.inv,z1,z2,z3,z4,λx' H5 Y5 M5 F5=>?_⟩;have N5:=N4.merged Y5 M5 F5;have S5:Q5 H H5:=s1.trans N5.O1;have aH:=Quu EQ M5 Z qS;have eS:=M5.S;have ad:∀p∈x'.S,∀q∈x'.S,x'.lead p=x'.lead q↔Cg (tl++[(Ge,tg ts p1,tg ts p2)]) (tg ts p) (tg ts q):=λp hp q hq=>aH.cg G k N5.inv N5.fok (λa b h=>by
   rcases List.mem_append.mp h with h|h
   ·obtain⟨u,v,h1,h2⟩:=aC a b h;exact⟨u,v,List.mem_append_left _ h1,h2⟩
   ·have:(Ge,a,b)=(Ge,tg ts p1,tg ts p2):=by simpa using h
    cases this;exact⟨p1,p2,by simp,X7 aq,X7 ar⟩) (λu v h=>by
   rcases List.mem_append.mp h with h|h
   ·exact List.mem_append_left _ (aD u v h)
   ·have:(u,v)=(p1,p2):=by simpa using h
    cases this;simp) hp hq
  have r:∀en∈g,en.2.1∈x'.S/\en.2.2∈x'.S:=by rw[eS];exact aa
  refine⟨_,Xb,_,Xb,bk,CB,dx,_,_,Xb,S5 _ _ o1,T.cl,T.entries,Vt _ _ _,n,e,A,_,_,x',es,g,Xb,N5.at_,S5 _ _ e1,L2.Paired.Z7 e2 λ_ _ h=>h.Qr (Q4.of S5),r,λo H6 g6 ap=>?_⟩;have W:=S5.trans g6;have N6:=N5.same g6;have aG:∀{c:Gc}{ys:List V},H3 c=Ga (.tup ys)->H6 c=Ga (.tup ys):=λ{c ys}ec=>g6 _ _ (F5.keep _ _ (s4 _ _ ec) (N4.at_.Qji (s4 _ _ ec)));have az:∀{c:Gc}{ys:List V},H3 c=Ga (.lst ys)->¬(∃o,H2 c=Ga o)->H6 c=Ga (.lst ys):=λ{c ys}ec L=>g6 _ _ (F5.keep _ _ (s4 _ _ ec) (λz=>L (by have:=N.at_.own z;rcases this with⟨_,h⟩|⟨_,h⟩|⟨_,h⟩|⟨_,h⟩<;>exact⟨_,h⟩)))
  have ai:=(aw.kp aG az).ex (Y:=λb=>∃o,H b=Ga o) λc ys _ L⟨o,ho⟩=>L ⟨o,S2 _ _ ho⟩;refine⟨_,Xb,Xb,_,Xb,?_⟩;rw[Qfv];cases o with
  |some m=>
   refine Yy ?_;obtain⟨p',q',h1,h2,aj,ak,aN⟩:=Qmi R r ad ap;have hm:m<es.length:=by rw[Paired.length e2];exact(List.getElem?_eq_some_iff.mp h1).1
   obtain⟨y,hy,ay⟩:=Qw e2 (List.getElem?_eq_getElem hm);rw[h1]at hy;cases hy;obtain⟨cm,aJ,aM⟩:=ay;refine⟨_,Xb,_,Xb,bk,dx,_,Xb,W _ _ o1,Jz _ _ _,_,Xb,_,Xb,bk,CB,dx,_,_,Xb,W _ _ o1,T.cl,T.entries,Vt _ _ _,_,Xb,e,es,_,_,Xb,Xb,Zc.of (W _ _ e1),Qj (List.getElem?_eq_getElem hm),bk,p,a,f,d,t,e,ts,tl,n,A,_,x',_,_,p',q',Xb,B.same W,⟨cm,aJ,W _ _ aM⟩,N6.at_,N6.lng TK.few,aj,ak,h2,(λt X=>I.good t (I.sub t X)),λlv ls H7 g7 hl hb hg l=>?_⟩;refine⟨by show 3<=Gh;decide,λc8 af=>?_⟩;have s8:=Qf af (.tup [.str "unlike",jv m,lv]);refine q _ _ ((W.trans g7).trans s8) (.inr (.inl ⟨hC,c8,m,_,_,lv,ls.map (lth ts),Xb,Qb,aN,(hl.ex λc ys _ L⟨o,ho⟩=>L ⟨o,W _ _ ho⟩).kp (Q4.of s8) (λe _=>s8 _ _ e),Qju k hg hb (λa b n h=>?_) (λa b h=>?_),Qcq l⟩))
   ·rcases M5.rsn _ h with z|z|z
    ·exact O a b n z
    ·cases z
    ·cases z
   ·rcases M5.rsn _ h with z|z|z
    ·exact absurd z (M a b)
    ·cases z;rfl
    ·cases z
  |none=>refine Q6 ?_;have aO:=Qly R r ad ap;obtain⟨aI,aS⟩:=N6.at_.ob;refine⟨_,Xb,_,Xb,n,aI,_,Xb,aS,Qmh _,n,A,_,_,x',Xb,N6.at_,N6.fok,N6.inv,by have:=N6.len;omega,λv2 aF H7 g7 ax W2=>?_⟩;refine⟨by show 3<=Gh;decide,λc8 af=>?_⟩;have s8:=Qf af (.tup [.str "open",v1,v2]);have ae:=g7.trans s8;refine q _ _ (W.trans ae) (.inr (.inr ⟨hC,aO,c8,v1,v2,aE,aF,x.S.map (tg ts),Xb,Qb,ai.kp (λe=>ae _ _ e) (λe _=>ae _ _ e),(ax.ex λc ys _ L⟨o,ho⟩=>L ⟨o,W _ _ ho⟩).kp (λe=>s8 _ _ e) (λe _=>s8 _ _ e),Qqr (λt X=>I.good t (I.sub t X)) G k N.fok (by have:=N.len;omega) W1 ac,by rw[<-eS];exact Qqr (λt X=>I.good t (I.sub t X)) G k N5.fok (by have:=N5.len;omega) W2 ad,List.mem_map.mpr ⟨p1,Z,Xb⟩,List.mem_map.mpr ⟨p2,qS,Xb⟩,λb a c hm=>?_⟩));obtain⟨j,hj⟩:=List.mem_iff_getElem?.mp hm;obtain⟨p',q',h1,h2,h3⟩:=Ot R hj;obtain⟨aj,ak⟩:=aa _ (List.mem_of_getElem? h1);exact⟨List.mem_map.mpr ⟨p',aj,Ud h2⟩,List.mem_map.mpr ⟨q',ak,Ud h3⟩⟩
end
theorem Qp3(xs:List V){i:Int}(a:0<=i)(h1:i<=(xs.length:Int)):Uq xs Gf (Ga i)=xs.take i.toNat:=by
 unfold Uq;rw[HT.R8];have:HT.Wh xs.length xs.length (Ga i)=i.toNat:=by show(if i<0 then(i+(xs.length:Int)).toNat else min i.toNat xs.length)=_;rw[Gg (by omega)];omega
 rw[this];simp
theorem Qvq(a f d p t e:Gc){c dx b:Gc}:HO.ins C dx (I0 a f d)=HO.ins c b (Wr p t e)->False:=λz=>by injection z with _ _ z;unfold I0 Wr at z;injection z with z _;injection z with z _;exact absurd z (by decide+kernel)
theorem Qrb(R:Qd2 ts ens tl)(k:Nat):Qd2 ts (ens.take k) (tl.take k):=by
 induction R generalizing k with
 |nil=>simp;exact .nil
 |cons h t a=>
  cases k with
  |zero=>exact .nil
  |succ k=>exact .cons h (a k)
theorem Qbb{β:Type}{F:α->β->Prop}{xs:List α}{ys:List β}(R:Paired F xs ys)(k:Nat):Paired F (xs.take k) (ys.take k):=by
 induction R generalizing k with
 |nil=>simp;exact .nil
 |cons h t a=>
  cases k with
  |zero=>exact .nil
  |succ k=>exact .cons h (a k)
structure FrK(bk t:Gc)(H H':Hp):Prop where
 keep:∀b o,H b=Ga o->b≠bk->b≠t->H' b=Ga o
 there:∀b,H' b=Gf->H b=Gf
variable{p:Gc}
def Qow(P:Gj)(w:Gu)(CP g:Gc):Sp:=λvs H Q _=>∃(bk p a f d t e:Gc)(ts:List Th)(tl:Tl)(U:List Th)(h ev:V)(b:Bool)(p1 p2:Nat),vs=[.ref bk,h,ev]/\Vy P w CP g H bk p a f d t e ts tl/\Few U ts tl/\Qfh H h (.tell b (tg ts p1) (tg ts p2))/\Qdj H ev (tw b,p1,p2)/\p1<ts.length/\p2<ts.length/\
 ∀(v:V)(c:Gc)(H':Hp),Vy P w CP g H' bk p a f d t c ts (Jq tl (.tell b (tg ts p1) (tg ts p2))).1->Jo H' (λb=>∃o,H b=Ga o) tl (.tell b (tg ts p1) (tg ts p2)) v->FrK bk t H H'->(c=e\/H c=Gf)->Q v H'
def Qhg(P:Gj)(w:Gu)(CP c:Gc):Sp:=λvs H Q _=>∃(bk p a f d t e:Gc)(ts:List Th)(tl:Tl)(i:Int),vs=[.ref bk,.int i]/\Vy P w CP c H bk p a f d t e ts tl/\
 ∀(v:V)(t' b:Gc)(H':Hp),Vy P w CP c H' bk p a f d t' b ts (Jq tl (.back i)).1->v=(Jq tl (.back i)).2->FrK bk bk H H'->(t'=t\/H t'=Gf)->(b=e\/H b=Gf)->Q v H'
section
variable{P:Gj}{w:Gu}{K:PySem.W.Frag}{mg:GJ->Option Value}{base:Heap}
theorem Qhi:Q3 ["self","moment","forgotten"] ["self","moment"] (Qn Qb3):=by eq_refl
theorem Qn4(F:Wz K "go_back" "Book.go_back" Qb3 f0 fd)(T:Qhh K mg CB)(X:J0 mg):Qz P w K mg base Yb 1 f0 fd ["self","moment"] (Qhg P w CP CB):=by
 refine F.ok Qhi (λvs H Q E h=>?_) (λcdv A outer s H vs Q E hr h=>?_)
 ·obtain⟨bk,p,a,f,d,t,e,ts,tl,i,rfl,_⟩:=h;rfl
 obtain⟨bk,p,a,f,d,t,e,ts,tl,i,rfl,B,q⟩:=h;obtain⟨nu,n1,n2⟩:=T.no;have nd:=Qhi.nd;refine⟨_,Qc (Qy 2 nd (Zs Qck (Qp Z2 rfl X.len PySem.boot_len (Qa (Qu (pv 0) rfl) Qe)) (pv 1)))
  (Qc (Zb (PW.pt (Xd (Qo Ug (pv 1) Qi (Qs _)) (Xt (Qo Ug (pv 2) Qi (Qs _))))) (Qh (Qt (Qs1 rfl n1 n2))) Qv)
  (Qc (Xj (pv 0) (Yl Ub (Qu (pv 0) rfl) Xl (Yn (pv 1))) rfl)
  (Qc (Xj (pv 0) (Yl Ub (Qu (pv 0) rfl) Xl (Yn (pv 1))) rfl)
  (Qh (Qt (pv 2)))))),?_⟩
 obtain⟨dx,g⟩:=B.ob;obtain⟨dp,op⟩:=B.pl.ob;obtain⟨vs,V,W⟩:=B.to;obtain⟨es,aa,O,S,R⟩:=B.en;have lv:=Paired.length W;have le:=(Paired.length S).trans (Paired.length R);refine⟨_,Xb,bk,CB,dx,_,_,Xb,g,T.cl,T.told,Qf1 _ _ _,t,vs,Xb,.inl (Zc.of V),_,Xb,_,_,Xb,Xb,?_⟩;refine⟨_,Xb,_,_,Xb,Xb,_,Xb,?_⟩;have no:¬(0<=i/\i<=(tl.length:Int))->Q (.str "no moment") H:=λh=>q _ t e H (by simp only[Jq];rw[Gg h];exact B) (by simp only[Jq];rw[Gg h]) ⟨λ_ _ e _ _=>e,λ_ h=>h⟩ (.inl Xb) (.inl Xb);by_cases hi:i<0
 ·rw[Gr hi];refine Yy (Yy ?_);exact no (λz=>by omega)
 rw[Gq hi];refine Q6 ⟨_,Xb,_,_,Xb,Xb,_,Xb,?_⟩;by_cases U:(vs.length:Int) - i<0
 ·rw[Gr U];refine Yy ?_;exact no (λz=>by omega)
 rw[Gq U];refine Q6 ?_;have C:0<=i:=by omega
 have h1:i<=(tl.length:Int):=by omega
 refine⟨_,Xb,bk,CB,dx,_,_,Xb,g,T.cl,T.told,Qf1 _ _ _,_,Xb,_,Xb,t,vs,Xb,Zc.of V,λt' k=>?_⟩;rw[Qp3 vs C (by omega)];have s1:=Qf k (.lst (vs.take i.toNat));refine⟨_,Xb,bk,CB,dx,_,Xb,s1 _ _ g,T.cl,T.told,by show 3<1000;decide,?_⟩;rw[Qni];have u:bk≠t':=Qd g k;have Z:e≠bk:=Yi O g nofun;generalize l:upd (upd H t' (.lst (vs.take i.toNat))) bk (.ins CB dx (Wr p t' e))=H2;have D:∀{b o},H b=Ga o->b≠bk->H2 b=Ga o:=λe h=>by rw[<-l];exact Qk (s1 _ _ e) h
 have M:H2 bk=Ga (.ins CB dx (Wr p t' e)):=by rw[<-l];exact Qb
 have x:H2 t'=Ga (.lst (vs.take i.toNat)):=by rw[<-l];exact Qk Qb (Gm u)
 have v:∀{b},H2 b=Gf->H b=Gf:=λ{b}h=>by rw[<-l]at h;exact s1.free (Z1 h)
 refine⟨_,Xb,bk,CB,dx,_,_,Xb,M,T.cl,T.entries,Vt _ _ _,_,Xb,_,Xb,e,es,Xb,Zc.of (D O Z),λn c=>?_⟩;rw[Qp3 es C (by omega)];have G:=Qf c (.lst (es.take i.toNat));refine⟨_,Xb,bk,CB,dx,_,Xb,G _ _ M,T.cl,T.entries,by show 3<1000;decide,?_⟩;rw[R3];have L:bk≠n:=Qd M c;have N:t'≠n:=Qd x c;generalize j:upd (upd H2 n (.lst (es.take i.toNat))) bk (.ins CB dx (Wr p t' n))=y;have r:∀{b o},H b=Ga o->b≠bk->y b=Ga o:=λe h=>by rw[<-j];exact Qk (G _ _ (D e h)) h
 have m:Q4 H y:=λb xs e=>r e (Yi e g nofun);obtain⟨us,I,_⟩:=B.pl.th;obtain⟨ws,J,_⟩:=B.pl.fo;obtain⟨kvs,d1,_⟩:=B.pl.kn;have Y:Vy P w CP CB y bk p a f d t' n ts (tl.take i.toNat):=by
  refine⟨⟨dx,by rw[<-j];exact Qb⟩,B.pl.keep (λo e=>r e (Yi op g (Qvq _ _ _ _ _ _))) (λo e=>r e (Yi I g nofun)) (λo e=>r e (Yi J g nofun)) (λo e=>r e (Yi d1.at_ g nofun)) m,⟨_,by rw[<-j];exact Qk (G _ _ x) (Gm u),Ra.Qr m (Qbb W _)⟩,⟨_,_,by rw[<-j];exact Qk Qb (Gm L),L2.Paired.Z7 (Qbb S _) λ_ _ h=>h.Qr m,Qrb R _⟩,Gm (Qd I k),Gm (Qd J k),N,?_,?_⟩
  ·exact Gm (Qd (D I (Yi I g nofun)) c)
  ·exact Gm (Qd (D J (Yi J g nofun)) c)
 refine⟨_,Xb,q _ t' n y (by simp only[Jq];rw[Gk ⟨C,h1⟩];exact Y) (by simp only[Jq];rw[Gk ⟨C,h1⟩,lv]) ⟨λb o e h _=>r e h,λb h=>v (by rw[<-j]at h;exact G.free (Z1 h))⟩ (.inr k) (.inr (v c))⟩
theorem Qqg:Q3 ["self","deed","entry","entries","net","number"] ["self","deed","entry"] (Qn Qlh):=by eq_refl
theorem Qvb{ac:Tf}(F:Wz K "tell" "Book.tell" Qlh f0 fd)(T:Qhh K mg CB)(TP:Qca K mg CP)(B0:J0 mg)
  (GN:Qz P w K mg base Yb 61 fN fdN ["forms","told"] (Qfk P w C))(kN:KI K fN)(bN:Binds K fdN ["forms","told"] [])(mN:MG mg "net_of" fN)
  (GC:Qz P w K mg base Yb 2 fC ac ["net","entries"] (Qft P w C))(kC:KI K fC)(bC:Binds K ac ["net","entries"] [])(mC:MG mg "least_clash" fC)
  (mL:Yd K CB "lines_for" fL)(GL:Qz P w K mg base Yb 7 fL fdL ["self","net","entry"] (Rv P w C CP CB))(bL:Binds K fdL ["self","net","entry"] []):
  Qz P w K mg base Yb 62 f0 fd ["self","deed","entry"] (Qow P w CP CB):=by
 refine F.ok Qqg (λvs H Q E h=>?_) (λcdv A outer s H vs Q E hr h=>?_)
 ·obtain⟨bk,p,a,f,d,t,e,ts,tl,U,dv,ev,b,p1,p2,rfl,_⟩:=h;rfl
 obtain⟨bk,p,a,f,d,t,e,ts,tl,U,dv,ev,b,p1,p2,rfl,B,FW,av,⟨k,rfl,au⟩,az,aA,q⟩:=h;have aC:Yf 2 _:=hr.mono (by omega);have aD:Yf 7 _:=hr.mono (by omega);have nd:=Qqg.nd;refine⟨_,Qc (Qy 3 nd (Zs Vi (Qu (pv 0) rfl) (Zr (Qa (pv 2) Qe))))
  (Qc (Qy 4 nd (Zo GN hr rfl mN kN bN .nil Q7 (Qa (Qu (Qu (pv 0) rfl) rfl) (Qa (pv 3) Qe))))
  (Qc (Qy 5 nd (Zo GC aC rfl mC kC bC .nil Q7 (Qa (pv 4) (Qa (pv 3) Qe))))
  (Qc (Zb (Qo Oc (pv 5) Uo (Qs _))
   (Qh (Qt (Zf (Qa Zj (Qa (pv 5) (Qa (Zg (pv 0) T.cl mL GL aD bL .nil Q7 (Qa (pv 4) (Qa (Ql Ze (pv 3) (pv 5)) Qe))) Qe)))))) Qv)
  (Qc (Zk (X0 PySem.F.plainAttrs_list PySem.F.slot_list_append PySem.F.type_list_append Z3 (Qu (pv 0) rfl) (Qa (pv 1) Qe)))
  (Qc (Xj (pv 0) (pv 3) rfl)
  (Qh (Qt (Qp Z2 rfl B0.len PySem.boot_len (Qa (pv 3) Qe))))))))),?_⟩
 obtain⟨dx,r⟩:=B.ob;obtain⟨dp,o2⟩:=B.pl.ob;obtain⟨ws,f1,f2⟩:=B.pl.fo;obtain⟨us,u1,_⟩:=B.pl.th;obtain⟨kvs,d1,_⟩:=B.pl.kn;obtain⟨vs,t1,t2⟩:=B.to;obtain⟨es,ab,e1,e2,R⟩:=B.en;have W:=B.pl.nd;have L:=B.pl.cl;have J:=FW.le W;obtain⟨TK,aj⟩:=Qvj W L (λt ht=>FW.good t (FW.sub t ht)) J;have aw:es.length=tl.length:=(Paired.length e2).trans (Paired.length R);have aL:vs.length=tl.length:=Paired.length t2;have aK:=FW.tl;refine⟨_,Xb,bk,CB,dx,_,_,Xb,r,T.cl,T.entries,Vt _ _ _,_,Xb,by show 1<=Gh;decide,λr0 aB=>?_⟩;have s0:=Qf aB (.lst [.ref k]);refine⟨e,r0,es,[.ref k],Xb,Xb,s0 _ _ e1,Qb,by rw[Gy];simp only[List.length_singleton];omega,λi I=>?_⟩;have v:H i=Gf:=s0.free I;have s1:=s0.trans (Qf I (.lst (es++[.ref k])));have g1:(upd (upd H r0 (.lst [.ref k])) i (.lst (es++[.ref k]))) i=Ga (.lst (es++[.ref k])):=Qb;generalize upd (upd H r0 (.lst [.ref k])) i (.lst (es++[.ref k]))=H1 at s1 g1;have Z:=Q4.of s1;have u:Paired (Qdj H1) (es++[.ref k]) (ab++[(tw b,p1,p2)]):=Paired.snoc (L2.Paired.Z7 e2 λ_ _ h=>h.Qr Z) ⟨k,Xb,Z _ _ au⟩;have R':Qd2 ts (ab++[(tw b,p1,p2)]) (tl++[(b,tg ts p1,tg ts p2)]):=Paired.snoc R ⟨Xb,X7 az,X7 aA⟩;refine⟨_,Xb,bk,CB,dx,_,_,Xb,s1 _ _ r,T.cl,T.places,Ut _ _ _,p,CP,dp,_,_,Xb,s1 _ _ o2,TP.cl,TP.nF,Qg9 _ _ _,_,Xb,f,i,ws,_,tfs ts,_,_,Xb,s1 _ _ f1,L2.Paired.Z7 f2 λ_ _ h=>h.Qr Z,g1,u,TK,by rw[Ve];exact J,aj,λen ax=>by rw[Ve];exact Qre R' en ax,by rw[<-Paired.length u,List.length_append,List.length_singleton];omega,λn A tb x H2 N _ U=>?_⟩;have S2:Q5 H H2:=s1.trans N.O1;obtain⟨aH,aI⟩:=Qh3 R' (λp q=>Iff.rfl);have EQ:=Qmt U;have aa:∀p∈x.S,∀q∈x.S,x.lead p=x.lead q↔Cg (tl++[(b,tg ts p1,tg ts p2)]) (tg ts p) (tg ts q):=λp hp q hq=>EQ.cg W L N.inv N.fok aH aI hp hq;have Y:∀a b' n,(a,b',Ga (.told n))∈x.links->(tl++[(b,tg ts p1,tg ts p2)])[n]?=Ga (Ge,tg ts a,tg ts b'):=λa b' n h=>by
  rcases U.rsn _ h with z|⟨j,p',q',h1,h2⟩
  ·cases z
  ·cases h1;obtain⟨aJ,h3,h4⟩:=Qbs R' h2;rw[Qb9 h3]at h4;exact h4
 have X:∀a b,¬(a,b,Ga U5.asked)∈x.links:=λa b h=>by
  rcases U.rsn _ h with z|⟨j,p',q',h1,h2⟩
  ·cases z
  ·cases h1
 refine⟨_,Xb,_,Xb,n,i,A,_,tb,x,_,_,Xb,N.at_,N.O1 _ _ g1,L2.Paired.Z7 u λ_ _ h=>h.Qr (Q4.of N.O1),U.ins,λo H3 g3 ad=>?_⟩;have G:=S2.trans g3;have N3:=N.same g3;have ag:=N3.O1 _ _ g1;refine⟨_,Xb,Xb,_,Xb,?_⟩;rw[Qfv];cases o with
 |some m=>
  refine Yy ?_;obtain⟨p',q',h1,h2,aE,aF,O⟩:=Qmi R' U.ins aa ad;have hm:m<(es++[V.ref k]).length:=by rw[Paired.length u];exact(List.getElem?_eq_some_iff.mp h1).1
  obtain⟨y,hy,af⟩:=Qw u (List.getElem?_eq_getElem hm);rw[h1]at hy;cases hy;obtain⟨cm,ap,ar⟩:=af;refine⟨_,Xb,_,Xb,bk,dx,_,Xb,G _ _ r,Jz _ _ _,_,Xb,_,Xb,_,Xb,i,_,_,_,Xb,Xb,Zc.of ag,Qj (List.getElem?_eq_getElem hm),bk,p,a,f,d,t,e,ts,tl,n,A,_,x,_,_,p',q',Xb,B.same G,⟨cm,ap,N3.O1 _ _ ar⟩,N3.at_,N3.lng TK.few,aE,aF,h2,(λt ht=>FW.good t (FW.sub t ht)),λlv ls H7 g7 hl hb hg M=>?_⟩;refine⟨by show 3<=Gh;decide,λc8 aq=>?_⟩;have s8:=Qf aq (.tup [.str "clash",jv m,lv]);have S8:=(G.trans g7).trans s8;have g:We (tl++[(b,tg ts p1,tg ts p2)]):=⟨_,_,List.mem_of_getElem? O.1,O.2.1⟩;refine q _ e _ (by simp only[Jq];rw[Gk g];exact B.same S8) (.inr ⟨c8,m,_,_,lv,ls.map (lth ts),Xb,Qb,O,(hl.ex λc ys _ hx⟨o,ho⟩=>hx ⟨o,G _ _ ho⟩).kp (Q4.of s8) (λe _=>s8 _ _ e),Qju L hg hb Y (λa b h=>absurd h (X a b)),Qcq M⟩) ⟨λb o e _ _=>S8 _ _ e,λb h=>S8.free h⟩ (.inl Xb)
 |none=>
  refine Q6 ?_;have ay:=Qly R' U.ins aa ad;have g:¬We (tl++[(b,tg ts p1,tg ts p2)]):=λ⟨a,c,h1,h2⟩=>ay a c h1 h2;have t3:=G _ _ t1;refine⟨_,Xb,bk,CB,dx,_,_,Xb,G _ _ r,T.cl,T.told,Qf1 _ _ _,.inl ⟨Xb,_,Zc.of t3⟩,_,Xb,t,vs,_,Xb,Xb,t3,by rw[Gy];omega,?_⟩;have tb:t≠bk:=Yi t1 r nofun;refine⟨_,Xb,_,Xb,bk,CB,dx,_,Xb,Qk (G _ _ r) (Gm tb),T.cl,T.entries,by show 3<1000;decide,?_⟩;rw[R3];have ai:t≠i:=Qd t1 v;have aG:bk≠i:=Qd r v;generalize l:upd (upd H3 t (.lst (vs++[dv]))) bk (.ins CB dx (Wr p t i))=H4;have k4:∀{b o},H b=Ga o->b≠bk->b≠t->H4 b=Ga o:=λe h1 h2=>by rw[<-l];exact Qk (Qk (G _ _ e) h2) h1
  have D:Q4 H H4:=λb xs e=>k4 e (Yi e r nofun) (Yi e t1 nofun);have ah:H4 i=Ga (.lst (es++[.ref k])):=by rw[<-l];exact Qk (Qk ag (Gm ai)) (Gm aG)
  have ak:Q4 H1 H4:=λc xs ec=>by have:H3 c=Ga (.tup xs):=N3.O1 _ _ ec;rw[<-l];exact Qk (Qk this (Yi this t3 nofun)) (Yi this (G _ _ r) nofun)
  obtain⟨ca,v1,v2,al,am,an,ao⟩:=av;have BK:Vy P w CP CB H4 bk p a f d t i ts (tl++[(b,tg ts p1,tg ts p2)]):=by refine⟨⟨dx,by rw[<-l];exact Qb⟩,B.pl.keep (λo e=>k4 e (Yi o2 r (Qvq _ _ _ _ _ _)) (Yi o2 t1 nofun)) (λo e=>k4 e (Yi u1 r nofun) (Gm B.ta)) (λo e=>k4 e (Yi f1 r nofun) (Gm B.tf)) (λo e=>k4 e (Yi d1.at_ r nofun) (Yi d1.at_ t1 nofun)) D,⟨_,by rw[<-l];exact Qk Qb tb,Paired.snoc (t2.Qr D) ⟨ca,v1,v2,al,D _ _ am,an.Qr D,ao.Qr D⟩⟩,⟨_,_,ah,L2.Paired.Z7 u λ_ _ h=>h.Qr ak,R'⟩,B.ta,B.tf,ai,Gm (Qd u1 v),Gm (Qd f1 v)⟩
  refine⟨_,Xb,i,_,Xb,.inl (Zc.of ah),?_⟩;have ae:((es++[V.ref k]).length:Int)=(tl.length:Int)+1:=by rw[List.length_append,List.length_singleton,aw];omega
  rw[ae];exact q _ i H4 (by simp only[Jq];rw[Gg g];exact BK) (.inl ⟨g,Xb⟩) ⟨λb o e h1 h2=>k4 e h1 h2,λb h=>G.free (by rw[<-l]at h;exact Z1 (Z1 h))⟩ (.inr v)
end
structure FrA(bk a f d t:Gc)(H H':Hp):Prop where
 keep:∀b o,H b=Ga o->b≠bk->b≠a->b≠f->b≠d->b≠t->H' b=Ga o
 there:∀b,H' b=Gf->H b=Gf
def Qco(P:Gj)(w:Gu)(CP i:Gc):Sp:=λvs H Q _=>∃(bk p a f d t e:Gc)(ts:List Th)(tl:Tl)(U:List Th)(j:V)(g:Dd),vs=[.ref bk,j]/\Vy P w CP i H bk p a f d t e ts tl/\Few U ts tl/\Qfh H j g/\g.fits U/\
 ∀(v:V)(t' h:Gc)(c:List Th)(H':Hp),Vy P w CP i H' bk p a f d t' h c (Jq tl g).1->Jo H' (λb=>(∃o,H b=Ga o)\/b=t') tl g v->(∀x∈c,x∈U)->FrA bk a f d t H H'->(t'=t\/H t'=Gf)->(h=e\/H h=Gf)->Q v H'
def Qiu(P:Gj)(w:Gu)(CP c:Gc):Sp:=λvs H Q _=>∃(bk dx:Gc),vs=[.ref bk]/\H bk=Ga (.ins c dx [])/\
 ∀(p a f d t e:Gc)(H':Hp),Vy P w CP c H' bk p a f d t e [] []->(∀b o,H b=Ga o->b≠bk->H' b=Ga o)->H a=Gf->H f=Gf->H d=Gf->H t=Gf->H e=Gf->Q .non H'
theorem Qgi{m:List Th}(h:ts[j]?=Ga t):(ts++m)[j]?=Ga t:=by rw[List.getElem?_append_left (List.getElem?_eq_some_iff.mp h).1];exact h
section
variable{P:Gj}{w:Gu}{K:PySem.W.Frag}{mg:GJ->Option Value}{base:Heap}
theorem Vy.place{bk a t e:Gc}{m:List Th}(B:Vy P w CP CB H bk p a f d t e ts tl)(x:Pl P w CP H' p a f d (ts++m))(F:Fr3 a f d H H'):Vy P w CP CB H' bk p a f d t e (ts++m) tl:=by obtain⟨dx,b⟩:=B.ob;obtain⟨us,o,_⟩:=B.pl.th;obtain⟨r,q,_⟩:=B.pl.fo;obtain⟨kvs,c,_⟩:=B.pl.kn;obtain⟨vs,j,n⟩:=B.to;obtain⟨es,g,i,l,R⟩:=B.en;have k:=F.Qr B.pl;refine⟨⟨dx,F.keep _ _ b (Yi b o nofun) (Yi b q nofun) (Yi b c.at_ nofun)⟩,x,⟨vs,F.keep _ _ j B.ta B.tf (Yi j c.at_ nofun),n.Qr k⟩,⟨es,g,F.keep _ _ i B.ea B.ef (Yi i c.at_ nofun),L2.Paired.Z7 l λ_ _ h=>h.Qr k,L2.Paired.Z7 R λ_ _ h=>⟨h.1,Qgi h.2.1,Qgi h.2.2⟩⟩,B.ta,B.tf,B.te,B.ea,B.ef⟩
theorem Few.grow(F:Few U ts tl)(b:t∈U):Few U (Xq ts t.inside) tl:=⟨λs a=>by
 rw[Qch]at a;rcases a with h|h
 ·exact F.sub s h
 ·exact F.cl t b s h,F.cl,F.good,F.len,F.tl⟩
theorem Qp0:Q3 ["self"] ["self"] (Qn Qbp):=by eq_refl
theorem Qnr(F:Wz K "__init__" "Book.__init__" Qbp f0 fd)(T:Qhh K mg CB)(TP:Qca K mg CP)(v:Mk K CP fI)(J:Qz P w K mg base Yb 1 fI fdI ["self"] (Qiq P w CP))(L:Binds K fdI ["self"] []):Qz P w K mg base Yb 3 f0 fd ["self"] (Qiu P w CP CB):=by
 refine F.ok Qp0 (λvs H Q E h=>?_) (λcdv A outer s H vs Q E U h=>?_)
 ·obtain⟨bk,dx,rfl,_⟩:=h;rfl
 obtain⟨bk,dx,rfl,l,q⟩:=h;refine⟨_,Qc (Xj (pv 0) (Qhj v J U rfl TP.mgC L .nil Q7) rfl) (Qc (Xj (pv 0) (Zr Qe) rfl) (Qh (Xj (pv 0) (Zr Qe) rfl))),?_⟩;intro p dp y x S;have u:Q5 H (upd (upd H dp (.own p)) p (.ins CP dp [])):=λc o e=>Qk (Qk e (Qd e x)) (Qd e y);refine⟨p,dp,Xb,Qb,λa f d H1 r W O R hd=>⟨Xb,?_⟩⟩;have n:Q5 H H1:=λb o e=>W b o (u _ _ e) (Qd e y);have Y:p≠bk:=Gm (Qd l y);obtain⟨N,X⟩:=r.ob;obtain⟨us,B,_⟩:=r.th;obtain⟨Z,C,_⟩:=r.fo;obtain⟨kvs,M,_⟩:=r.kn;refine⟨_,Xb,bk,CB,dx,[],Xb,n _ _ l,T.cl,T.places,by show 0<1000;decide,Gx _,λt V=>?_⟩;have m:=n _ _ l;have j:=Z1 V;have tb:t≠bk:=Gm (Qd m j);refine⟨_,Xb,bk,CB,dx,_,Xb,Qk Qb (Gm tb),T.cl,T.told,by show 1<1000;decide,Gx _,λe I=>?_⟩;have i:=Z1 (Z1 (Z1 I));have D:e≠bk:=Gm (Qd m i);have G:t≠e:=λz=>by have:=Z1 I;rw[<-z,Qb]at this;cases this
 refine⟨_,Xb,bk,CB,dx,_,Xb,Qk Qb (Gm D),T.cl,T.entries,by show 2<1000;decide,?_⟩;have kp:∀{b o},H1 b=Ga o->b≠bk->(upd (upd (upd (upd (upd H1 bk (.ins CB dx (Yv "places" (.ref p) []))) t (.lst [])) bk (.ins CB dx (Yv "told" (.ref t) (Yv "places" (.ref p) [])))) e (.lst [])) bk (.ins CB dx (Yv "entries" (.ref e) (Yv "told" (.ref t) (Yv "places" (.ref p) []))))) b=Ga o:=λk hb=>Qk (Qk (Qk (Qk (Qk k hb) (Qd k j)) hb) (Qd k i)) hb;refine q p a f d t e _ ⟨⟨dx,Qb⟩,r.keep (λo g=>kp g Y) (λo g=>kp g (Yi B m nofun)) (λo g=>kp g (Yi C m nofun)) (λo g=>kp g (Yi M.at_ m nofun)) (λb xs g=>kp g (Yi g m nofun)),⟨[],Qk (Qk (Qk Qb tb) G) tb,.nil⟩,⟨[],[],Qk Qb D,.nil,.nil⟩,Gm (Qd B j),Gm (Qd C j),G,Gm (Qd B i),Gm (Qd C i)⟩ (λb o g hb=>kp (n _ _ g) hb) (u.free O) (u.free R) (u.free hd) (n.free j) (n.free i)
theorem Qh0:Q3 ["self","deed","entry"] ["self","deed"] (Qn Qbu):=by eq_refl
theorem Qs7{d:V}{a:Dd}(h:Qfh H d a):∃c k xs,d=.ref c/\H c=Ga (.tup (.str k::xs))/\(k="back"↔∃i,a=.back i)/\(k="ask"↔∃s t,a=.ask s t):=by
 cases a with
 |tell b s t=>
  obtain⟨c,e,f,h1,h2,_⟩:=h;refine⟨c,_,_,h1,h2,⟨λz=>?_,λ⟨i,z⟩=>by cases z⟩,⟨λz=>?_,λ⟨i,j,z⟩=>by cases z⟩⟩
  ·cases b<;>exact absurd z (by decide+kernel)
  ·cases b<;>exact absurd z (by decide+kernel)
 |ask s t=>obtain⟨c,e,f,h1,h2,_⟩:=h;exact⟨c,_,_,h1,h2,⟨λz=>absurd z (by decide+kernel),λ⟨i,z⟩=>by cases z⟩,⟨λz=>⟨s,t,rfl⟩,λ_=>rfl⟩⟩
 |back i=>obtain⟨c,h1,h2⟩:=h;exact⟨c,_,_,h1,h2,⟨λz=>⟨i,Xb⟩,λ_=>rfl⟩,⟨λz=>absurd z (by decide+kernel),λ⟨i,j,z⟩=>by cases z⟩⟩
theorem Qmz{fG fP fT:Gc}{ad ae ac af:Tf}(F:Wz K "answer" "Book.answer" Qbu f0 fd)(T:Qhh K mg CB)(TP:Qca K mg CP)
  (mG:Yd K CB "go_back" fG)(GG:Qz P w K mg base Yb 1 fG ad ["self","moment"] (Qhg P w CP CB))(bG:Binds K ad ["self","moment"] [])(mP:Yd K CP "place_of" fP)(GP:Qz P w K mg base Yb 52 fP ae ["self","thing"] (Qeg P w CP))(bP:Binds K ae ["self","thing"] [])
  (mA:Yd K CB "ask" fA)(GA:Qz P w K mg base Yb 62 fA ac ["self","entry"] (Qvz P w CP CB))(bA:Binds K ac ["self","entry"] [])(mT:Yd K CB "tell" fT)(GT:Qz P w K mg base Yb 62 fT af ["self","deed","entry"] (Qow P w CP CB))(bT:Binds K af ["self","deed","entry"] []):
  Qz P w K mg base Yb 63 f0 fd ["self","deed"] (Qco P w CP CB):=by
 refine F.ok Qh0 (λvs H Q E h=>?_) (λcdv A outer s H vs Q E hr h=>?_)
 ·obtain⟨bk,p,a,f,d,t,e,ts,tl,U,dv,dd,rfl,_⟩:=h;rfl
 obtain⟨bk,p,a,f,d,t,e,ts,tl,U,dv,dd,rfl,B,Z,x,g,q⟩:=h;have ar:Yf 1 _:=hr.mono (by omega);have D:Yf 52 _:=hr.mono (by omega);have nd:=Qh0.nd;refine⟨_,Qc (Zb (Qo Xi (Ql Qm (pv 1) Qi) Zj (Qs _)) (Qh (Qt (Zg (pv 0) T.cl mG GG ar bG .nil Q7 (Qa (Ql Qm (pv 1) Qi) Qe)))) Qv)
  (Qc (Qy 2 nd (Zf (Qa (Ql Qm (pv 1) Qi) (Qa (Zg (Qu (pv 0) rfl) TP.cl mP GP D bP .nil Q7 (Qa (Ql Qm (pv 1) Qi) Qe)) (Qa (Zg (Qu (pv 0) rfl) TP.cl mP GP D bP .nil Q7 (Qa (Ql Qm (pv 1) Qi) Qe)) Qe)))))
  (Qc (Zb (Qo Xi (Ql Qm (pv 1) Qi) Zj (Qs _)) (Qh (Qt (Zg (pv 0) T.cl mA GA hr bA .nil Q7 (Qa (pv 2) Qe)))) Qv)
  (Qh (Qt (Zg (pv 0) T.cl mT GT hr bT .nil Q7 (Qa (pv 1) (Qa (pv 2) Qe))))))),?_⟩
 obtain⟨dx,o1⟩:=B.ob;obtain⟨c,k,xs,rfl,R,kb,ka⟩:=Qs7 x;refine⟨_,Xb,c,_,_,_,Xb,Xb,Q9.of R,Ru _ _,Xb,_,Xb,?_⟩;rw[Q8];obtain⟨us,u1,_⟩:=B.pl.th;obtain⟨ws,w1,_⟩:=B.pl.fo;obtain⟨kvs,d1,_⟩:=B.pl.kn;obtain⟨aE,t1,_⟩:=B.to;by_cases hb:k="back"
 ·subst hb;rw[DV];refine Yy ?_;obtain⟨i,rfl⟩:=kb.mp rfl;obtain⟨c',h1,h2⟩:=x;cases h1;refine⟨_,Xb,bk,dx,_,Xb,o1,Qn3 _ _ _,_,Xb,c,_,_,_,Xb,Xb,Q9.of h2,I8 _ _ _,bk,p,a,f,d,t,e,ts,tl,i,Xb,B,λv t' e' H' B' S F' au ao=>?_⟩;exact q v t' e' ts H' B' S Z.sub ⟨λb o m h1 _ _ _ _=>F'.keep b o m h1 h1,F'.there⟩ au ao
 have aw:(k==("back":GJ))=Gp:=by simpa using hb
 rw[aw];refine Q6 ?_;obtain⟨s,j,n,r,av,i1,i2,hs,ht,an⟩:∃s j n r,xs=[n,r]/\Zu H n s/\Zu H r j/\s∈U/\j∈U/\((k="ask"/\dd=.ask s j)\/(k≠"ask"/\∃b,k=tw b/\dd=.tell b s j)):=by
  cases dd with
  |tell b s j=>obtain⟨c',n,r,h1,h2,N,O⟩:=x;cases h1;rw[R]at h2;cases h2;exact⟨s,j,n,r,Xb,N,O,g.1,g.2,.inr ⟨(λz=>by obtain⟨_,_,z⟩:=ka.mp z;cases z),b,rfl,rfl⟩⟩
  |ask s j=>obtain⟨c',n,r,h1,h2,N,O⟩:=x;cases h1;rw[R]at h2;cases h2;exact⟨s,j,n,r,Xb,N,O,g.1,g.2,.inl ⟨Xb,Xb⟩⟩
  |back i=>exact absurd (kb.mpr ⟨i,Xb⟩) hb
 subst av;obtain⟨dp,op⟩:=B.pl.ob;have gs:=Z.good s hs;have gt:=Z.good j ht;have aA:=Z.le B.pl.nd;refine⟨_,Xb,c,_,_,_,Xb,Xb,Q9.of R,Ru _ _,_,Xb,bk,CB,dx,_,_,Xb,o1,T.cl,T.places,Ut _ _ _,p,dp,_,Xb,op,Qc2 _ _ _,_,Xb,c,_,_,_,Xb,Xb,Q9.of R,I8 _ _ _,p,n,s,a,f,d,ts,Xb,B.pl,i1,gs.1,by have:=gs.2.1;omega,by have:=gs.2.2;omega,λG H1 x1 aq F1=>?_⟩;obtain⟨m1,ab⟩:=Vf s.inside ts;have ai:=x1;rw[ab]at ai;have I:=B.place ai F1;rw[<-ab]at I;have FW1:=Z.grow hs;have aB:=FW1.le I.pl.nd;have W:=F1.Qr B.pl;obtain⟨al,ax⟩:=I.ob;obtain⟨ak,ay⟩:=I.pl.ob;refine⟨_,Xb,bk,CB,al,_,_,Xb,ax,T.cl,T.places,Ut _ _ _,p,ak,_,Xb,ay,Qc2 _ _ _,_,Xb,c,_,_,_,Xb,Xb,Q9.of (W _ _ R),Qit _ _ _ _,p,r,j,a,f,d,_,Xb,I.pl,i2.Qr W,gt.1,by have:=gt.2.1;omega,by have:=gt.2.2;omega,λV H2 x2 ag F2=>?_⟩;obtain⟨m2,M⟩:=Vf j.inside (Xq ts s.inside);have aj:=x2;rw[M]at aj;have B2:=I.place aj F2;rw[<-M]at B2;have FW2:=FW1.grow ht;have X:Q4 H H2:=λb xs m=>(F2.Qr I.pl) _ _ (W _ _ m);have C:(Xq (Xq ts s.inside) j.inside)[G]?=Ga s:=by rw[M];exact Qgi aq
 refine⟨by show 3<=Gh;decide,λL am=>?_⟩;have s3:=Qf am (.tup [.str k,jv G,jv V]);have J:=B2.same s3;generalize az:Xq (Xq ts s.inside) j.inside=l at*;have e1:=Ud C;have e2:=Ud ag;have l1:G<l.length:=(List.getElem?_eq_some_iff.mp C).1;have l2:V<l.length:=(List.getElem?_eq_some_iff.mp ag).1;have Y:Fr3 a f d H (upd H2 L (.tup [.str k,jv G,jv V])):=(F1.trans F2).trans (Fr3.of s3);obtain⟨aa,o3⟩:=J.ob;obtain⟨aC,u3,_⟩:=J.pl.th;obtain⟨aF,w3,_⟩:=J.pl.fo;obtain⟨aD,t3,_⟩:=J.to;have y:(upd H2 L (.tup [.str k,jv G,jv V])) c=Ga (.tup (.str k::[n,r])):=s3 _ _ (X _ _ R);have back:∀b o,H b=Ga o->∃u,(upd H2 L (.tup [.str k,jv G,jv V])) b=Ga u:=λb o m=>ED.mp λz=>by rw[Y.there b z]at m;cases m
 refine⟨_,Xb,c,_,_,_,Xb,Xb,Q9.of y,Ru _ _,Xb,_,Xb,?_⟩;rw[Q8];rcases an with⟨rfl,rfl⟩|⟨hk,b,rfl,rfl⟩
 ·rw[DV];refine Yy ?_;refine⟨_,Xb,bk,aa,_,Xb,o3,Qw5 _ _ _,_,Xb,bk,p,a,f,d,t,e,l,tl,U,.ref L,G,V,Xb,J,FW2,⟨L,Xb,Qb⟩,l1,l2,λv H4 g4 S=>?_⟩;rw[e1,e2]at S;refine q v t e l H4 (J.same g4) (S.ex λc' ys _ hx z=>hx ?_) FW2.sub ⟨λb o m h1 h2 N O h5=>g4 _ _ (Y.keep b o m h2 N O),λb h=>Y.there b (g4.free h)⟩ (.inl Xb) (.inl Xb);rcases z with⟨o,ho⟩|z
  ·exact back _ _ ho
  ·rw[z];exact⟨_,t3⟩
 ·have ah:(tw b==("ask":GJ))=Gp:=by simpa using hk
  rw[ah];refine Q6 ?_;refine⟨_,Xb,bk,aa,_,Xb,o3,Qtp _ _ _,_,Xb,_,Xb,bk,p,a,f,d,t,e,l,tl,U,.ref c,.ref L,b,G,V,Xb,J,FW2,?_,⟨L,Xb,Qb⟩,l1,l2,λv e' H4 B4 S F4 ap=>?_⟩
  ·rw[e1,e2];exact⟨c,n,r,Xb,y,(i1.Qr X).same s3,(i2.Qr X).same s3⟩
  ·rw[e1,e2]at B4 S;refine q v t e' l H4 B4 (S.ex λc' ys _ hx z=>hx ?_) FW2.sub ⟨λb o m h1 h2 N O h5=>F4.keep _ _ (Y.keep b o m h2 N O) h1 h5,λb h=>Y.there b (F4.there b h)⟩ (.inl Xb) (ap.elim .inl λz=>.inr (Y.there _ z));rcases z with⟨o,ho⟩|z
   ·exact back _ _ ho
   ·rw[z];exact⟨_,t3⟩
end
def Qvt(H:Hp)(X:Gc->Prop)(dl:List Dd)(a:List V):Prop:=∀(k:Nat)(d:Dd)(v:V),dl[k]?=Ga d->a[k]?=Ga v->Jo H X (after [] (dl.take k)) d v
def Qqt:Sp:=λvs H Q _=>∃(l:Gc)(es:List V)(dl:List Dd)(U:List Th),vs=[.ref l]/\H l=Ga (.lst es)/\Rc H es dl/\Qpc U/\(∀d∈dl,d.fits U)/\dl.length<=800/\
 ∀(r:Gc)(a:List V)(H':Hp),Q5 H H'->H r=Gf->H' r=Ga (.lst a)->a.length=dl.length->Qvt H' (λb=>b=r) dl a->Q (.ref r) H'
theorem Qxi{dl:List Dd}(a:Qpc U)(h:∀x∈ts,x∈U)(b:dl.length<=800)(i:Nat):Few U ts (after [] (dl.take i)):=⟨h,a.cl,a.good,a.len,by have:=Qao (ds:=dl.take i) (tl:=[]);rw[List.length_take]at this;simp only[List.length_nil]at this;omega⟩
section
variable{P:Gj}{w:Gu}{K:PySem.W.Frag}{mg:GJ->Option Value}{base:Heap}
theorem Vy.but{CP g:Gc}{H:Hp}{bk p a f d t e r:Gc}{ts:List Th}{tl:Tl}{ys zs:List V}(B:Vy P w CP g H bk p a f d t e ts tl)(c:H r=Ga (.lst ys))(m:r≠a)(o:r≠f)(rt:r≠t)(n:r≠e):Vy P w CP g (upd H r (.lst zs)) bk p a f d t e ts tl:=by
 obtain⟨dx,i⟩:=B.ob;obtain⟨vs,q,s⟩:=B.to;obtain⟨es,b,k,l,R⟩:=B.en;have j:Q4 H (upd H r (.lst zs)):=Zz λxs e=>by rw[c]at e;cases e
 exact⟨⟨dx,Qk i (Yi i c nofun)⟩,B.pl.but c m o,⟨vs,Qk q (Gm rt),s.Qr j⟩,⟨es,b,Qk k (Gm n),L2.Paired.Z7 l λ_ _ h=>h.Qr j,R⟩,B.ta,B.tf,B.te,B.ea,B.ef⟩
theorem FrA.Qr{bk a t e:Gc}(F:FrA bk a f d t H H')(B:Vy P w CP CB H bk p a f d t e ts tl):Q4 H H':=λb xs c=>by obtain⟨dx,h⟩:=B.ob;obtain⟨us,j,_⟩:=B.pl.th;obtain⟨m,k,_⟩:=B.pl.fo;obtain⟨kvs,g,_⟩:=B.pl.kn;obtain⟨vs,i,l⟩:=B.to;exact F.keep _ _ c (Yi c h nofun) (Yi c j nofun) (Yi c k nofun) (Yi c g.at_ nofun) (Yi c i nofun)
theorem FrA.lst{CP g:Gc}{H H':Hp}{bk p a f d t e:Gc}{ts:List Th}{tl:Tl}(F:FrA bk a f d t H H')(B:Vy P w CP g H bk p a f d t e ts tl){c:Gc}{xs:List V}(b:H c=Ga (.lst xs))(h1:c≠a)(h2:c≠f)(i:c≠t):H' c=Ga (.lst xs):=by obtain⟨dx,j⟩:=B.ob;obtain⟨kvs,h,_⟩:=B.pl.kn;exact F.keep _ _ b (Yi b j nofun) h1 h2 (Yi b h.at_ nofun) i
theorem Qe2:Q3 ["deeds","book"] ["deeds"] (Qn Jy):=by eq_refl
theorem Q1x:(["deed","book"]:List GJ).Nodup:=by decide+kernel
theorem Qj0{X:Tf}(F:Wz K "answers" "answers" Jy f0 fd)(T:Qhh K mg CB)(ai:Mk K CB fI)(GI:Qz P w K mg base Yb 3 fI fdI ["self"] (Qiu P w CP CB))(bI:Binds K fdI ["self"] [])
  (mA:Yd K CB "answer" fA)(GA:Qz P w K mg base Yb 63 fA X ["self","deed"] (Qco P w CP CB))(bA:Binds K X ["self","deed"] []):Qz P w K mg base Yb 64 f0 fd ["deeds"] Qqt:=by
 refine F.ok Qe2 (λvs H Q E h=>?_) (λcdv A outer s H vs Q E hr h=>?_)
 ·obtain⟨l,es,dl,U,rfl,_⟩:=h;rfl
 obtain⟨l,es,dl,U,rfl,hl,aa,hU,ab,ad,q⟩:=h;have ar:Yf 4 _:=hr.mono (by omega);have nd:=Qe2.nd;refine⟨_,Qc (Vg (i:=1) nd rfl (Dp Xb) (Qhj ai GI ar rfl T.mgC bI .nil Q7))
  (Qh (Qt (Vl (te:=Qhz CB "answer" (Qco P w CP CB) [] E0 (Vv 1) (Qa8 (Vv 0) Qjx)) (own:=["deed"]) (fv:=[(1,"book")]) rfl (S:=(by eq_refl:Xx (Qn Jy) _)) (.cons rfl (TR Xb) rfl .nil)
   (Z9 (pv 0)) (λ_ _ _ _ _=>Xf (i:=0) Q1x rfl (TR Xb) (Dp Xb)) (λ_ _ _ _ _=>X6) (λ_ _ _ _ _=>Zg (pv 1) T.cl mA GA hr bA .nil Q7 (Qa (pv 0) Qe))))),?_⟩
 intro bk dx M am aC;have s0:Q5 H (upd (upd H dx (.own bk)) bk (.ins CB dx [])):=λc o e=>Qk (Qk e (Qd e am)) (Qd e M);refine⟨bk,dx,Xb,Qb,λp a f d t e H1 R k1 ha hf hd ht he=>⟨Xb,?_⟩⟩;have g1:Q5 H H1:=λb o B=>k1 b o (s0 _ _ B) (Qd B M);have ak:=s0.free ha;have ao:=s0.free hf;have al:=s0.free hd;have au:=s0.free ht;refine⟨_,Xb,l,Xb,⟨_,Zc.of (g1 _ _ hl)⟩,λr n=>?_⟩;obtain⟨us,u1,_⟩:=R.pl.th;obtain⟨ws,w1,_⟩:=R.pl.fo;obtain⟨aE,t1,_⟩:=R.to;obtain⟨aA,az,e1,_⟩:=R.en;have ra:r≠a:=Gm (Qd u1 n);have rf:r≠f:=Gm (Qd w1 n);have rt:r≠t:=Gm (Qd t1 n);have re:r≠e:=Gm (Qd e1 n);have s2:=Qf n (.lst []);have av:es.length=dl.length:=Paired.length aa;refine Ip (K:=K) (a:=l) (xs:=es) (small (by omega)) (λi ys σ H2=>∃(x0:Option V)(t e:Gc)(ts:List Th),σ=[x0,Ga (.ref bk)]/\Vy P w CP CB H2 bk p a f d t e ts (after [] (dl.take i))/\(∀x∈ts,x∈U)/\Q5 H H2/\H t=Gf/\r≠t/\r≠e/\Qvt H2 (λb=>b=a\/b=f\/b=t\/b=r) (dl.take i) ys)
  ⟨_,t,e,[],Xb,R.same s2,(λx j=>nomatch j),g1.trans s2,au,rt,re,(λk d v D=>by simp at D)⟩ (λi ys σ H2 _⟨_,_,_,_,_,_,_,g,_⟩=>Zc.of (g _ _ hl)) ?_ ?_
 ·rintro i y ys σ H2 hi ae ⟨x0,t,e,ts,rfl,I,sub,Z,t0,rt,re,G⟩ u;obtain⟨dd,N,hy⟩:=Qw aa hi;obtain⟨aj,o2⟩:=I.ob;have ay:Q4 H H2:=Q4.of Z;refine⟨_,Xb,bk,aj,_,Xb,o2,Qnm _ _ _,_,Xb,bk,p,a,f,d,t,e,ts,_,U,y,dd,Xb,I,Qxi hU sub ad i,hy.Qr ay,ab dd (List.mem_of_getElem? N),λv t' e' ax W B3 hv ah F3 O an=>?_⟩;have r3:=F3.lst I u ra rf rt;have ag:r≠t':=O.elim (λz=>z▸rt) (λz=>Qd u z);have af:r≠e':=an.elim (λz=>z▸re) (λz=>Qd u z);have g3:Q5 H W:=λb o B=>F3.keep b o (Z _ _ B) (Qd B M) (Qd B ak) (Qd B ao) (Qd B al) (Qd B t0);have aw:H t'=Gf:=O.elim (λz=>z▸t0) (λz=>Z.free z);obtain⟨aD,u2,_⟩:=I.pl.th;obtain⟨aF,w2,_⟩:=I.pl.fo;refine⟨r3,_,t',e',ax,Xb,(by rw[Qcv N];exact B3.but r3 ra rf ag af),ah,λb o B=>Qk (g3 _ _ B) (Qd B (g1.free n)),aw,ag,af,λk dk vk D m=>?_⟩;have L:Q4 W (upd W r (.lst (ys++[v]))):=Zz λxs e=>by rw[r3]at e;cases e
  have J:∀{c:Gc}{xs:List V},W c=Ga (.lst xs)->¬(c=a\/c=f\/c=t'\/c=r)->(upd W r (.lst (ys++[v]))) c=Ga (.lst xs):=λC j=>Qk C (λz=>j (.inr (.inr (.inr z))));have ap:k<i+1:=by have:=(List.getElem?_eq_some_iff.mp D).1;rw[List.length_take]at this;omega
  have ek:(dl.take (i+1)).take k=dl.take k:=by rw[List.take_take,Ep (by omega)]
  rw[ek];rw[List.getElem?_take_of_lt ap]at D;rcases Te k i with aq|aB
  ·rw[List.getElem?_append_left (by omega)]at m;have h0:=G k dk vk (by rw[List.getElem?_take_of_lt aq];exact D) m;rw[List.take_take,Ep (by omega)]at h0;have h1:=h0.ex (Y:=λb=>b=a\/b=f\/b=t\/b=t'\/b=r) λc xs C j z=>by
    rcases z with z|z|z|z|z
    ·exact j (.inl z)
    ·exact j (.inr (.inl z))
    ·exact j (.inr (.inr (.inl z)))
    ·rcases O with w3|w3
     ·exact j (.inr (.inr (.inl (z.trans w3))))
     ·rw[z,w3]at C;cases C
    ·exact j (.inr (.inr (.inr z)))
   have h2:=h1.kp (F3.Qr I) λ{c xs}C j=>F3.lst I C (λz=>j (.inl z)) (λz=>j (.inr (.inl z))) (λz=>j (.inr (.inr (.inl z))));have h3:=h2.ex (Y:=λb=>b=a\/b=f\/b=t'\/b=r) λc xs C j z=>by
    rcases z with z|z|z|z
    ·exact j (.inl z)
    ·exact j (.inr (.inl z))
    ·exact j (.inr (.inr (.inr (.inl z))))
    ·exact j (.inr (.inr (.inr (.inr z))))
   exact h3.kp L J
  ·have ac:k=i:=by omega
   subst ac;rw[List.getElem?_append_right (by omega),ae,Nat.sub_self]at m;have m:v=vk:=by simpa using m
   subst m;rw[N]at D;cases D;exact(hv.ex (Y:=λb=>b=a\/b=f\/b=t'\/b=r) λc xs C j z=>by
    rcases z with z|z|z|z
    ·exact j (.inl (by rw[z];exact⟨_,u2⟩))
    ·exact j (.inl (by rw[z];exact⟨_,w2⟩))
    ·exact j (.inr z)
    ·exact j (.inl (by rw[z];exact⟨_,u⟩))).kp L J
 ·rintro ys σ H2 ae ⟨x0,t,e,ts,rfl,I,sub,Z,t0,rt,re,G⟩ u;rw[av,List.take_length]at G;exact q r ys H2 Z (g1.free n) u (by omega) λk dk vk D m=>(G k dk vk D m).ex λc xs C j z=>j (.inr (.inr (.inr z)))
end
open PySem L2 Sb
structure Blt(mg:GJ->Option Value):Prop where
 len:mg "len"=Gf
 min:mg "min"=Gf
 abs:mg "abs"=Gf
 list:mg "list"=Gf
 tuple:mg "tuple"=Gf
 str:mg "str"=Gf
 bool:mg "bool"=Gf
 int:mg "int"=Gf
 isinstance:mg "isinstance"=Gf
 range:mg "range"=Gf
 reversed:mg "reversed"=Gf
def Qmm:T2->List T2
 |.While _ b _ _=>b
 |_=>[]
abbrev cSt(i:Nat):T2:=(Ua Wu).getD i (.Pass ⟨0,0,0,0⟩)
abbrev Qyw:T2:=(Qmm (cSt 7)).getD 1 (.Pass ⟨0,0,0,0⟩)
abbrev Qy3:T2:=(Qmm (cSt 7)).getD 2 (.Pass ⟨0,0,0,0⟩)
abbrev cN:List GJ:=["_law_told","_law_things","_law_todo","_law_word","_law_one","_law_other","_law_leaders","_law_part","_law_pairs","_law_names","_law_going","_law_k","_law_j","_law_two","_law_inner","_law_old","_law_name"]
theorem Us:Q3 cN ["_law_told","_law_things"] (Qn Wu):=by eq_refl
theorem nd2:(["_law_part","_law_leaders"]:List GJ).Nodup:=by decide+kernel
def Good(tl:Tl)(S:List Th)(a:List (Th×Th)):Prop:=∀p∈a,p.1∈S/\p.2∈S/\Cg tl p.1 p.2
def Snd(tl:Tl)(S:List Th)(L:Th->Int):Prop:=∀x∈S,∀y∈S,L x=L y->Cg tl x y
def Crs(S:List Th)(L a:Th->Int):Prop:=∀x∈S,∀y∈S,L x=L y->a x=a y
abbrev s4(j k l m n o:Option V)(d:Gc)(p:Option V)(pl i:Gc)(g:Bool)(a b c e f h:Option V):St:=[j,k,l,m,n,o,Ga (.ref d),p,Ga (.ref pl),Ga (.ref i),Ga (.bl g),a,b,c,e,f,h]
section
variable{P:Gj}{w:Gu}{K:PySem.W.Frag}{mg:GJ->Option Value}{base:Heap}{f:Gc}{cdv:Value}{A:Tz}{outer:List SW}{s:Gi}{Hi:Hp}{E:XK}
abbrev XC(P:Gj)(w:Gu)(K:PySem.W.Frag)(mg:GJ->Option Value)(base:Heap)(f:Gc)(cdv:Value)(A:Tz)(outer:List SW)(s:Gi)(Hi:Hp)(E:XK):Cx:=(Qkb Yb P w K mg base cN "_law_classes" (Qn Wu) f cdv A outer s Hi E).nox
theorem Qoa(hu:(XC P w K mg base f cdv A outer s Hi E).A.units+64<Dg):∃t,PS (XC P w K mg base f cdv A outer s Hi E) Qy3 t/\∀(tl:Tl)(S:List Th)(L:Th->Int)(d pl U:Gc)(pq nv:List V)(m:List (Th×Th))(H0:Hp)(x0 x1 x2 x3 x7:Option V)
  (hN:Num P w H0 d S L)(R:H0 pl=Ga (.lst pq))(ac:Qar H0 pq m)(aa:H0 U=Ga (.lst nv))(ab:Zq H0 nv S)(hG:Good tl S m)(hS:Snd tl S L)(ae:S.length<=3000),
  Tr t
   (λσ H=>H=H0/\∃W X v B C F q l,σ=s4 x0 x1 x2 x3 W X d x7 pl U Gp v B C F q l)
   (λσ H=>∃g b W X v B C F q l,σ=s4 x0 x1 x2 x3 W X d x7 pl U g v B C F q l/\Iw d H0 H/\Num P w H d S b/\Snd tl S b/\Crs S L b/\(∀p∈m,b p.1=b p.2)/\(g=Gp->∀t∈S,b t=L t)/\(g=Ge->∃x∈S,∃y∈S,L x≠L y/\b x=b y)):=by
 have nd:=Us.nd;refine⟨_,(Z5 Gs rfl (Z9 (pv 8)) (Vh rfl (Zl (Zw 4 nd) (Zl (Zw 5 nd) Wc)))
  (Qc (Qy 15 nd (Ql (Ov hu) (pv 6) (pv 4)))
  (Qh (Zb (Qo Vq (pv 15) (Ql (Ov hu) (pv 6) (pv 5)) (Qs _))
  (Qc (Qy 10 nd Ye)
  (Qh (Z5 Gs rfl (Z9 (pv 9)) (Zw 16 nd)
  (Qh (Zb (Qo Xi (Ql (Ov hu) (pv 6) (pv 16)) (pv 15) (Qs _))
  (Qh (Ry (Ql (Ov hu) (pv 6) (pv 5)) (Qam (pv 6) (pv 16) (Qak hu)))) Qv))))) Qv)))),?_⟩
 intro tl S L d pl U pq nv m H0 x0 x1 x2 x3 x7 hN R ac aa ab hG hS ae;rintro D σ H ⟨rfl,W,X,v,B,C,F,q,l,rfl⟩ k;obtain⟨od,Q⟩:=hN.at;have am:pl≠d:=Zy R Q (by intro z;cases z);have ah:U≠d:=Zy aa Q (by intro z;cases z);refine⟨_,Xb,pl,Xb,⟨_,Zc.of R⟩,Ys (K:=K) (a:=pl) (xs:=pq) (λi σ H1=>∃g b W X q l,σ=s4 x0 x1 x2 x3 W X d x7 pl U g v B C F q l/\Iw d H H1/\Num P w H1 d S b/\Snd tl S b/\Crs S L b/\(∀p∈m.take i,b p.1=b p.2)/\(g=Gp->∀t∈S,b t=L t)/\(g=Ge->∃x∈S,∃y∈S,L x≠L y/\b x=b y))
  ⟨Gp,L,W,X,q,l,Xb,Iw.refl,hN,hS,λ_ _ _ _ e=>e,by simp,λ_ _ _=>rfl,λe=>by cases e⟩ (λi σ H1 _⟨_,_,_,_,_,_,_,O,_⟩=>Zc.of (O _ _ R am)) ?_ ?_⟩
 ·rintro i x σ H1 hi ⟨g,b,W,X,q,l,rfl,O,N,snd,G,dn,gf,gt⟩;obtain⟨⟨u1,M⟩,eu,a',v1,v2,rfl,ak,t1,t2⟩:=Qw ac hi;have tu:Q4 H H1:=O.Qr Q (λxs z=>by cases z);obtain⟨b1,_,_,_,rfl,_,_,_⟩:=t1.inv;obtain⟨b2,_,_,_,rfl,_,_,_⟩:=t2.inv;have t1:=t1.Qr tu;have t2:=t2.Qr tu;obtain⟨m1,m2,mc⟩:=hG (u1,M) (List.mem_of_getElem? eu);have tk:m.take (i+1)=m.take i++[(u1,M)]:=by rw[List.take_add_one,eu];rfl
  refine⟨a',_,Xb,Q9.of (tu _ _ ak),Xb,_,_,Xb,_,_,Xb,Xb,?_⟩;refine⟨_,Xb,_,Xb,N.get m1 t1 ?_⟩;refine⟨_,Xb,_,Xb,_,Xb,N.get m2 t2 ⟨Xb,_,Xb,?_⟩⟩;rw[V9];refine Iz (λc=>?_) (λc=>?_)
  ·have c:b u1≠b M:=by simpa using c
   generalize ho:b u1=o at*;generalize hn:b M=n at*;have al:∀t,mrg b o n t≠o:=λt z=>by
    unfold mrg at z;split at z
    ·exact c z.symm
    ·rename_i h;exact h z
   have ad:mrg b o n M=n:=by unfold mrg;rw[Gg (by rw[hn];exactλz=>c z.symm)];exact hn
   have ag:=O _ _ aa ah;refine⟨_,Xb,U,Xb,⟨_,Zc.of ag⟩,Ys (K:=K) (a:=U) (xs:=nv) (λj σ H2=>∃L2 l,σ=s4 x0 x1 x2 x3 (Ga (.ref b1)) (Ga (.ref b2)) d x7 pl U Ge v B C F (Ga (.int o)) l/\Iw d H1 H2/\Num P w H2 d S L2/\(∀t∈S,L2 t=b t\/L2 t=mrg b o n t)/\(∀t∈S.take j,L2 t=mrg b o n t))
    ⟨b,_,Xb,Iw.refl,N,λt _=>.inl Xb,by simp⟩ (λj σ H2 _⟨_,_,_,r,_⟩=>Zc.of (r _ _ ag ah)) ?_ ?_⟩
   ·rintro j y σ H2 hj ⟨L2,l,rfl,r,N2,l1,l2⟩;obtain⟨u0,e0,J⟩:=ab.get hj;have T:=List.mem_of_getElem? e0;have an:Q4 H H2:=(O.trans r).Qr Q (λxs z=>by cases z);obtain⟨b0,_,_,_,rfl,_,_,_⟩:=J.inv;have J:=J.Qr an;have ai:S.take (j+1)=S.take j++[u0]:=by rw[List.take_add_one,e0];rfl
    refine⟨_,Xb,_,Xb,N2.get T J ⟨_,Xb,Xb,_,Xb,?_⟩⟩;rw[V9];refine Iz (λY=>?_) (λY=>?_)
    ·have Y:L2 u0=o:=by simpa using Y
     have e2:L2 M=n:=by
      rcases l1 M m2 with z|z
      ·rw[z,hn]
      ·rw[z,ad]
     have Z:mrg b o n u0=n:=by
      rcases l1 u0 T with z|z
      ·unfold mrg;rw[Gk (by rw[<-z];exact Y)]
      ·exact absurd (z.symm.trans Y) (al u0)
     refine⟨_,Xb,_,Xb,N2.get m2 (t2.Qr (r.Qr N.at.choose_spec (λxs z=>by cases z))) ⟨_,rfl,_,rfl,N2.put (by omega) T J λH3 aj N3=>?_⟩⟩;refine⟨_,_,Xb,r.trans aj,N3,λt I=>?_,λt I=>?_⟩
     ·by_cases z:t=u0
      ·subst z;right;rw[Gk Xb,e2,Z]
      ·rw[Gg z];exact l1 t I
     ·by_cases z:t=u0
      ·subst z;rw[Gk Xb,e2,Z]
      ·rw[Gg z];rw[ai,List.mem_append,List.mem_singleton]at I;exact l2 t (I.resolve_right z)
    ·have Y:L2 u0≠o:=by simpa using Y
     refine⟨_,_,Xb,r,N2,l1,λt I=>?_⟩;rw[ai,List.mem_append,List.mem_singleton]at I;rcases I with I|I
     ·exact l2 t I
     ·subst I;rcases l1 t T with z|z
      ·rw[z];unfold mrg;rw[Gg (by rw[<-z];exact Y)]
      ·exact z
   ·rintro σ H2 ⟨L2,l,rfl,r,N2,l1,l2⟩;rw[ab.length,List.take_length]at l2;have ml:∀x∈S,L2 x=mrg b o n x:=l2;refine⟨Ge,L2,_,_,_,_,Xb,O.trans r,N2,?_,?_,?_,(λe=>by cases e),λ_=>?_⟩
    ·intro x hx y J e;rw[ml x hx,ml y J]at e;rw[<-ho,<-hn]at e;exact Qok m1 m2 snd mc x hx y J e
    ·intro x hx y J e;rw[ml x hx,ml y J];exact Qro (G x hx y J e)
    ·intro p u;rw[tk,List.mem_append,List.mem_singleton]at u;rcases u with u|u
     ·have af:=hG p (List.mem_of_mem_take u);rw[ml _ af.1,ml _ af.2.1];exact Qro (dn p u)
     ·subst u;show L2 u1=L2 M;rw[ml _ m1,ml _ m2,ad];unfold mrg;rw[Gk ho]
    ·refine⟨u1,m1,M,m2,λz=>c ?_,?_⟩
     ·have:=G u1 m1 M m2 z;rw[ho,hn]at this;exact this
     ·rw[ml _ m1,ml _ m2,ad];unfold mrg;rw[Gk ho]
  ·have c:b u1=b M:=by simpa using c
   refine⟨g,b,_,_,_,_,Xb,O,N,snd,G,λp u=>?_,gf,gt⟩;rw[tk,List.mem_append,List.mem_singleton]at u;rcases u with u|u
   ·exact dn p u
   ·subst u;exact c
 ·rintro σ H1 ⟨g,b,W,X,q,l,rfl,O,N,snd,G,dn,gf,gt⟩;have e:m.take pq.length=m:=by rw[show pq.length=m.length from Paired.length ac,List.take_length]
  rw[e]at dn;exact k _ _ ⟨g,b,_,_,_,_,_,_,_,_,Xb,O,N,snd,G,dn,gf,gt⟩
end
def Cgt(L:Th->Int)(u v:Th):Prop:=∃w ps a,u=.mk w ps/\v=.mk w a/\ps.map L=a.map L
theorem Qxe{L:Th->Int}(cl:∀w ps,Th.mk w ps∈S->∀p∈ps,p∈S)(hS:Snd tl S L){a:List Th}(h1:Th.mk w ps∈S)(h2:Th.mk w a∈S)(e:ps.map L=a.map L):Cg tl (.mk w ps) (.mk w a):=by
 refine .cong (CgL.of (by have:=congrArg List.length e;simpa using this) λi p q c d=>?_);have b:(ps.map L)[i]?=(a.map L)[i]?:=by rw[e]
 rw[List.getElem?_map,List.getElem?_map,c,d]at b;exact hS p (cl _ _ h1 p (List.mem_of_getElem? c)) q (cl _ _ h2 q (List.mem_of_getElem? d)) (Tc b)
section
variable{P:Gj}{w:Gu}{K:PySem.W.Frag}{mg:GJ->Option Value}{base:Heap}{f:Gc}{cdv:Value}{A:Tz}{outer:List SW}{s:Gi}{Hi:Hp}{E:XK}
theorem Qip(B:Blt mg)(U:(XC P w K mg base f cdv A outer s Hi E).A.units+64<Dg):∃t,PS (XC P w K mg base f cdv A outer s Hi E) Qyw t/\∀(tl:Tl)(S:List Th)(L:Th->Int)(d pl W:Gc)(pq nv:List V)(x:List (Th×Th))(H0:Hp)(x0 x1 x2 x3 x5 x7:Option V)
  (hN:Num P w H0 d S L)(ab:H0 pl=Ga (.lst pq))(aq:Qar H0 pq x)(ah:H0 W=Ga (.lst nv))(aa:Zq H0 nv S)(am:W≠pl)(hG:Good tl S x)(hS:Snd tl S L)(cl:∀w ps,Th.mk w ps∈S->∀p∈ps,p∈S)(hsz:∀t∈S,t.size<=3000)(al:S.length<=3000)(az:x.length<=3000),
  Tr t
   (λσ H=>H=H0/\∃J y m g l G I,σ=s4 x0 x1 x2 x3 J x5 d x7 pl W Gp y m g l G I)
   (λσ H=>∃q b J y m g l G I,σ=s4 x0 x1 x2 x3 J x5 d x7 pl W Gp y m g l G I/\Iw pl H0 H/\H pl=Ga (.lst q)/\Qar H q b/\Good tl S b/\(∀p∈x,p∈b)/\
    (∀(k j:Nat)u v,j<k->S[k]?=Ga u->S[j]?=Ga v->Cgt L u v->(u,v)∈b)):=by
 have nd:=Us.nd;refine⟨_,(Z5 Gs rfl (Vp rfl B.range (Qa (Qp Zm rfl B.len PySem.boot_len (Qa (pv 9) Qe)) Qe)) (Zw 11 nd)
  (Qh (Z5 Gs rfl (Vp rfl B.range (Qa (pv 11) Qe)) (Zw 12 nd)
  (Qc (Qy 4 nd (Ql Ze (pv 9) (pv 11)))
  (Qc (Qy 13 nd (Ql Ze (pv 9) (pv 12)))
  (Qh (Zb (PW.pt (Qai (Qo Xi (Ql Qm (pv 4) Qi) (Ql Qm (pv 13) Qi) (Qs _)) (Oa (Qo Xi (Qp Zm rfl B.len PySem.boot_len (Qa (pv 4) Qe)) (Qp Zm rfl B.len PySem.boot_len (Qa (pv 13) Qe)) (Qs _)))))
  (Qc (V0 (i:=14) (own:=["_law_part"]) (fv:=[(6,"_law_leaders")]) nd rfl rfl rfl (S:=(by eq_refl:Xx (Qn Wu) _)) (.cons rfl (TR Xb) rfl .nil) (Uj (Yl V3 (pv 4) (Yn Qi) Xl))
   (λ_ _ _ _ _=>Xf (i:=0) nd2 rfl (TR Xb) (Dp Xb)) (λ_ _ _ _ _=>X6) (λ_ _ _ _ _=>(Ql (r:=Qhf P w) (Ov U) (pv 1) (pv 0))))
  (Qh (Zb (Qo (Uk U) (pv 14) (Vl (own:=["_law_part"]) (fv:=[(6,"_law_leaders")]) rfl (S:=(by eq_refl:Xx (Qn Wu) _)) (.cons rfl (TR Xb) rfl .nil) (Uj (Yl V3 (pv 13) (Yn Qi) Xl))
   (λ_ _ _ _ _=>Xf (i:=0) nd2 rfl (TR Xb) (Dp Xb)) (λ_ _ _ _ _=>X6) (λ_ _ _ _ _=>(Ql (r:=Qhf P w) (Ov U) (pv 1) (pv 0)))) (Qs _))
  (Qh (Zk (X0 PySem.F.plainAttrs_list PySem.F.slot_list_append PySem.F.type_list_append Z3 (pv 8) (Qa (Zf (Qa (pv 4) (Qa (pv 13) Qe))) Qe)))) Qv))) Qv))))))),?_⟩
 intro tl S L d pl W pq nv x H0 x0 x1 x2 x3 x5 x7 hN ab aq ah aa am hG hS cl hsz al az;rintro D σ H ⟨rfl,J,y,m,g,l,G,I,rfl⟩ kk;obtain⟨od,ak⟩:=hN.at;have aC:d≠pl:=λz=>by rw[z,ab]at ak;cases ak
 have aH:=aa.length;refine⟨_,Xb,_,_,Xb,.inl ⟨nv,Zc.of ah,Xb⟩,_,Xb,by omega,by omega,Vo (lo:=0) (n:=((nv.length:Int)).toNat) (λi σ H1=>∃q b J y m g l,σ=s4 x0 x1 x2 x3 J x5 d x7 pl W Gp y m g l G I/\Iw pl H H1/\H1 pl=Ga (.lst q)/\Qar H1 q b/\Good tl S b/\(∀p∈x,p∈b)/\
    (∀(k j:Nat)u v,k<i->j<k->S[k]?=Ga u->S[j]?=Ga v->Cgt L u v->(u,v)∈b)/\b.length<=3000+i*3000)
  ⟨pq,x,J,y,m,g,l,Xb,Iw.refl,ab,aq,hG,λ_ h=>h,λk j u v h=>by omega,by omega⟩ ?_ ?_⟩
 ·rintro i σ H1 hi ⟨ai,X,J,y,m,g,l,rfl,R,T,Z,g3,g4,g5,g6⟩;have hi:i<S.length:=by omega
  refine⟨_,Xb,_,Xb,by omega,by omega,Vo (lo:=0) (n:=((0+(i:Int))).toNat) (λj σ H2=>∃q b J m g l,σ=s4 x0 x1 x2 x3 J x5 d x7 pl W Gp (Ga (.int (0+(i:Int)))) m g l G I/\Iw pl H H2/\H2 pl=Ga (.lst q)/\Qar H2 q b/\Good tl S b/\(∀p∈x,p∈b)/\
    (∀(k j:Nat)u v,k<i->j<k->S[k]?=Ga u->S[j]?=Ga v->Cgt L u v->(u,v)∈b)/\(∀(Q:Nat)u v,Q<j->S[i]?=Ga u->S[Q]?=Ga v->Cgt L u v->(u,v)∈b)/\b.length<=3000+i*3000+j)
   ⟨ai,X,J,m,g,l,Xb,R,T,Z,g3,g4,g5,λQ u v h=>by omega,by omega⟩ ?_ ?_⟩
  ·rintro j σ H2 hj ⟨M,C,J,m,g,l,rfl,R,T,Z,g3,g4,g5,g6,g7⟩;have hj:j<i:=by omega
   obtain⟨v1,e1,t1⟩:=aa.at (List.getElem?_eq_getElem hi);obtain⟨v2,e2,t2⟩:=aa.at (List.getElem?_eq_getElem (show j<S.length by omega));have tu:Q4 H H2:=R.Qr ab (λxs z=>by cases z);have N2:Num P w H2 d S L:=hN.keep (λo h=>R _ _ h aC) tu;have ar:=R _ _ ah am;have m1:S[i]∈S:=List.getElem_mem _;have m2:S[j]∈S:=List.getElem_mem _;have q1:S[i]?=Ga S[i]:=List.getElem?_eq_getElem _;have q2:S[j]?=Ga S[j]:=List.getElem?_eq_getElem _;generalize S[i]=u1 at*;generalize S[j]=u2 at*;obtain⟨b1,w1,aE,N,rfl,rfl,af,an⟩:=(t1.Qr tu).inv;obtain⟨b2,w2,aF,O,rfl,rfl,ag,ao⟩:=(t2.Qr tu).inv;have l1:=an.length;have l2:=ao.length;have z1:=hsz _ m1;have z2:=hsz _ m2;simp only[Th.size]at z1 z2;have y1:=Zd N;have y2:=Zd O;refine⟨_,Xb,_,Xb,W,nv,_,_,Xb,Xb,Zc.of ar,(by rw[Du];exact Qj e1),?_⟩;refine⟨_,Xb,_,Xb,W,nv,_,_,Xb,Xb,Zc.of ar,(by rw[Du];exact Qj e2),?_⟩;refine⟨_,Xb,b1,_,_,_,Xb,Xb,Q9.of af,Qj (j:=0) rfl,_,Xb,b2,_,_,_,Xb,Xb,Q9.of ag,Qj (j:=0) rfl,Xb,_,Xb,?_⟩;rw[Q8];have fin:∀{J g l:Option V}{H3:Hp},Q5 H2 H3->¬Cgt L (.mk w1 N) (.mk w2 O)->∃q b aG m av aw,s4 x0 x1 x2 x3 J x5 d x7 pl W Gp (Ga (.int (0+(i:Int)))) (Ga (.int (0+(j:Int)))) g l G I=s4 x0 x1 x2 x3 aG x5 d x7 pl W Gp (Ga (.int (0+(i:Int)))) m av aw G I/\Iw pl H H3/\H3 pl=Ga (.lst q)/\Qar H3 q b/\Good tl S b/\(∀p∈x,p∈b)/\
     (∀(k j:Nat)u v,k<i->j<k->S[k]?=Ga u->S[j]?=Ga v->Cgt L u v->(u,v)∈b)/\(∀(Q:Nat)u v,Q<j+1->S[i]?=Ga u->S[Q]?=Ga v->Cgt L u v->(u,v)∈b)/\b.length<=3000+i*3000+(j+1):=λ{J g l H3}sm no=>by
    refine⟨M,C,_,_,_,_,Xb,R.trans (Iw.of sm),sm _ _ T,Z.Qr (Q4.of sm),g3,g4,g5,λQ u v h U hv c=>?_,by omega⟩;by_cases z:Q=j
    ·subst z;rw[q1]at U;rw[q2]at hv;cases U;cases hv;exact absurd c no
    ·exact g6 Q u v (by omega) U hv c
   refine Iz (λc=>?_) (λc=>?_)
   ·have c:w1=w2:=by simpa using c
    subst c;refine⟨_,Xb,_,_,Xb,.inr ⟨_,Q9.of af,Xb⟩,_,Xb,_,_,Xb,.inr ⟨_,Q9.of ag,Xb⟩,Xb,_,Xb,?_⟩;rw[V9];refine Iz (λc2=>?_) (λc2=>?_)
    ·refine⟨_,Xb,_,Xb,b1,_,Xb,Q9.of af,Wb _ _,λr hr=>?_⟩;rw[Qc5];have s3:=Qf hr (.tup aE);refine⟨r,Xb,⟨_,Q9.of Qb⟩,λp Y=>?_⟩;refine Qeo (K:=K) Qb (an.same s3) (cl _ _ m1) (N2.same s3) Y (by omega) λH4 aD ax=>?_;have ac:Q5 H2 H4:=s3.trans aD;refine⟨_,Xb,_,Xb,_,Xb,b2,_,Xb,Q9.of (ac _ _ ag),Wb _ _,λr2 aA=>?_⟩;rw[Qc5];have s5:=Qf aA (.tup aF);refine⟨r2,Xb,⟨_,Q9.of Qb⟩,λp2 ap=>?_⟩;refine Qeo (K:=K) Qb (ao.same (ac.trans s5)) (cl _ _ m2) (N2.same (ac.trans s5)) ap (by omega) λH6 s6 ay=>?_;have au:Q5 H4 H6:=s5.trans s6;have ad:=ac.trans au;refine⟨.list ((N.map L).map TZ),.list ((O.map L).map TZ),.lst (au _ _ ax) (Wk _),.lst ay (Wk _),by simp only[GQ];exact Ws _,by simp only[GQ];exact Ws _,?_,_,Xb,?_⟩
     ·have:=Jc (N.map L);simp only[TQ];omega
     have ev:GX (.list ((N.map L).map TZ)) (.list ((O.map L).map TZ))=decide (N.map L=O.map L):=by simp only[GX];exact Ol _ _
     rw[ev];refine Iz (λc3=>?_) (λc3=>?_)
     ·have c3:=Tq c3;refine⟨_,Xb,.inl ⟨Xb,_,Zc.of (ad _ _ T)⟩,_,Xb,_,Xb,by show 2<=Gh;decide,λe he=>?_⟩;have s7:=Qf he (.tup [.ref b1,.ref b2]);have ae:=ad.trans s7;have lp:M.length=C.length:=Paired.length Z;have ib:i*3000<=3000*3000:=DC _ (by omega);refine⟨pl,M,.ref e,Xb,Xb,ae _ _ T,by rw[Gy];omega,?_⟩;have aj:Q4 H2 (upd (upd H6 e (.tup [.ref b1,.ref b2])) pl (.lst (M++[.ref e]))):=(Q4.of ae).trans (Zz λxs z=>by rw[ae _ _ T]at z;cases z);have aB:e≠pl:=λz=>by rw[z,ad _ _ T]at he;cases he
      refine⟨M++[.ref e],C++[(.mk w1 N,.mk w1 O)],_,_,_,_,Xb,λa o h1 h2=>by rw[Qg h2];exact ae _ _ (R _ _ h1 h2),Qb,?_,?_,λp Y=>List.mem_append_left _ (g4 p Y),λk j u v h1 h2 h3 h4 h5=>List.mem_append_left _ (g5 k j u v h1 h2 h3 h4 h5),λQ u v h U hv c=>?_,by rw[List.length_append,List.length_singleton];omega⟩
      ·refine Yj (Z.Qr aj) (.cons ⟨e,_,_,Xb,by rw[Qg aB];exact Qb,(t1.Qr tu).Qr aj,(t2.Qr tu).Qr aj⟩ .nil)
      ·intro p Y;rcases List.mem_append.mp Y with Y|Y
       ·exact g3 p Y
       ·rw[List.mem_singleton]at Y;subst Y;exact⟨m1,m2,Qxe cl hS m1 m2 c3⟩
      ·by_cases z:Q=j
       ·subst z;rw[q1]at U;rw[q2]at hv;cases U;cases hv;exact List.mem_append_right _ List.mem_cons_self
       ·exact List.mem_append_left _ (g6 Q u v (by omega) U hv c)
     ·have c3:=of_decide_eq_false (EG.mpr c3);refine fin ad ?_;rintro⟨w',ps,qs,z1,z2,z3⟩;cases z1;cases z2;exact c3 z3
    ·refine fin (λ_ _ h=>h) ?_;rintro⟨w',ps,qs,z1,z2,z3⟩;cases z1;cases z2;have:=congrArg List.length z3;simp at this;simp at c2;omega
   ·refine Q6 (fin (λ_ _ h=>h) ?_);have c:¬w1=w2:=by simpa using c
    rintro⟨w',ps,qs,z1,z2,z3⟩;cases z1;cases z2;exact c rfl
  ·rintro σ H2 ⟨M,C,J,m,g,l,rfl,R,T,Z,g3,g4,g5,g6,g7⟩;refine⟨M,C,_,_,_,_,_,Xb,R,T,Z,g3,g4,λk j u v h1 h2 h3 h4 h5=>?_,by omega⟩;by_cases z:k=i
   ·subst z;exact g6 j u v (by omega) h3 h4 h5
   ·exact g5 k j u v (by omega) h2 h3 h4 h5
 ·rintro σ H1 ⟨ai,X,J,y,m,g,l,rfl,R,T,Z,g3,g4,g5,g6⟩;refine kk _ _ ⟨ai,X,_,_,_,_,_,_,_,Xb,R,T,Z,g3,g4,λk j u v h1 h2 h3 h4=>g5 k j u v ?_ h1 h2 h3 h4⟩;have:=(List.getElem?_eq_some_iff.mp h2).1;omega
end
section
variable{P:Gj}{w:Gu}{K:PySem.W.Frag}{mg:GJ->Option Value}{base:Heap}{f:Gc}{cdv:Value}{A:Tz}{outer:List SW}{s:Gi}{Hi:Hp}{E:XK}
theorem Qsy{L:Th->Int}{b:List (Th×Th)}(h:∀(k j:Nat)u v,j<k->S[k]?=Ga u->S[j]?=Ga v->Cgt L u v->(u,v)∈b)(e:∀p∈b,L p.1=L p.2):
  ∀w ps a,Th.mk w ps∈S->Th.mk w a∈S->ps.map L=a.map L->L (.mk w ps)=L (.mk w a):=by
 intro w ps a h1 h2 f;obtain⟨k,d⟩:=List.mem_iff_getElem?.mp h1;obtain⟨j,c⟩:=List.mem_iff_getElem?.mp h2;rcases SS j k with z|z|z
 ·exact e _ (h k j _ _ z d c ⟨w,ps,a,Xb,Xb,f⟩)
 ·subst z;rw[d]at c;cases c;rfl
 ·exact(e _ (h j k _ _ z c d ⟨w,a,ps,Xb,Xb,f.symm⟩)).symm
theorem Qmv(B:Blt mg)(hu:(XC P w K mg base f cdv A outer s Hi E).A.units+64<Dg):∃t,PS (XC P w K mg base f cdv A outer s Hi E) (cSt 7) t/\∀(tl:Tl)(S:List Th)(L:Th->Int)(d pl J:Gc)(pq nv:List V)(F:List (Th×Th))(H0:Hp)(x0 x1 x2 x3 x7:Option V)
  (hN:Num P w H0 d S L)(Q:H0 pl=Ga (.lst pq))(af:Qar H0 pq F)(I:H0 J=Ga (.lst nv))(ac:Zq H0 nv S)(Y:J≠pl)(hG:Good tl S F)(hS:Snd tl S L)(cl:∀w ps,Th.mk w ps∈S->∀p∈ps,p∈S)(hsz:∀t∈S,t.size<=3000)(G:S.length<=3000)(ae:F.length<=3000)
  (C:∀a b,(Ge,a,b)∈tl->a∈S/\b∈S/\(a,b)∈F),
  Tr t
   (λσ H=>H=H0/\∃x4 X q r u v x y,σ=s4 x0 x1 x2 x3 x4 X d x7 pl J Ge q r u v x y)
   (λσ H=>∃L',σ[6]?=Ga (Ga (.ref d))/\(∀c o,H0 c=Ga o->c≠d->c≠pl->H c=Ga o)/\Num P w H d S L'/\Tells tl S L'):=by
 have nd:=Us.nd;obtain⟨t1,aq,au⟩:=Qip (P:=P) (w:=w) (K:=K) (mg:=mg) (base:=base) (f:=f) (cdv:=cdv) (A:=A) (outer:=outer) (s:=s) (Hi:=Hi) (E:=E) B hu;obtain⟨t2,ar,av⟩:=Qoa (P:=P) (w:=w) (K:=K) (mg:=mg) (base:=base) (f:=f) (cdv:=cdv) (A:=A) (outer:=outer) (s:=s) (Hi:=Hi) (E:=E) hu;refine⟨_,Wn Gs (Yc (pv 10)) (Qc (Qy 10 nd Ye) (Qc aq (Qc ar (Qh (Qy 8 nd (Zr Qe)))))),?_⟩;intro tl S L d pl J pq nv F H0 x0 x1 x2 x3 x7 hN Q af I ac Y hG hS cl hsz G ae C;rintro D σ H ⟨rfl,x4,X,q,r,u,v,x,y,rfl⟩ kk;obtain⟨od,O⟩:=hN.at;have aw:d≠pl:=λz=>by rw[z,Q]at O;cases O
 have ag:J≠d:=λz=>by rw[z,O]at I;cases I
 refine⟨λm σ H1=>∃g k j n i x4 X q r u v x y,σ=s4 x0 x1 x2 x3 x4 X d x7 j J g q r u v x y/\(∀c o,H c=Ga o->c≠d->c≠pl->H1 c=Ga o)/\Num P w H1 d S k/\Snd tl S k/\
   H1 j=Ga (.lst n)/\Qar H1 n i/\Good tl S i/\i.length<=3000/\(∀c o,H c=Ga o->c≠d->c≠pl->c≠j)/\(∀a b,(Ge,a,b)∈tl->(a,b)∈i\/k a=k b)/\m=(if g=Ge then dis S k+1 else 0)/\(g=Gp->Rb tl S k),
  ⟨_,Ge,L,pl,pq,F,_,_,_,_,_,_,_,_,Xb,λc o e _ _=>e,hN,hS,Q,af,hG,ae,(λ_ _ _ _ h=>h),λa b h=>.inl (C a b h).2.2,Xb,λz=>by cases z⟩,?_⟩
 rintro m σ H1 ⟨g,k,j,n,i,x4,X,q,r,u,v,x,y,rfl,kp,N,snd,g1,g2,g3,g4,g5,g6,rfl,g7⟩;refine⟨_,Xb,g,Xb,?_⟩;cases g with
 |false=>refine Q6 (kk _ _ ⟨k,Xb,kp,N,g7 Xb,snd⟩)
 |true=>
  refine Yy ⟨λam H'=>∃m',m'<dis S k+1/\∃g k j n i x4 X q r u v x y,am=s4 x0 x1 x2 x3 x4 X d x7 j J g q r u v x y/\(∀c o,H c=Ga o->c≠d->c≠pl->H' c=Ga o)/\Num P w H' d S k/\Snd tl S k/\
   H' j=Ga (.lst n)/\Qar H' n i/\Good tl S i/\i.length<=3000/\(∀c o,H c=Ga o->c≠d->c≠pl->c≠j)/\(∀a b,(Ge,a,b)∈tl->(a,b)∈i\/k a=k b)/\m'=(if g=Ge then dis S k+1 else 0)/\(g=Gp->Rb tl S k),λam H' h=>h,?_⟩
  have ai:=kp _ _ I ag Y;have aj:J≠j:=g5 _ _ I ag Y;have aa:Q4 H H1:=λc xs e=>kp c _ e (λz=>by rw[z,O]at e;cases e) (λz=>by rw[z,Q]at e;cases e);have ak:=ac.Qr aa;have ah:d≠j:=λz=>by obtain⟨o,ho⟩:=N.at;rw[z,g1]at ho;cases ho
  refine au tl S k d j J n nv i H1 x0 x1 x2 x3 X x7 N g1 g2 ai ak aj g3 snd cl hsz G g4 _ _ _ ⟨Xb,_,_,_,_,_,_,_,Xb⟩ ?_;rintro aJ H2 ⟨ap,U,y4,ax,ay,az,aA,aB,aC,rfl,M,a1,a2,a3,a4,a5⟩;have al:Q4 H1 H2:=M.Qr g1 (λxs z=>by cases z);have N2:Num P w H2 d S k:=N.keep (λo h=>M _ _ h ah) al;have ao:=M _ _ ai aj;refine av tl S k d j J ap nv U H2 x0 x1 x2 x3 x7 N2 a1 a2 ao (ak.Qr al) a3 snd G _ _ _ ⟨Xb,_,_,_,_,_,_,_,_,Xb⟩ ?_;rintro aK H3 ⟨g',L3,z4,z5,aD,aE,aF,aG,aH,aI,rfl,an,N3,W,ab,b1,T,b3⟩;refine⟨Gx _,λp l=>?_⟩;have R:=Qf l (.lst []);have Z:∀c o,H c=Ga o->c≠d->c≠pl->H3 c=Ga o:=λc o e h1 h2=>an c o (M c o (kp c o e h1 h2) (g5 c o e h1 h2)) h1;have ad:∀c o,H c=Ga o->c≠d->c≠pl->c≠p:=λc o e h1 h2 z=>by rw[<-z,Z c o e h1 h2]at l;cases l
  have told:∀a b,(Ge,a,b)∈tl->L3 a=L3 b:=λa b h=>by
   rcases g6 a b h with z|z
   ·exact b1 _ (a4 _ z)
   ·exact ab a (C a b h).1 b (C a b h).2.1 z
  cases g' with
  |false=>
   have T:=T rfl;have e1:∀p∈U,k p.1=k p.2:=λp l=>by rw[<-T _ (a3 p l).1,<-T _ (a3 p l).2.1];exact b1 p l
   have cg:=Qsy a5 e1;refine⟨0,by omega,Gp,L3,p,[],[],_,_,_,_,_,_,_,_,Xb,λc o e h1 h2=>R _ _ (Z c o e h1 h2),N3.same R,W,Qb,.nil,(λp l=>nomatch l),Gx _,ad,λa b h=>.inr (told a b h),Xb,λ_=>⟨cl,λa b h=>⟨(C a b h).1,(C a b h).2.1,told a b h⟩,λw ps qs h1 h2 e=>?_⟩⟩;rw[T _ h1,T _ h2];refine cg w ps qs h1 h2 ?_;rw[<-List.map_congr_left λp l=>T p (cl _ _ h1 p l),<-List.map_congr_left λp l=>T p (cl _ _ h2 p l)];exact e
  |true=>have:=Qxv ab (b3 Xb);exact⟨dis S L3+1,by omega,Ge,L3,p,[],[],_,_,_,_,_,_,_,_,Xb,λc o e h1 h2=>R _ _ (Z c o e h1 h2),N3.same R,W,Qb,.nil,(λp l=>nomatch l),Gx _,ad,λa b h=>.inr (told a b h),Xb,λz=>by cases z⟩
end
theorem U8{T:List Th}(h:Zq H xs (T++[t])):∃a x,xs=a++[x]/\Zq H a T/\Zu H x t:=by
 induction T generalizing xs with
 |nil=>
  cases h with
  |cons h1 h2=>cases h2;exact⟨[],_,Xb,.nil,h1⟩
 |cons y r b=>
  cases h with
  |cons h1 h2=>obtain⟨a,x,e,c,d⟩:=b h2;exact⟨_::a,x,by rw[e];rfl,.cons h1 c,d⟩
theorem Yu:∀a b:List Th,Qx (a++b)=Qx a+Qx b
 |[],b=>by simp[Qx]
 |x::a,b=>by simp only[List.cons_append,Qx,Yu a b];omega
theorem W4:∀(l:List Th)(i:Nat),Qx (l.take i)<=Qx l
 |[],i=>by simp
 |x::l,0=>by simp[Qx]
 |x::l,i+1=>by have:=W4 l i;simp only[List.take_succ_cons,Qx];omega
def Jr(tl:Tl):List Th:=tl.flatMap λp=>[p.2.1,p.2.2]
theorem Qae:∀tl:Tl,Qx (Jr tl)=Qx (tl.map (·.2.1))+Qx (tl.map (·.2.2))
 |[]=>by simp[Jr,Qx]
 |p::r=>by have:=Qae r;unfold Jr at this⊢;simp only[List.flatMap_cons,List.map_cons,List.cons_append,List.nil_append,Qx]at this⊢;omega
theorem Qc0:t∈Jr tl↔∃p∈tl,t=p.2.1\/t=p.2.2:=by unfold Jr;simp[List.mem_flatMap]
theorem Je:∀ds:List DD,Tg ds []=ds.isEmpty
 |[]=>by simp[Tg]
 |_::_=>by simp[Tg]
theorem Qlb(b:Bool):(tw b==("same":GJ))=b:=by cases b<;>decide+kernel
theorem Qcm(tl:Tl)(i:Nat)(b:Bool)(u v:Th)(h:tl[i]?=Ga (b,u,v)):Re (tl.take (i+1))=Re (tl.take i)++(if b then[(u,v)]else[]):=by unfold Re;rw[List.take_add_one,h,List.filter_append,List.map_append];cases b<;>rfl
theorem Qoc(tl:Tl):(Re tl).length<=tl.length:=by unfold Re;rw[List.length_map];exact List.length_filter_le _ _
section
variable{P:Gj}{w:Gu}{K:PySem.W.Frag}{mg:GJ->Option Value}{base:Heap}
theorem Qjm(F:Wz K "_law_classes" "_law_classes" Wu f fd)(B:Blt mg):Qz P w K mg base Yb 1 f fd ["_law_told","_law_things"] (Qee P w):=by
 refine F.ok Us (λvs H Q E h=>?_) (λcdv A outer s H vs Q E hr h=>?_)
 ·obtain⟨a,b,us,Z,tl,ts,rfl,_⟩:=h;rfl
 obtain⟨a,b,us,Z,tl,ts,rfl,ha,ag,hb,aP,ax,aw,hsz,q⟩:=h;have nd:=Us.nd;have hu:=hr.units;obtain⟨t7,aR,aS⟩:=Qmv (P:=P) (w:=w) (K:=K) (mg:=mg) (base:=base) (f:=f) (cdv:=cdv) (A:=A) (outer:=outer) (s:=s) (Hi:=H) (E:=E) B hu;refine⟨_,(Qc (Qy 2 nd (Xh Wv rfl B.list Ti (Qa (pv 1) Qe)))
  (Qc (Z5 Gs rfl (Z9 (pv 0)) (Vh rfl (Zl (Zw 3 nd) (Zl (Zw 4 nd) (Zl (Zw 5 nd) Wc))))
  (Qh (Qy 2 nd (Zs Vi (pv 2) (Zr (Qa (pv 4) (Qa (pv 5) Qe)))))))
  (Qc (Vg (i:=6) nd rfl (Dp Xb) Ig)
  (Qc (Wn Gs (Qo (Qan hu) (pv 2) (Zr Qe) (Qs _))
  (Qc (Qy 7 nd (Qab PySem.F.plainAttrs_list PySem.F.slot_list_pop PySem.F.type_list_pop Qav (pv 2)))
  (Qh (Zb (Qo (Qdp hu) (pv 7) (pv 6) rfl)
  (Qc (Ry (Qp Qi5 rfl B.len PySem.boot_len (Qa (pv 6) Qe)) (Qam (pv 6) (pv 7) (Qak hu)))
  (Qh (Qy 2 nd (Zs Vi (pv 2) (Xh Wv rfl B.list Ti (Qa (Yl V3 (pv 7) (Yn Qi) Xl) Qe)))))) Qv))))
  (Qc (V0 (i:=8) (own:=["_law_deed"]) (fv:=[]) nd rfl rfl rfl (S:=(by eq_refl:Xx (Qn Wu) _)) .nil (Z9 (pv 0))
   (λ_ _ _ _ _=>Xf (i:=0) (nd1 _) rfl (TR Xb) (Dp Xb)) (λ_ _ _ _ _=>Qdt (Qo Xi (Ql (r:=Qkl K) Qm (pv 0) Qi) Zj (Qs _))) (λ_ _ _ _ _=>Yl (r:=Qzu K) V3 (pv 0) (Yn Qi) Xl))
  (Qc (Qy 9 nd (Xh (Qhb Xb) rfl B.list Ti (Qa (pv 6) Qe)))
  (Qc (Qy 10 nd Ye)
  (Qc aR
  (Qh (Qt (pv 6))))))))))),?_⟩
 have ay:us.length=tl.length:=Paired.length ag;have aX:tl.length<=3000:=by have:=Zd (tl.map (·.2.1));rw[List.length_map]at this;omega
 refine⟨_,Xb,b,Z,Xb,.inl (Zc.of hb),λl X=>?_⟩;have s1:=Qf X (.lst Z);refine⟨_,Xb,a,Xb,⟨_,Zc.of (s1 _ _ ha)⟩,Ys (K:=K) (a:=a) (xs:=us) (λi σ H1=>∃(l:Gc)(xs:List V)(x3 x4 x5:Option V),σ=[Ga (.ref a),Ga (.ref b),Ga (.ref l),x3,x4,x5,Gf,Gf,Gf,Gf,Gf,Gf,Gf,Gf,Gf,Gf,Gf]/\Q5 H H1/\H l=Gf/\H1 l=Ga (.lst xs)/\Zq H1 xs (ts++Jr (tl.take i)))
  ⟨l,Z,_,_,_,Xb,s1,X,Qb,by simp[Jr];exact aP.same s1⟩ (λi σ H1 _⟨_,_,_,_,_,_,sm,_⟩=>Zc.of (sm _ _ ha)) ?_ ?_⟩
 ·rintro i x σ H1 hi ⟨l,xs,x3,x4,x5,rfl,sm,X,I,J⟩;obtain⟨⟨bb,u1,u2⟩,eu,a',v1,v2,rfl,ac,t1,t2⟩:=Qw ag hi;refine⟨a',_,Xb,Q9.of (sm _ _ ac),Xb,_,_,Xb,_,_,Xb,_,_,Xb,Xb,?_⟩;refine⟨_,Xb,_,Xb,_,Xb,by show 2<=Gh;decide,λc hc=>?_⟩;have s2:=Qf hc (.lst [v1,v2]);have lx:=J.length;have b1:=Zd (ts++Jr (tl.take i));have b2:Qx (ts++Jr (tl.take i))<=3000:=by have e1:=Qae (tl.take i);have e2:=W4 (tl.map (·.2.1)) i;have e3:=W4 (tl.map (·.2.2)) i;rw[List.map_take,List.map_take]at e1;rw[Yu];omega
  refine⟨l,c,xs,[v1,v2],Xb,Xb,s2 _ _ I,Qb,small (by show xs.length+2<=_;omega),λn R=>?_⟩;have s3:=Qf R (.lst (xs++[v1,v2]));have aj:=(sm.trans s2).trans s3;refine⟨n,xs++[v1,v2],_,_,_,Xb,aj,(sm.trans s2).free R,Qb,?_⟩;have e:ts++Jr (tl.take (i+1))=(ts++Jr (tl.take i))++[u1,u2]:=by unfold Jr;rw[List.take_add_one,eu,List.flatMap_append,List.append_assoc];rfl
  rw[e];exact((J.same s2).same s3).append (.cons (t1.same aj) (.cons (t2.same aj) .nil))
 rintro σ H1 ⟨l,xs,x3,x4,x5,rfl,sm,X,I,J⟩;rw[ay,List.take_length]at J;have aa:∀t∈ts++Jr tl,t.ok=Ge/\t.depth<=8:=λt k=>by
  rcases List.mem_append.mp k with h|h
  ·exact ax t h
  ·obtain⟨p,u,e⟩:=Qc0.mp h;rcases e with rfl|rfl
   ·exact(aw p u).1
   ·exact(aw p u).2
 have O:Qx (ts++Jr tl)<=3000:=by rw[Yu,Qae];omega
 have aq:∀t∈ts++Jr tl,t∈ts++Jr tl:=λt h=>h;generalize au:ts++Jr tl=T0 at J aa O aq;intro d hd;have ad:H d=Gf:=sm.free hd;have s2:=Qf hd (Vn P w d []);have C:l≠d:=Qd I hd;refine⟨λm σ H2=>∃(l:Gc)(xs:List V)(T S:List Th)(L:Th->Int)(x7:Option V),σ=[Ga (.ref a),Ga (.ref b),Ga (.ref l),x3,x4,x5,Ga (.ref d),x7,Gf,Gf,Gf,Gf,Gf,Gf,Gf,Gf,Gf]/\Q5 H H2/\H l=Gf/\l≠d/\H2 l=Ga (.lst xs)/\Zq H2 xs T/\Num P w H2 d S L/\
   (∀x∈S,∀y∈S,L x=L y->x=y)/\(∀x∈S,L x<S.length)/\(∀w ps,Th.mk w ps∈S->∀p∈ps,p∈S\/p∈T)/\(∀t∈T0,t∈S\/t∈T)/\(∀t∈T,t.ok=Ge/\t.depth<=8)/\m=Qx T/\S.length+Qx T<=3000/\(∀t∈S,t.size<=3000),
  ⟨_,l,xs,T0,[],λ_=>0,_,Xb,sm.trans s2,X,C,s2 _ _ I,J.same s2,⟨⟨[],Qb,(λp u=>nomatch u),Xb,(λt k=>nomatch k)⟩,(λt k=>nomatch k)⟩,(λt k=>nomatch k),(λt k=>nomatch k),(λ_ _ k=>nomatch k),λt k=>.inr k,aa,Xb,by simpa using O,(λt k=>nomatch k)⟩,?_⟩
 clear I J X C s2;rintro m σ H2 ⟨l,xs,T,S,L,x7,rfl,aC,X,C,I,J,N,inj,low,cl,al,ah,rfl,sz,ap⟩;have lx:=J.length;have lT:=Zd T;refine⟨_,Xb,Gx _,λz hz=>?_⟩;have s4:=Qf hz (.lst []);have aU:l≠z:=Qd I hz;have az:okL T=Ge:=by rw[Jh,List.all_eq_true];exactλt k=>(ah t k).1
 refine⟨.list (X5 T),.list [],.lst (s4 _ _ I) (J.same s4).dts,.lst Qb .nil,by simp only[GQ];exact Oe T az,by simp[GQ,Gw],?_,_,Xb,?_⟩
 ·simp only[TQ,Tj];omega
 have ev:GX (.list (X5 T)) (.list [])=T.isEmpty:=by
  simp only[GX];rw[Je];cases T with
  |nil=>simp[X5]
  |cons t r=>simp[X5]
 rw[ev];rcases List.eq_nil_or_concat T with rfl|⟨Tr,t,eT⟩
 ·
  refine Q6 ?_;have cl:∀w ps,Th.mk w ps∈S->∀p∈ps,p∈S:=λw ps h p u=>(cl w ps h p u).resolve_right (by simp);have al:∀t∈T0,t∈S:=λt h=>(al t h).resolve_right (by simp);have D:=aC.trans s4;have N3:=N.same s4;generalize upd H2 z (.lst [])=H3 at D N3⊢;refine⟨_,Xb,a,Xb,⟨_,Zc.of (D _ _ ha)⟩,λp u=>?_⟩;have sp:=Qf u (.lst []);have aM:H p=Gf:=D.free u;refine Jx (K:=K) (a:=a) (xs:=us) (small (by omega)) (λi ys σ H4=>(∃x0,σ=[x0])/\Q5 H3 H4/\Qar H4 ys (Re (tl.take i))) ⟨⟨_,Xb⟩,sp,by simp[Re];exact .nil⟩ (λi ys σ H4 _⟨_,g,_⟩=>Zc.of (g _ _ (D _ _ ha))) ?_ ?_
  ·rintro i x ys σ H4 hi ⟨⟨x0,rfl⟩,g,gp⟩ v;obtain⟨⟨bb,u1,u2⟩,eu,a',v1,v2,rfl,ac,t1,t2⟩:=Qw ag hi;have ao:=D.trans g;have a4:=ao _ _ ac;refine⟨_,Xb,a',_,_,_,Xb,Xb,Q9.of a4,Qj (j:=0) rfl,Xb,_,Xb,?_⟩;rw[Q8,Qlb];cases bb with
   |true=>
    refine Yy ?_;refine⟨_,Xb,_,Xb,a',_,Xb,Q9.of a4,Wb _ _,λr hr=>?_⟩;rw[Qc5];have s5:=Qf hr (.tup [v1,v2]);have aO:r≠p:=λz=>by rw[z,v]at hr;cases hr
    have t6:Q4 H4 (upd (upd H4 r (.tup [v1,v2])) p (.lst (ys++[.ref r]))):=(Q4.of s5).trans (Zz λxs e=>by rw[s5 _ _ v]at e;cases e);refine⟨s5 _ _ v,⟨_,Xb⟩,λc o e=>?_,?_⟩
    ·rw[Qg (Qd e u)];exact s5 _ _ (g _ _ e)
    ·rw[Qcm tl i Ge u1 u2 eu];exact Yj (gp.Qr t6) (.cons ⟨r,v1,v2,Xb,by rw[Qg aO];exact Qb,(t1.same ao).Qr t6,(t2.same ao).Qr t6⟩ .nil)
   |false=>refine Q6 ⟨v,⟨_,Xb⟩,g,?_⟩;rw[Qcm tl i Gp u1 u2 eu];simpa using gp
  ·rintro ys σ H4 ⟨_,g,gp⟩ v;rw[ay,List.take_length]at gp;have N4:=N3.same g;obtain⟨kvs,dh,lk,an⟩:=N4.names;refine⟨_,Xb,d,kvs,Xb,dh,λn R=>?_⟩;have sn:=Qf R (.lst (kvs.map λp=>V.ref p.2.1));have inS:∀x∈tl,x.2.1∈S/\x.2.2∈S:=λx M=>by rw[<-au]at al;exact⟨al _ (List.mem_append_right _ (Qc0.mpr ⟨x,M,.inl Xb⟩)),al _ (List.mem_append_right _ (Qc0.mpr ⟨x,M,.inr Xb⟩))⟩
   refine aS tl S L d p n ys _ (Re tl) _ _ _ _ _ _ (N4.same sn) (sn _ _ v) (gp.Qr (Q4.of sn)) Qb (an.same sn) (Gm (Qd v R)) ?_ ?_ cl ap (by omega) (by have:=Qoc tl;omega) ?_ _ _ _ ⟨Xb,_,_,_,_,_,_,_,_,Xb⟩ ?_
   ·rintro⟨x,y⟩ aQ;have h:=Qe3.mp aQ;exact⟨(inS _ h).1,(inS _ h).2,.told h⟩
   ·intro x M y hy e;rw[inj x M y hy e];exact .refl _
   ·intro x y h;exact⟨(inS _ h).1,(inS _ h).2,Qe3.mpr h⟩
   ·rintro a0 H7 ⟨L7,h6,kp,N7,T7⟩;refine⟨_,h6,q d S L7 H7 (λc o e=>?_) ad N7 T7 (λt k=>al t (by rw[<-au];exact List.mem_append_left _ k)) inS⟩;exact kp c o (sn _ _ (g _ _ (D _ _ e))) (Qd e ad) (Qd e aM)
 ·have eT:T=Tr++[t]:=by simpa using eT
  subst eT;have aJ:(Tr++[t]).isEmpty=Gp:=by cases Tr<;>rfl
  rw[aJ];refine Yy ?_;obtain⟨U,x,rfl,k1,k2⟩:=U8 J;have af:Qx (Tr++[t])=Qx Tr+t.size:=by rw[Yu];simp[Qx]
  rw[af]at sz;have aT:=Ju t;obtain⟨Y,ab⟩:=ah t (by simp);refine⟨λaF H'=>∃m',m'<Qx (Tr++[t])/\∃(l:Gc)(xs:List V)(T S:List Th)(L:Th->Int)(x7:Option V),aF=[Ga (.ref a),Ga (.ref b),Ga (.ref l),x3,x4,x5,Ga (.ref d),x7,Gf,Gf,Gf,Gf,Gf,Gf,Gf,Gf,Gf]/\Q5 H H'/\H l=Gf/\l≠d/\H' l=Ga (.lst xs)/\Zq H' xs T/\Num P w H' d S L/\
   (∀x∈S,∀y∈S,L x=L y->x=y)/\(∀x∈S,L x<S.length)/\(∀w ps,Th.mk w ps∈S->∀p∈ps,p∈S\/p∈T)/\(∀t∈T0,t∈S\/t∈T)/\(∀t∈T,t.ok=Ge/\t.depth<=8)/\m'=Qx T/\S.length+Qx T<=3000/\(∀t∈S,t.size<=3000),λaF H' h=>h,?_⟩
  have ae:(U++[x])[(U++[x]).length - 1]?=Ga x:=by simp
  refine⟨_,Xb,.inl ⟨Xb,_,Zc.of (s4 _ _ I)⟩,l,_,_,Xb,Xb,s4 _ _ I,ae,?_⟩;rw[List.dropLast_concat];have W:Iw l H2 (upd (upd H2 z (.lst [])) l (.lst U)):=λc o e h=>by rw[Qg h];exact s4 _ _ e
  have l5:(upd (upd H2 z (.lst [])) l (.lst U)) l=Ga (.lst U):=Qb;generalize upd (upd H2 z (.lst [])) l (.lst U)=H5 at W l5⊢;have t5:Q4 H2 H5:=W.Qr I (λxs e=>by cases e);have aD:Q5 H H5:=λc o e=>W c o (aC _ _ e) (Qd e X);have N5:Num P w H5 d S L:=N.keep (λo h=>W _ _ h (Gm C)) t5;have k1:=k1.Qr t5;have k2:=k2.Qr t5;obtain⟨b0,wd,G,ps,rfl,rfl,aH,av⟩:=k2.inv;refine⟨_,Xb,_,Xb,N5.Qz6 Y ab k2 ⟨_,Xb,?_⟩⟩;have aB:∀t∈Tr,t.ok=Ge/\t.depth<=8:=λt k=>ah t (List.mem_append_left _ k);refine Iz (λc=>?_) (λc=>?_)
  ·have c:¬Th.mk wd ps∈S:=by simpa using c
   obtain⟨kvs,dh,lk,_⟩:=N5.names;refine⟨_,Xb,d,kvs,Xb,dh,_,Xb,_,Xb,N5.add (by omega) c Y ab k2 λH6 aG N6=>?_⟩;have b6:Iw d H5 H6:=aG;obtain⟨o5,aK⟩:=N5.at;have ar:Q4 H5 H6:=b6.Qr aK (λxs e=>by cases e);have aE:Q5 H H6:=λc o e=>b6 c o (aD _ _ e) (Qd e ad);have l6:=b6 _ _ l5 C;have ax:(Th.mk wd ps).size=Qx ps+1:=by simp only[Th.size]
   have aY:=av.length;have aW:=Zd ps;have aZ:=k1.length;have aV:=Zd Tr;refine⟨_,Xb,_,Xb,_,Xb,b0,_,Xb,Q9.of (ar _ _ aH),Wb _ _,λr aN=>?_⟩;rw[Qc5];have s7:=Qf aN (.tup G);refine⟨r,G,Xb,.inr (Q9.of Qb),λl2 aI=>?_⟩;have s8:=Qf aI (.lst G);refine⟨l,l2,U,G,Xb,Xb,s8 _ _ (s7 _ _ l6),Qb,small (by omega),λn R=>?_⟩;have s9:=Qf R (.lst (U++G));have ak:=s7.trans s8;have am:=ak.trans s9;obtain⟨o6,aL⟩:=N6.at;have aA:∀p∈ps,p.ok=Ge/\p.depth<=8:=λp u=>by
    have h1:okL ps=Ge:=by simp only[Th.ok,Td]at Y;exact Y.2
    rw[Jh,List.all_eq_true]at h1;have h2:=W5 u;simp only[Th.depth]at ab;exact⟨h1 p u,by omega⟩
   refine⟨Qx (Tr++ps),?_,n,U++G,Tr++ps,S++[Th.mk wd ps],_,_,Xb,aE.trans am,(aE.trans ak).free R,?_,Qb,?_,N6.same am,?_,?_,?_,?_,?_,Xb,?_,?_⟩
   ·rw[af,Yu];omega
   ·exactλz=>by rw[z,ak _ _ aL]at R;cases R
   ·exact((k1.Qr ar).append (av.Qr ar)).same am
   ·intro x M y hy e;rw[List.mem_append,List.mem_singleton]at M hy;by_cases h1:x=Th.mk wd ps
    ·by_cases h2:y=Th.mk wd ps
     ·rw[h1,h2]
     ·rw[Gk h1,Gg h2]at e;have:=low y (hy.resolve_right h2);omega
    ·by_cases h2:y=Th.mk wd ps
     ·rw[Gg h1,Gk h2]at e;have:=low x (M.resolve_right h1);omega
     ·rw[Gg h1,Gg h2]at e;exact inj x (M.resolve_right h1) y (hy.resolve_right h2) e
   ·intro x M;rw[List.mem_append,List.mem_singleton]at M;rw[List.length_append,List.length_singleton];by_cases h1:x=Th.mk wd ps
    ·rw[Gk h1];omega
    ·rw[Gg h1];have:=low x (M.resolve_right h1);omega
   ·intro w' ai h p u;rcases List.mem_append.mp h with h|h
    ·rcases cl w' ai h p u with z|z
     ·exact .inl (List.mem_append_left _ z)
     ·rcases List.mem_append.mp z with z|z
      ·exact .inr (List.mem_append_left _ z)
      ·exact .inl (List.mem_append_right _ z)
    ·rw[List.mem_singleton]at h;cases h;exact .inr (List.mem_append_right _ u)
   ·intro t k;rcases al t k with z|z
    ·exact .inl (List.mem_append_left _ z)
    ·rcases List.mem_append.mp z with z|z
     ·exact .inr (List.mem_append_left _ z)
     ·exact .inl (List.mem_append_right _ z)
   ·intro t k;rcases List.mem_append.mp k with z|z
    ·exact aB t z
    ·exact aA t z
   ·rw[Yu,List.length_append,List.length_singleton];omega
   ·intro t k;rcases List.mem_append.mp k with z|z
    ·exact ap t z
    ·rw[List.mem_singleton]at z;rw[z];omega
  ·have c:Th.mk wd ps∈S:=by simpa using c
   refine⟨Qx Tr,by rw[af];omega,l,U,Tr,S,L,_,Xb,aD,X,C,l5,k1,N5,inj,low,λw' ai h p u=>?_,λt k=>?_,aB,Xb,by omega,ap⟩
   ·rcases cl w' ai h p u with z|z
    ·exact .inl z
    ·rcases List.mem_append.mp z with z|z
     ·exact .inr z
     ·rw[List.mem_singleton]at z;rw[z];exact .inl c
   ·rcases al t k with z|z
    ·exact .inl z
    ·rcases List.mem_append.mp z with z|z
     ·exact .inr z
     ·rw[List.mem_singleton]at z;rw[z];exact .inl c
end
theorem Qy0(i:Int)(d:0<=i)(h1:i<26):∃c:Nat,atI (("abcdefghijklmnopqrstuvwxyz":GJ).cps.toList) i=Ga c/\c<0x110000:=by
 have b:(("abcdefghijklmnopqrstuvwxyz":GJ).cps.toList).length=26:=by decide+kernel
 have a:∀c∈(("abcdefghijklmnopqrstuvwxyz":GJ).cps.toList),c<0x110000:=by decide+kernel
 have hi:i.toNat<(("abcdefghijklmnopqrstuvwxyz":GJ).cps.toList).length:=by rw[b];omega
 have e:i=((i.toNat:Nat):Int):=by omega
 have q:=Qj (List.getElem?_eq_getElem hi);rw[<-e]at q;exact⟨_,q,a _ (List.getElem_mem hi)⟩
theorem Qjh{c:Nat}{x:GJ}(a:c<0x110000)(h:TC x=Ge):TC ((⟨#[c]⟩:GJ)++x)=Ge:=by show((#[c]++x.cps).all (·<0x110000))=Ge;have h':x.cps.all (·<0x110000)=Ge:=h;rw[Array.all_append,h'];simp[a]
theorem Qrr{c:Nat}{x:GJ}:((⟨#[c]⟩:GJ)++x).length=x.length+1:=by show(#[c]++x.cps).size=x.cps.size+1;simp;omega
theorem Qop{l:Int}(h1:1<=l)(h:l*2^k<=10^39):k<130:=by
 rcases Te k 130 with h'|h'
 ·exact h'
 ·exfalso;have e:(2:Int)^130<=2^k:=by
   have:(2:Nat)^130<=2^k:=Nat.pow_le_pow_right (by decide) h'
   exact_mod_cast this
  have b:(2:Int)^k<=l*2^k:=by have a:(0:Int)<=2^k:=LU (Fc (by decide));have:=Eg h1 a;simpa using this
  have c:(10:Int)^39<2^130:=by decide
  omega
theorem Qko{l:Int}(h1:1<=l / 26 - 1)(h:l*2^k<=10^39):(l / 26 - 1)*2^(k+1)<=10^39:=by
 have a:(0:Int)<2^k:=Fc (by decide);have e:(l / 26 - 1)*2^(k+1)=((l / 26 - 1)*2)*2^k:=by rw[Int.pow_succ];ac_rfl
 rw[e];have:(l / 26 - 1)*2<=l:=by omega
 have:=Eg this (LU a);omega
section
variable{P:Gj}{w:Gu}{K:PySem.W.Frag}{mg:GJ->Option Value}{base:Heap}
theorem Qce:Q3 ["_law_cell","_law_left","_law_word"] ["_law_cell"] (Qn Qmp):=by eq_refl
theorem Quj(F:Wz K "_law_any_word" "_law_any_word" Qmp f fd)(t:mg "abs"=Gf):Qz P w K mg base Yb 1 f fd ["_law_cell"] Qrc:=by
 refine F.ok Qce (λvs H Q E h=>?_) (λcdv A outer s H vs Q E v h=>?_)
 ·obtain⟨n,rfl,_⟩:=h;rfl
 obtain⟨n,rfl,q⟩:=h;refine⟨_,Qc (Vg (i:=1) Qce.nd rfl (TR Xb) (Zs Wq (Qp Qp8 rfl t LW (Qa (pv 0) Qe)) (Zs Qri Qi Qi)))
  (Qc (Vg (i:=2) Qce.nd rfl (TR Xb) Zj)
  (Qc (Wn Gs (Qo Qh8 (pv 1) Qi (Qs _))
   (Qc (Vg (i:=2) Qce.nd rfl (TR Xb) (Zs Qjd (Ql Qxf Zj (Zs Wq (pv 1) Qi)) (pv 2)))
   (Qh (Vg (i:=1) Qce.nd rfl (TR Xb) (Zs Qck (Zs Vm (pv 1) Qi) Qi)))))
  (Qh (Qt (pv 2))))),?_⟩
 refine⟨_,Xb,n,Xb,_,_,Xb,Xb,⟨by decide,by decide,by decide⟩,_,_,Xb,Xb,(by show(0:Int)<10^Dm 39;decide),?_⟩;have L0:0<=(if n<0 then -n else n) % (10:Int)^(Dm 39):=TH _ (by decide);have p:(if n<0 then -n else n) % (10:Int)^(Dm 39)<10^39:=Tv _ (by decide);refine⟨λm σ H2=>∃(l:Int)(x:GJ),σ=[Ga (.int n),Ga (.int l),Ga (.str x)]/\H2=H/\ -1<=l/\m=(l+1).toNat/\TC x=Ge/\(1<=l->l*2^x.length<=10^39)/\(0<=l->x.length<=131)/\x.length<=132,
  ⟨_,(if n<0 then -n else n) % (10:Int)^(Dm 39),"",Xb,Xb,Int.le_trans (by decide) L0,Xb,by decide+kernel,λ_=>?_,λ_=>by decide+kernel,by decide+kernel⟩,?_⟩
 ·have:(("":GJ).length)=0:=by decide+kernel
  rw[this];generalize (if n<0 then -n else n) % (10:Int)^(Dm 39)=L at p⊢;omega
 rintro m σ H2 ⟨l,x,rfl,rfl,h1,rfl,h2,j,o,u⟩;refine⟨_,Xb,_,_,Xb,Xb,_,Xb,?_⟩;refine Iz (λc=>?_) (λc=>?_)
 ·have g:0<=l:=Tq c;refine⟨λd H'=>∃b,d=[Ga (.int n),Ga (.int (l / 26 - 1)),Ga (.str b)]/\H'=H2/\TC b=Ge/\b.length=x.length+1,?_,?_⟩
  ·rintro d H' ⟨b,rfl,rfl,e,a⟩;refine⟨_,?_,l / 26 - 1,b,Xb,Xb,by omega,Xb,e,λz=>?_,λz=>?_,?_⟩
   ·omega
   ·rw[a];exact Qko z (j (by omega))
   ·rw[a];have:=Qop (k:=x.length) (l:=l) (by omega) (j (by omega));omega
   ·rw[a];have:=o g;omega
  ·obtain⟨ch,e,a⟩:=Qy0 (l % 26) (TH _ (by decide)) (Tv _ (by decide));refine⟨_,Xb,_,_,Xb,Xb,(by show(0:Int)<26;decide),_,_,ch,Xb,Xb,by decide+kernel,e,_,Xb,_,_,Xb,Xb,?_,?_⟩
   ·have r:((⟨#[ch]⟩:GJ).length)=1:=rfl;have:=o g;rw[Gy,r];omega
   ·refine⟨_,Xb,_,_,Xb,Xb,⟨by decide,by decide⟩,_,_,Xb,Xb,?_⟩;exact⟨_,Xb,Xb,Qjh a h2,Qrr⟩
 ·exact⟨_,Xb,q x (by unfold Rg;rw[h2,Gr (by omega)];rfl)⟩
end
def TT(b:Bool):String:=if b then"list"else"tuple"
theorem Jn{vs:List V}(a:H p=Gf)(h:Zq H vs ps):Zu (upd H p (.tup (.str w::vs))) (.ref p) (.mk w ps):=.mk Qb (h.same (Qf a _))
structure Qac(t u:Th)(r:Th):Prop where
 ok:t.ok=Ge->u.ok=Ge->r.ok=Ge
 dep:r.depth<=max t.depth u.depth+1
 siz:r.size<=t.size+u.size+2
 sh:t.short=Ge->u.short=Ge->r.short=Ge
 pts:∀p∈r.parts,p=t\/p=u\/p=.mk "tab" []
theorem Qvp(hw:Rg w=Ge):Qac t u (.mk w [t]):=⟨λa _=>by simp[Th.ok,okL,Rg.str hw,a],by simp only[Th.depth,Wo];omega,by simp only[Th.size,Qx];omega,λa _=>by simp[Th.short,Qah,Rg.len hw,a],λp b=>by simp only[Th.parts,List.mem_cons,List.not_mem_nil,EB]at b;exact .inl b⟩
theorem Qqy(hw:Rg w=Ge):Qac t u (.mk w [t,u]):=⟨λa b=>by simp[Th.ok,okL,Rg.str hw,a,b],by simp only[Th.depth,Wo];omega,by simp only[Th.size,Qx];omega,λa b=>by simp[Th.short,Qah,Rg.len hw,a,b],λp c=>by simp only[Th.parts,List.mem_cons,List.not_mem_nil,EB]at c;exact c.elim .inl (λh=>.inr (.inl h))⟩
theorem Qyt(hw:Rg w=Ge)(d:Rg "tab"=Ge):Qac t u (.mk w [t,u,.mk "tab" []]):=⟨λa b=>by simp[Th.ok,okL,Rg.str hw,Rg.str d,a,b],by have:=Qax t;simp only[Th.depth,Wo];omega,by simp only[Th.size,Qx];omega,λa b=>by simp[Th.short,Qah,Rg.len hw,Rg.len d,a,b],λp c=>by simp only[Th.parts,List.mem_cons,List.not_mem_nil,EB]at c;exact c⟩
theorem Qvs(hw:Rg w=Ge):Qac t u (.mk w []):=⟨λa b=>by simp[Th.ok,okL,Rg.str hw],by simp only[Th.depth,Wo];omega,by simp only[Th.size,Qx];omega,λa b=>by simp[Th.short,Qah,Rg.len hw],λp c=>by simp[Th.parts]at c⟩
def Qyi(H:Hp)(l:Gc)(t u:Th):Prop:=∃vs:List V,H l=Ga (.lst vs)/\vs.length=4/\∀v∈vs,∃r,Zu H v r/\Qac t u r
theorem Qdm{r:Th}(D:Drawn ts m)(c:ts[a]?=Ga t)(hb:ts[b]?=Ga u)(i:b<5)(R:Qac t u r):Drawn (ts++[r]) (m+1):=by
 have q:a<ts.length:=(List.getElem?_eq_some_iff.mp c).1;have v:b<ts.length:=(List.getElem?_eq_some_iff.mp hb).1;have o:=D.len;have cases:∀(j:Nat)s,(ts++[r])[j]?=Ga s->ts[j]?=Ga s\/(j=ts.length/\s=r):=λj s e=>by
  rcases Te j ts.length with h|h
  ·left;rw[List.getElem?_append_left h]at e;exact e
  ·right;rw[List.getElem?_append_right h]at e;have d:j - ts.length=0:=by have:=(List.getElem?_eq_some_iff.mp e).1;simp at this;omega
   rw[d]at e;simp at e;exact⟨by omega,e.symm⟩
 have k:=D.dep a t c;have l:=D.dep b u hb;have n:=R.dep;have w:=D.any a t c;have x:=D.tri b u hb (by omega);have y:=R.siz;refine⟨by rw[List.length_append,List.length_singleton];omega,λs f=>?_,λj s e=>?_,λj s e d=>?_,λj s e d=>?_,λj s e d=>?_,λj s e=>?_,λs f=>by
   rcases List.mem_append.mp f with h|h
   ·exact D.sh s h
   ·rw[List.mem_singleton]at h;subst h;exact R.sh (D.sh t (List.mem_of_getElem? c)) (D.sh u (List.mem_of_getElem? hb)),by rw[List.getElem?_append_left (by omega)];exact D.tab,λs f p g=>?_⟩
 ·rcases List.mem_append.mp f with h|h
  ·exact D.ok s h
  ·rw[List.mem_singleton]at h;subst h;exact R.ok (D.ok t (List.mem_of_getElem? c)) (D.ok u (List.mem_of_getElem? hb))
 ·rcases cases j s e with h|⟨rfl,rfl⟩
  ·exact D.dep j s h
  ·omega
 ·rcases cases j s e with h|⟨rfl,rfl⟩
  ·exact D.one j s h d
  ·omega
 ·rcases cases j s e with h|⟨rfl,rfl⟩
  ·exact D.two j s h d
  ·have:=D.one a t c (by omega);have:=D.one b u hb (by omega);omega
 ·rcases cases j s e with h|⟨rfl,rfl⟩
  ·exact D.tri j s h d
  ·have:=D.two a t c (by omega);have:=D.two b u hb (by omega);omega
 ·rcases cases j s e with h|⟨rfl,rfl⟩
  ·exact D.any j s h
  ·omega
 ·rcases List.mem_append.mp f with h|h
  ·exact List.mem_append_left _ (D.cl s h p g)
  ·rw[List.mem_singleton]at h;subst h;refine List.mem_append_left _ ?_;rcases R.pts p g with h|h|h
   ·rw[h];exact List.mem_of_getElem? c
   ·rw[h];exact List.mem_of_getElem? hb
   ·rw[h];exact List.mem_of_getElem? D.tab
theorem U7(xs:List α)(i:Int)(a:0<=i)(h1:i<xs.length):∃v,atI xs i=Ga v/\xs[i.toNat]?=Ga v:=by
 have hi:i.toNat<xs.length:=by omega
 have e:i=((i.toNat:Nat):Int):=by omega
 have q:=Qj (List.getElem?_eq_getElem hi);rw[<-e]at q;exact⟨_,q,List.getElem?_eq_getElem hi⟩
section
variable{P:Gj}{w:Gu}{K:PySem.W.Frag}{mg:GJ->Option Value}{base:Heap}
theorem Qk1:Q3 ["_law_cells","_law_things","_law_cell","_law_rest","_law_one","_law_other","_law_made","_law_word","_law_three"] ["_law_cells"] (Qn Qfj):=by eq_refl
theorem Qpr{g:Gc}{gd:Tf}(F:Wz K "_law_drawn_things" "_law_drawn_things" Qfj f fd)(B:Blt mg)(G:Qz P w K mg base Yb 1 g gd ["_law_cell"] Qrc)(kG:KI K g)(bG:Binds K gd ["_law_cell"] [])(mG:MG mg "_law_any_word" g):
  Qz P w K mg base Yb 2 f fd ["_law_cells"] (Qmr K):=by
 refine F.ok Qk1 (λvs H Q E h=>?_) (λcdv A outer s H vs Q E hr h=>?_)
 ·obtain⟨a,ns,rfl,_⟩:=h;rfl
 obtain⟨a,ns,rfl,hS,az,q⟩:=h;have nd:=Qk1.nd;refine⟨_,Qc (Qy 1 nd (Zr (Qa (Zf (Qa Zj Qe)) (Qa (Zf (Qa Zj Qe)) (Qa (Zf (Qa Zj Qe)) Qe)))))
  (Qc (Z5 Gs rfl (Z9 (pv 0)) (Zw 2 nd)
   (Qc (Qy 3 nd (Zs Vm (pv 2) Qi))
   (Qc (Qy 4 nd (Ql Ze (pv 1) (Zs Wq (pv 3) (Qp Z2 rfl B.len PySem.boot_len (Qa (pv 1) Qe)))))
   (Qc (Qy 5 nd (Ql Ze (pv 1) (Zs Wq (Zs Vm (pv 3) Qi) (Qp (Qn5 Xb) rfl B.min LX (Qa Qi (Qa (Qp Z2 rfl B.len PySem.boot_len (Qa (pv 1) Qe)) Qe))))))
   (Qc (Qy 6 nd (Zr (Qa (Zf (Qa Zj (Qa (pv 4) Qe))) (Qa (Zf (Qa Zj (Qa (pv 4) (Qa (pv 5) Qe)))) (Qa (Zf (Qa Zj (Qa (pv 4) (Qa (pv 5) Qe)))) (Qa (Zf (Qa Zj Qe)) Qe))))))
   (Qc (Zb (Qo Xi (Zs Wq (pv 2) Qi) Qi (Qs _))
    (Qc (Qy 7 nd (Ql Ze (Zr (Qa (Zo G hr rfl mG kG bG .nil Q7 (Qa (Zs Vm (pv 2) Qi) Qe)) (Qa Zj Qe))) (Zs Wq (Zs Vm (pv 2) Qi) Qi)))
    (Qc (Qy 8 nd (Zf (Qa (pv 7) (Qa (pv 4) (Qa (pv 5) (Qa (Zf (Qa Zj Qe)) Qe))))))
    (Qh (Qy 6 nd (Zr (Qa (Zf (Qa (pv 7) (Qa (pv 4) Qe))) (Qa (Zf (Qa (pv 7) (Qa (pv 4) (Qa (pv 5) Qe)))) (Qa (pv 8) (Qa (Zf (Qa (pv 7) Qe)) Qe)))))))))
    Qv)
   (Qh (Zk (X0 PySem.F.plainAttrs_list PySem.F.slot_list_append PySem.F.type_list_append Z3 (pv 1) (Qa (Ql Ze (pv 6) (Zs Wq (pv 2) Qi)) Qe))))))))))
  (Qh (Qt (pv 1)))),?_⟩
 have aw:Rg ("sab":GJ)=Ge:=by decide+kernel
 have tab:Rg ("tab":GJ)=Ge:=by decide+kernel
 have ay:Rg ("sob":GJ)=Ge:=by decide+kernel
 have ax:Rg ("sat":GJ)=Ge:=by decide+kernel
 have aa:Rg ("fig":GJ)=Ge:=by decide+kernel
 have an:Rg ("fog":GJ)=Ge:=by decide+kernel
 have ar:Rg ("hog":GJ)=Ge:=by decide+kernel
 refine⟨by show 1<=Gh;decide,λp1 h1=>⟨by show 1<=Gh;decide,λp2 h2=>⟨by show 1<=Gh;decide,λp3 h3=>⟨by show 3<=Gh;decide,λp hp=>?_⟩⟩⟩⟩;have s1:=Qf h1 (.tup [.str "sab"]);have s2:=Qf h2 (.tup [.str "tab"]);have s3:=Qf h3 (.tup [.str "sob"]);have s4:=Qf hp (.lst [.ref p1,.ref p2,.ref p3]);have S:H p=Gf:=((s1.trans s2).trans s3).free hp;have i1:Zu _ (.ref p1) (.mk "sab" []):=(Jn (w:="sab") h1 .nil).same ((s2.trans s3).trans s4);have i2:Zu _ (.ref p2) (.mk "tab" []):=(Jn (w:="tab") h2 .nil).same (s3.trans s4);have i3:Zu _ (.ref p3) (.mk "sob" []):=(Jn (w:="sob") h3 .nil).same s4;refine⟨_,Xb,a,Xb,⟨_,(((s1.trans s2).trans s3).trans s4).seq hS⟩,Ys (K:=K) (a:=a) (xs:=ns.map V.int) (λi σ H2=>∃(us:List V)(ts:List Th)(x2 x3 x4 x5 x6 x7 x8:Option V),σ=[Ga (.ref a),Ga (.ref p),x2,x3,x4,x5,x6,x7,x8]/\Q5 H H2/\H2 p=Ga (.lst us)/\Zq H2 us ts/\Drawn ts i)
  ⟨_,_,_,_,_,_,_,_,_,Xb,((s1.trans s2).trans s3).trans s4,Qb,.cons i1 (.cons i2 (.cons i3 .nil)),?_⟩ (λi σ H2 _⟨_,_,_,_,_,_,_,_,_,_,g,_⟩=>g.seq hS) ?_ ?_⟩
 ·refine⟨Xb,λt J=>?_,λj t e=>?_,λj t e _=>?_,λj t e _=>?_,λj t e _=>?_,λj t e=>?_,λt J=>by simp at J;rcases J with rfl|rfl|rfl<;>decide+kernel,rfl,λt J p hp=>?_⟩
  ·simp at J;rcases J with rfl|rfl|rfl
   ·simp[Th.ok,okL,Rg.str aw]
   ·simp[Th.ok,okL,Rg.str tab]
   ·simp[Th.ok,okL,Rg.str ay]
  rotate_right
  ·simp at J;rcases J with rfl|rfl|rfl<;>simp[Th.parts]at hp
  all_goals
   have hm:=List.mem_of_getElem? e;simp at hm;rcases hm with rfl|rfl|rfl<;>simp[Th.depth,Wo,Th.size,Qx]
 ·rintro i y σ H2 hi ⟨us,ts,x2,x3,x4,x5,x6,x7,x8,rfl,g,I,N,D⟩;obtain⟨c,rfl⟩:∃z,y=V.int z:=by
   rw[List.getElem?_map]at hi;cases e:ns[i]? with
   |none=>rw[e]at hi;cases hi
   |some z=>rw[e]at hi;exact⟨z,(Tc hi).symm⟩
  have ao:i<(ns.map V.int).length:=(List.getElem?_eq_some_iff.mp hi).1;rw[List.length_map]at ao;have lu:=N.length;have ld:=D.len;have hL:(us.length:Int)=3+i:=by omega
  refine⟨_,Xb,_,_,Xb,Xb,⟨by decide,by decide⟩,?_⟩;obtain⟨m,a1,b1⟩:=U7 us (c / 4 % (us.length:Int)) (TH _ (by omega)) (Tv _ (by omega));refine⟨_,Xb,_,Xb,_,Xb,p,us,Xb,.inl (Zc.of I),_,_,Xb,Xb,(by show(0:Int)<us.length;omega),p,us,_,m,Xb,Xb,Zc.of I,a1,?_⟩;have d:(if(us.length:Int)<5 then(us.length:Int)else 5)<=us.length/\0<(if(us.length:Int)<5 then(us.length:Int)else 5)/\(if(us.length:Int)<5 then(us.length:Int)else 5)<=5:=by split<;>omega
  obtain⟨n,a2,b2⟩:=U7 us (c / 4 / 5 % (if(us.length:Int)<5 then(us.length:Int)else 5)) (TH _ (by omega)) (Int.lt_of_lt_of_le (Tv _ d.2.1) d.1);have am:(c / 4 / 5 % (if(us.length:Int)<5 then(us.length:Int)else 5)).toNat<5:=by have h1:=Tv (c / 4 / 5) d.2.1;have h2:=TH (c / 4 / 5) (Int.ne_of_gt d.2.1);have h3:=d.2.2;omega
  refine⟨_,Xb,_,Xb,_,_,Xb,Xb,⟨by decide,by decide⟩,_,Xb,p,us,Xb,.inl (Zc.of I),5,_,Xb,_,_,Xb,Xb,d.2.1,p,us,_,n,Xb,Xb,Zc.of I,a2,?_⟩;obtain⟨t1,c1,X⟩:=N.get b1;obtain⟨t2,c2,k2⟩:=N.get b2;refine⟨_,Xb,by show 2<=Gh;decide,λq1 ac=>⟨_,Xb,_,Xb,by show 3<=Gh;decide,λq2 ad=>⟨_,Xb,_,Xb,by show 3<=Gh;decide,λq3 ae=>⟨by show 1<=Gh;decide,λq4 ag=>⟨by show 4<=Gh;decide,λl hl=>?_⟩⟩⟩⟩⟩;have U:=Qf ac (.tup [.str "fig",m]);have Z:=Qf ad (.tup [.str "fog",m,n]);have e3:=Qf ae (.tup [.str "fig",m,n]);have e4:=Qf ag (.tup [.str "sat"]);have W:=Qf hl (.lst [.ref q1,.ref q2,.ref q3,.ref q4]);have u:=(((U.trans Z).trans e3).trans e4).trans W;have m1:=(Jn (w:="fig") ac (.one X)).same (((Z.trans e3).trans e4).trans W);have m2:=(Jn (w:="fog") ad (.cons (X.same U) (.one (k2.same U)))).same ((e3.trans e4).trans W);have m3:=(Jn (w:="fig") ae (.cons (X.same (U.trans Z)) (.one (k2.same (U.trans Z))))).same (e4.trans W);have m4:=(Jn (w:="sat") ag .nil).same W;generalize ab:upd (upd (upd (upd (upd H2 q1 (.tup [.str "fig",m])) q2 (.tup [.str "fog",m,n])) q3 (.tup [.str "fig",m,n])) q4 (.tup [.str "sat"])) l (.lst [.ref q1,.ref q2,.ref q3,.ref q4])=H3 at*;have L:Qyi H3 l t1 t2:=by
   refine⟨_,by rw[<-ab];exact Qb,Xb,λv hv=>?_⟩;simp at hv;rcases hv with rfl|rfl|rfl|rfl
   ·exact⟨_,m1,Qvp aa⟩
   ·exact⟨_,m2,Qqy an⟩
   ·exact⟨_,m3,Qqy aa⟩
   ·exact⟨_,m4,Qvs ax⟩
  clear m1 m2 m3 m4 ab U Z e3 e4 W;refine⟨_,Xb,_,_,Xb,Xb,(by show(0:Int)<9;decide),Xb,_,Xb,?_⟩;refine Iz (λ_=>?_) (λ_=>?_)
  ·refine⟨_,Xb,_,_,Xb,Xb,⟨by decide,by decide⟩,_,Xb,λx hx=>⟨by show 2<=Gh;decide,λl2 ap=>?_⟩⟩;have d1:=Qf ap (.lst [.str x,.str "hog"]);obtain⟨wv,a3,b3⟩:=U7 [V.str x,V.str "hog"] (c / 36 % 2) (TH _ (by decide)) (Tv _ (by decide));have au:∃k,wv=.str k/\Rg k=Ge:=by
    have hm:=List.mem_of_getElem? b3;simp at hm;rcases hm with rfl|rfl
    ·exact⟨_,Xb,hx⟩
    ·exact⟨_,Xb,ar⟩
   obtain⟨k,rfl,C⟩:=au;refine⟨_,Xb,_,_,Xb,Xb,⟨by decide,by decide⟩,_,_,Xb,Xb,(by show(0:Int)<2;decide),l2,_,_,_,Xb,Xb,Zc.of Qb,a3,?_⟩;refine⟨_,Xb,_,Xb,_,Xb,by show 1<=Gh;decide,λr1 ak=>⟨by show 4<=Gh;decide,λr2 al=>?_⟩⟩;have d2:=Qf ak (.tup [.str "tab"]);have d3:=Qf al (.tup [.str k,m,n,.ref r1]);refine⟨_,Xb,_,Xb,by show 2<=Gh;decide,λq5 ah=>⟨_,Xb,_,Xb,_,Xb,by show 3<=Gh;decide,λq6 ai=>⟨_,Xb,_,Xb,by show 1<=Gh;decide,λq7 aj=>⟨by show 4<=Gh;decide,λl3 aq=>?_⟩⟩⟩⟩;have d4:=Qf ah (.tup [.str k,m]);have d5:=Qf ai (.tup [.str k,m,n]);have d6:=Qf aj (.tup [.str k]);have Y:=Qf aq (.lst [.ref q5,.ref q6,.ref r2,.ref q7]);have aA:=d1;have z2:=u.trans d1;have z3:=z2.trans d2;have z4:=z3.trans d3;have z5:=z4.trans d4;have z6:=z5.trans d5;have tb:=(Jn (w:="tab") ak .nil);have n1:=(Jn (w:=k) al (.cons (X.same z3) (.cons (k2.same z3) (.one tb)))).same (((d4.trans d5).trans d6).trans Y);have n2:=(Jn (w:=k) ah (.one (X.same z4))).same ((d5.trans d6).trans Y);have n3:=(Jn (w:=k) ai (.cons (X.same z5) (.one (k2.same z5)))).same (d6.trans Y);have n4:=(Jn (w:=k) aj .nil).same Y;have zz:=(z6.trans d6).trans Y;have up:=@Qb (upd (upd (upd (upd (upd (upd H3 l2 (.lst [.str x,.str "hog"])) r1 (.tup [.str "tab"])) r2 (.tup [.str k,m,n,.ref r1])) q5 (.tup [.str k,m])) q6 (.tup [.str k,m,n])) q7 (.tup [.str k])) l3 (.lst [.ref q5,.ref q6,.ref r2,.ref q7]);generalize upd (upd (upd (upd (upd (upd (upd H3 l2 (.lst [.str x,.str "hog"])) r1 (.tup [.str "tab"])) r2 (.tup [.str k,m,n,.ref r1])) q5 (.tup [.str k,m])) q6 (.tup [.str k,m,n])) q7 (.tup [.str k])) l3 (.lst [.ref q5,.ref q6,.ref r2,.ref q7])=H4 at*;have M:Qyi H4 l3 t1 t2:=by
    refine⟨_,up,Xb,λv hv=>?_⟩;simp at hv;rcases hv with rfl|rfl|rfl|rfl
    ·exact⟨_,n2,Qvp C⟩
    ·exact⟨_,n3,Qqy C⟩
    ·exact⟨_,n1,Qyt C tab⟩
    ·exact⟨_,n4,Qvs C⟩
   obtain⟨fs,hf,lf,af⟩:=M;obtain⟨v,av,bv⟩:=U7 fs (c % 4) (TH _ (by decide)) (by rw[lf];exact Tv _ (by decide));obtain⟨r,T,R⟩:=af v (List.mem_of_getElem? bv);have O:=zz _ _ I;refine⟨_,Xb,.inl ⟨Xb,_,Zc.of O⟩,_,Xb,_,Xb,_,_,Xb,Xb,(by show(0:Int)<4;decide),l3,fs,_,v,Xb,Xb,Zc.of hf,av,p,us,v,Xb,Xb,O,by rw[Gy];omega,?_⟩;have tu:=Zz (H:=H4) (a:=p) (o:=.lst (us++[v])) λxs e=>by rw[O]at e;cases e
   refine⟨us++[v],ts++[r],_,_,_,_,_,_,_,Xb,λb o e=>?_,Qb,((N.same zz).append (.one T)).Qr tu,Qdm D c1 c2 am R⟩;rw[Qg (Qd e S)];exact zz _ _ (g _ _ e)
  ·skip
   obtain⟨fs,hf,lf,af⟩:=L;obtain⟨v,av,bv⟩:=U7 fs (c % 4) (TH _ (by decide)) (by rw[lf];exact Tv _ (by decide));obtain⟨r,T,R⟩:=af v (List.mem_of_getElem? bv);have O:=u _ _ I;refine⟨_,Xb,.inl ⟨Xb,_,Zc.of O⟩,_,Xb,_,Xb,_,_,Xb,Xb,(by show(0:Int)<4;decide),l,fs,_,v,Xb,Xb,Zc.of hf,av,p,us,v,Xb,Xb,O,by rw[Gy];omega,?_⟩;have tu:=Zz (H:=H3) (a:=p) (o:=.lst (us++[v])) λxs e=>by rw[O]at e;cases e
   refine⟨us++[v],ts++[r],_,_,_,_,_,_,_,Xb,λb o e=>?_,Qb,((N.same u).append (.one T)).Qr tu,Qdm D c1 c2 am R⟩;rw[Qg (Qd e S)];exact u _ _ (g _ _ e)
 ·rintro σ H2 ⟨us,ts,x2,x3,x4,x5,x6,x7,x8,rfl,g,I,N,D⟩;rw[List.length_map]at D;exact⟨_,Xb,q p us ts H2 g S I N D⟩
end
theorem Qnn(b:Bool):(tw b==("unlike":GJ))= !b:=by cases b<;>decide+kernel
section
variable{P:Gj}{w:Gu}{K:PySem.W.Frag}{mg:GJ->Option Value}{base:Heap}
theorem Qin:Q3 ["_law_told","_law_deed","_law_every","_law_leaders","_law_word","_law_one","_law_other"] ["_law_told","_law_deed"] (Qn Qbo):=by eq_refl
theorem Qng{U:Tf}(F:Wz K "_law_barred" "_law_barred" Qbo f fd)
  (GC:Qz P w K mg base Yb 1 fC U ["_law_told","_law_things"] (Qee P w))(kC:KI K fC)(bC:Binds K U ["_law_told","_law_things"] [])(mC:MG mg "_law_classes" fC):
  Qz P w K mg base Yb 2 f fd ["_law_told","_law_deed"] Qik:=by
 refine F.ok Qin (λvs H Q E h=>?_) (λcdv A outer s H vs Q E Y h=>?_)
 ·obtain⟨a,e,us,tl,v1,v2,b,x,y,rfl,_⟩:=h;rfl
 obtain⟨a,e,us,tl,v1,v2,b,x,y,rfl,ha,C,he,h1,h2,kx,ky,O,hsz,q⟩:=h;have nd:=Qin.nd;have Z:=Y.units;refine⟨_,(Qc (Qy 2 nd (Zs Vi (pv 0) (Zr (Qa (pv 1) Qe))))
  (Qc (Qy 3 nd (Zo GC Y rfl mC kC bC .nil Q7 (Qa (pv 2) (Qa (Zr Qe) Qe))))
  (Qc (Z5 Gs rfl (Z9 (pv 2)) (Vh rfl (Zl (Zw 4 nd) (Zl (Zw 5 nd) (Zl (Zw 6 nd) Wc))))
  (Qh (Zb (PW.pt (Qai (Qo Xi (pv 4) Zj (Qs _)) (Oa (Qo Xi (Ql (Ov Z) (pv 3) (pv 5)) (Ql (Ov Z) (pv 3) (pv 6)) (Qs _)))))
  (Qh (Qt Ye)) Qv)))
  (Qh (Qt Ye))))),?_⟩
 have ac:us.length=tl.length:=Paired.length C;have ab:tl.length<=3000:=by have:=Zd (tl.map (·.2.1));rw[List.length_map]at this;omega
 refine⟨_,Xb,_,Xb,by show 1<=Gh;decide,λl hl=>?_⟩;have s3:=Qf hl (.lst [.ref e]);refine⟨a,l,us,[.ref e],Xb,Xb,s3 _ _ ha,Qb,small (by show us.length+1<=_;omega),λn hn=>?_⟩;have s4:=Qf hn (.lst (us++[.ref e]));refine⟨_,Xb,Gx _,λz hz=>?_⟩;have s5:=Qf hz (.lst []);have sC:=(s3.trans s4).trans s5;have B:Qx ([]:List Th)+Qx ((tl++[(b,x,y)]).map (·.2.1))+Qx ((tl++[(b,x,y)]).map (·.2.2))<=3000:=by rw[List.map_append,List.map_append,Yu,Yu];simp only[List.map_cons,List.map_nil,Qx];omega
 have d:Ra H (us++[.ref e]) (tl++[(b,x,y)]):=Yj C (.cons ⟨e,v1,v2,Xb,he,h1,h2⟩ .nil);have R:(us++[V.ref e]).length=(tl++[(b,x,y)]).length:=Paired.length d;have r:=s5 _ _ (@Qb _ n (.lst (us++[.ref e])));have o:∀p∈tl++[(b,x,y)],(p.2.1.ok=Ge/\p.2.1.depth<=8)/\p.2.2.ok=Ge/\p.2.2.depth<=8:=by
  intro p j;rcases List.mem_append.mp j with j|j
  ·exact O p j
  ·rw[List.mem_singleton]at j;subst j;exact⟨kx,ky⟩
 generalize us++[V.ref e]=G at*;generalize tl++[(b,x,y)]=c at*;refine⟨n,z,G,[],c,[],Xb,r,d.Qr (Q4.of sC),Qb,.nil,(λt ht=>nomatch ht),o,B,λd2 S2 L2 H2 X aa S T _ g=>?_⟩;have D:=sC.trans X;have nD:=X _ _ r;refine⟨_,Xb,n,Xb,⟨_,Zc.of nD⟩,Ys (K:=K) (a:=n) (xs:=G) (λi σ I=>I=H2/\(∃x4 x5 x6,σ=[Ga (.ref a),Ga (.ref e),Ga (.ref n),Ga (.ref d2),x4,x5,x6])/\∀u v,(Gp,u,v)∈c.take i->¬Cg c u v)
  ⟨Xb,⟨_,_,_,Xb⟩,by simp⟩ (λi σ I _⟨e,_⟩=>Zc.of (by rw[e];exact nD)) ?_ ?_⟩
 ·rintro i p σ I hi ⟨rfl,⟨x4,x5,x6,rfl⟩,m⟩;obtain⟨⟨M,J,L⟩,W,a',w1,w2,rfl,N,t1,t2⟩:=Qw d hi;obtain⟨c1,_,_,_,rfl,_,_,_⟩:=t1.inv;obtain⟨c2,_,_,_,rfl,_,_,_⟩:=t2.inv;have mem:=List.mem_of_getElem? W;have i2:=g (M,J,L) mem;have tk:c.take (i+1)=c.take i++[(M,J,L)]:=by rw[List.take_add_one,W];rfl
  refine⟨a',_,Xb,Q9.of (D _ _ N),Xb,_,_,Xb,_,_,Xb,_,_,Xb,Xb,?_⟩;refine⟨_,Xb,Xb,_,Xb,?_⟩;rw[Q8,Qnn];cases M with
  |true=>
   refine Q6 (Q6 ⟨Xb,⟨_,_,_,Xb⟩,λu v h=>?_⟩);rw[tk,List.mem_append,List.mem_singleton]at h;rcases h with h|h
   ·exact m u v h
   ·cases h
  |false=>
   refine Yy ?_;refine⟨_,Xb,_,Xb,S.get i2.1 (t1.same D) ⟨_,Xb,_,Xb,S.get i2.2 (t2.same D) ⟨Xb,_,Xb,?_⟩⟩⟩;rw[V9];refine Iz (λk=>?_) (λk=>?_)
   ·have k:L2 J=L2 L:=by simpa using k
    exact q Ge _ D ⟨λ_=>⟨J,L,mem,(T.iff i2.1 i2.2).mp k⟩,λ_=>rfl⟩
   ·refine⟨Xb,⟨_,_,_,Xb⟩,λu v h=>?_⟩;rw[tk,List.mem_append,List.mem_singleton]at h;rcases h with h|h
    ·exact m u v h
    ·cases h;intro z;have:=(T.iff i2.1 i2.2).mpr z;simp[this]at k
 ·rintro σ I ⟨rfl,_,m⟩;rw[R,List.take_length]at m;exact q Gp _ D ⟨λz=>by(cases z),λ⟨u,v,h1,h2⟩=>absurd h2 (m u v h1)⟩
end
section
variable{P:Gj}{w:Gu}{K:PySem.W.Frag}{mg:GJ->Option Value}{base:Heap}
theorem Qvv:Q3 ["_law_cell","_law_size"] ["_law_cell"] (Qn Qs0):=by eq_refl
theorem Qxp(F:Wz K "_law_any" "_law_any" Qs0 f fd):Qz P w K mg base Yb 1 f fd ["_law_cell"] Qv1:=by
 refine F.ok Qvv (λvs H Q E h=>?_) (λcdv A outer s H vs Q E e h=>?_)
 ·obtain⟨n,rfl,_⟩:=h;rfl
 obtain⟨n,rfl,q⟩:=h;have nd:=Qvv.nd;refine⟨_,(Qc (Qy 1 nd (Zs Wq (Zs Vm (pv 0) Qi) (Zs Qri Qi Qi)))
  (Qh (Qt (Zs Qp9 (pv 1) (Ql Ze (Zr (Qa Qi (Qa (Jl Vj Qi) Qe))) (Zs Wq (pv 0) Qi)))))),?_⟩
 refine⟨_,Xb,_,_,Xb,Xb,⟨by decide,by decide⟩,_,_,Xb,Xb,⟨by decide,by decide,by decide⟩,_,_,Xb,Xb,(by show(0:Int)<10^Dm 59;decide),?_⟩;refine⟨_,Xb,_,Xb,by show 2<=Gh;decide,λl a=>?_⟩;obtain⟨v,c,d⟩:=U7 [V.int 1,V.int (-1)] (n % 2) (TH _ (by decide)) (Tv _ (by decide));have b:=List.mem_of_getElem? d;simp only[List.mem_cons,List.not_mem_nil,EB]at b;refine⟨_,Xb,_,_,Xb,Xb,(by show(0:Int)<2;decide),l,_,_,v,Xb,Xb,Zc.of Qb,c,?_⟩;rcases b with rfl|rfl
 ·exact⟨_,_,Xb,Xb,.inr ⟨by decide,by decide⟩,q _ _ (Qf a _)⟩
 ·exact⟨_,_,Xb,Xb,.inr ⟨by decide,by decide⟩,q _ _ (Qf a _)⟩
theorem Qqa:Q3 ["_law_script","_law_most","_law_bound"] ["_law_script","_law_most","_law_bound"] (Qn Qk0):=by eq_refl
theorem Qux(F:Wz K "_law_room" "_law_room" Qk0 f fd)(B:Blt mg):Qz P w K mg base Yb 1 f fd ["_law_script","_law_most","_law_bound"] (Qpi K):=by
 refine F.ok Qqa (λvs H Q E h=>?_) (λcdv A outer s H vs Q E e h=>?_)
 ·obtain⟨a,ns,m,b,rfl,_⟩:=h;rfl
 obtain⟨a,ns,m,b,rfl,hS,d,q⟩:=h;have nd:=Qqa.nd;refine⟨_,(Qc (Zb (Qo Qp6 (Qp Zm rfl B.len PySem.boot_len (Qa (pv 0) Qe)) Qi (Qs _))
  (Qh (Qt (pv 2))) Qv)
  (Qh (Qt (pv 1)))),?_⟩
 refine⟨_,Xb,_,_,Xb,.inl ⟨_,hS,Xb⟩,_,_,Xb,Xb,_,Xb,?_⟩;refine Iz (λc=>?_) (λc=>?_)
 ·exfalso;have c:=Tq c;rw[List.length_map]at c;omega
 ·exact⟨_,Xb,q⟩
theorem Qk8:Q3 ["_law_cells","_law_things","_law_deeds","_law_k","_law_rest","_law_one","_law_other","_law_way","_law_odd"] ["_law_cells","_law_things"] (Qn Qgo):=by eq_refl
theorem Qsk{dA:Tf}(F:Wz K "_law_drawn_deeds" "_law_drawn_deeds" Qgo f fd)(B:Blt mg)
  (GA:Qz P w K mg base Yb 1 fA dA ["_law_cell"] Qv1)(kA:KI K fA)(bA:Binds K dA ["_law_cell"] [])(mA:MG mg "_law_any" fA):
  Qz P w K mg base Yb 2 f fd ["_law_cells","_law_things"] (Qld K):=by
 refine F.ok Qk8 (λvs H Q E h=>?_) (λcdv A outer s H vs Q E hr h=>?_)
 ·obtain⟨a,b,ns,us,ts,rfl,_⟩:=h;rfl
 obtain⟨a,b,ns,us,ts,rfl,hS,ab,hb,D,ad,ac,q⟩:=h;have nd:=Qk8.nd;have af:=D.length;refine⟨_,(Qc (Qy 2 nd (Zr Qe))
  (Qc (Z5 Gs rfl (Vp rfl B.range (Qa (Qp Zm rfl B.len PySem.boot_len (Qa (pv 0) Qe)) Qe)) (Zw 3 nd)
  (Qc (Qy 4 nd (Zs Vm (Ql Ze (pv 0) (pv 3)) Qi))
  (Qc (Qy 5 nd (Ql Ze (pv 1) (Zs Wq (Zs Qaz (pv 4) (pv 3)) (Qp Zm rfl B.len PySem.boot_len (Qa (pv 1) Qe)))))
  (Qc (Qy 6 nd (Ql Ze (pv 1) (Zs Wq (Zs Qaz (Zs Qaz (Zs Vm (pv 4) Qi) (Zs Qp9 Qi (pv 3))) Qi) (Qp Zm rfl B.len PySem.boot_len (Qa (pv 1) Qe)))))
  (Qc (Qy 7 nd (Zs Wq (Ql Ze (pv 0) (pv 3)) Qi))
  (Qh (Zb (Qo Ug (pv 7) Qi (Qs _))
  (Qh (Zk (X0 PySem.F.plainAttrs_list PySem.F.slot_list_append PySem.F.type_list_append Z3 (pv 2) (Qa (Zf (Qa Zj (Qa (pv 5) (Qa (pv 6) Qe)))) Qe)))) (Qh (Zb (Qo Ug (pv 7) Qi (Qs _))
  (Qh (Zk (X0 PySem.F.plainAttrs_list PySem.F.slot_list_append PySem.F.type_list_append Z3 (pv 2) (Qa (Zf (Qa Zj (Qa (pv 5) (Qa (pv 6) Qe)))) Qe)))) (Qh (Zb (Qo Ug (pv 7) Qi (Qs _))
  (Qh (Zk (X0 PySem.F.plainAttrs_list PySem.F.slot_list_append PySem.F.type_list_append Z3 (pv 2) (Qa (Zf (Qa Zj (Qa (pv 5) (Qa (pv 6) Qe)))) Qe)))) (Qc (Qy 8 nd (Zo GA hr rfl mA kA bA .nil Q7 (Qa (Ql Ze (pv 0) (pv 3)) Qe)))
  (Qh (Zk (X0 PySem.F.plainAttrs_list PySem.F.slot_list_append PySem.F.type_list_append Z3 (pv 2) (Qa (Zf (Qa Zj (Qa (Ql Ze (Zr (Qa (Zs Wq (pv 4) Qi) (Qa Qi (Qa (Jl Vj Qi) (Qa (pv 8) Qe))))) (Zs Wq (Zs Vm (pv 4) Qi) Qi)) Qe))) Qe))))))))))))))))
  (Qh (Qt (pv 2))))),?_⟩
 refine⟨Gx _,λp hp=>?_⟩;have s1:=Qf hp (.lst []);refine⟨_,Xb,_,_,Xb,.inl ⟨_,s1.seq hS,Xb⟩,_,Xb,by omega,by rw[List.length_map];omega,Vo (lo:=0) (n:=(((ns.map V.int).length:Int)).toNat) (λi σ H1=>∃(es:List V)(dl:List Dd)(S T U W X Y:Option V),σ=[Ga (.ref a),Ga (.ref b),Ga (.ref p),S,T,U,W,X,Y]/\Q5 H H1/\H1 p=Ga (.lst es)/\Rc H1 es dl/\dl.length=i/\∀d∈dl,d.fits ts)
  ⟨[],[],_,_,_,_,_,_,Xb,s1,Qb,.nil,Xb,λd hd=>nomatch hd⟩ ?_ ?_⟩
 ·rintro i σ H1 hi ⟨es,dl,S,T,U,W,X,Y,rfl,y,k,g2,g3,g4⟩;have hi:i<ns.length:=by rw[List.length_map]at hi;omega
  have ae:es.length=dl.length:=Paired.length g2;generalize hc:ns[i]=c;have ec:atI (ns.map V.int) (0+(i:Int))=Ga (.int c):=by rw[Du];refine Qj ?_;rw[List.getElem?_map,List.getElem?_eq_getElem hi,hc];rfl
  have pos:(0:Int)<us.length:=by omega
  obtain⟨t,a1,f1⟩:=U7 us ((c / 10+(0+(i:Int))) % us.length) (TH _ (by omega)) (Tv _ pos);obtain⟨u,a2,f2⟩:=U7 us ((c / 10 / 7+2*(0+(i:Int))+1) % us.length) (TH _ (by omega)) (Tv _ pos);obtain⟨O,e1,i1⟩:=D.get f1;obtain⟨R,e2,i2⟩:=D.get f2;have I:=List.mem_of_getElem? e1;have J:=List.mem_of_getElem? e2;have r:=y _ _ hb;refine⟨_,Xb,_,Xb,a,_,_,_,Xb,Xb,y.seq hS,ec,_,_,Xb,Xb,⟨by decide,by decide⟩,?_⟩;refine⟨_,Xb,_,Xb,_,Xb,_,_,Xb,Xb,_,Xb,_,_,Xb,.inl ⟨us,Zc.of r,Xb⟩,_,_,Xb,Xb,pos,b,us,_,t,Xb,Xb,Zc.of r,a1,?_⟩;refine⟨_,Xb,_,Xb,_,_,Xb,Xb,⟨by decide,by decide⟩,_,Xb,_,_,Xb,Xb,.inl ⟨by decide,by decide⟩,_,_,Xb,Xb,_,_,Xb,Xb,_,Xb,_,_,Xb,.inl ⟨us,Zc.of r,Xb⟩,_,_,Xb,Xb,pos,b,us,_,u,Xb,Xb,Zc.of r,a2,?_⟩;refine⟨_,Xb,_,Xb,a,_,_,_,Xb,Xb,y.seq hS,ec,_,_,Xb,Xb,(by show(0:Int)<10;decide),?_⟩;have fin:∀{v:Hp}{e:Gc}{xs:List V}{d:Dd}{Z:Option V},Q5 H1 v->v e=Gf->d.fits ts->Qfh (upd (upd v e (.tup xs)) p (.lst (es++[.ref e]))) (.ref e) d->
    ∃(M:List V)(dl:List Dd)(S T U W X Y:Option V),[Ga (V.ref a),Ga (.ref b),Ga (.ref p),Ga (.int (0+(i:Int))),Ga (.int (c / 10)),Ga t,Ga u,Ga (.int (c % 10)),Z]=[Ga (.ref a),Ga (.ref b),Ga (.ref p),S,T,U,W,X,Y]/\Q5 H (upd (upd v e (.tup xs)) p (.lst (es++[.ref e])))/\(upd (upd v e (.tup xs)) p (.lst (es++[.ref e]))) p=Ga (.lst M)/\Rc (upd (upd v e (.tup xs)) p (.lst (es++[.ref e]))) M dl/\dl.length=i+1/\∀d∈dl,d.fits ts:=by
   intro v e xs d Z N g hf hd;have s4:=Qf g (.tup xs);have p4:=s4 _ _ (N _ _ k);have L:Q4 H1 (upd (upd v e (.tup xs)) p (.lst (es++[.ref e]))):=((Q4.of N).trans (Q4.of s4)).trans (Zz λys z=>by rw[p4]at z;cases z);refine⟨es++[.ref e],dl++[d],_,_,_,_,_,_,Xb,λq o hq=>?_,Qb,Yj (g2.Qr L) (.cons hd .nil),by rw[List.length_append,List.length_singleton,g3],λd' aa=>?_⟩
   ·rw[Qg (Qd hq hp)];exact s4 _ _ (N _ _ (y _ _ hq))
   ·rcases List.mem_append.mp aa with z|z
    ·exact g4 d' z
    ·rw[List.mem_singleton]at z;rw[z];exact hf
  have j:∀{x:GJ}{e:Gc}{d:Dd},H1 e=Gf->d.fits ts->(d=.ask O R/\x="ask"\/∃bb,d=.tell bb O R/\x=tw bb)->Qfh (upd (upd H1 e (.tup [.str x,t,u])) p (.lst (es++[.ref e]))) (.ref e) d:=by
   intro x e d g hf hd;have s4:=Qf g (.tup [.str x,t,u]);have p4:=s4 _ _ k;have C:e≠p:=λz=>by rw[z,k]at g;cases g
   have L:Q4 H (upd (upd H1 e (.tup [.str x,t,u])) p (.lst (es++[.ref e]))):=((Q4.of y).trans (Q4.of s4)).trans (Zz λys z=>by rw[p4]at z;cases z);have at_:(upd (upd H1 e (.tup [.str x,t,u])) p (.lst (es++[.ref e]))) e=Ga (.tup [.str x,t,u]):=by rw[Qg C];exact Qb
   rcases hd with⟨rfl,rfl⟩|⟨bb,rfl,rfl⟩
   ·exact⟨e,t,u,Xb,at_,i1.Qr L,i2.Qr L⟩
   ·exact⟨e,t,u,Xb,at_,i1.Qr L,i2.Qr L⟩
  refine⟨_,Xb,_,_,Xb,Xb,_,Xb,?_⟩;refine Iz (λc1=>?_) (λc1=>?_)
  ·refine⟨_,Xb,.inl ⟨Xb,_,Zc.of k⟩,_,Xb,_,Xb,by show 3<=Gh;decide,λe g=>?_⟩;refine⟨p,es,.ref e,Xb,Xb,Qf g _ _ _ k,by rw[Gy];omega,?_⟩;exact fin (d:=.tell Ge O R) (λ_ _ h=>h) g ⟨I,J⟩ (j g ⟨I,J⟩ (.inr ⟨Ge,Xb,Xb⟩))
  refine⟨_,Xb,_,_,Xb,Xb,_,Xb,?_⟩;refine Iz (λc2=>?_) (λc2=>?_)
  ·refine⟨_,Xb,.inl ⟨Xb,_,Zc.of k⟩,_,Xb,_,Xb,by show 3<=Gh;decide,λe g=>?_⟩;refine⟨p,es,.ref e,Xb,Xb,Qf g _ _ _ k,by rw[Gy];omega,?_⟩;exact fin (d:=.tell Gp O R) (λ_ _ h=>h) g ⟨I,J⟩ (j g ⟨I,J⟩ (.inr ⟨Gp,Xb,Xb⟩))
  refine⟨_,Xb,_,_,Xb,Xb,_,Xb,?_⟩;refine Iz (λc3=>?_) (λc3=>?_)
  ·refine⟨_,Xb,.inl ⟨Xb,_,Zc.of k⟩,_,Xb,_,Xb,by show 3<=Gh;decide,λe g=>?_⟩;refine⟨p,es,.ref e,Xb,Xb,Qf g _ _ _ k,by rw[Gy];omega,?_⟩;exact fin (d:=.ask O R) (λ_ _ h=>h) g ⟨I,J⟩ (j g ⟨I,J⟩ (.inl ⟨Xb,Xb⟩))
  refine⟨_,Xb,_,Xb,a,_,_,_,Xb,Xb,y.seq hS,ec,_,Xb,λm H2 s2=>?_⟩;refine⟨_,Xb,.inl ⟨Xb,_,Zc.of (s2 _ _ k)⟩,_,Xb,_,_,Xb,Xb,(by show(0:Int)<4;decide),_,Xb,_,Xb,by show 4<=Gh;decide,λl hl=>?_⟩;have N:=Qf hl (.lst [.int (c / 10 % 4),.int 0,.int (-1),.int m]);obtain⟨v3,a3,f3⟩:=U7 [V.int (c / 10 % 4),.int 0,.int (-1),.int m] (c / 10 / 4 % 4) (TH _ (by decide)) (Tv _ (by decide));have hv:=List.mem_of_getElem? f3;obtain⟨z,rfl⟩:∃z,v3=V.int z:=by simp only[List.mem_cons,List.not_mem_nil,EB]at hv;rcases hv with h|h|h|h<;>exact⟨_,h⟩
  refine⟨_,Xb,_,_,Xb,Xb,⟨by decide,by decide⟩,_,_,Xb,Xb,(by show(0:Int)<4;decide),l,_,_,.int z,Xb,Xb,Zc.of Qb,a3,by show 2<=Gh;decide,λe g=>?_⟩;have G:=s2.trans N;have C:e≠p:=λz=>by rw[z,G _ _ k]at g;cases g
  refine⟨p,es,.ref e,Xb,Xb,Qf g _ _ _ (G _ _ k),by rw[Gy];omega,?_⟩;exact fin (d:=.back z) G g TW ⟨e,Xb,by rw[Qg C];exact Qb⟩
 ·rintro σ H1 ⟨es,dl,S,T,U,W,X,Y,rfl,y,k,g2,g3,g4⟩;refine⟨_,Xb,q p es dl H1 y hp k g2 ?_ g4⟩;rw[g3,List.length_map];omega
end
def Qb6(K:PySem.W.Frag):Sp:=λvs H Q _=>∃(v:V)(t:Value)(a b:Bool),vs=[v]/\Oz K H v t/\PySem.W.kitOne K t (.type "int")=Ga a/\PySem.W.kitOne K t (.type "bool")=Ga b/\Q (.bl (a&&!b)) H
theorem Qxo(b:Bool):(tw b==("ask":GJ))=Gp:=by cases b<;>decide+kernel
theorem Qs2(b:Bool):(tw b==("back":GJ))=Gp:=by cases b<;>decide+kernel
theorem Qvc:(("ask":GJ)=="ask")=Ge:=by decide+kernel
theorem Qr3:(("back":GJ)=="ask")=Gp:=by decide+kernel
theorem Qnp:(("back":GJ)=="back")=Ge:=by decide+kernel
theorem Qpb(xs:List V)(i:Int)(a:0<=i):Uq xs Gf (Ga i)=xs.take i.toNat:=by obtain⟨k,rfl⟩:∃k:Nat,i=(k:Int):=⟨i.toNat,by omega⟩;unfold Uq;rw[HT.R8,HT.Ir];simp
theorem Qns(n:Nat)(h:Ra H xs tl):Ra H (xs.take n) (tl.take n):=by
 unfold Ra at h⊢;induction h generalizing n with
 |nil=>cases n<;>exact .nil
 |cons h r a=>
  cases n with
  |zero=>exact .nil
  |succ n=>exact .cons h (a n)
section
variable{P:Gj}{w:Gu}{K:PySem.W.Frag}{mg:GJ->Option Value}{base:Heap}
theorem Qlj:Q3 ["_law_found"] ["_law_found"] (Qn Qfn):=by eq_refl
theorem Qpk(F:Wz K "_law_whole" "_law_whole" Qfn f fd)(B:Blt mg):Qz P w K mg base Yb 1 f fd ["_law_found"] (Qb6 K):=by
 refine F.ok Qlj (λvs H Q E h=>?_) (λcdv A outer s H vs Q E d h=>?_)
 ·obtain⟨v,t,a,b,rfl,_⟩:=h;rfl
 obtain⟨v,t,a,b,rfl,c,h1,h2,q⟩:=h;have nd:=Qlj.nd;refine⟨_,(Qh (Qt (Qkv (Qp Yw rfl B.isinstance Gz (Qa (pv 0) (Qa (Xm (v:=.ty "int") rfl B.int Sc Xb) Qe))) (Qkk (Qxg (Qp Yw rfl B.isinstance Gz (Qa (pv 0) (Qa (Xm (v:=.ty "bool") rfl B.bool LV Xb) Qe)))))))),?_⟩;refine⟨_,Xb,_,_,_,a,Xb,c,h1,a,Xb,?_⟩;cases a with
 |false=>exact Q6 q
 |true=>exact Yy ⟨_,Xb,_,_,_,b,Xb,c,h2,b,Xb,q⟩
end
def Qfa:Sp:=λvs H Q _=>∃(v:V)(t:Th),vs=[v]/\Zu H v t/\t.good/\∀H':Hp,Q5 H H'->Q (.bl Ge) H'
theorem Qon(h:(Th.mk w ps).good):∀p∈ps,p.good:=λp a=>by obtain⟨h1,h2,c⟩:=h;simp only[Th.ok,Th.depth,Th.size,Td]at h1 h2 c;have b:=h1.2;rw[Jh,List.all_eq_true]at b;have:=W5 a;have:=Qd8 a;exact⟨b p a,by omega,by omega⟩
section
variable{P:Gj}{w:Gu}{K:PySem.W.Frag}{mg:GJ->Option Value}{base:Heap}
theorem Qfe:Q3 ["_law_found","_law_todo","_law_part"] ["_law_found"] (Qn Ob):=by eq_refl
theorem Qjb(F:Wz K "_law_is_thing" "_law_is_thing" Ob f fd)(B:Blt mg):Qz P w K mg base Yb 1 f fd ["_law_found"] Qfa:=by
 refine F.ok Qfe (λvs H Q E h=>?_) (λcdv A outer s H vs Q E hr h=>?_)
 ·obtain⟨v,t,rfl,_⟩:=h;rfl
 obtain⟨v,t,rfl,hv,gt,q⟩:=h;have nd:=Qfe.nd;have k:=hr.units;refine⟨_,(Qc (Qy 1 nd (Zr (Qa (pv 0) Qe)))
  (Qc (Wn Gs (Qo (Qan k) (pv 1) (Zr Qe) (Qs _))
  (Qc (Qy 2 nd (Qab PySem.F.plainAttrs_list PySem.F.slot_list_pop PySem.F.type_list_pop Qav (pv 1)))
  (Qc (Zb (PW.pt (Xd (Ym (Yc (Qp Yw rfl B.isinstance Gz (Qa (pv 2) (Qa (Xm (v:=.ty "tuple") rfl B.tuple Tx Xb) Qe))))) (Xd (Qo Xi (Qp Zm rfl B.len PySem.boot_len (Qa (pv 2) Qe)) Qi (Qs _)) (Xt (Ym (Yc (Qp Yw rfl B.isinstance Gz (Qa (Ql Qm (pv 2) Qi) (Qa (Xm (v:=.ty "str") rfl B.str DQ Xb) Qe)))))))))
  (Qh (Qt Ye)) Qv)
  (Qh (Qy 1 nd (Zs Vi (pv 1) (Xh Wv rfl B.list Ti (Qa (Yl V3 (pv 2) (Yn Qi) Xl) Qe))))))))
  (Qh (Qt Ye)))),?_⟩
 have ab:=gt.2.2;refine⟨_,Xb,by show 1<=Gh;decide,λl p=>?_⟩;have s1:=Qf p (.lst [v]);refine⟨λm σ H2=>∃(l:Gc)(xs:List V)(T:List Th)(N:Option V),σ=[Ga v,Ga (.ref l),N]/\Q5 H H2/\H l=Gf/\H2 l=Ga (.lst xs)/\Zq H2 xs T/\(∀u∈T,u.good)/\m=Qx T/\Qx T<=100,
  ⟨_,l,[v],[t],Gf,Xb,s1,p,Qb,.one (hv.same s1),λu k=>by rw[List.mem_singleton]at k;subst k;exact gt,Xb,by simp[Qx];exact ab⟩,?_⟩
 clear s1 p;rintro m σ H2 ⟨l,xs,T,N,rfl,sm,p,L,O,S,rfl,sz⟩;have lx:=O.length;have lT:=Zd T;refine⟨_,Xb,Gx _,λz hz=>?_⟩;have s4:=Qf hz (.lst []);refine⟨.list (X5 T),.list [],.lst (s4 _ _ L) (O.same s4).dts,.lst Qb .nil,by simp only[GQ];exact Oe T (by rw[Jh,List.all_eq_true];exactλu k=>(S u k).1),by simp[GQ,Gw],?_,_,Xb,?_⟩
 ·simp only[TQ,Tj];omega
 have ev:GX (.list (X5 T)) (.list [])=T.isEmpty:=by
  simp only[GX];rw[Je];cases T with
  |nil=>simp[X5]
  |cons t r=>simp[X5]
 rw[ev];rcases List.eq_nil_or_concat T with rfl|⟨Tr,u,R⟩
 ·exact Q6 (q _ (sm.trans s4))
 ·have R:T=Tr++[u]:=by simpa using R
  subst R;have W:(Tr++[u]).isEmpty=Gp:=by cases Tr<;>rfl
  rw[W];refine Yy ?_;obtain⟨d,x,rfl,M,Z⟩:=U8 O;have C:Qx (Tr++[u])=Qx Tr+u.size:=by rw[Yu];simp[Qx]
  rw[C]at sz;have ac:=Ju u;have aa:=S u (by simp);refine⟨λJ H'=>∃m',m'<Qx (Tr++[u])/\∃(l:Gc)(xs:List V)(T:List Th)(N:Option V),J=[Ga v,Ga (.ref l),N]/\Q5 H H'/\H l=Gf/\H' l=Ga (.lst xs)/\Zq H' xs T/\(∀u∈T,u.good)/\m'=Qx T/\Qx T<=100,λJ H' h=>h,?_⟩;have i:(d++[x])[(d++[x]).length - 1]?=Ga x:=by simp
  refine⟨_,Xb,.inl ⟨Xb,_,Zc.of (s4 _ _ L)⟩,l,_,_,Xb,Xb,s4 _ _ L,i,?_⟩;rw[List.dropLast_concat];have g:Iw l H2 (upd (upd H2 z (.lst [])) l (.lst d)):=λc o e h=>by rw[Qg h];exact s4 _ _ e
  have l5:(upd (upd H2 z (.lst [])) l (.lst d)) l=Ga (.lst d):=Qb;generalize upd (upd H2 z (.lst [])) l (.lst d)=H5 at g l5⊢;have t5:Q4 H2 H5:=g.Qr L (λxs e=>by cases e);have I:Q5 H H5:=λc o e=>g c o (sm _ _ e) (Qd e p);have M:=M.Qr t5;have Z:=Z.Qr t5;obtain⟨b0,wd,a,ps,rfl,rfl,b,y⟩:=Z.inv;have ag:=y.length;have af:=Zd ps;have ah:=M.length;have ae:=Zd Tr;have ad:(Th.mk wd ps).size=Qx ps+1:=by simp only[Th.size]
  refine⟨_,Xb,_,_,_,Ge,Xb,.tup b,Rx,Ge,Xb,Q6 ?_⟩;refine⟨_,Xb,_,_,Xb,.inr ⟨_,Q9.of b,Xb⟩,Xb,_,Xb,?_⟩;rw[V9];rw[show((((V.str wd::a).length:Nat):Int)==0)=Gp by simp;omega];refine Q6 ?_;refine⟨_,Xb,b0,_,_,_,Xb,Xb,Q9.of b,Qj (j:=0) rfl,_,_,_,Ge,Xb,.str _,O8,Ge,Xb,Q6 ?_⟩;refine⟨_,Xb,_,Xb,_,Xb,b0,_,Xb,Q9.of b,Wb _ _,λr X=>?_⟩;rw[Qc5];have s7:=Qf X (.tup a);refine⟨r,a,Xb,.inr (Q9.of Qb),λl2 U=>?_⟩;have s8:=Qf U (.lst a);refine⟨l,l2,d,a,Xb,Xb,s8 _ _ (s7 _ _ l5),Qb,small (by omega),λn hn=>?_⟩;have s9:=Qf hn (.lst (d++a));have D:=s7.trans s8;have G:=D.trans s9;refine⟨Qx (Tr++ps),by rw[C,Yu];omega,n,d++a,Tr++ps,_,Xb,I.trans G,(I.trans D).free hn,Qb,(M.append y).same G,λu' Y=>?_,Xb,by rw[Yu];omega⟩;rcases List.mem_append.mp Y with z|z
  ·exact S u' (List.mem_append_left _ z)
  ·exact Qon aa u' z
end
end K03
namespace Sb
open PySem PySem.Spec PyProof.Rows L2
def rn(w:GJ):GJ:=if w="sab"then"tab"else if w="tab"then"x"else if w="sob"then"sab"else if w="sat"then"sob"else if w="fig"then"fog"else if w="fog"then"hog"else("q":GJ)++w++"q"
def unq(w:GJ):GJ:=⟨w.cps.extract 1 (w.cps.size - 1)⟩
def un(w:GJ):GJ:=if w="tab"then"sab"else if w="x"then"tab"else if w="sab"then"sob"else if w="sob"then"sat"else if w="fog"then"fig"else if w="hog"then"fog"else unq w
end Sb
namespace L2
open PySem PySem.Spec PyProof.Rows
theorem Q1v(xs:List V)(k:Nat)(h:k<xs.length):¬(HT.Wh xs.length 0 Gf=0/\HT.Wh xs.length xs.length (Ga (k:Int))=xs.length):=by rw[HT.Ir];rintro⟨_,h2⟩;omega
theorem Qw3{α:Type}{xs:List α}{v:α}(h:xs[xs.length - 1]?=Ga v):atI xs (-1)=Ga v:=by
 rcases List.eq_nil_or_concat xs with rfl|⟨ys,u,e⟩
 ·simp at h
 ·have e:xs=ys++[u]:=by simpa using e
  subst e;have:u=v:=by simpa using h
  rw[this];exact Qpx ys v
end L2
namespace K03
open PySem L2 Sb
variable{H:Hp}{v1 v2:V}{t:Th}{Q:VK}
def NoX:Gc->Prop:=λ_=>False
theorem Qps(h1:Zu H v1 t)(h2:Zu H v2 t)(g:t.good)(q:Q (.bl Ge) H):Qnv (λb=>b) v1 v2 H Q:=
 ⟨t.toD,t.toD,h1.dt,h2.dt,Wx t g.1,Wx t g.1,by rw[Xw];have:=g.2.1;omega,by rw[Qbx,Gr rfl];exact q⟩
theorem Qrl(h1:Zu H v1 t)(h2:Zu H v2 t)(g:t.good)(q:Q (.bl Gp) H):Qnv (λb=>!b) v1 v2 H Q:=
 ⟨t.toD,t.toD,h1.dt,h2.dt,Wx t g.1,Wx t g.1,by rw[Xw];have:=g.2.1;omega,by rw[Qbx,Gr rfl];exact q⟩
theorem Qhy(t:Th):GX t.toD t.toD=Ge:=by rw[Qbx];exact Gr rfl
theorem Qpl{c d:Gc}{g h:V}{s:Th}(k:H c=Ga (.tup [v1,v2]))(hd:H d=Ga (.tup [g,h]))(h1:Zu H v1 s)(h2:Zu H v2 t)(i:Zu H g s)(j:Zu H h t)(a:s.good)(f:t.good)(q:Q (.bl Ge) H):Qnv (λb=>b) (.ref c) (.ref d) H Q:=by
 have l1:=Wx s a.1;have l2:=Wx t f.1;have l:=Xw s;have m:=Xw t;have:=a.2.1;have:=f.2.1;refine⟨.tuple [s.toD,t.toD],.tuple [s.toD,t.toD],.tup k (.cons h1.dt (.cons h2.dt .nil)),.tup hd (.cons i.dt (.cons j.dt .nil)),by simp[GQ,Gw,l1,l2],by simp[GQ,Gw,l1,l2],?_,?_⟩
 ·simp only[TQ,Tj];omega
 ·have e:GX (.tuple [s.toD,t.toD]) (.tuple [s.toD,t.toD])=Ge:=by simp[GX,Tg,Qhy]
  rw[e];exact q
theorem Qwu{c d:Gc}{x:GJ}{h i:V}{s:Th}(g:TC x=Ge)(l:H c=Ga (.tup [.str x,v1,v2]))(hd:H d=Ga (.tup [.str x,h,i]))(h1:Zu H v1 s)(h2:Zu H v2 t)(j:Zu H h s)(k:Zu H i t)(a:s.good)(f:t.good)(q:Q (.bl Ge) H):Qnv (λb=>b) (.ref c) (.ref d) H Q:=by
 have l1:=Wx s a.1;have l2:=Wx t f.1;have m:=Xw s;have n:=Xw t;have:=a.2.1;have:=f.2.1;refine⟨.tuple [.str x,s.toD,t.toD],.tuple [.str x,s.toD,t.toD],.tup l (.cons (.str _) (.cons h1.dt (.cons h2.dt .nil))),.tup hd (.cons (.str _) (.cons j.dt (.cons k.dt .nil))),by simp[GQ,Gw,l1,l2,g],by simp[GQ,Gw,l1,l2,g],?_,?_⟩
 ·simp only[TQ,Tj];omega
 ·have e:GX (.tuple [.str x,s.toD,t.toD]) (.tuple [.str x,s.toD,t.toD])=Ge:=by simp[GX,Tg,Qhy]
  rw[e];exact q
def Qrw(H:Hp)(v:V):Option (Th×Th)->Prop
 |none=>v=.non
 |some p=>∃c a b,v=.ref c/\H c=Ga (.tup [a,b])/\Zu H a p.1/\Zu H b p.2/\p.1.good/\p.2.good
theorem Qrw.same{H H':Hp}(e:Q5 H H'){v:V}:∀{pr:Option (Th×Th)},Qrw H v pr->Qrw H' v pr
 |none,h=>h
 |some _,⟨c,f,g,h1,h2,a,b,d⟩=>⟨c,f,g,h1,e _ _ h2,a.same e,b.same e,d⟩
structure Lns(H:Hp)(L:Gc)(lv:List V)(ls:List Lt):Prop where
 at_:H L=Ga (.lst lv)
 pr:Paired (Qxq H NoX) lv ls
 good:∀l∈ls,l.1.good/\l.2.1.good
 len:ls.length<=900000
theorem Lns.same{H H':Hp}(e:Q5 H H'){L:Gc}{lv:List V}{ls:List Lt}(h:Lns H L lv ls):Lns H' L lv ls:=
 ⟨e _ _ h.at_,L2.Paired.Z7 h.pr λ_ _⟨c,j,k,rv,a,b,d,f,g,i⟩=>⟨c,j,k,rv,a,e _ _ b,d.same e,f.same e,g.kp (λh=>e _ _ h) (λh _=>e _ _ h),i⟩,h.good,h.len⟩
def Qeh:Sp:=λvs H Q _=>∃(a L:Gc)(us lv:List V)(b:V)(tl:Tl)(pr:Option (Th×Th))(ls:List Lt)(k:Nat)(x y:Th)(r:Lr),vs=[.ref a,.ref L,.int (k:Int),b]/\H a=Ga (.lst us)/\Ra H us tl/\Tlg tl/\tl.length<=1000/\Lns H L lv ls/\Qrw H b pr/\ls[k]?=Ga (x,y,r)/\Okt tl pr (ls.take k) x y r/\
 ∀H':Hp,Q5 H H'->Q (.bl Ge) H'
theorem Qb8{α:Type}{l:List α}{k n:Nat}{x:α}(h:(l.take k)[n]?=Ga x):n<k/\l[n]?=Ga x:=by
 have h1:=(List.getElem?_eq_some_iff.mp h).1;rw[List.length_take]at h1;have a:n<k:=by omega
 rw[List.getElem?_take_of_lt a]at h;exact⟨a,h⟩
theorem Qq2{pre:List Lt}:∀{d:List Nat}{a b:Th},Cht pre a d b->∀k∈d,∃l,pre[k]?=Ga l
 |[],_,_,_,k,c=>nomatch c
 |j::d,a,b,⟨m,r,h1,h2⟩,k,c=>by
  rcases List.mem_cons.mp c with z|z
  ·exact⟨_,by rw[z];exact h1⟩
  ·exact Qq2 h2 k z
theorem Qse{pre:List Lt}:∀{c:List Nat}{a b:Th}{i k:Nat},Cht pre a c b->c[i]?=Ga k->∀t,Cht pre t (c.drop i) b->∃m r,pre[k]?=Ga (t,m,r)/\Cht pre m (c.drop (i+1)) b:=by intro c a b i k _ f t d;have e:c.drop i=k::c.drop (i+1):=List.drop_eq_getElem?_toList_append.trans (by rw[f];rfl);rw[e]at d;exact d
def rowsOf(lv:List V)(a:List Nat):List V:=a.map λk=>lv.getD k .non
theorem getD_at{lv:List V}{k:Nat}(h:k<lv.length):lv[k]?=Ga (lv.getD k .non):=by rw[List.getD_eq_getElem?_getD,List.getElem?_eq_getElem h];rfl
theorem Qwr:(("told":GJ)=="told")=Ge:=by decide+kernel
theorem Qxn:(("asked":GJ)=="told")=Gp:=by decide+kernel
theorem Qxl:(("asked":GJ)=="asked")=Ge:=by decide+kernel
theorem Quh:(("turn":GJ)=="told")=Gp:=by decide+kernel
theorem Qtj:(("turn":GJ)=="asked")=Gp:=by decide+kernel
theorem Qu5:(("turn":GJ)=="turn")=Ge:=by decide+kernel
theorem Qz8:(("chain":GJ)=="told")=Gp:=by decide+kernel
theorem Qyg:(("chain":GJ)=="asked")=Gp:=by decide+kernel
theorem Qyl:(("chain":GJ)=="turn")=Gp:=by decide+kernel
theorem Qzx:(("chain":GJ)=="chain")=Ge:=by decide+kernel
theorem Qyd:(("like":GJ)=="told")=Gp:=by decide+kernel
theorem Qzm:(("like":GJ)=="asked")=Gp:=by decide+kernel
theorem Qzb:(("like":GJ)=="turn")=Gp:=by decide+kernel
theorem Qze:(("like":GJ)=="chain")=Gp:=by decide+kernel
theorem Qyn:(("like":GJ)=="like")=Ge:=by decide+kernel
theorem Qzh:(["_law_number","_law_lines"]:List GJ).Nodup:=by decide+kernel
section
variable{P:Gj}{w:Gu}{K:PySem.W.Frag}{mg:GJ->Option Value}{base:Heap}
theorem Qel:Q3 ["_law_told","_law_lines","_law_k","_law_pair","_law_one","_law_other","_law_reason","_law_number","_law_rows","_law_here","_law_row","_law_j"] ["_law_told","_law_lines","_law_k","_law_pair"] (Qn Jt):=by eq_refl
set_option hygiene false
local macro_rules
 |`(tactic|infer_instance)=>`(tactic|(
 refine⟨_,Xb,_,Xb,L,lv,_,_,Xb,Xb,Zc.of hL.at_,Qj eu,c,_,Xb,Q9.of hc,Xb,_,_,Xb,_,_,Xb,_,_,Xb,Xb,?_⟩
 refine⟨_,Xb,c',_,_,_,Xb,Xb,Q9.of hc',Qj (j:=0) rfl,Xb,_,Xb,?_⟩
 first|rw[Q8,Qz8]|rw[Q8,Qyd]
 refine Q6 ?_
 refine⟨_,Xb,c',_,_,_,Xb,Xb,Q9.of hc',Qj (j:=0) rfl,Xb,_,Xb,?_⟩
 first|rw[Q8,Qyg]|rw[Q8,Qzm]
 refine Q6 ?_
 refine⟨_,Xb,c',_,_,_,Xb,Xb,Q9.of hc',Qj (j:=0) rfl,Xb,_,Xb,?_⟩
 first|rw[Q8,Qyl]|rw[Q8,Qzb]
 refine Q6 ?_
 refine⟨_,Xb,c',_,_,_,Xb,Xb,Q9.of hc',Qj (j:=1) rfl,_,_,_,Ge,Xb,.lst hl,Qdk,Ge,Xb,Q6 ?_⟩
 refine⟨_,Xb,c',_,_,_,Xb,Xb,Q9.of hc',Qj (j:=1) rfl,l,Xb,⟨_,Zc.of hl⟩,Ys (K:=K) (a:=l) (xs:=ks.map jv) (λi σ H1=>∃x7:Option V,σ=[Ga (.ref a),Ga (.ref L),Ga (.int (k:Int)),Ga pq,Ga v1,Ga v2,Ga (.ref c'),x7,Gf,Gf,Gf,Gf]/\H1=H)
  ⟨_,Xb,Xb⟩ (λi σ H1 _⟨_,_,e⟩=>Zc.of (by rw[e];exact hl)) ?_ ?_⟩
 ·rintro i u σ H1 hi ⟨x7,rfl,rfl⟩
  obtain⟨n,en,rfl⟩:∃n,n∈ks/\jv n=u:=by
   rw[List.getElem?_map]at hi
   cases e:ks[i]? with
   |none=>rw[e]at hi;cases hi
   |some n=>rw[e]at hi;exact⟨n,List.mem_of_getElem? e,Tc hi⟩
  obtain⟨ll,el⟩:=lt n en
  have hn:=(Qb8 el).1
  refine⟨_,Xb,_,_,Ge,Gp,Xb,.int _,O4,Qaf,Ge,Xb,Q6 ?_⟩
  refine⟨_,Xb,_,_,Xb,Xb,_,Xb,?_⟩
  rw[Gq (show¬((n:Int)<0) by omega)]
  refine Q6 ?_
  refine⟨_,Xb,_,Xb,_,_,Xb,Xb,_,Xb,?_⟩
  rw[Gq (show¬((n:Int)>=(k:Int)) by omega)]
  exact Q6 ⟨_,Xb,Xb⟩
 rintro σ H1 ⟨x7,rfl,rfl⟩
 refine⟨_,Xb,c',_,_,_,Xb,Xb,Q9.of hc',Qj (j:=1) rfl,l,Xb,⟨_,Zc.of hl⟩,λp hp=>?_⟩
 have sp:=Qf hp (.lst [])
 refine Ip (K:=K) (a:=l) (xs:=ks.map jv) (small (by rw[List.length_map];omega)) (λi ys σ H2=>(∃x0,σ=[x0,Ga (.ref L)])/\ys=rowsOf lv (ks.take i)/\H2=upd H1 p (.lst ys)) ⟨⟨_,Xb⟩,Xb,Xb⟩ (λi ys σ H2 _⟨_,_,e⟩=>Zc.of (by rw[e];exact Qf hp _ _ _ hl)) ?_ ?_
 ·rintro i u ys σ H2 hi hyl ⟨⟨x0,rfl⟩,rfl,rfl⟩ hp1
  obtain⟨n,en,rfl⟩:∃n,ks[i]?=Ga n/\jv n=u:=by
   rw[List.getElem?_map]at hi
   cases e:ks[i]? with
   |none=>rw[e]at hi;cases hi
   |some n=>rw[e]at hi;exact⟨n,Xb,Tc hi⟩
  obtain⟨ll,el⟩:=lt n (List.mem_of_getElem? en)
  have hn:=(Qb8 el).1
  refine⟨_,Xb,_,Xb,L,lv,_,_,Xb,Xb,Zc.of (Qf hp _ _ _ hL.at_),Qj (getD_at (by omega)),hp1,⟨_,Xb⟩,?_,by rw[Wt]⟩
  unfold rowsOf
  rw[List.take_add_one,en,List.map_append]
  rfl
 rintro ys σ H2 hyl ⟨_,rfl,rfl⟩ hp2
 rw[List.length_map,List.take_length]at hp2 hyl⊢
 have s1:=Qf hp (.lst (rowsOf lv ks))
 generalize upd H1 p (.lst (rowsOf lv ks))=H2 at*))
set_option hygiene true
theorem Qkt{f fH:Gc}{fd dH:Tf}(F:Wz K "_law_line_follows" "_law_line_follows" Jt f fd)(B:Blt mg)
  (GH:Qz P w K mg base Yb 1 fH dH ["_law_found"] (Qb6 K))(kH:KI K fH)(bH:Binds K dH ["_law_found"] [])(mH:MG mg "_law_whole" fH):
  Qz P w K mg base Yb 2 f fd ["_law_told","_law_lines","_law_k","_law_pair"] Qeh:=by
 refine F.ok Qel (λvs H Q E h=>?_) (λcdv A outer s H vs Q E hr h=>?_)
 ·obtain⟨a,L,us,lv,pq,tl,pr,ls,k,x,y,r,rfl,_⟩:=h;rfl
 obtain⟨a,L,us,lv,pq,tl,pr,ls,k,x,y,r,rfl,ha,ai,az,ay,hL,aq,hk,ok,q⟩:=h;have nd:=Qel.nd;have X:=hr.units;refine⟨_,(Qc (Ry (Ql Ze (pv 1) (pv 2)) (Vh rfl (Zl (Zw 4 nd) (Zl (Zw 5 nd) (Zl (Zw 6 nd) Wc)))))
  (Qc (Zb (Qo Xi (Ql Qm (pv 6) Qi) Zj (Qs _))
  (Qc (Qy 7 nd (Ql Qm (pv 6) Qi))
  (Qc (Zb (PW.pt (Xd (Ym (Yc (Zo GH hr rfl mH kH bH .nil Q7 (Qa (pv 7) Qe)))) (Xd (Qo Ug (pv 7) Qi (Qs _)) (Xt (Qo Qh8 (pv 7) (Qp Zm rfl B.len PySem.boot_len (Qa (pv 0) Qe)) (Qs _))))))
  (Qh (Qt Ye)) Qv)
  (Qh (Qt (Wm (Uk X) (Ql Ze (pv 0) (pv 7)) (Zf (Qa Zj (Qa (pv 4) (Qa (pv 5) Qe)))) (Qs _)))))) Qv)
  (Qc (Zb (Qo Xi (Ql Qm (pv 6) Qi) Zj (Qs _))
  (Qh (Qt (Wm (Uk X) (pv 3) (Zf (Qa (pv 4) (Qa (pv 5) Qe))) (Qs _)))) Qv)
  (Qc (Zb (Qo Xi (Ql Qm (pv 6) Qi) Zj (Qs _))
  (Qc (Qy 7 nd (Ql Qm (pv 6) Qi))
  (Qc (Zb (PW.pt (Xd (Ym (Yc (Zo GH hr rfl mH kH bH .nil Q7 (Qa (pv 7) Qe)))) (Xd (Qo Ug (pv 7) Qi (Qs _)) (Xt (Qo Qh8 (pv 7) (pv 2) (Qs _))))))
  (Qh (Qt Ye)) Qv)
  (Qh (Qt (Wm (Uk X) (Yl V3 (Ql Ze (pv 1) (pv 7)) Xl (Yn Qi)) (Zf (Qa (pv 5) (Qa (pv 4) Qe))) (Qs _)))))) Qv)
  (Qc (Zb (Ym (Yc (Qp Yw rfl B.isinstance Gz (Qa (Ql Qm (pv 6) Qi) (Qa (Xm (v:=.ty "list") rfl B.list Ti Xb) Qe)))))
  (Qh (Qt Ye)) Qv)
  (Qc (Z5 Gs rfl (Z9 (Ql Qm (pv 6) Qi)) (Zw 7 nd)
  (Qh (Zb (PW.pt (Xd (Ym (Yc (Zo GH hr rfl mH kH bH .nil Q7 (Qa (pv 7) Qe)))) (Xd (Qo Ug (pv 7) Qi (Qs _)) (Xt (Qo Qh8 (pv 7) (pv 2) (Qs _))))))
  (Qh (Qt Ye)) Qv)))
  (Qc (V0 (i:=8) (own:=["_law_number"]) (fv:=[(1,"_law_lines")]) nd rfl rfl rfl (S:=(by eq_refl:Xx (Qn Jt) _)) (.cons rfl (TR Xb) rfl .nil) (Z9 (Ql Qm (pv 6) Qi))
   (λ_ _ _ _ _=>Xf (i:=0) Qzh rfl (TR Xb) (Dp Xb)) (λ_ _ _ _ _=>X6) (λ_ _ _ _ _=>(Ql (r:=Qx3 K) Ze (pv 1) (pv 0))))
  (Qc (Zb (Qo Xi (Ql Qm (pv 6) Qi) Zj (Qs _))
  (Qc (Qy 9 nd (pv 4))
  (Qc (Z5 Gs rfl (Z9 (pv 8)) (Zw 10 nd)
  (Qc (Zb (Qo (Qan X) (Ql Qm (pv 10) Qi) (pv 9) (Qs _))
  (Qh (Qt Ye)) Qv)
  (Qh (Qy 9 nd (Ql Qm (pv 10) Qi)))))
  (Qh (Qt (Wm (Uk X) (pv 9) (pv 5) (Qs _)))))) Qv)
  (Qc (Zb (PW.pt (Xd (Qo Vq (Ql Qm (pv 6) Qi) Zj (Qs _)) (Xd (Qo Vq (Ql Qm (pv 4) Qi) (Ql Qm (pv 5) Qi) (Qs _)) (Xt (Qo Vq (Qp Zm rfl B.len PySem.boot_len (Qa (pv 4) Qe)) (Qp Zm rfl B.len PySem.boot_len (Qa (pv 5) Qe)) (Qs _))))))
  (Qh (Qt Ye)) Qv)
  (Qc (Zb (Qo Vq (Qp Zm rfl B.len PySem.boot_len (Qa (pv 8) Qe)) (Zs Qck (Qp Zm rfl B.len PySem.boot_len (Qa (pv 4) Qe)) Qi) (Qs _))
  (Qh (Qt Ye)) Qv)
  (Qc (Z5 Gs rfl (Vp rfl B.range (Qa (Qp Zm rfl B.len PySem.boot_len (Qa (pv 8) Qe)) Qe)) (Zw 11 nd)
  (Qh (Zb (PW.pt (Xd (Qo (Qan X) (Ql Qm (Ql Ze (pv 8) (pv 11)) Qi) (Ql Qm (pv 4) (Zs Qaz (pv 11) Qi)) (Qs _)) (Xt (Qo (Qan X) (Ql Qm (Ql Ze (pv 8) (pv 11)) Qi) (Ql Qm (pv 5) (Zs Qaz (pv 11) Qi)) (Qs _)))))
  (Qh (Qt Ye)) Qv)))
  (Qh (Qt Ye))))))))))))),?_⟩
 have aA:lv.length=ls.length:=Paired.length hL.pr;have aB:us.length=tl.length:=Paired.length ai;have ax:k<ls.length:=(List.getElem?_eq_some_iff.mp hk).1;have l9:=hL.len;obtain⟨u,eu⟩:∃u,lv[k]?=Ga u:=⟨_,List.getElem?_eq_getElem (by omega)⟩;obtain⟨l',e',c,v1,v2,rv,rfl,hc,Z,t2,hr',_⟩:=Qw hL.pr eu;rw[hk]at e';cases e';obtain⟨gx,gy⟩:=hL.good _ (List.mem_of_getElem? hk);have line:∀{n:Nat}{l:Lt},(ls.take k)[n]?=Ga l->n<k/\∃c v1 v2 rv,lv[n]?=Ga (.ref c)/\H c=Ga (.tup [v1,v2,rv])/\Zu H v1 l.1/\Zu H v2 l.2.1/\l.1.good/\l.2.1.good:=λ{n l}h=>by obtain⟨h1,h2⟩:=Qb8 h;obtain⟨u,eu⟩:∃u,lv[n]?=Ga u:=⟨_,List.getElem?_eq_getElem (by omega)⟩;obtain⟨l',e',c,v1,v2,rv,rfl,hc,Z,t2,_⟩:=Qw hL.pr eu;rw[h2]at e';cases e';exact⟨h1,c,v1,v2,rv,eu,hc,Z,t2,(hL.good _ (List.mem_of_getElem? h2)).1,(hL.good _ (List.mem_of_getElem? h2)).2⟩
 cases r with
 |told n=>obtain⟨c',rfl,hc'⟩:=hr';have ok:tl[n]?=Ga (Ge,x,y):=ok;have hn:=(List.getElem?_eq_some_iff.mp ok).1;obtain⟨w',ew⟩:∃w',us[n]?=Ga w':=⟨_,List.getElem?_eq_getElem (by omega)⟩;obtain⟨p,ep,d,u1,u2,rfl,hd,J,N⟩:=Qw ai ew;rw[ok]at ep;cases ep;refine⟨_,Xb,_,Xb,L,lv,_,_,Xb,Xb,Zc.of hL.at_,Qj eu,c,_,Xb,Q9.of hc,Xb,_,_,Xb,_,_,Xb,_,_,Xb,Xb,?_⟩;refine⟨_,Xb,c',_,_,_,Xb,Xb,Q9.of hc',Qj (j:=0) rfl,Xb,_,Xb,?_⟩;rw[Q8,Qwr];refine Yy ?_;refine⟨_,Xb,c',_,_,_,Xb,Xb,Q9.of hc',Qj (j:=1) rfl,?_⟩;refine⟨_,Xb,_,_,Ge,Gp,Xb,.int _,O4,Qaf,Ge,Xb,Q6 ?_⟩;refine⟨_,Xb,_,_,Xb,Xb,_,Xb,?_⟩;rw[Gq (show¬((n:Int)<0) by omega)];refine Q6 ?_;refine⟨_,Xb,_,Xb,_,_,Xb,.inl ⟨_,Zc.of ha,Xb⟩,_,_,Xb,Xb,_,Xb,?_⟩;rw[Gq (show¬((n:Int)>=((us.length:Nat):Int)) by omega)];refine Q6 ?_;refine⟨_,Xb,_,Xb,a,us,_,_,Xb,Xb,Zc.of ha,Qj ew,_,Xb,_,Xb,by show 3<=Gh;decide,λc3 hc3=>?_⟩;have s3:=Qf hc3 (.tup [.str "same",v1,v2]);exact Qwu (Qys Ge) (s3 _ _ hd) Qb (J.same s3) (N.same s3) (Z.same s3) (t2.same s3) gx gy (q _ s3)
 |asked=>obtain⟨c',rfl,hc'⟩:=hr';have ok:pr=Ga (x,y):=ok;subst ok;obtain⟨d,u1,u2,rfl,hd,J,N,_,_⟩:=aq;refine⟨_,Xb,_,Xb,L,lv,_,_,Xb,Xb,Zc.of hL.at_,Qj eu,c,_,Xb,Q9.of hc,Xb,_,_,Xb,_,_,Xb,_,_,Xb,Xb,?_⟩;refine⟨_,Xb,c',_,_,_,Xb,Xb,Q9.of hc',Qj (j:=0) rfl,Xb,_,Xb,?_⟩;rw[Q8,Qxn];refine Q6 ?_;refine⟨_,Xb,c',_,_,_,Xb,Xb,Q9.of hc',Qj (j:=0) rfl,Xb,_,Xb,?_⟩;rw[Q8,Qxl];refine Yy ?_;refine⟨_,Xb,_,Xb,_,Xb,by show 2<=Gh;decide,λc3 hc3=>?_⟩;have s3:=Qf hc3 (.tup [v1,v2]);exact Qpl (s3 _ _ hd) Qb (J.same s3) (N.same s3) (Z.same s3) (t2.same s3) gx gy (q _ s3)
 |turn n=>obtain⟨c',rfl,hc'⟩:=hr';obtain⟨r2,ok⟩:=ok;obtain⟨hn,d,u1,u2,am,ed,hd,J,N,_,_⟩:=line ok;refine⟨_,Xb,_,Xb,L,lv,_,_,Xb,Xb,Zc.of hL.at_,Qj eu,c,_,Xb,Q9.of hc,Xb,_,_,Xb,_,_,Xb,_,_,Xb,Xb,?_⟩;refine⟨_,Xb,c',_,_,_,Xb,Xb,Q9.of hc',Qj (j:=0) rfl,Xb,_,Xb,?_⟩;rw[Q8,Quh];refine Q6 ?_;refine⟨_,Xb,c',_,_,_,Xb,Xb,Q9.of hc',Qj (j:=0) rfl,Xb,_,Xb,?_⟩;rw[Q8,Qtj];refine Q6 ?_;refine⟨_,Xb,c',_,_,_,Xb,Xb,Q9.of hc',Qj (j:=0) rfl,Xb,_,Xb,?_⟩;rw[Q8,Qu5];refine Yy ?_;refine⟨_,Xb,c',_,_,_,Xb,Xb,Q9.of hc',Qj (j:=1) rfl,?_⟩;refine⟨_,Xb,_,_,Ge,Gp,Xb,.int _,O4,Qaf,Ge,Xb,Q6 ?_⟩;refine⟨_,Xb,_,_,Xb,Xb,_,Xb,?_⟩;rw[Gq (show¬((n:Int)<0) by omega)];refine Q6 ?_;refine⟨_,Xb,_,Xb,_,_,Xb,Xb,_,Xb,?_⟩;rw[Gq (show¬((n:Int)>=(k:Int)) by omega)];refine Q6 ?_;refine⟨_,Xb,_,Xb,L,lv,_,_,Xb,Xb,Zc.of hL.at_,Qj ed,_,Xb,d,_,Xb,Q9.of hd,Q1v _ 2 (by show 2<3;decide),λc4 ap=>?_⟩;have s4:=Qf ap (.tup [u1,u2]);refine⟨_,Xb,_,Xb,by show 2<=Gh;decide,λc3 hc3=>?_⟩;have s3:=Qf hc3 (.tup [v2,v1]);have g:=s4.trans s3;exact Qpl (s3 _ _ Qb) Qb (J.same g) (N.same g) (t2.same g) (Z.same g) gy gx (q _ g)
 |chain ks=>
  obtain⟨c',l,rfl,hc',hl,_,lks⟩:=hr';have ok:Cht (ls.take k) x ks y:=ok;have lt:∀n∈ks,∃l,(ls.take k)[n]?=Ga l:=Qq2 ok;infer_instance;refine⟨_,Xb,c',_,_,_,Xb,Xb,Q9.of (s1 _ _ hc'),Qj (j:=0) rfl,Xb,_,Xb,?_⟩;rw[Q8,Qzx];refine Yy ?_;refine⟨_,Xb,?_⟩;refine⟨_,Xb,p,Xb,⟨_,Zc.of hp2⟩,Ys (K:=K) (a:=p) (xs:=rowsOf lv ks) (λi σ H3=>∃(hv:V)(t:Th)(aa:Option V),σ=[Ga (.ref a),Ga (.ref L),Ga (.int (k:Int)),Ga pq,Ga v1,Ga v2,Ga (.ref c'),x7,Ga (.ref p),Ga hv,aa,Gf]/\H3=H2/\Zu H2 hv t/\t.good/\Cht (ls.take k) t (ks.drop i) y)
   ⟨v1,x,_,Xb,Xb,Z.same s1,gx,by rw[List.drop_zero];exact ok⟩ (λi σ H3 _⟨_,_,_,_,e,_⟩=>Zc.of (by rw[e];exact hp2)) ?_ ?_⟩
  ·rintro i u σ H3 hi ⟨hv,t,aa,rfl,rfl,th,tg,ch⟩;obtain⟨n,en,ao⟩:∃n,ks[i]?=Ga n/\lv.getD n .non=u:=by
    unfold rowsOf at hi;rw[List.getElem?_map]at hi;cases e:ks[i]? with
    |none=>rw[e]at hi;cases hi
    |some n=>rw[e]at hi;exact⟨n,Xb,Tc hi⟩
   obtain⟨m,r3,e3,an⟩:=Qse ok en t ch;obtain⟨hn,d,u1,u2,am,ed,hd,J,N,g3,g4⟩:=line e3;have:u=.ref d:=by rw[<-ao,List.getD_eq_getElem?_getD,ed];rfl
   subst this;refine⟨_,Xb,d,_,_,_,Xb,Xb,Q9.of (s1 _ _ hd),Qj (j:=0) rfl,_,Xb,Qrl (J.same s1) th tg ⟨_,Xb,Q6 ?_⟩⟩;refine⟨_,Xb,d,_,_,_,Xb,Xb,Q9.of (s1 _ _ hd),Qj (j:=1) rfl,?_⟩;exact⟨u2,m,_,Xb,Xb,N.same s1,g4,an⟩
  ·rintro σ H3 ⟨hv,t,aa,rfl,rfl,th,tg,ch⟩;rw[show(rowsOf lv ks).length=ks.length from List.length_map _,List.drop_length]at ch;have:t=y:=ch;subst this;exact⟨_,Xb,_,Xb,Qps th (t2.same s1) tg (q _ s1)⟩
 |like ks=>
  obtain⟨c',l,rfl,hc',hl,_,lks⟩:=hr';obtain⟨o1,o2,o3,o4⟩:=(show x.word=y.word/\x.parts.length=y.parts.length/\ks.length=x.parts.length/\_ from ok);have lt:∀n∈ks,∃l,(ls.take k)[n]?=Ga l:=λn hn=>by obtain⟨j,hj⟩:=List.mem_iff_getElem?.mp hn;have aw:=(List.getElem?_eq_some_iff.mp hj).1;obtain⟨r,h⟩:=o4 j n _ _ hj (List.getElem?_eq_getElem (by omega)) (List.getElem?_eq_getElem (by omega));exact⟨_,h⟩
  infer_instance;refine⟨_,Xb,c',_,_,_,Xb,Xb,Q9.of (s1 _ _ hc'),Qj (j:=0) rfl,Xb,_,Xb,?_⟩;rw[Q8,Qze];refine Q6 ?_;obtain⟨b1,w1,C,Y,rfl,rfl,G,R⟩:=(Z.same s1).inv;obtain⟨b2,w2,O,ak,rfl,rfl,W,U⟩:=(t2.same s1).inv;have o1:w1=w2:=o1;have o2:Y.length=ak.length:=o2;have o3:ks.length=Y.length:=o3;have aj:=R.length;have av:=U.length;refine⟨_,Xb,c',_,_,_,Xb,Xb,Q9.of (s1 _ _ hc'),Qj (j:=0) rfl,Xb,_,Xb,?_⟩;rw[Q8,Qyn];refine Q6 ?_;refine⟨_,Xb,b1,_,_,_,Xb,Xb,Q9.of G,Qj (j:=0) rfl,_,Xb,b2,_,_,_,Xb,Xb,Q9.of W,Qj (j:=0) rfl,Xb,_,Xb,?_⟩;rw[Gr (show V.str w1=V.str w2 by rw[o1])];refine Q6 ?_;refine⟨_,Xb,_,_,Xb,.inr ⟨_,Q9.of G,Xb⟩,_,Xb,_,_,Xb,.inr ⟨_,Q9.of W,Xb⟩,Xb,_,Xb,?_⟩;rw[Gr (show V.int (((V.str w1::C).length:Nat):Int)=V.int (((V.str w2::O).length:Nat):Int) by rw[List.length_cons,List.length_cons,aj,av,o2])];refine Q6 ?_;have au:(rowsOf lv ks).length=ks.length:=List.length_map _;refine⟨_,Xb,_,_,Xb,.inl ⟨_,Zc.of hp2,Xb⟩,_,Xb,_,_,Xb,.inr ⟨_,Q9.of G,Xb⟩,_,_,Xb,Xb,Xb,_,Xb,?_⟩;rw[Gr (show V.int (((rowsOf lv ks).length:Nat):Int)=V.int ((((V.str w1::C).length:Nat):Int) - 1) by rw[List.length_cons,au,aj,o3];congr 1;omega)];refine Q6 ?_;refine⟨_,Xb,_,_,Xb,.inl ⟨_,Zc.of hp2,Xb⟩,_,Xb,by omega,by omega,Vo (lo:=0) (n:=(((rowsOf lv ks).length:Int)).toNat) (λj σ H3=>∃ab:Option V,σ=[Ga (.ref a),Ga (.ref L),Ga (.int (k:Int)),Ga pq,Ga (.ref b1),Ga (.ref b2),Ga (.ref c'),x7,Ga (.ref p),Gf,Gf,ab]/\H3=H2)
   ⟨_,Xb,Xb⟩ ?_ ?_⟩
  ·rintro j σ H3 hj ⟨ab,rfl,rfl⟩;have hj:j<ks.length:=by omega
   have en:ks[j]?=Ga ks[j]:=List.getElem?_eq_getElem hj;obtain⟨p1,ac⟩:∃p1,Y[j]?=Ga p1:=⟨_,List.getElem?_eq_getElem (by omega)⟩;obtain⟨p2,ad⟩:∃p2,ak[j]?=Ga p2:=⟨_,List.getElem?_eq_getElem (by omega)⟩;obtain⟨r3,e3⟩:=o4 j _ p1 p2 en ac ad;obtain⟨hn,d,u1,u2,am,ed,hd,J,N,g3,g4⟩:=line e3;obtain⟨z1,ag⟩:∃z,C[j]?=Ga z:=⟨_,List.getElem?_eq_getElem (by omega)⟩;obtain⟨z2,ah⟩:∃z,O[j]?=Ga z:=⟨_,List.getElem?_eq_getElem (by omega)⟩;obtain⟨y1,ae,i1⟩:=R.get ag;obtain⟨y2,af,i2⟩:=U.get ah;rw[ac]at ae;cases ae;rw[ad]at af;cases af;have er:(rowsOf lv ks)[j]?=Ga (.ref d):=by unfold rowsOf;rw[List.getElem?_map,en];show Ga (lv.getD ks[j] .non)=_;rw[List.getD_eq_getElem?_getD,ed];rfl
   have ar:atI (rowsOf lv ks) (0+(j:Int))=Ga (.ref d):=by rw[Du];exact Qj er
   have a1:atI (V.str w1::C) (0+(j:Int)+1)=Ga z1:=by rw[Du];exact Qj (xs:=V.str w1::C) (j:=j+1) (by rw[List.getElem?_cons_succ];exact ag)
   have a2:atI (V.str w2::O) (0+(j:Int)+1)=Ga z2:=by rw[Du];exact Qj (xs:=V.str w2::O) (j:=j+1) (by rw[List.getElem?_cons_succ];exact ah)
   refine⟨_,Xb,_,Xb,p,_,_,_,Xb,Xb,Zc.of hp2,ar,d,_,_,_,Xb,Xb,Q9.of (s1 _ _ hd),Qj (j:=0) rfl,_,Xb,_,Xb,_,_,Xb,Xb,b1,_,_,_,Xb,Xb,Q9.of G,a1,Qrl (J.same s1) i1 g3 ⟨_,Xb,Q6 ?_⟩⟩;refine⟨_,Xb,_,Xb,p,_,_,_,Xb,Xb,Zc.of hp2,ar,d,_,_,_,Xb,Xb,Q9.of (s1 _ _ hd),Qj (j:=1) rfl,_,Xb,_,Xb,_,_,Xb,Xb,b2,_,_,_,Xb,Xb,Q9.of W,a2,Qrl (N.same s1) i2 g4 ⟨_,Xb,Q6 ?_⟩⟩;exact⟨_,Xb,Xb⟩
  ·rintro σ H3 ⟨ab,rfl,rfl⟩;exact q _ s1
end
theorem Iy.Q1d{H:Hp}{X:Gc->Prop}{v:V}:∀{r:Lr},Iy H X v r->∃a wd X8,v=.ref a/\H a=Ga (.tup (.str wd::X8))/\(((V.str wd::X8).length:Nat):Int)=2 - (if decide (V.str wd=V.str "asked")=Ge then 1 else 0)
 |.told n,⟨c,h1,h2⟩=>⟨c,_,_,h1,h2,by rw[Q8,show(("told":GJ)=="asked")=Gp by decide+kernel];rfl⟩
 |.asked,⟨c,h1,h2⟩=>⟨c,_,_,h1,h2,by rw[Q8,show(("asked":GJ)=="asked")=Ge by decide+kernel];rfl⟩
 |.turn n,⟨c,h1,h2⟩=>⟨c,_,_,h1,h2,by rw[Q8,show(("turn":GJ)=="asked")=Gp by decide+kernel];rfl⟩
 |.chain b,⟨c,l,h1,h2,_⟩=>⟨c,_,_,h1,h2,by rw[Q8,show(("chain":GJ)=="asked")=Gp by decide+kernel];rfl⟩
 |.like b,⟨c,l,h1,h2,_⟩=>⟨c,_,_,h1,h2,by rw[Q8,show(("like":GJ)=="asked")=Gp by decide+kernel];rfl⟩
def lrD:Lr->DD
 |.told n=>.tuple [.str "told",.int n]
 |.asked=>.tuple [.str "asked"]
 |.turn n=>.tuple [.str "turn",.int n]
 |.chain a=>.tuple [.str "chain",.list ((a.map λn:Nat=>(n:Int)).map TZ)]
 |.like a=>.tuple [.str "like",.list ((a.map λn:Nat=>(n:Int)).map TZ)]
theorem Qhw(a:List Nat):a.map jv=(a.map λn:Nat=>(n:Int)).map V.int:=by rw[List.map_map];rfl
theorem Qxd{H:Hp}{X:Gc->Prop}{v:V}:∀{r:Lr},Iy H X v r->Dt H v (lrD r)
 |.told n,⟨c,h1,h2⟩=>by subst h1;exact .tup h2 (.cons (.str _) (.cons (.int _) .nil))
 |.asked,⟨c,h1,h2⟩=>by subst h1;exact .tup h2 (.cons (.str _) .nil)
 |.turn n,⟨c,h1,h2⟩=>by subst h1;exact .tup h2 (.cons (.str _) (.cons (.int _) .nil))
 |.chain b,⟨c,l,h1,h2,a,_⟩=>by subst h1;exact .tup h2 (.cons (.str _) (.cons (.lst a (by rw[Qhw];exact Wk _)) .nil))
 |.like b,⟨c,l,h1,h2,a,_⟩=>by subst h1;exact .tup h2 (.cons (.str _) (.cons (.lst a (by rw[Qhw];exact Wk _)) .nil))
theorem Qt6:∀r:Lr,(lrD r).canLay0=Ge
 |.told n=>by simp[lrD,GQ,Gw];decide+kernel
 |.asked=>by simp[lrD,GQ,Gw];decide+kernel
 |.turn n=>by simp[lrD,GQ,Gw];decide+kernel
 |.chain a=>by
  have h:=Ws (a.map λn:Nat=>(n:Int));have h2:TC ("chain":GJ)=Ge:=by decide+kernel
  simp only[lrD,GQ,Gw,h,h2,DX,DY]
 |.like a=>by
  have h:=Ws (a.map λn:Nat=>(n:Int));have h2:TC ("like":GJ)=Ge:=by decide+kernel
  simp only[lrD,GQ,Gw,h,h2,DX,DY]
def ltD(l:Lt):DD:=.tuple [l.1.toD,l.2.1.toD,lrD l.2.2]
theorem Lns.dts{L:Gc}{lv:List V}{ls:List Lt}(h:Lns H L lv ls):Dts H lv (ls.map ltD)/\Gw (ls.map ltD)=Ge:=by
 have pr:=h.pr;have good:=h.good;clear h;induction pr with
 |nil=>exact⟨.nil,Xb⟩
 |@cons v l vs ls h r g=>obtain⟨i1,i2⟩:=g λl e=>good l (List.mem_cons_of_mem _ e);obtain⟨c,k,m,rv,rfl,d,i,j,f,_⟩:=h;obtain⟨a,b⟩:=good l List.mem_cons_self;refine⟨.cons (.tup d (.cons i.dt (.cons j.dt (.cons (Qxd f) .nil)))) i1,?_⟩;rw[List.map_cons];simp only[Gw,ltD,GQ,Wx _ a.1,Wx _ b.1,Qt6,i2,DX,DY]
def Qqi:Sp:=λvs H Q _=>∃(a L:Gc)(us lv:List V)(b c d:V)(tl:Tl)(pr:Option (Th×Th))(ls:List Lt)(x y:Th)(r:Lr),vs=[.ref a,.ref L,b,c,d]/\H a=Ga (.lst us)/\Ra H us tl/\Tlg tl/\tl.length<=1000/\Lns H L lv ls/\Gdt tl pr ls/\Qrw H d pr/\Zu H b x/\Zu H c y/\ls.getLast?=Ga (x,y,r)/\
 ∀H':Hp,Q5 H H'->Q (.bl Ge) H'
section
variable{P:Gj}{w:Gu}{K:PySem.W.Frag}{mg:GJ->Option Value}{base:Heap}
theorem Qsg:Q3 ["_law_told","_law_lines","_law_one","_law_other","_law_pair","_law_k","_law_line"] ["_law_told","_law_lines","_law_one","_law_other","_law_pair"] (Qn Qme):=by eq_refl
theorem Quk{f N M:Gc}{fd dT dF:Tf}(F:Wz K "_law_lines_show" "_law_lines_show" Qme f fd)(B:Blt mg)
  (GT:Qz P w K mg base Yb 1 N dT ["_law_found"] Qfa)(kT:KI K N)(bT:Binds K dT ["_law_found"] [])(mT:MG mg "_law_is_thing" N)
  (GF:Qz P w K mg base Yb 2 M dF ["_law_told","_law_lines","_law_k","_law_pair"] Qeh)(kF:KI K M)(bF:Binds K dF ["_law_told","_law_lines","_law_k","_law_pair"] [])(mF:MG mg "_law_line_follows" M):
  Qz P w K mg base Yb 3 f fd ["_law_told","_law_lines","_law_one","_law_other","_law_pair"] Qqi:=by
 refine F.ok Qsg (λvs H Q E h=>?_) (λcdv A outer s H vs Q E U h=>?_)
 ·obtain⟨a,L,us,lv,o1,o2,pq,tl,pr,ls,x,y,r,rfl,_⟩:=h;rfl
 obtain⟨a,L,us,lv,o1,o2,pq,tl,pr,ls,x,y,r,rfl,ha,Z,X,S,g,hg,T,hx,hy,b,q⟩:=h;have nd:=Qsg.nd;have Y:=U.units;have G:Yf 1 _:=U.mono (by omega);refine⟨_,(Qc (Zb (PW.pt (Xd (Ym (Yc (Qp Yw rfl B.isinstance Gz (Qa (pv 1) (Qa (Xm (v:=.ty "list") rfl B.list Ti Xb) Qe))))) (Xt (Qo (Uk Y) (pv 1) (Zr Qe) (Qs _)))))
  (Qh (Qt Ye)) Qv)
  (Qc (Z5 Gs rfl (Vp rfl B.range (Qa (Qp Zm rfl B.len PySem.boot_len (Qa (pv 1) Qe)) Qe)) (Zw 5 nd)
  (Qc (Qy 6 nd (Ql Ze (pv 1) (pv 5)))
  (Qc (Zb (PW.pt (Xd (Ym (Yc (Qp Yw rfl B.isinstance Gz (Qa (pv 6) (Qa (Xm (v:=.ty "tuple") rfl B.tuple Tx Xb) Qe))))) (Xd (Qo Vq (Qp Zm rfl B.len PySem.boot_len (Qa (pv 6) Qe)) Qi (Qs _)) (Xt (Ym (Yc (Qp Yw rfl B.isinstance Gz (Qa (Ql Qm (pv 6) Qi) (Qa (Xm (v:=.ty "tuple") rfl B.tuple Tx Xb) Qe)))))))))
  (Qh (Qt Ye)) Qv)
  (Qc (Zb (PW.pt (Xd (Ym (Yc (Zo GT G rfl mT kT bT .nil Q7 (Qa (Ql Qm (pv 6) Qi) Qe)))) (Xd (Ym (Yc (Zo GT G rfl mT kT bT .nil Q7 (Qa (Ql Qm (pv 6) Qi) Qe)))) (Xt (Qo Xi (Qp Zm rfl B.len PySem.boot_len (Qa (Ql Qm (pv 6) Qi) Qe)) Qi (Qs _))))))
  (Qh (Qt Ye)) Qv)
  (Qc (Zb (Ym (Yc (Qp Yw rfl B.isinstance Gz (Qa (Ql Qm (Ql Qm (pv 6) Qi) Qi) (Qa (Xm (v:=.ty "str") rfl B.str DQ Xb) Qe)))))
  (Qh (Qt Ye)) Qv)
  (Qc (Zb (Qo Vq (Qp Zm rfl B.len PySem.boot_len (Qa (Ql Qm (pv 6) Qi) Qe)) (Zs Qck Qi (Xh Qoi rfl B.int Sc (Qa (Wm Xi (Ql Qm (Ql Qm (pv 6) Qi) Qi) Zj (Qs _)) Qe))) (Qs _))
  (Qh (Qt Ye)) Qv)
  (Qh (Zb (Ym (Yc (Zo GF U rfl mF kF bF .nil Q7 (Qa (pv 0) (Qa (pv 1) (Qa (pv 5) (Qa (pv 4) Qe)))))))
  (Qh (Qt Ye)) Qv))))))))
  (Qh (Qt (Qkv (Wm (Uk Y) (Ql Qm (Ql Ze (pv 1) (Jl Vj Qi)) Qi) (pv 2) (Qs _)) (Qkk (Wm (Uk Y) (Ql Qm (Ql Ze (pv 1) (Jl Vj Qi)) Qi) (pv 3) (Qs _)))))))),?_⟩
 have ab:lv.length=ls.length:=Paired.length g.pr;have l9:=g.len;have D:ls≠[]:=λz=>by rw[z]at b;cases b
 have ac:0<ls.length:=List.length_pos_iff.mpr D;obtain⟨dts,aa⟩:=g.dts;refine⟨_,Xb,_,_,_,Ge,Xb,.lst g.at_,Qdk,Ge,Xb,Q6 ?_⟩;refine⟨_,Xb,Gx _,λz hz=>?_⟩;have s1:=Qf hz (.lst []);refine⟨.list (ls.map ltD),.list [],.lst (s1 _ _ g.at_) (g.same s1).dts.1,.lst Qb .nil,by simp only[GQ];exact aa,by simp[GQ,Gw],?_,_,Xb,?_⟩
 ·simp only[TQ,Tj];omega
 have ev:GX (.list (ls.map ltD)) (.list [])=Gp:=by
  simp only[GX];rw[Je];cases ls with
  |nil=>exact absurd rfl D
  |cons t r=>simp
 rw[ev];refine Q6 ?_;generalize upd H z (.lst [])=H1 at s1;refine⟨_,Xb,_,_,Xb,.inl ⟨_,Zc.of (s1 _ _ g.at_),Xb⟩,_,Xb,by omega,by omega,Vo (lo:=0) (n:=((lv.length:Int)).toNat) (λi σ H2=>∃x5 x6:Option V,σ=[Ga (.ref a),Ga (.ref L),Ga o1,Ga o2,Ga pq,x5,x6]/\Q5 H H2)
  ⟨_,_,Xb,s1⟩ ?_ ?_⟩
 ·rintro i σ H2 hi ⟨x5,x6,rfl,s2⟩;have hi:i<ls.length:=by omega
  have e:=g.same s2;obtain⟨u,C⟩:∃u,lv[i]?=Ga u:=⟨_,List.getElem?_eq_getElem (by omega)⟩;obtain⟨⟨x',y',r'⟩,p,c,v1,v2,rv,rfl,l,t1,t2,J,_⟩:=Qw e.pr C;obtain⟨O,R⟩:=g.good _ (List.mem_of_getElem? p);obtain⟨rc,wd,X8,rfl,I,W⟩:=J.Q1d;refine⟨_,Xb,_,Xb,L,lv,_,_,Xb,Xb,Zc.of e.at_,(by rw[Du];exact Qj C),?_⟩;refine⟨_,Xb,_,_,_,Ge,Xb,.tup l,Rx,Ge,Xb,Q6 ?_⟩;refine⟨_,Xb,_,_,Xb,.inr ⟨_,Q9.of l,Xb⟩,Xb,_,Xb,?_⟩;rw[Gr (by rfl)];refine Q6 ?_;refine⟨_,Xb,c,_,_,_,Xb,Xb,Q9.of l,Qj (j:=2) rfl,_,_,_,Ge,Xb,.tup I,Rx,Ge,Xb,Q6 ?_⟩;refine⟨_,Xb,c,_,_,_,Xb,Xb,Q9.of l,Qj (j:=0) rfl,v1,x',Xb,t1,O,λH3 s3=>⟨Ge,Xb,Q6 ?_⟩⟩;refine⟨_,Xb,c,_,_,_,Xb,Xb,Q9.of (s3 _ _ l),Qj (j:=1) rfl,v2,y',Xb,t2.same s3,R,λH4 s4=>⟨Ge,Xb,Q6 ?_⟩⟩;have o:=s3.trans s4;have m:=o _ _ l;have d:=o _ _ I;refine⟨_,Xb,c,_,_,_,Xb,Xb,Q9.of m,Qj (j:=2) rfl,_,_,Xb,.inr ⟨_,Q9.of d,Xb⟩,Xb,_,Xb,?_⟩;rw[Gq (show¬V.int (((V.str wd::X8).length:Nat):Int)=V.int 0 by rw[List.length_cons];intro z;injection z with z;omega)];refine Q6 ?_;refine⟨_,Xb,c,_,_,_,Xb,Xb,Q9.of m,Qj (j:=2) rfl,rc,_,_,_,Xb,Xb,Q9.of d,Qj (j:=0) rfl,_,_,_,Ge,Xb,.str _,O8,Ge,Xb,Q6 ?_⟩;refine⟨_,Xb,c,_,_,_,Xb,Xb,Q9.of m,Qj (j:=2) rfl,_,_,Xb,.inr ⟨_,Q9.of d,Xb⟩,_,Xb,c,_,_,_,Xb,Xb,Q9.of m,Qj (j:=2) rfl,rc,_,_,_,Xb,Xb,Q9.of d,Qj (j:=0) rfl,Xb,.inr ⟨_,Xb,_,_,Xb,Xb,Xb,_,Xb,?_⟩⟩;rw[Gr (by rw[W])];refine Q6 ?_;have k:=s2.trans o;refine⟨_,Xb,_,Xb,_,Xb,_,Xb,a,L,us,lv,pq,tl,pr,ls,i,x',y',r',(by rw[Du];rfl),k _ _ ha,Z.Qr (Q4.of k),X,S,g.same k,T.same k,p,hg i x' y' r' p,λH5 s5=>⟨Ge,Xb,Q6 ?_⟩⟩;exact⟨_,_,Xb,k.trans s5⟩
 ·rintro σ H2 ⟨x5,x6,rfl,s2⟩;have e:=g.same s2;have p:ls[ls.length - 1]?=Ga (x,y,r):=by rw[<-List.getLast?_eq_getElem?];exact b
  obtain⟨u,C⟩:∃u,lv[ls.length - 1]?=Ga u:=⟨_,List.getElem?_eq_getElem (by omega)⟩;obtain⟨l',e',c,v1,v2,rv,rfl,l,t1,t2,J,_⟩:=Qw e.pr C;rw[p]at e';cases e';obtain⟨O,R⟩:=g.good _ (List.mem_of_getElem? p);have al:atI lv (-1)=Ga (.ref c):=Qw3 (by rw[ab];exact C);refine⟨_,Xb,_,Xb,L,lv,_,_,Xb,Xb,Zc.of e.at_,al,c,_,_,_,Xb,Xb,Q9.of l,Qj (j:=0) rfl,_,Xb,Qps t1 (hx.same s2) O ⟨Ge,Xb,Yy ?_⟩⟩;exact⟨_,Xb,_,Xb,L,lv,_,_,Xb,Xb,Zc.of e.at_,al,c,_,_,_,Xb,Xb,Q9.of l,Qj (j:=1) rfl,_,Xb,Qps t2 (hy.same s2) R (q _ s2)⟩
end
end K03
namespace L2
open PySem PySem.Spec PyProof.Rows
def Qvk(P:Gj)(w:Gu):V->List V->Hp->VK->Prop:=λx vs H Q=>∃d b a kvs k,x=.ref d/\vs=[.ref b,a]/\DH P w H d kvs/\Og H b k/\Q ((Yg kvs k).getD a) H
theorem Qlf{X:Cx}(n:X.A.units+64<Dg):MtR X "dict.get" (Qvk X.prog X.w):=by
 intro pins s σ H x vs v us Q I j rv h;obtain⟨d,b,e,kvs,k,rfl,rfl,D,f,q⟩:=h;cases(show v=Value.ref d from j);obtain⟨l,m,rfl,g,i⟩:=vals2 rv;cases(show l=Value.ref b from g);obtain⟨z,hd,xs,rel,c⟩:=Qfd I D.at_ D.keys;refine E4 F.slot_dict_get c.typeIs F.entry_dict_get (F.args_dict_get_3 _ _ _) (meetsH_dict_get_default (Vc X.prog X.w) d b hd m) ⟨by first|(show X.A.units+1+10<Dg;omega)|(show X.A.units+1+1+10<Dg;omega),k,xs,f.is I,c,?_⟩;have a:=rel.val k;cases q1:Yg kvs k with
 |some y=>
  rw[q1]at a q;cases q2:atKey xs k with
  |none=>rw[q2]at a;exact(show False from a).elim
  |some p=>rw[q2]at a;exact⟨y,H,I.tok _,a,q⟩
 |none=>
  rw[q1]at a q;cases q2:atKey xs k with
  |some p=>rw[q2]at a;exact(show False from a).elim
  |none=>exact⟨e,H,I.tok _,i,q⟩
end L2
namespace K03
open PySem L2 Sb
variable{H:Hp}{rs:List Row}{n:Nat}{f:Gc}{fd:Tf}{v:V}{r:Row}
structure Rws(H:Hp)(R:Gc)(es:List V)(rs:List Row):Prop where
 at_:H R=Ga (.lst es)
 pr:Paired (Uc H NoX) es rs
 len:rs.length<=100000
 ok:∀r∈rs,TC r.1=Ge
 few:∀r∈rs,r.2.1.length<=1000
 nd:(rs.map λr=>(r.1,r.2.1)).Nodup
theorem Rws.same{H':Hp}(e:Q5 H H'){R:Gc}{es:List V}(h:Rws H R es rs):Rws H' R es rs:=
 ⟨e _ _ h.at_,L2.Paired.Z7 h.pr λ_ _ h=>h.kp (λh=>e _ _ h) (λh _=>e _ _ h),h.len,h.ok,h.few,h.nd⟩
structure Wld(S:List Th)(L:Th->Nat)(rs:List Row):Prop where
 cl:∀t∈S,∀p∈t.parts,p∈S
 good:∀t∈S,t.good
 mem:∀t∈S,(t.word,t.parts.map L,L t)∈rs
def Qk9:Sp:=λvs H Q _=>∃(R:Gc)(v:V)(es:List V)(a:List Row)(S:List Th)(L:Th->Nat)(t:Th),vs=[.ref R,v]/\Rws H R es a/\Wld S L a/\t∈S/\Zu H v t/\∀H':Hp,Q5 H H'->Q (jv (L t)) H'
def Nms(P:Gj)(w:Gu)(H:Hp)(d:Gc)(n:Nat)(S:Th->Prop)(L:Th->Nat):Prop:=∃kvs:List KE,kvs.length<=n/\H d=Ga (Vn P w d kvs)/\Vu H kvs/\∀t,S t->Yg kvs (kd t)=Ga (jv (L t))
theorem Nms.same{P:Gj}{w:Gu}{H':Hp}(e:Q5 H H'){d:Gc}{S:Th->Prop}{L:Th->Nat}(h:Nms P w H d n S L):Nms P w H' d n S L:=by obtain⟨kvs,a,h1,h2,b⟩:=h;exact⟨kvs,a,e _ _ h1,Zh (Q4.of e) h2,b⟩
theorem Nms.set{P:Gj}{w:Gu}{d b:Gc}{S:Th->Prop}{L:Th->Nat}{t:Th}{Q:Hp->Prop}(N:Nms P w H d n S L)(k:n<=1000000)(ok:t.ok=Ge)(dp:t.depth<=8)(h:Zu H (.ref b) t)
  (q:∀H',(∀e o,H e=Ga o->e≠d->H' e=Ga o)->Nms P w H' d (n+1) (λu=>S u\/u=t) L->Q H'):Qgb P w (.ref d) (.ref b) (jv (L t)) H Q:=by
 obtain⟨kvs,j,h1,h2,c⟩:=N;have a:=Rh h ok dp;refine⟨d,b,kd t,kvs,Xb,Xb,⟨h1,h2⟩,a,by rw[Gy];omega,q _ (λe o h f=>by rw[Qg f];exact h) ?_⟩;have i:Q4 H (upd H d (Vn P w d (Wj kvs (kd t) b (jv (L t))))):=Zz λxs e=>by rw[h1]at e;cases e
 refine⟨_,TD (Om _ _ _ _) (by omega),Qb,Zh i (h2.put a),λu g=>?_⟩;rw[Uw];by_cases e:u=t
 ·subst e;exact Gk rfl
 ·rw[Gg (λz=>e (R7 z))];exact c u (g.resolve_right e)
theorem Qtw{w:GJ}{ns:List Nat}(nd:(rs.map λr=>(r.1,r.2.1)).Nodup)(h:(w,ns,n)∈rs):(rs.filter λr=>decide (r.1=w)).filter (λr=>decide (r.2.1=ns))=[(w,ns,n)]:=by
 induction rs with
 |nil=>cases h
 |cons r rs a=>
  rw[List.map_cons,List.nodup_cons]at nd;obtain⟨h1,h2⟩:=nd;rcases List.mem_cons.mp h with z|z
  ·subst z;have Gf:(rs.filter λr=>decide (r.1=w)).filter (λr=>decide (r.2.1=ns))=[]:=by rw[List.filter_filter,List.filter_eq_nil_iff];intro r c e;simp only[Td,decide_eq_true_eq]at e;exact h1 (List.mem_map.mpr ⟨r,c,by rw[<-e.1,<-e.2]⟩)
   rw[List.filter_cons_of_pos (by simp),List.filter_cons_of_pos (by simp),Gf]
  ·have a:=a h2 z;by_cases e:r.1=w
   ·rw[List.filter_cons_of_pos (by simp[e])];rw[List.filter_cons_of_neg,a];intro b;have b:r.2.1=ns:=Tq b;exact h1 (List.mem_map.mpr ⟨(w,ns,n),z,by rw[<-e,<-b]⟩)
   ·rw[List.filter_cons_of_neg (by simp[e])];exact a
theorem Qzt:(["_law_inner","_law_values"]:List GJ).Nodup:=by decide+kernel
theorem Qye:(["_law_row","_law_part"]:List GJ).Nodup:=by decide+kernel
theorem Qyy:(["_law_row","_law_numbers"]:List GJ).Nodup:=by decide+kernel
theorem Ik(a:List Nat):a.map jv=(a.map λn:Nat=>(n:Int)).map V.int:=by rw[List.map_map];rfl
theorem Qiw{a b:List Nat}:(a.map λn:Nat=>(n:Int))=(b.map λn:Nat=>(n:Int))↔a=b:=by
 constructor
 ·intro h;have back:∀l:List Nat,(l.map λn:Nat=>(n:Int)).map Dm=l:=λl=>by rw[List.map_map];exact(List.map_congr_left (λn _=>T5 n)).trans (List.map_id l)
  rw[<-back a,h,back b]
 ·rintro rfl;rfl
section
variable{P:Gj}{w:Gu}{K:PySem.W.Frag}{mg:GJ->Option Value}{base:Heap}
theorem Qk4:Q3 ["_law_rows","_law_thing","_law_order","_law_todo","_law_part","_law_values","_law_numbers","_law_near","_law_found"] ["_law_rows","_law_thing"] (Qn Ro):=by eq_refl
theorem Qqn(F:Wz K "_law_number_in" "_law_number_in" Ro f fd)(B:Blt mg):Qz P w K mg base Yb 1 f fd ["_law_rows","_law_thing"] Qk9:=by
 refine F.ok Qk4 (λvs H Q E h=>?_) (λcdv A outer s H vs Q E hr h=>?_)
 ·obtain⟨R,v,es,J,S,L,t,rfl,_⟩:=h;rfl
 obtain⟨R,v,es,J,S,L,t,rfl,hR,W,tS,hv,q⟩:=h;have nd:=Qk4.nd;have G:=hr.units;have gt:=W.good t tS;have siz:=gt.2.2;have aW:es.length=J.length:=Paired.length hR.pr;have bc:=hR.len;refine⟨_,(Qc (Qy 2 nd (Zr Qe))
  (Qc (Qy 3 nd (Zr (Qa (pv 1) Qe)))
  (Qc (Wn Gs (Qo (Qan G) (pv 3) (Zr Qe) (Qs _))
  (Qc (Vg (i:=4) nd rfl (Dp Xb) (Qab PySem.F.plainAttrs_list PySem.F.slot_list_pop PySem.F.type_list_pop Qav (pv 3)))
  (Qc (Zk (X0 PySem.F.plainAttrs_list PySem.F.slot_list_append PySem.F.type_list_append Z3 (pv 2) (Qa (pv 4) Qe)))
  (Qh (Qy 3 nd (Zs Vi (pv 3) (Xh Wv rfl B.list Ti (Qa (Yl V3 (pv 4) (Yn Qi) Xl) Qe))))))))
  (Qc (Vg (i:=5) nd rfl (Dp Xb) Ig)
  (Qc (Z5 Gs rfl (Qth rfl B.reversed (Qa (pv 2) Qe)) (Xf (i:=4) nd rfl (Dp Xb))
  (Qc (Vg (i:=6) nd rfl (Dp Xb) (Vl (te:=Qy1 P w (Qvk P w) (Vv 1) (Qa8 (Vv 0) (Qa8 (tUn (rU λi=>.int (-i)) (tC (.int 1))) Qjx))) (own:=["_law_inner"]) (fv:=[(5,"_law_values")]) rfl (S:=(by eq_refl:Xx (Qn Ro) _)) (.cons rfl (TR Xb) rfl .nil) (Uj (Yl V3 (pv 4) (Yn Qi) Xl))
   (λ_ _ _ _ _=>Xf (i:=0) Qzt rfl (TR Xb) (Dp Xb)) (λ_ _ _ _ _=>X6) (λ_ _ _ _ _=>(Qjk PySem.F.slot_dict_get PySem.F.type_dict_get (Qlf G) (pv 1) (Qa (pv 0) (Qa (Jl Vj Qi) Qe))))))
  (Qc (V0 (i:=7) (own:=["_law_row"]) (fv:=[(4,"_law_part")]) nd rfl rfl rfl (S:=(by eq_refl:Xx (Qn Ro) _)) (.cons rfl (TR Xb) rfl .nil) (Z9 (pv 0))
   (λ_ _ _ _ _=>Xf (i:=0) Qye rfl (TR Xb) (Dp Xb)) (λ_ _ _ _ _=>Qdt (Qo Xi (Ql (r:=Qkl K) Qm (pv 0) Qi) (Ql (r:=Qkl K) Qm (pv 1) Qi) (Qs _))) (λ_ _ _ _ _=>(pv 0)))
  (Qc (V0 (i:=8) (own:=["_law_row"]) (fv:=[(6,"_law_numbers")]) nd rfl rfl rfl (S:=(by eq_refl:Xx (Qn Ro) _)) (.cons rfl (TR Xb) rfl .nil) (Z9 (pv 7))
   (λ_ _ _ _ _=>Xf (i:=0) Qyy rfl (TR Xb) (Dp Xb)) (λ_ _ _ _ _=>Qdt (Qo (Uk G) (Ql (r:=Qkl K) Qm (pv 0) Qi) (pv 1) (Qs _))) (λ_ _ _ _ _=>(Ql (r:=Qkl K) Qm (pv 0) Qi)))
  (Qh (Zb (PW.pt (Qai (Qo Xi (Qp Zm rfl B.len PySem.boot_len (Qa (pv 8) Qe)) Qi (Qs _)) (Oa (Qo (Qno G) (Jl Vj Qi) (pv 6) rfl))))
  (Qh (Ry (Ql Ze (pv 8) Qi) (Qam (pv 5) (pv 4) (Qak G)))) Qv))))))
  (Qh (Qt (Qjk PySem.F.slot_dict_get PySem.F.type_dict_get (Qlf G) (pv 5) (Qa (pv 1) (Qa (Jl Vj Qi) Qe)))))))))),?_⟩
 refine⟨Gx _,λo ho=>?_⟩;have s2:=Qf ho (.lst []);refine⟨_,Xb,by show 1<=Gh;decide,λl hl=>?_⟩;have s3:=Qf hl (.lst [v]);have ap:=s2.trans s3;have X:o≠l:=Qd Qb hl;have ag:H l=Gf:=s2.free hl;refine⟨λm σ H2=>∃(l:Gc)(ov xs:List V)(O T:List Th)(x4:Option V),σ=[Ga (.ref R),Ga v,Ga (.ref o),Ga (.ref l),x4,Gf,Gf,Gf,Gf]/\Q5 H H2/\H l=Gf/\o≠l/\H2 o=Ga (.lst ov)/\H2 l=Ga (.lst xs)/\Zq H2 ov O/\Zq H2 xs T/\
   (∀u∈O,u∈S)/\(∀u∈T,u∈S)/\(t∈O\/t∈T)/\(∀(i:Nat)w ps,O[i]?=Ga (Th.mk w ps)->∀p∈ps,(∃j:Nat,i<j/\O[j]?=Ga p)\/p∈T)/\m=Qx T/\O.length+Qx T<=1000,
  ⟨_,l,[],[v],[],[t],Gf,Xb,ap,ag,X,s3 _ _ Qb,Qb,.nil,.one (hv.same ap),(λu G=>nomatch G),λu G=>by rw[List.mem_singleton]at G;subst G;exact tS,.inr List.mem_cons_self,λi w ps e=>by simp at e,Xb,by simp[Qx];omega⟩,?_⟩
 clear s3 ap X ag hl;rintro m σ H2 ⟨l,ov,xs,O,T,x4,rfl,sm,hl,X,go,gl,aO,aT,fO,fT,aH,Xg,rfl,sz⟩;have lx:=aT.length;have lo:=aO.length;have lT:=Zd T;refine⟨_,Xb,Gx _,λz hz=>?_⟩;have s4:=Qf hz (.lst []);refine⟨.list (X5 T),.list [],.lst (s4 _ _ gl) (aT.same s4).dts,.lst Qb .nil,by simp only[GQ];exact Oe T (by rw[Jh,List.all_eq_true];exactλu G=>(W.good u (fT u G)).1),by simp[GQ,Gw],?_,_,Xb,?_⟩
 ·simp only[TQ,Tj];omega
 have ev:GX (.list (X5 T)) (.list [])=T.isEmpty:=by
  simp only[GX];rw[Je];cases T with
  |nil=>simp[X5]
  |cons t r=>simp[X5]
 rw[ev];rcases List.eq_nil_or_concat T with rfl|⟨Tr,u,eT⟩
 ·refine Q6 ?_;have tO:t∈O:=aH.resolve_right (by simp);have Xg:∀(i:Nat)w ps,O[i]?=Ga (Th.mk w ps)->∀p∈ps,∃j:Nat,i<j/\O[j]?=Ga p:=λi w ps e p U=>(Xg i w ps e p U).resolve_right (by simp);have aa:=sm.trans s4;have ai:=s4 _ _ go;have au:=aO.same s4;generalize upd H2 z (.lst [])=H3 at aa ai au⊢;intro d hd;have s5:=Qf hd (Vn P w d []);have ay:H d=Gf:=aa.free hd;have av:=s5 _ _ ai;have aK:=au.same s5;have a0:o≠d:=Qd ai hd;have a4:O.length<=1000:=by omega
  refine⟨_,Xb,o,ov,Xb,Zc.of av,Qql (K:=K) (a:=o) (xs:=ov) (λk σ g=>∃(x4 x6 x7 x8:Option V),σ=[Ga (.ref R),Ga v,Ga (.ref o),Ga (.ref l),x4,Ga (.ref d),x6,x7,x8]/\Iw d (upd H3 d (Vn P w d [])) g/\Nms P w g d k (λu=>u∈O.reverse.take k) L)
   ⟨_,_,_,_,Xb,Iw.refl,[],Gn _,Qb,(λp U=>nomatch U),by simp⟩ (λk σ g _⟨_,_,_,_,_,bt,_⟩=>Zc.of (bt _ _ av a0)) ?_ ?_⟩
  ·rintro k x σ g hk ⟨x4,x6,x7,x8,rfl,bt,N5⟩;have aP:k<ov.length:=by have:=(List.getElem?_eq_some_iff.mp hk).1;simpa using this
   have hx:∃u,O.reverse[k]?=Ga u/\Zu (upd H3 d (Vn P w d [])) x u:=by rw[List.getElem?_reverse aP]at hk;obtain⟨u,e1,e2⟩:=aK.get hk;refine⟨u,?_,e2⟩;rw[List.getElem?_reverse (by omega),<-lo];exact e1
   obtain⟨u,eu,hx⟩:=hx;have tu:Q4 (upd H3 d (Vn P w d [])) g:=bt.Qr Qb (λxs z=>by cases z);have aC:=hx.Qr tu;have fu:=fO u (List.mem_reverse.mp (List.mem_of_getElem? eu));obtain⟨b,wd,us,ps,rfl,rfl,hb,Z⟩:=aC.inv;have aL:∀p∈ps,p∈S:=W.cl _ fu;have gu:=W.good _ fu;have parts:∀p∈ps,p∈O.reverse.take k:=λp U=>by
    have e1:O[O.length - 1 - k]?=Ga (Th.mk wd ps):=by rw[List.getElem?_reverse (by omega)]at eu;exact eu
    obtain⟨j,hj,ej⟩:=Xg _ _ _ e1 p U;have a8:j<O.length:=(List.getElem?_eq_some_iff.mp ej).1;have e2:O.reverse[O.length - 1 - j]?=Ga p:=by rw[List.getElem?_reverse (by omega)];rw[show O.length - 1 - (O.length - 1 - j)=j by omega];exact ej
    have e3:(O.reverse.take k)[O.length - 1 - j]?=Ga p:=by rw[List.getElem?_take_of_lt (by omega)];exact e2
    exact List.mem_of_getElem? e3
   have aX:ps.length<=3000:=by have h1:=Zd ps;have h2:=gu.2.2;simp only[Th.size]at h2;omega
   have aY:=Z.length;refine⟨_,Xb,_,Xb,b,_,Xb,Q9.of hb,Wb _ _,λr hr=>?_⟩;rw[Qc5];have s6:=Qf hr (.tup us);refine⟨r,Xb,⟨_,Q9.of Qb⟩,λp U=>?_⟩;refine Uu (K:=K) (a:=r) (xs:=us) (small (by omega)) (λi ys σ C=>(∃x0,σ=[x0,Ga (.ref d)])/\ys=((ps.take i).map L).map jv/\C=upd (upd g r (.tup us)) p (.lst ys)) ⟨⟨_,Xb⟩,by simp,Xb⟩ (λi ys σ C _⟨_,_,e⟩=>Q9.of (by rw[e];exact Qf U _ _ _ Qb)) ?_ ?_
   ·rintro i y ys σ C hi aV ⟨⟨x0,rfl⟩,rfl,rfl⟩ aS;obtain⟨t',ao,hy⟩:=Z.get hi;obtain⟨b',_,_,_,rfl,_,_,_⟩:=hy.inv;have s7:=s6.trans (Qf U (.lst (((ps.take i).map L).map jv)));obtain⟨kvs,h0,h1,h2,h3⟩:=N5.same s7;have aw:=W.good t' (aL t' (List.mem_of_getElem? ao));refine⟨_,Xb,⟨d,kvs,Xb,h1⟩,_,Xb,_,Xb,d,b',_,kvs,kd t',Xb,Xb,⟨h1,h2⟩,Rh (hy.same s7) aw.1 aw.2.1,?_⟩;rw[h3 t' (parts t' (List.mem_of_getElem? ao))];refine⟨aS,⟨_,Xb⟩,?_,by rw[Wt]⟩;rw[List.take_add_one,ao];simp
   rintro ys σ C aV ⟨_,rfl,rfl⟩ az;rw[aY,List.take_length]at az⊢;have ad:=s6.trans (Qf U (.lst ((ps.map L).map jv)));generalize upd (upd g r (.tup us)) p (.lst ((ps.map L).map jv))=C at*;have a2:Q5 H C:=λc o' h=>ad _ _ (bt _ _ ((aa.trans s5) _ _ h) (Qd h ay));have aj:=hR.same a2;have ax:=ad _ _ hb;have N6:=N5.same ad;have a6:(es.length<=100000):=by omega
   refine⟨_,Xb,R,Xb,⟨_,Zc.of aj.at_⟩,λp2 am=>?_⟩;refine Jx (K:=K) (a:=R) (xs:=es) (small (by omega)) (λi ys σ H7=>(∃x0,σ=[x0,Ga (.ref b)])/\Paired (Uc C NoX) ys ((J.take i).filter λr=>decide (r.1=wd))/\H7=upd C p2 (.lst ys)) ⟨⟨_,Xb⟩,by simp;exact .nil,Xb⟩ (λi ys σ H7 _⟨_,_,e⟩=>Zc.of (by rw[e];exact Qf am _ _ _ aj.at_)) ?_ ?_
   ·rintro i y ys σ H7 hi ⟨⟨x0,rfl⟩,py,rfl⟩ Y;obtain⟨r',er,c,l',rfl,hc,ak,_⟩:=Qw aj.pr hi;have sn:=Qf am (.lst ys);refine⟨_,Xb,c,_,_,_,Xb,Xb,Q9.of (sn _ _ hc),Qj (j:=0) rfl,_,Xb,b,_,_,_,Xb,Xb,Q9.of (sn _ _ ax),Qj (j:=0) rfl,Xb,_,Xb,?_⟩;have et:J.take (i+1)=J.take i++[r']:=by rw[List.take_add_one,er];rfl
    by_cases e:r'.1=wd
    ·rw[Gr (show V.str r'.1=V.str wd by rw[e])];refine Yy ⟨_,Xb,Y,⟨_,Xb⟩,?_,by rw[Wt]⟩;rw[et,List.filter_append,List.filter_cons_of_pos (by simp[e])];exact Yj py (.cons ⟨c,l',Xb,hc,ak,id⟩ .nil)
    ·rw[Gq (show¬V.str r'.1=V.str wd fromλz=>e (by injection z))];refine Q6 ⟨Y,⟨_,Xb⟩,?_,Xb⟩;rw[et,List.filter_append,List.filter_cons_of_neg (by simp[e])];simpa using py
   rintro ys σ H7 ⟨_,py,rfl⟩ Y;rw[aW,List.take_length]at py;have M:=Qf am (.lst ys);have aE:Paired (Uc (upd C p2 (.lst ys)) NoX) ys (J.filter λr=>decide (r.1=wd)):=L2.Paired.Z7 py λ_ _ h=>h.kp (λh=>M _ _ h) (λh _=>M _ _ h);have ah:=M _ _ az;have aN:=M _ _ ax;have N7:=N6.same M;generalize upd C p2 (.lst ys)=H7 at*;have aZ:ys.length=(J.filter λr=>decide (r.1=wd)).length:=Paired.length aE;have bb:=List.length_filter_le (λr:Row=>decide (r.1=wd)) J;refine⟨_,Xb,p2,Xb,⟨_,Zc.of Y⟩,λp3 an=>?_⟩;refine Jx (K:=K) (a:=p2) (xs:=ys) (small (by omega)) (λi zs σ H8=>(∃x0,σ=[x0,Ga (.ref p)])/\zs=((((J.filter λr=>decide (r.1=wd)).take i).filter λr=>decide (r.2.1=ps.map L)).map λr=>jv r.2.2)/\H8=upd H7 p3 (.lst zs)) ⟨⟨_,Xb⟩,by simp,Xb⟩ (λi zs σ H8 _⟨_,_,e⟩=>Zc.of (by rw[e];exact Qf an _ _ _ Y)) ?_ ?_
   ·rintro i y zs σ H8 hi ⟨⟨x0,rfl⟩,rfl,rfl⟩ D;obtain⟨r',er,c,l',rfl,hc,ak,_⟩:=Qw aE hi;generalize aD:((((J.filter λr=>decide (r.1=wd)).take i).filter λr=>decide (r.2.1=ps.map L)).map λr=>jv r.2.2)=zs at*;have sn:=Qf an (.lst zs);refine⟨_,Xb,c,_,_,_,Xb,Xb,Q9.of (sn _ _ hc),Qj (j:=1) rfl,_,Xb,.list ((r'.2.1.map λn:Nat=>(n:Int)).map TZ),.list (((ps.map L).map λn:Nat=>(n:Int)).map TZ),.lst (sn _ _ ak) (by rw[Ik];exact Wk _),.lst (sn _ _ ah) (by rw[Ik];exact Wk _),by simp only[GQ];exact Ws _,by simp only[GQ];exact Ws _,?_,_,Xb,?_⟩
    ·have:=Jc (r'.2.1.map λn:Nat=>(n:Int));simp only[TQ];omega
    have ee:GX (.list ((r'.2.1.map λn:Nat=>(n:Int)).map TZ)) (.list (((ps.map L).map λn:Nat=>(n:Int)).map TZ))=decide (r'.2.1=ps.map L):=by simp only[GX];rw[Ol];exact decide_eq_decide.mpr Qiw
    rw[ee];have et:(J.filter λr=>decide (r.1=wd)).take (i+1)=(J.filter λr=>decide (r.1=wd)).take i++[r']:=by rw[List.take_add_one,er];rfl
    by_cases e:r'.2.1=ps.map L
    ·rw[Gr e];refine Yy ⟨_,Xb,c,_,_,_,Xb,Xb,Q9.of (sn _ _ hc),Qj (j:=2) rfl,D,⟨_,Xb⟩,?_,by rw[Wt]⟩;rw[et,List.filter_append,List.filter_cons_of_pos (by simp[e]),List.map_append,aD];rfl
    ·rw[Gq e];refine Q6 ⟨D,⟨_,Xb⟩,?_,Xb⟩;rw[et,List.filter_append,List.filter_cons_of_neg (by simp[e])];simpa using aD.symm
   rintro zs σ H8 ⟨_,rfl,rfl⟩ D;have one:(((((J.filter λr=>decide (r.1=wd)).take ys.length).filter λr=>decide (r.2.1=ps.map L)).map λr=>jv r.2.2))=[jv (L (.mk wd ps))]:=by rw[aZ,List.take_length,Qtw (w:=wd) (ns:=ps.map L) (n:=L (.mk wd ps)) hR.nd (W.mem _ fu)];rfl
   rw[one]at D⊢;have af:=Qf an (.lst [jv (L (.mk wd ps))]);have aA:=af _ _ ah;have a7:=af _ _ aN;have N8:=N7.same af;have aF:=(ad.trans M).trans af;generalize upd H7 p3 (.lst [jv (L (.mk wd ps))])=H8 at*;refine⟨_,Xb,_,_,Xb,.inl ⟨_,Zc.of D,Xb⟩,Xb,_,Xb,?_⟩;rw[Gr (by rfl)];refine Yy ?_;refine⟨_,Xb,_,Xb,.int (-1),((ps.map L).map λn:Nat=>(n:Int)).map TZ,.int _,.lst aA (by rw[Ik];exact Wk _),by simp[GQ],Ws _,?_,_,Xb,?_⟩
   ·simp only[TQ];omega
   have ni:((((ps.map L).map λn:Nat=>(n:Int)).map TZ).any λd=>GX d (.int (-1)))=Gp:=by rw[List.any_eq_false];intro d hd;obtain⟨n,hn,rfl⟩:=List.mem_map.mp hd;obtain⟨k',_,rfl⟩:=List.mem_map.mp hn;simp[GX]
   rw[ni];refine Yy ?_;refine⟨_,Xb,p3,_,_,_,Xb,Xb,Zc.of D,Qj (j:=0) rfl,_,Xb,_,Xb,N8.set (by omega) gu.1 gu.2.1 (aC.same aF) λH9 b9 N9=>?_⟩;refine⟨_,_,_,_,Xb,λc o' h1 h2=>b9 _ _ (aF _ _ (bt _ _ h1 h2)) h2,?_⟩;obtain⟨kvs,h0,h1,h2,h3⟩:=N9;refine⟨kvs,h0,h1,h2,λu' I=>h3 u' ?_⟩;rw[List.take_add_one,eu]at I;rcases List.mem_append.mp I with z|z
   ·exact .inl z
   ·exact .inr (by simpa using z)
  ·rintro σ g ⟨x4,x6,x7,x8,rfl,bt,N5⟩;have tu:Q4 (upd H3 d (Vn P w d [])) g:=bt.Qr Qb (λxs z=>by cases z);obtain⟨b,_,_,_,rfl,_,_,_⟩:=hv.inv;have aI:t∈O.reverse.take ov.length:=by rw[lo,<-List.length_reverse,List.take_length];exact List.mem_reverse.mpr tO
   obtain⟨kvs,h0,h1,h2,h3⟩:=N5;refine⟨_,Xb,⟨d,kvs,Xb,h1⟩,_,Xb,_,Xb,d,b,_,kvs,kd t,Xb,Xb,⟨h1,h2⟩,Rh ((hv.same (aa.trans s5)).Qr tu) gt.1 gt.2.1,?_⟩;rw[h3 t aI];exact q g λe o' h=>bt _ _ (s5 _ _ (aa _ _ h)) (Qd h ay)
 ·have eT:T=Tr++[u]:=by simpa using eT
  subst eT;have aR:(Tr++[u]).isEmpty=Gp:=by cases Tr<;>rfl
  rw[aR];refine Yy ?_;obtain⟨xr,x,rfl,k1,k2⟩:=U8 aT;have aB:Qx (Tr++[u])=Qx Tr+u.size:=by rw[Yu];simp[Qx]
  rw[aB]at sz;have a5:=Ju u;have uS:=fT u (by simp);refine⟨λaJ H'=>∃m',m'<Qx (Tr++[u])/\∃(l:Gc)(ov xs:List V)(O T:List Th)(x4:Option V),aJ=[Ga (.ref R),Ga v,Ga (.ref o),Ga (.ref l),x4,Gf,Gf,Gf,Gf]/\Q5 H H'/\H l=Gf/\o≠l/\H' o=Ga (.lst ov)/\H' l=Ga (.lst xs)/\Zq H' ov O/\Zq H' xs T/\
   (∀u∈O,u∈S)/\(∀u∈T,u∈S)/\(t∈O\/t∈T)/\(∀(i:Nat)w ps,O[i]?=Ga (Th.mk w ps)->∀p∈ps,(∃j:Nat,i<j/\O[j]?=Ga p)\/p∈T)/\m'=Qx T/\O.length+Qx T<=1000,λaJ H' h=>h,?_⟩
  have al:(xr++[x])[(xr++[x]).length - 1]?=Ga x:=by simp
  refine⟨_,Xb,.inl ⟨Xb,_,Zc.of (s4 _ _ gl)⟩,l,_,_,Xb,Xb,s4 _ _ gl,al,?_⟩;rw[List.dropLast_concat];have ab:Iw l H2 (upd (upd H2 z (.lst [])) l (.lst xr)):=λc o e h=>by rw[Qg h];exact s4 _ _ e
  have l5:(upd (upd H2 z (.lst [])) l (.lst xr)) l=Ga (.lst xr):=Qb;generalize upd (upd H2 z (.lst [])) l (.lst xr)=g at ab l5⊢;have t5:Q4 H2 g:=ab.Qr gl (λxs e=>by cases e);have a3:Q5 H g:=λc o e=>ab c o (sm _ _ e) (Qd e hl);have o5:=ab _ _ go X;refine⟨_,Xb,.inl ⟨Xb,_,Zc.of o5⟩,_,Xb,o,ov,_,Xb,Xb,o5,by rw[Gy];omega,?_⟩;have ac:Iw o g (upd g o (.lst (ov++[x]))):=λc o' e h=>by rw[Qg h];exact e
  have o6:(upd g o (.lst (ov++[x]))) o=Ga (.lst (ov++[x])):=Qb;generalize upd g o (.lst (ov++[x]))=C at ac o6⊢;have t6:Q4 g C:=ac.Qr o5 (λxs e=>by cases e);have aG:Q5 H C:=λc o' e=>ac c o' (a3 _ _ e) (Qd e ho);have l6:=ac _ _ l5 (Gm X);have ar:=t5.trans t6;have k1:=k1.Qr ar;have k2:=k2.Qr ar;obtain⟨b0,wd,N,ps,rfl,rfl,aM,Z⟩:=k2.inv;have bd:=Z.length;have aX:=Zd ps;have be:=k1.length;have ba:=Zd Tr;have a9:(Th.mk wd ps).size=Qx ps+1:=by simp only[Th.size]
  refine⟨_,Xb,_,Xb,_,Xb,b0,_,Xb,Q9.of aM,Wb _ _,λr aU=>?_⟩;rw[Qc5];have s7:=Qf aU (.tup N);refine⟨r,N,Xb,.inr (Q9.of Qb),λl2 aQ=>?_⟩;have s8:=Qf aQ (.lst N);refine⟨l,l2,xr,N,Xb,Xb,s8 _ _ (s7 _ _ l6),Qb,small (by omega),λn hn=>?_⟩;have s9:=Qf hn (.lst (xr++N));have aq:=s7.trans s8;have ae:=aq.trans s9;refine⟨Qx (Tr++ps),by rw[aB,Yu];omega,n,ov++[.ref b0],xr++N,O++[Th.mk wd ps],Tr++ps,_,Xb,aG.trans ae,(aG.trans aq).free hn,?_,ae _ _ o6,Qb,((aO.Qr ar).append (.one k2)).same ae,(k1.append Z).same ae,?_,?_,?_,?_,Xb,?_⟩
  ·exact Qd (aq _ _ o6) hn
  ·intro u' I;rcases List.mem_append.mp I with z|z
   ·exact fO u' z
   ·rw[List.mem_singleton]at z;rw[z];exact uS
  ·intro u' I;rcases List.mem_append.mp I with z|z
   ·exact fT u' (List.mem_append_left _ z)
   ·exact W.cl _ uS u' z
  ·rcases aH with z|z
   ·exact .inl (List.mem_append_left _ z)
   ·rcases List.mem_append.mp z with z|z
    ·exact .inr (List.mem_append_left _ z)
    ·rw[List.mem_singleton]at z;rw[z];exact .inl (List.mem_append_right _ List.mem_cons_self)
  ·intro i w' a1 e p U;have eO:(O++[Th.mk wd ps])[O.length]?=Ga (Th.mk wd ps):=by simp
   rcases Te i O.length with hi|hi
   ·rw[List.getElem?_append_left hi]at e;rcases Xg i w' a1 e p U with⟨j,hj,ej⟩|z
    ·exact .inl ⟨j,hj,by rw[List.getElem?_append_left (List.getElem?_eq_some_iff.mp ej).1];exact ej⟩
    ·rcases List.mem_append.mp z with z|z
     ·exact .inr (List.mem_append_left _ z)
     ·rw[List.mem_singleton]at z;exact .inl ⟨O.length,hi,by rw[z];exact eO⟩
   ·have:i=O.length:=by have:=(List.getElem?_eq_some_iff.mp e).1;rw[List.length_append,List.length_singleton]at this;omega
    subst this;rw[eO]at e;cases e;exact .inr (List.mem_append_right _ U)
  ·rw[List.length_append,List.length_singleton,Yu];omega
end
def Qe0:Sp:=λvs H Q _=>∃(R:Gc)(es:List V)(a:List Row),vs=[.ref R]/\Rws H R es a/\∀H':Hp,Q5 H H'->Q (.bl Ge) H'
def Quc(H:Hp)(l:Gc)(v:V)(r:Row):Prop:=∃c a,v=.ref c/\H c=Ga (.tup [.str r.1,.ref a])/\H a=Ga (.lst (r.2.1.map jv))/\a≠l
def sgD(r:Row):DD:=.tuple [.str r.1,.list ((r.2.1.map λn:Nat=>(n:Int)).map TZ)]
theorem Qvm{l:Gc}(h:Quc H l v r):Dt H v (sgD r):=by obtain⟨c,b,rfl,h2,a,_⟩:=h;exact .tup h2 (.cons (.str _) (.cons (.lst a (by rw[Ik];exact Wk _)) .nil))
theorem Qru(h:TC r.1=Ge):(sgD r).canLay0=Ge:=by have h1:=Ws (r.2.1.map λn:Nat=>(n:Int));simp only[sgD,GQ,Gw,h,h1,DX,DY]
theorem Qpm(r:Row):(sgD r).depth<=4:=by have:=Jc (r.2.1.map λn:Nat=>(n:Int));simp only[sgD,TQ,Tj];omega
theorem Qwo{l:Gc}{vs:List V}(h:Paired (Quc H l) vs rs):Dts H vs (rs.map sgD):=by
 induction h with
 |nil=>exact .nil
 |cons h r a=>exact .cons (Qvm h) a
theorem Qtx(h:∀r∈rs,TC r.1=Ge):Gw (rs.map sgD)=Ge:=by
 induction rs with
 |nil=>rfl
 |cons r rs b=>rw[List.map_cons];simp only[Gw,Qru (h r List.mem_cons_self),b λr a=>h r (List.mem_cons_of_mem _ a),DY]
theorem Qxm{a:Row}(h:GX (sgD r) (sgD a)=Ge):(r.1,r.2.1)=(a.1,a.2.1):=by
 simp only[sgD,GX,Tg,DX,Td]at h;obtain⟨h1,h2⟩:=h;rw[Ol]at h2;have h2:=Qiw.mp (Tq h2);have h1:r.1=a.1:=by simpa using h1
 rw[h1,h2]
section
variable{P:Gj}{w:Gu}{K:PySem.W.Frag}{mg:GJ->Option Value}{base:Heap}
theorem Qe5:Q3 ["_law_rows","_law_signs","_law_row","_law_number"] ["_law_rows"] (Qn Ou):=by eq_refl
theorem Qjz{U:Gc}{dH:Tf}(F:Wz K "_law_is_world" "_law_is_world" Ou f fd)(B:Blt mg)
  (GH:Qz P w K mg base Yb 1 U dH ["_law_found"] (Qb6 K))(kH:KI K U)(bH:Binds K dH ["_law_found"] [])(mH:MG mg "_law_whole" U):
  Qz P w K mg base Yb 2 f fd ["_law_rows"] Qe0:=by
 refine F.ok Qe5 (λvs H Q E h=>?_) (λcdv A outer s H vs Q E N h=>?_)
 ·obtain⟨R,es,m,rfl,_⟩:=h;rfl
 obtain⟨R,es,m,rfl,t,q⟩:=h;have nd:=Qe5.nd;have hu:=N.units;have ae:es.length=m.length:=Paired.length t.pr;have af:=t.len;refine⟨_,(Qc (Zb (Ym (Yc (Qp Yw rfl B.isinstance Gz (Qa (pv 0) (Qa (Xm (v:=.ty "list") rfl B.list Ti Xb) Qe)))))
  (Qh (Qt Ye)) Qv)
  (Qc (Qy 1 nd (Zr Qe))
  (Qc (Z5 Gs rfl (Z9 (pv 0)) (Zw 2 nd)
  (Qc (Zb (PW.pt (Xd (Ym (Yc (Qp Yw rfl B.isinstance Gz (Qa (pv 2) (Qa (Xm (v:=.ty "tuple") rfl B.tuple Tx Xb) Qe))))) (Xd (Qo Vq (Qp Zm rfl B.len PySem.boot_len (Qa (pv 2) Qe)) Qi (Qs _)) (Xt (Ym (Yc (Qp Yw rfl B.isinstance Gz (Qa (Ql Qm (pv 2) Qi) (Qa (Xm (v:=.ty "str") rfl B.str DQ Xb) Qe)))))))))
  (Qh (Qt Ye)) Qv)
  (Qc (Zb (PW.pt (Xd (Ym (Yc (Qp Yw rfl B.isinstance Gz (Qa (Ql Qm (pv 2) Qi) (Qa (Xm (v:=.ty "list") rfl B.list Ti Xb) Qe))))) (Xd (Ym (Yc (Zo GH N rfl mH kH bH .nil Q7 (Qa (Ql Qm (pv 2) Qi) Qe)))) (Xt (Qo Ug (Ql Qm (pv 2) Qi) Qi (Qs _))))))
  (Qh (Qt Ye)) Qv)
  (Qc (Z5 Gs rfl (Z9 (Ql Qm (pv 2) Qi)) (Zw 3 nd)
  (Qh (Zb (PW.pt (Xd (Ym (Yc (Zo GH N rfl mH kH bH .nil Q7 (Qa (pv 3) Qe)))) (Xt (Qo Ug (pv 3) Qi (Qs _)))))
  (Qh (Qt Ye)) Qv)))
  (Qc (Zb (Qo (Qxx hu) (Zf (Qa (Ql Qm (pv 2) Qi) (Qa (Ql Qm (pv 2) Qi) Qe))) (pv 1) rfl)
  (Qh (Qt Ye)) Qv)
  (Qh (Zk (X0 PySem.F.plainAttrs_list PySem.F.slot_list_append PySem.F.type_list_append Z3 (pv 1) (Qa (Zf (Qa (Ql Qm (pv 2) Qi) (Qa (Ql Qm (pv 2) Qi) Qe))) Qe)))))))))
  (Qh (Qt Ye))))),?_⟩
 refine⟨_,Xb,_,_,_,Ge,Xb,.lst t.at_,Qdk,Ge,Xb,Q6 ?_⟩;refine⟨Gx _,λl T=>?_⟩;have s1:=Qf T (.lst []);refine⟨_,Xb,R,Xb,⟨_,Zc.of (s1 _ _ t.at_)⟩,Ys (K:=K) (a:=R) (xs:=es) (λi σ H1=>∃(y:List V)(x2 G:Option V),σ=[Ga (.ref R),Ga (.ref l),x2,G]/\Q5 H H1/\H1 l=Ga (.lst y)/\Paired (Quc H1 l) y (m.take i))
  ⟨[],_,_,Xb,s1,Qb,by simp;exact .nil⟩ (λi σ H1 _⟨_,_,_,_,D,_⟩=>Zc.of (D _ _ t.at_)) ?_ ?_⟩
 ·rintro i x σ H1 hi ⟨y,x2,G,rfl,D,W,ps⟩;obtain⟨r,O,c,g,rfl,hc,M,_⟩:=Qw t.pr hi;have b:=D _ _ hc;have k:=D _ _ M;have nl:g≠l:=Qd M T;have nc:c≠l:=Qd hc T;have ab:y.length=(m.take i).length:=Paired.length ps;rw[List.length_take]at ab;have few:=t.few r (List.mem_of_getElem? O);refine⟨_,Xb,_,_,_,Ge,Xb,.tup b,Rx,Ge,Xb,Q6 ?_⟩;refine⟨_,Xb,_,_,Xb,.inr ⟨_,Q9.of b,Xb⟩,Xb,_,Xb,?_⟩;rw[Gr (by rfl)];refine Q6 ?_;refine⟨_,Xb,c,_,_,_,Xb,Xb,Q9.of b,Qj (j:=0) rfl,_,_,_,Ge,Xb,.str _,O8,Ge,Xb,Q6 ?_⟩;refine⟨_,Xb,c,_,_,_,Xb,Xb,Q9.of b,Qj (j:=1) rfl,_,_,_,Ge,Xb,.lst k,Qdk,Ge,Xb,Q6 ?_⟩;refine⟨_,Xb,c,_,_,_,Xb,Xb,Q9.of b,Qj (j:=2) rfl,_,_,Ge,Gp,Xb,.int _,O4,Qaf,Ge,Xb,Q6 ?_⟩;refine⟨_,Xb,c,_,_,_,Xb,Xb,Q9.of b,Qj (j:=2) rfl,_,_,Xb,Xb,_,Xb,?_⟩;rw[Gq (show¬((r.2.2:Int)<0) by omega)];refine Q6 ?_;refine⟨_,Xb,c,_,_,_,Xb,Xb,Q9.of b,Qj (j:=1) rfl,g,Xb,⟨_,Zc.of k⟩,Ys (K:=K) (a:=g) (xs:=r.2.1.map jv) (λj σ H2=>∃G:Option V,σ=[Ga (.ref R),Ga (.ref l),Ga (.ref c),G]/\H2=H1)
   ⟨_,Xb,Xb⟩ (λj σ H2 _⟨_,_,e⟩=>Zc.of (by rw[e];exact k)) ?_ ?_⟩
  ·rintro j u σ H2 L ⟨G,rfl,rfl⟩;obtain⟨n,rfl⟩:∃n,jv n=u:=by
    rw[List.getElem?_map]at L;cases e:r.2.1[j]? with
    |none=>rw[e]at L;cases L
    |some n=>rw[e]at L;exact⟨n,Tc L⟩
   refine⟨_,Xb,_,_,Ge,Gp,Xb,.int _,O4,Qaf,Ge,Xb,Q6 ?_⟩;refine⟨_,Xb,_,_,Xb,Xb,_,Xb,?_⟩;rw[Gq (show¬((n:Int)<0) by omega)];exact Q6 ⟨_,Xb,Xb⟩
  ·rintro σ H2 ⟨G,rfl,rfl⟩;refine⟨_,Xb,c,_,_,_,Xb,Xb,Q9.of b,Qj (j:=0) rfl,_,Xb,c,_,_,_,Xb,Xb,Q9.of b,Qj (j:=1) rfl,by show 2<=Gh;decide,λJ Y=>?_⟩;have s4:=Qf Y (.tup [.str r.1,.ref g]);have ad:Paired (Quc (upd H2 J (.tup [.str r.1,.ref g])) l) y (m.take i):=L2.Paired.Z7 ps λ_ _⟨c,g,h1,h2,X,S⟩=>⟨c,g,h1,s4 _ _ h2,s4 _ _ X,S⟩;have ac:=t.ok r (List.mem_of_getElem? O);refine⟨_,Xb,sgD r,(m.take i).map sgD,Qvm (l:=l) ⟨J,g,Xb,Qb,s4 _ _ k,nl⟩,.lst (s4 _ _ W) (Qwo ad),Qru ac,Qtx λr N=>t.ok r (List.mem_of_mem_take N),?_,_,Xb,?_⟩
   ·have:=Qpm r;omega
   have ni:(((m.take i).map sgD).any λd=>GX d (sgD r))=Gp:=by
    rw[List.any_eq_false];intro d hd z;obtain⟨r',aa,rfl⟩:=List.mem_map.mp hd;have e:=Qxm z;have n1:=t.nd;have e1:m=m.take i++r::m.drop (i+1):=by
     conv=>lhs;rw[<-List.take_append_drop i m]
     congr 1;exact List.drop_eq_getElem?_toList_append.trans (by rw[O];rfl)
    rw[e1,List.map_append,List.map_cons,List.nodup_append]at n1;exact n1.2.2 _ (List.mem_map.mpr ⟨r',aa,Xb⟩) _ List.mem_cons_self e
   rw[ni];refine Q6 ?_;have C:=s4 _ _ W;refine⟨_,Xb,.inl ⟨Xb,_,Zc.of C⟩,_,Xb,c,_,_,_,Xb,Xb,Q9.of (s4 _ _ b),Qj (j:=0) rfl,_,Xb,c,_,_,_,Xb,Xb,Q9.of (s4 _ _ b),Qj (j:=1) rfl,by show 2<=Gh;decide,λI Z=>?_⟩;have s5:=Qf Z (.tup [.str r.1,.ref g]);refine⟨l,y,_,Xb,Xb,s5 _ _ C,by rw[Gy];omega,?_⟩;have p:=s4.trans s5;have tp:∀{e:Gc}{o:HO},(upd (upd H2 J (.tup [.str r.1,.ref g])) I (.tup [.str r.1,.ref g])) e=Ga o->e≠l->(upd (upd (upd H2 J (.tup [.str r.1,.ref g])) I (.tup [.str r.1,.ref g])) l (.lst (y++[.ref I]))) e=Ga o:=λh n=>by rw[Qg n];exact h
   have tt:∀{e:Gc}{ys:List V},(upd (upd H2 J (.tup [.str r.1,.ref g])) I (.tup [.str r.1,.ref g])) e=Ga (.tup ys)->e≠l:=λh z=>by rw[z,s5 _ _ C]at h;cases h
   refine⟨y++[.ref I],_,_,Xb,λe o h=>tp (p _ _ (D _ _ h)) (Qd h T),Qb,?_⟩;rw[List.take_add_one,O];refine Yj (L2.Paired.Z7 ps λ_ _⟨c,g,h1,h2,X,S⟩=>⟨c,g,h1,tp (p _ _ h2) (tt (p _ _ h2)),tp (p _ _ X) S,S⟩) (.cons ⟨I,g,Xb,tp Qb (tt Qb),tp (p _ _ k) nl,nl⟩ .nil)
 ·rintro σ H1 ⟨y,x2,G,rfl,D,W,ps⟩;exact q _ D
def Qo0:Sp:=λvs H Q _=>∃(R a:Gc)(es us:List V)(b:List Row)(S:List Th)(L:Th->Nat)(tl:Tl),vs=[.ref R,.ref a]/\Rws H R es b/\Wld S L b/\H a=Ga (.lst us)/\Ra H us tl/\(∀p∈tl,p.2.1∈S/\p.2.2∈S/\(L p.2.1=L p.2.2↔p.1=Ge))/\∀H':Hp,Q5 H H'->Q (.bl Ge) H'
theorem Qqe:Q3 ["_law_rows","_law_told","_law_word","_law_one","_law_other","_law_here","_law_there"] ["_law_rows","_law_told"] (Qn Ql8):=by eq_refl
theorem Qvf{m l:Gc}{v u:Tf}(F:Wz K "_law_world_fits" "_law_world_fits" Ql8 f fd)
  (O:Qz P w K mg base Yb 2 m v ["_law_rows"] Qe0)(X:KI K m)(T:Binds K v ["_law_rows"] [])(Y:MG mg "_law_is_world" m)
  (r:Qz P w K mg base Yb 1 l u ["_law_rows","_law_thing"] Qk9)(C:KI K l)(t:Binds K u ["_law_rows","_law_thing"] [])(D:MG mg "_law_number_in" l):
  Qz P w K mg base Yb 3 f fd ["_law_rows","_law_told"] Qo0:=by
 refine F.ok Qqe (λvs H Q E h=>?_) (λcdv A outer s H vs Q E B h=>?_)
 ·obtain⟨R,a,es,us,k,S,L,tl,rfl,_⟩:=h;rfl
 obtain⟨R,a,es,us,k,S,L,tl,rfl,o,W,z,p,n,q⟩:=h;have nd:=Qqe.nd;have j:Yf 1 _:=B.mono (by omega);refine⟨_,(Qc (Zb (Ym (Yc (Zo O B rfl Y X T .nil Q7 (Qa (pv 0) Qe))))
  (Qh (Qt Ye)) Qv)
  (Qc (Z5 Gs rfl (Z9 (pv 1)) (Vh rfl (Zl (Zw 2 nd) (Zl (Zw 3 nd) (Zl (Zw 4 nd) Wc))))
  (Qc (Qy 5 nd (Zo r j rfl D C t .nil Q7 (Qa (pv 0) (Qa (pv 3) Qe))))
  (Qc (Qy 6 nd (Zo r j rfl D C t .nil Q7 (Qa (pv 0) (Qa (pv 4) Qe))))
  (Qh (Zb (PW.pt (Xd (Qo Ug (pv 5) Qi (Qs _)) (Xd (Qo Ug (pv 6) Qi (Qs _)) (Xt (Qo Vq (Wm Xi (pv 5) (pv 6) (Qs _)) (Wm Xi (pv 2) Zj (Qs _)) (Qs _))))))
  (Qh (Qt Ye)) Qv)))))
  (Qh (Qt Ye)))),?_⟩
 refine⟨_,Xb,R,es,k,Xb,o,λH1 s1=>⟨Ge,Xb,Q6 ?_⟩⟩;refine⟨_,Xb,a,Xb,⟨_,Zc.of (s1 _ _ z)⟩,Ys (K:=K) (a:=a) (xs:=us) (λi σ H2=>∃G I J M N:Option V,σ=[Ga (.ref R),Ga (.ref a),G,I,J,M,N]/\Q5 H H2)
  ⟨_,_,_,_,_,Xb,s1⟩ (λi σ H2 _⟨_,_,_,_,_,_,d⟩=>Zc.of (d _ _ z)) ?_ (λσ H2⟨_,_,_,_,_,h,d⟩=>by subst h;exact q _ d)⟩
 rintro i x σ H2 hi ⟨G,I,J,M,N,rfl,d⟩;obtain⟨⟨b,x,y⟩,ep,c,v1,v2,rfl,U,t1,t2⟩:=Qw p hi;obtain⟨xS,yS,iff⟩:=n _ (List.mem_of_getElem? ep);refine⟨c,_,Xb,Q9.of (d _ _ U),Xb,_,_,Xb,_,_,Xb,_,_,Xb,Xb,?_⟩;refine⟨_,Xb,_,Xb,R,v1,es,k,S,L,x,Xb,o.same d,W,xS,t1.same d,λH3 Z=>?_⟩;have g:=d.trans Z;refine⟨_,Xb,_,Xb,R,v2,es,k,S,L,y,Xb,o.same g,W,yS,t2.same g,λH4 s4=>?_⟩;refine⟨_,Xb,_,_,Xb,Xb,_,Xb,?_⟩;rw[Gq (show¬((L x:Int)<0) by omega)];refine Q6 ?_;refine⟨_,Xb,_,_,Xb,Xb,_,Xb,?_⟩;rw[Gq (show¬((L y:Int)<0) by omega)];refine Q6 ?_;refine⟨_,Xb,_,Xb,Xb,_,Xb,Xb,Xb,_,Xb,?_⟩;have eq:decide (V.bl (decide (jv (L x)=jv (L y)))=V.bl (decide (V.str (tw b)=V.str "same")))=Ge:=by
  have h1:decide (V.str (tw b)=V.str "same")=b:=by rw[Q8,Qlb]
  have h2:decide (jv (L x)=jv (L y))=b:=by
   unfold jv;rw[V9];by_cases e:L x=L y
   ·have hb:b=Ge:=iff.mp e;rw[e,hb];simp
   ·have:b=Gp:=by
     cases b
     ·rfl
     ·exact absurd (iff.mpr Xb) e
    rw[this];simp;omega
  rw[h1,h2];exact Gr rfl
 rw[eq];exact Q6 ⟨_,_,_,_,_,Xb,g.trans s4⟩
end
theorem Qpv{ls:List Lt}(h:Wd H NoX v ls):∃L lv,v=.ref L/\Lns H L lv ls:=by obtain⟨L,lv,h1,h2,_,a,g⟩:=h;refine⟨L,lv,h1,h2,a,λl k=>?_,g⟩;obtain⟨j,b⟩:=List.mem_iff_getElem?.mp k;have m:lv.length=ls.length:=Paired.length a;have i:=(List.getElem?_eq_some_iff.mp b).1;obtain⟨n,e,c,o,p,rv,_,_,_,_,_,d,f⟩:=Qw a (List.getElem?_eq_getElem (show j<lv.length by omega));rw[b]at e;cases e;exact⟨d,f⟩
theorem Qrz{tl:Tl}{S:List Th}(h:Ul H NoX v rs)(W:Wth tl S rs):∃(R:Gc)(es:List V)(L:Th->Nat),v=.ref R/\Rws H R es rs/\Wld S L rs/\∀s∈S,∀t∈S,L s=L t↔Cg tl s t:=by
 obtain⟨R,es,h1,h2,_,d⟩:=h;obtain⟨L,e,f,c⟩:=W.ex;refine⟨R,es,L,h1,⟨h2,d,by have:=W.len;omega,λr a=>?_,λr a=>?_,W.nd⟩,⟨W.cl,W.good,f⟩,e⟩
 ·obtain⟨⟨wd,ps⟩,b,rfl⟩:=c r a;have:=(W.good _ b).1;simp only[Th.ok,Td]at this;exact this.1
 ·obtain⟨⟨wd,ps⟩,b,rfl⟩:=c r a;have h1:=(W.good _ b).2.2;have h2:=Zd ps;simp only[Th.size]at h1;show(ps.map L).length<=1000;rw[List.length_map];omega
def Qls:Sp:=λvs H Q _=>∃(a:Gc)(us:List V)(b c f:V)(tl:Tl)(s t:Th),vs=[.ref a,b,c,f]/\H a=Ga (.lst us)/\Ra H us tl/\Tlg tl/\tl.length<=900/\¬We tl/\Zu H b s/\Zu H c t/\s.good/\t.good/\Jo H NoX tl (.ask s t) f/\∀H':Hp,Q5 H H'->Q (.bl Ge) H'
theorem Q1p:(("equal":GJ)=="equal")=Ge:=by decide+kernel
theorem Q1f:(("unlike":GJ)=="equal")=Gp:=by decide+kernel
theorem Q0p:(("unlike":GJ)=="unlike")=Ge:=by decide+kernel
theorem Q1q:(("open":GJ)=="equal")=Gp:=by decide+kernel
theorem Q1m:(("open":GJ)=="unlike")=Gp:=by decide+kernel
theorem Q08:(("open":GJ)=="open")=Ge:=by decide+kernel
section
variable{P:Gj}{w:Gu}{K:PySem.W.Frag}{mg:GJ->Option Value}{base:Heap}
theorem Qll:Q3 ["_law_told","_law_one","_law_other","_law_found","_law_pair","_law_more"] ["_law_told","_law_one","_law_other","_law_found"] (Qn Qgl):=by eq_refl
theorem Qsj{f0 fS fH fF:Gc}{dS dH dF:Tf}(F:Wz K "_law_is_right" "_law_is_right" Qgl f0 fd)(B:Blt mg)
  (GS:Qz P w K mg base Yb 3 fS dS ["_law_told","_law_lines","_law_one","_law_other","_law_pair"] Qqi)(kS:KI K fS)(bS:Binds K dS ["_law_told","_law_lines","_law_one","_law_other","_law_pair"] [])(mS:MG mg "_law_lines_show" fS)
  (GH:Qz P w K mg base Yb 1 fH dH ["_law_found"] (Qb6 K))(kH:KI K fH)(bH:Binds K dH ["_law_found"] [])(mH:MG mg "_law_whole" fH)
  (GF:Qz P w K mg base Yb 3 fF dF ["_law_rows","_law_told"] Qo0)(kF:KI K fF)(bF:Binds K dF ["_law_rows","_law_told"] [])(mF:MG mg "_law_world_fits" fF):
  Qz P w K mg base Yb 4 f0 fd ["_law_told","_law_one","_law_other","_law_found"] Qls:=by
 refine F.ok Qll (λvs H Q E h=>?_) (λcdv A outer s0 H vs Q E X h=>?_)
 ·obtain⟨a,us,G,I,f,tl,s,t,rfl,_⟩:=h;rfl
 obtain⟨a,us,G,I,f,tl,s,t,rfl,M,o,tg,av,nb,h1,h2,gs,gt,ok,q⟩:=h;have nd:=Qll.nd;have ao:Yf 1 _:=X.mono (by omega);refine⟨_,(Qc (Zb (PW.pt (Xd (Ym (Yc (Qp Yw rfl B.isinstance Gz (Qa (pv 3) (Qa (Xm (v:=.ty "tuple") rfl B.tuple Tx Xb) Qe))))) (Xd (Qo Ug (Qp Zm rfl B.len PySem.boot_len (Qa (pv 3) Qe)) Qi (Qs _)) (Xt (Ym (Yc (Qp Yw rfl B.isinstance Gz (Qa (Ql Qm (pv 3) Qi) (Qa (Xm (v:=.ty "str") rfl B.str DQ Xb) Qe)))))))))
  (Qh (Qt Ye)) Qv)
  (Qc (Zb (Qo Xi (Ql Qm (pv 3) Qi) Zj (Qs _))
  (Qh (Qt (Qkv (Wm Xi (Qp Zm rfl B.len PySem.boot_len (Qa (pv 3) Qe)) Qi (Qs _)) (Qkk (Zo GS X rfl mS kS bS .nil Q7 (Qa (pv 0) (Qa (Ql Qm (pv 3) Qi) (Qa (pv 1) (Qa (pv 2) (Qa Uo Qe)))))))))) Qv)
  (Qc (Zb (Qo Xi (Ql Qm (pv 3) Qi) Zj (Qs _))
  (Qc (Zb (PW.pt (Xd (Qo Vq (Qp Zm rfl B.len PySem.boot_len (Qa (pv 3) Qe)) Qi (Qs _)) (Xt (Ym (Yc (Zo GH ao rfl mH kH bH .nil Q7 (Qa (Ql Qm (pv 3) Qi) Qe)))))))
  (Qh (Qt Ye)) Qv)
  (Qc (Zb (PW.pt (Xd (Qo Ug (Ql Qm (pv 3) Qi) Qi (Qs _)) (Xd (Qo Qh8 (Ql Qm (pv 3) Qi) (Qp Zm rfl B.len PySem.boot_len (Qa (pv 0) Qe)) (Qs _)) (Xt (Qo Vq (Ql Qm (Ql Ze (pv 0) (Ql Qm (pv 3) Qi)) Qi) Zj (Qs _))))))
  (Qh (Qt Ye)) Qv)
  (Qc (Qy 4 nd (Yl V3 (Ql Ze (pv 0) (Ql Qm (pv 3) Qi)) (Yn Qi) Xl))
  (Qh (Qt (Zo GS X rfl mS kS bS .nil Q7 (Qa (pv 0) (Qa (Ql Qm (pv 3) Qi) (Qa (Ql Qm (pv 4) Qi) (Qa (Ql Qm (pv 4) Qi) (Qa (Zf (Qa (pv 1) (Qa (pv 2) Qe))) Qe))))))))))) Qv)
  (Qc (Zb (PW.pt (Xd (Qo Vq (Ql Qm (pv 3) Qi) Zj (Qs _)) (Xt (Qo Vq (Qp Zm rfl B.len PySem.boot_len (Qa (pv 3) Qe)) Qi (Qs _)))))
  (Qh (Qt Ye)) Qv)
  (Qc (Qy 5 nd (Zr (Qa (Zf (Qa Zj (Qa (pv 1) (Qa (pv 2) Qe)))) Qe)))
  (Qc (Zb (Ym (Yc (Zo GF X rfl mF kF bF .nil Q7 (Qa (Ql Qm (pv 3) Qi) (Qa (Zs Vi (pv 0) (pv 5)) Qe)))))
  (Qh (Qt Ye)) Qv)
  (Qh (Qt (Zo GF X rfl mF kF bF .nil Q7 (Qa (Ql Qm (pv 3) Qi) (Qa (Zs Vi (pv 0) (Zr (Qa (Zf (Qa Zj (Qa (pv 1) (Qa (pv 2) Qe)))) Qe))) Qe))))))))))),?_⟩
 have aw:us.length=tl.length:=Paired.length o;rcases ok with⟨cg,l,lv,ls,rfl,i,hl,hg,r,m⟩|⟨aa,l,n,x,y,lv,ls,rfl,i,am,hl,hg,r,m⟩|⟨aa,an,l,r1,r2,ap,aq,S,rfl,i,Y,Z,W1,W2,sS,tS,hS⟩
 ·obtain⟨L,R,rfl,hL⟩:=Qpv hl;refine⟨_,Xb,_,_,_,Ge,Xb,.tup i,Rx,Ge,Xb,Q6 ?_⟩;refine⟨_,Xb,_,_,Xb,.inr ⟨_,Q9.of i,Xb⟩,_,_,Xb,Xb,_,Xb,?_⟩;rw[Gq (by show¬((2:Int)<2);decide)];refine Q6 ?_;refine⟨_,Xb,l,_,_,_,Xb,Xb,Q9.of i,Qj (j:=0) rfl,_,_,_,Ge,Xb,.str _,O8,Ge,Xb,Q6 ?_⟩;refine⟨_,Xb,l,_,_,_,Xb,Xb,Q9.of i,Qj (j:=0) rfl,Xb,_,Xb,?_⟩;rw[Q8,Q1p];refine Yy ?_;refine⟨_,Xb,_,_,Xb,.inr ⟨_,Q9.of i,Xb⟩,Xb,_,Xb,?_⟩;rw[Gr (by rfl)];refine Yy ?_;exact⟨_,Xb,_,Xb,l,_,_,_,Xb,Xb,Q9.of i,Qj (j:=1) rfl,_,Xb,_,Xb,a,L,us,R,G,I,.non,tl,Gf,ls,s,t,r,Xb,M,o,tg,by omega,hL,hg,Xb,h1,h2,m,λH' g=>q H' g⟩
 ·obtain⟨L,R,rfl,hL⟩:=Qpv hl;obtain⟨en,_,_⟩:=am;have hn:=(List.getElem?_eq_some_iff.mp en).1;obtain⟨w',ew⟩:∃w',us[n]?=Ga w':=⟨_,List.getElem?_eq_getElem (by omega)⟩;obtain⟨p,ep,d,u1,u2,rfl,hd,t3,t4⟩:=Qw o ew;rw[en]at ep;cases ep;refine⟨_,Xb,_,_,_,Ge,Xb,.tup i,Rx,Ge,Xb,Q6 ?_⟩;refine⟨_,Xb,_,_,Xb,.inr ⟨_,Q9.of i,Xb⟩,_,_,Xb,Xb,_,Xb,?_⟩;rw[Gq (by show¬((3:Int)<2);decide)];refine Q6 ?_;refine⟨_,Xb,l,_,_,_,Xb,Xb,Q9.of i,Qj (j:=0) rfl,_,_,_,Ge,Xb,.str _,O8,Ge,Xb,Q6 ?_⟩;refine⟨_,Xb,l,_,_,_,Xb,Xb,Q9.of i,Qj (j:=0) rfl,Xb,_,Xb,?_⟩;rw[Q8,Q1f];refine Q6 ?_;refine⟨_,Xb,l,_,_,_,Xb,Xb,Q9.of i,Qj (j:=0) rfl,Xb,_,Xb,?_⟩;rw[Q8,Q0p];refine Yy ?_;refine⟨_,Xb,_,_,Xb,.inr ⟨_,Q9.of i,Xb⟩,Xb,_,Xb,?_⟩;rw[Gr (by rfl)];refine Q6 ?_;refine⟨_,Xb,l,_,_,_,Xb,Xb,Q9.of i,Qj (j:=1) rfl,_,_,Ge,Gp,Xb,.int _,O4,Qaf,Ge,Xb,Q6 ?_⟩;refine⟨_,Xb,l,_,_,_,Xb,Xb,Q9.of i,Qj (j:=1) rfl,_,_,Xb,Xb,_,Xb,?_⟩;rw[Gq (show¬((n:Int)<0) by omega)];refine Q6 ?_;refine⟨_,Xb,l,_,_,_,Xb,Xb,Q9.of i,Qj (j:=1) rfl,_,Xb,_,_,Xb,.inl ⟨_,Zc.of M,Xb⟩,_,_,Xb,Xb,_,Xb,?_⟩;rw[Gq (show¬((n:Int)>=((us.length:Nat):Int)) by omega)];refine Q6 ?_;refine⟨_,Xb,_,Xb,l,_,_,_,Xb,Xb,Q9.of i,Qj (j:=1) rfl,a,us,_,_,Xb,Xb,Zc.of M,Qj ew,d,_,_,_,Xb,Xb,Q9.of hd,Qj (j:=0) rfl,Xb,_,Xb,?_⟩;rw[Gr (by rfl)];refine Q6 ?_;refine⟨_,Xb,_,Xb,l,_,_,_,Xb,Xb,Q9.of i,Qj (j:=1) rfl,a,us,_,_,Xb,Xb,Zc.of M,Qj ew,_,Xb,d,_,Xb,Q9.of hd,Wb _ _,λJ N=>?_⟩;rw[Qc5];have s4:=Qf N (.tup [u1,u2]);refine⟨_,Xb,_,Xb,l,_,_,_,Xb,Xb,Q9.of (s4 _ _ i),Qj (j:=2) rfl,_,Xb,J,_,_,_,Xb,Xb,Q9.of Qb,Qj (j:=0) rfl,_,Xb,J,_,_,_,Xb,Xb,Q9.of Qb,Qj (j:=1) rfl,_,Xb,_,Xb,by show 2<=Gh;decide,λc5 O=>?_⟩;have s5:=Qf O (.tup [G,I]);have k:=s4.trans s5;exact⟨a,L,us,R,u1,u2,.ref c5,tl,Ga (s,t),ls,x,y,r,Xb,k _ _ M,o.Qr (Q4.of k),tg,by omega,hL.same k,hg,⟨c5,G,I,Xb,Qb,h1.same k,h2.same k,gs,gt⟩,t3.same k,t4.same k,m,λH' g=>q H' (k.trans g)⟩
 ·obtain⟨R1,af,L1,rfl,ah,ar,C⟩:=Qrz Y W1;obtain⟨R2,ag,ad,rfl,ai,au,D⟩:=Qrz Z W2;refine⟨_,Xb,_,_,_,Ge,Xb,.tup i,Rx,Ge,Xb,Q6 ?_⟩;refine⟨_,Xb,_,_,Xb,.inr ⟨_,Q9.of i,Xb⟩,_,_,Xb,Xb,_,Xb,?_⟩;rw[Gq (by show¬((3:Int)<2);decide)];refine Q6 ?_;refine⟨_,Xb,l,_,_,_,Xb,Xb,Q9.of i,Qj (j:=0) rfl,_,_,_,Ge,Xb,.str _,O8,Ge,Xb,Q6 ?_⟩;refine⟨_,Xb,l,_,_,_,Xb,Xb,Q9.of i,Qj (j:=0) rfl,Xb,_,Xb,?_⟩;rw[Q8,Q1q];refine Q6 ?_;refine⟨_,Xb,l,_,_,_,Xb,Xb,Q9.of i,Qj (j:=0) rfl,Xb,_,Xb,?_⟩;rw[Q8,Q1m];refine Q6 ?_;refine⟨_,Xb,l,_,_,_,Xb,Xb,Q9.of i,Qj (j:=0) rfl,Xb,_,Xb,?_⟩;rw[Q8,Q08];refine Q6 ?_;refine⟨_,Xb,_,_,Xb,.inr ⟨_,Q9.of i,Xb⟩,Xb,_,Xb,?_⟩;rw[Gr (by rfl)];refine Q6 ?_;refine⟨_,Xb,_,Xb,by show 3<=Gh;decide,λJ N=>?_⟩;have s4:=Qf N (.tup [.str "unlike",G,I]);refine⟨by show 1<=Gh;decide,λc5 O=>?_⟩;have s5:=Qf O (.lst [.ref J]);have k:=s4.trans s5;refine⟨_,Xb,l,_,_,_,Xb,Xb,Q9.of (k _ _ i),Qj (j:=1) rfl,_,Xb,_,Xb,a,c5,us,_,Xb,Xb,k _ _ M,Qb,small (by show _+1<=_;omega),λc6 aj=>?_⟩;have s6:=Qf aj (.lst (us++[.ref J]));have u:=k.trans s6;have U:∀p∈tl,p.2.1∈S/\p.2.2∈S:=λp W=>hS p.1 p.2.1 p.2.2 W;refine⟨R1,c6,af,us++[.ref J],ap,S,L1,tl++[(Gp,s,t)],Xb,ah.same u,ar,Qb,Yj (o.Qr (Q4.of u)) (.cons ⟨J,G,I,Xb,(s5.trans s6) _ _ Qb,h1.same u,h2.same u⟩ .nil),?_,λH2 g2=>⟨Ge,Xb,Q6 ?_⟩⟩
  ·intro p W;rcases List.mem_append.mp W with z|z
   ·obtain⟨z1,z2⟩:=U p z;refine⟨z1,z2,?_⟩;rw[C _ z1 _ z2];obtain⟨b,x,y⟩:=p;cases b with
    |true=>exact⟨λ_=>rfl,λ_=>.told z⟩
    |false=>exact⟨λc=>absurd ⟨x,y,z,c⟩ nb,λe=>by cases e⟩
   ·rw[List.mem_singleton]at z;subst z;refine⟨sS,tS,?_⟩;rw[C _ sS _ tS];exact⟨λc=>absurd c aa,λe=>by cases e⟩
  have T:=u.trans g2;refine⟨_,Xb,l,_,_,_,Xb,Xb,Q9.of (T _ _ i),Qj (j:=2) rfl,_,Xb,_,Xb,_,Xb,by show 3<=Gh;decide,λc8 ak=>?_⟩;have s8:=Qf ak (.tup [.str "same",G,I]);refine⟨by show 1<=Gh;decide,λc9 al=>?_⟩;have s9:=Qf al (.lst [.ref c8]);have ac:=s8.trans s9;refine⟨a,c9,us,_,Xb,Xb,(T.trans ac) _ _ M,Qb,small (by show _+1<=_;omega),λae V=>?_⟩;have ab:=Qf V (.lst (us++[.ref c8]));have sA:=(T.trans ac).trans ab;refine⟨R2,ae,ag,us++[.ref c8],aq,S,ad,tl++[(Ge,s,t)],Xb,ai.same sA,au,Qb,Yj (o.Qr (Q4.of sA)) (.cons ⟨c8,G,I,Xb,(s9.trans ab) _ _ Qb,h1.same sA,h2.same sA⟩ .nil),?_,λH' g=>q H' (sA.trans g)⟩;intro p W;rcases List.mem_append.mp W with z|z
  ·obtain⟨z1,z2⟩:=U p z;refine⟨z1,z2,?_⟩;rw[D _ z1 _ z2];obtain⟨b,x,y⟩:=p;cases b with
   |true=>exact⟨λ_=>rfl,λ_=>.told (List.mem_append_left _ z)⟩
   |false=>exact⟨λc=>absurd c (an x y z),λe=>by cases e⟩
  ·rw[List.mem_singleton]at z;subst z;refine⟨sS,tS,?_⟩;rw[D _ sS _ tS];exact⟨λ_=>rfl,λ_=>.told (List.mem_append_right _ List.mem_cons_self)⟩
end
abbrev lN:List GJ:=["_law_script","_law_things","_law_deeds","_law_found","_law_told","_law_k","_law_deed"]
theorem Qv9:Q3 lN ["_law_script"] (Qn Qjt):=by eq_refl
theorem Qgc(ns:List Int)(j k:Nat):∃a:List Int,Uq (ns.map V.int) (Ga (j:Int)) (Ga (k:Int))=a.map V.int/\a.length<=k - j/\(ns.length<=j->a=[]):=by
 refine⟨(ns.drop (min j ns.length)).take (min k ns.length - min j ns.length),?_,?_,λh=>?_⟩
 ·unfold Uq;rw[HT.Ir,HT.Ir,List.length_map,List.map_take,List.map_drop]
 ·rw[List.length_take];omega
 ·rw[Nat.min_eq_right h,Nat.sub_eq_zero_of_le (S0 _ _)];simp
theorem Qta{ts:List Th}{m:Nat}(D:Drawn ts m)(e:m<=4):∀t∈ts,t.good:=λt b=>by obtain⟨j,a⟩:=List.mem_iff_getElem?.mp b;have d:j<ts.length:=(List.getElem?_eq_some_iff.mp a).1;have h1:=D.any j t a;have h2:=D.dep j t a;have c:=D.len;exact⟨D.ok t b,by omega,by omega⟩
section
variable{P:Gj}{w:Gu}{K:PySem.W.Frag}{mg:GJ->Option Value}{base:Heap}
theorem Qw0{M nW:Nat}{f0 fD fE fR fW fI fZ:Gc}{dD dE dR dW dI dZ:Tf}{pW:GJ}(F:Wz K "law" "law" Qjt f0 fd)(B:Blt mg)(hM:4<=M)(hW:nW<=M)
  (GD:Qz P w K mg base Yb 2 fD dD ["_law_cells"] (Qmr K))(kD:KI K fD)(bD:Binds K dD ["_law_cells"] [])(mD:MG mg "_law_drawn_things" fD)
  (GE:Qz P w K mg base Yb 2 fE dE ["_law_cells","_law_things"] (Qld K))(kE:KI K fE)(bE:Binds K dE ["_law_cells","_law_things"] [])(mE:MG mg "_law_drawn_deeds" fE)
  (GR:Qz P w K mg base Yb 1 fR dR ["_law_script","_law_most","_law_bound"] (Qpi K))(kR:KI K fR)(bR:Binds K dR ["_law_script","_law_most","_law_bound"] [])(mR:MG mg "_law_room" fR)
  (GW:Qz P w K mg base Yb nW fW dW [pW] Qqt)(kW:KI K fW)(bW:Binds K dW [pW] [])(mW:MG mg "answers" fW)
  (GI:Qz P w K mg base Yb 4 fI dI ["_law_told","_law_one","_law_other","_law_found"] Qls)(kI:KI K fI)(bI:Binds K dI ["_law_told","_law_one","_law_other","_law_found"] [])(mI:MG mg "_law_is_right" fI)
  (GZ:Qz P w K mg base Yb 2 fZ dZ ["_law_told","_law_deed"] Qik)(kZ:KI K fZ)(bZ:Binds K dZ ["_law_told","_law_deed"] [])(mZ:MG mg "_law_barred" fZ):
  Qz P w K mg base Yb (M+1) f0 fd ["_law_script"] (Ql9 K):=by
 refine F.ok Qv9 (λvs H Q E h=>?_) (λcdv A outer s H vs Q E hr h=>?_)
 ·obtain⟨a,ns,rfl,_⟩:=h;rfl
 obtain⟨a,ns,rfl,hS,af,q⟩:=h;have nd:=Qv9.nd;have aq:Yf 4 _:=hr.mono hM;have X:Yf 2 _:=hr.mono (by omega);have ap:Yf 1 _:=hr.mono (by omega);have ar:Yf nW _:=hr.mono hW;refine⟨_,(Qc (Qy 1 nd (Zo GD X rfl mD kD bD .nil Q7 (Qa (Zs Vi (Yl Ub (pv 0) (Yn Qi) (Yn Qi)) (Yl Ub (pv 0) (Yn Qi) (Yn Qi))) Qe)))
  (Qc (Qy 2 nd (Zo GE X rfl mE kE bE .nil Q7 (Qa (Yl Ub (pv 0) (Yn Qi) (Yn (Zs Qaz Qi (Zo GR ap rfl mR kR bR .nil Q7 (Qa (pv 0) (Qa Qi (Qa Qi Qe))))))) (Qa (pv 1) Qe))))
  (Qc (Qy 3 nd (Zo GW ar rfl mW kW bW .nil Q7 (Qa (Xh Wv rfl B.list Ti (Qa (pv 2) Qe)) Qe)))
  (Qc (Zb (PW.pt (Xd (Ym (Yc (Qp Yw rfl B.isinstance Gz (Qa (pv 3) (Qa (Xm (v:=.ty "list") rfl B.list Ti Xb) Qe))))) (Xt (Qo Vq (Qp Zm rfl B.len PySem.boot_len (Qa (pv 3) Qe)) (Qp Zm rfl B.len PySem.boot_len (Qa (pv 2) Qe)) (Qs _)))))
  (Qh (Qt Ye)) Qv)
  (Qc (Qy 4 nd (Zr Qe))
  (Qc (Z5 Gs rfl (Vp rfl B.range (Qa (Qp Zm rfl B.len PySem.boot_len (Qa (pv 2) Qe)) Qe)) (Zw 5 nd)
  (Qc (Qy 6 nd (Ql Ze (pv 2) (pv 5)))
  (Qh (Zb (Qo Xi (Ql Qm (pv 6) Qi) Zj (Qs _))
  (Qh (Zb (Ym (Yc (Zo GI aq rfl mI kI bI .nil Q7 (Qa (pv 4) (Qa (Ql Qm (pv 6) Qi) (Qa (Ql Qm (pv 6) Qi) (Qa (Ql Ze (pv 3) (pv 5)) Qe)))))))
  (Qh (Qt Ye)) Qv)) (Qh (Zb (Qo Xi (Ql Qm (pv 6) Qi) Zj (Qs _))
  (Qh (Zb (Qph Qq4 Qq4 Qi (Ql Qm (pv 6) Qi) (Qp Zm rfl B.len PySem.boot_len (Qa (pv 4) Qe)))
  (Qh (Qy 4 nd (Yl Ub (pv 4) Xl (Yn (Ql Qm (pv 6) Qi))))) Qv)) (Qh (Zb (Ym (Yc (Zo GZ X rfl mZ kZ bZ .nil Q7 (Qa (pv 4) (Qa (pv 6) Qe)))))
  (Qh (Zk (X0 PySem.F.plainAttrs_list PySem.F.slot_list_append PySem.F.type_list_append Z3 (pv 4) (Qa (pv 6) Qe)))) Qv))))))))
  (Qh (Qt Ye)))))))),?_⟩
 obtain⟨J,R,aA,_⟩:=Qgc ns 1 5;obtain⟨aE,S,_,aa⟩:=Qgc ns 64 70;obtain⟨Z,T,aB,_⟩:=Qgc ns 5 12;have aa:=aa (by omega);subst aa;have R:Uq (ns.map V.int) (Ga 1) (Ga 5)=J.map V.int:=R;have S:Uq (ns.map V.int) (Ga 64) (Ga 70)=[]:=S;have T:Uq (ns.map V.int) (Ga 5) (Ga (5+7))=Z.map V.int:=T;refine⟨_,Xb,_,Xb,_,Xb,a,_,Xb,hS,λp1 al=>?_⟩;rw[R];have s1:=Qf al (.lst (J.map V.int));refine⟨_,Xb,_,Xb,_,Xb,a,_,Xb,s1.seq hS,λp2 am=>?_⟩;rw[S];have s2:=Qf am (.lst []);refine⟨p1,p2,_,_,Xb,Xb,s2 _ _ Qb,Qb,small (by rw[List.length_map];show _+0<=_;omega),λp3 an=>?_⟩;rw[List.append_nil];have s3:=Qf an (.lst (J.map V.int));refine⟨p3,J,Xb,Zc.of Qb,by omega,λr us ts H1 g1 _ gl ga D=>?_⟩;have sA:=((s1.trans s2).trans s3).trans g1;have aD:=D.len;have gd:=Qta D (by omega);refine⟨_,Xb,_,Xb,_,Xb,a,ns,_,_,Xb,sA.seq hS,af,_,_,Xb,Xb,_,Xb,a,_,Xb,sA.seq hS,λp4 ao=>?_⟩;rw[T];have s4:=Qf ao (.lst (Z.map V.int));refine⟨_,Xb,p4,r,Z,us,ts,Xb,Zc.of Qb,by omega,s4 _ _ gl,ga.same s4,by omega,by omega,λq0 es dl H2 g2 _ gq m ld ac=>?_⟩;have hU:Qpc ts:=⟨Qfi D.cl,gd,by omega⟩;have good:∀d∈dl,d.good:=λd hd=>hU.Q04 (ac d hd);have au:es.length=dl.length:=Paired.length m;refine⟨_,Xb,q0,es,Xb,.inl (Zc.of gq),λhh ak=>?_⟩;have s5:=Qf ak (.lst es);refine⟨hh,es,dl,ts,Xb,Qb,m.same s5,hU,ac,by omega,λad rs H4 g4 _ gf av ok=>?_⟩;have ah:=s5.trans g4;have U:=ah _ _ gq;have ai:=m.same ah;refine⟨_,Xb,_,_,_,Ge,Xb,.lst gf,Qdk,Ge,Xb,Q6 ?_⟩;refine⟨_,Xb,_,_,Xb,.inl ⟨_,Zc.of gf,Xb⟩,_,Xb,_,_,Xb,.inl ⟨_,Zc.of U,Xb⟩,Xb,_,Xb,?_⟩;rw[Gr (show V.int ((rs.length:Nat):Int)=V.int ((es.length:Nat):Int) by rw[av,au])];refine Q6 ?_;refine⟨Gx _,λl0 ae=>?_⟩;have s7:=Qf ae (.lst []);refine⟨_,Xb,_,_,Xb,.inl ⟨_,Zc.of (s7 _ _ U),Xb⟩,_,Xb,by omega,by omega,Vo (lo:=0) (n:=((es.length:Int)).toNat) (λk σ N=>∃(l:Gc)(tv:List V)(x5 x6:Option V),σ=[Ga (.ref a),Ga (.ref r),Ga (.ref q0),Ga (.ref ad),Ga (.ref l),x5,x6]/\Q5 H4 N/\H4 l=Gf/\N l=Ga (.lst tv)/\Ra N tv (after [] (dl.take k)))
  ⟨l0,[],_,_,Xb,s7,ae,Qb,by simp[after];exact .nil⟩ ?_ (λσ N _=>q _)⟩
 rintro k σ N hk ⟨l,tv,x5,x6,rfl,G,hl,f,I⟩;have hk:k<dl.length:=by omega
 obtain⟨x,ex⟩:∃x,es[k]?=Ga x:=⟨_,List.getElem?_eq_getElem (by omega)⟩;obtain⟨vf,ab⟩:∃vf,rs[k]?=Ga vf:=⟨_,List.getElem?_eq_getElem (by omega)⟩;obtain⟨d,ed,aj⟩:=Qw ai ex;have W:=aj.Qr (Q4.of G);have m:=good d (List.mem_of_getElem? ed);have u:Tlg (after [] (dl.take k)):=Qci (λp hp=>nomatch hp) λd hd=>good d (List.mem_of_mem_take hd);have nb:¬We (after [] (dl.take k)):=Ox Qds;have aC:(after [] (dl.take k)).length<=10:=by have:=Qao (ds:=dl.take k) (tl:=[]);rw[List.length_take]at this;simp only[List.length_nil]at this;omega
 have ay:=ok k d vf ed ab;rw[Qcv ed];generalize after [] (dl.take k)=tl at*;have ag:tv.length=tl.length:=Paired.length I;have sz:=Qqc u;have az:∀p∈tl,(p.2.1.ok=Ge/\p.2.1.depth<=8)/\p.2.2.ok=Ge/\p.2.2.depth<=8:=λp hp=>⟨⟨(u p hp).1.1,(u p hp).1.2.1⟩,(u p hp).2.1,(u p hp).2.2.1⟩;refine⟨_,Xb,_,Xb,q0,es,_,_,Xb,Xb,Zc.of (G _ _ U),(by rw[Du];exact Qj ex),?_⟩;cases d with
 |ask x y=>obtain⟨e,v1,v2,rfl,C,t1,t2⟩:=W;refine⟨_,Xb,e,_,_,_,Xb,Xb,Q9.of C,Qj (j:=0) rfl,Xb,_,Xb,?_⟩;rw[Q8,Qvc];refine Yy ?_;have ax:Jo N NoX tl (.ask x y) vf:=(ay.ex (Y:=NoX) λc ys _ _ h=>h).kp (Q4.of G) (λe _=>G _ _ e);refine⟨_,Xb,_,Xb,e,_,_,_,Xb,Xb,Q9.of C,Qj (j:=1) rfl,_,Xb,e,_,_,_,Xb,Xb,Q9.of C,Qj (j:=2) rfl,_,Xb,_,Xb,ad,rs,_,_,Xb,Xb,Zc.of (G _ _ gf),(by rw[Du];exact Qj ab),l,tv,v1,v2,vf,tl,x,y,Xb,f,I,u,by omega,nb,t1,t2,m.1,m.2,ax,λH8 t=>⟨Ge,Xb,Q6 ?_⟩⟩;exact⟨l,tv,_,_,Xb,G.trans t,hl,t _ _ f,I.Qr (Q4.of t)⟩
 |back i=>
  obtain⟨e,rfl,C⟩:=W;refine⟨_,Xb,e,_,_,_,Xb,Xb,Q9.of C,Qj (j:=0) rfl,Xb,_,Xb,?_⟩;rw[Q8,Qr3];refine Q6 ?_;refine⟨_,Xb,e,_,_,_,Xb,Xb,Q9.of C,Qj (j:=0) rfl,Xb,_,Xb,?_⟩;rw[Q8,Qnp];refine Yy ?_;refine⟨_,Xb,e,_,_,_,Xb,Xb,Q9.of C,Qj (j:=1) rfl,_,_,Xb,Xb,_,Xb,?_⟩;refine Iz (λL=>?_) (λL=>?_)
  ·have L:0<=i:=Tq L;refine⟨_,Xb,_,_,Xb,.inl ⟨_,Zc.of f,Xb⟩,_,_,Xb,Xb,_,Xb,?_⟩;refine Iz (λO=>?_) (λO=>?_)
   ·have O:i<=(tv.length:Int):=Tq O;have g:Jq tl (.back i)=(tl.take i.toNat,.int ((tl.length:Int) - i)):=by simp only[Jq];rw[Gk ⟨L,by rw[<-ag];exact O⟩]
    rw[g];refine⟨_,Xb,_,Xb,e,_,_,_,Xb,Xb,Q9.of C,Qj (j:=1) rfl,_,Xb,l,_,Xb,Zc.of f,λn hn=>?_⟩;rw[Qpb tv i L];have t:=Qf hn (.lst (tv.take i.toNat));exact⟨n,_,_,_,Xb,G.trans t,G.free hn,Qb,Qns _ (I.Qr (Q4.of t))⟩
   ·have O:¬i<=(tv.length:Int):=λz=>O (Gr z);have g:Jq tl (.back i)=(tl,.str "no moment"):=by simp only[Jq];rw[Gg (λz=>O (by rw[ag];exact z.2))]
    rw[g];exact⟨l,tv,_,_,Xb,G,hl,f,I⟩
  ·have L:¬0<=i:=λz=>L (Gr z);have g:Jq tl (.back i)=(tl,.str "no moment"):=by simp only[Jq];rw[Gg (λz=>L z.1)]
   rw[g];refine⟨Gp,Xb,Q6 ?_⟩;exact⟨l,tv,_,_,Xb,G,hl,f,I⟩
 |tell b x y=>
  obtain⟨e,v1,v2,rfl,C,t1,t2⟩:=W;have gx:=m.1;have gy:=m.2;have zx:=gx.2.2;have zy:=gy.2.2;refine⟨_,Xb,e,_,_,_,Xb,Xb,Q9.of C,Qj (j:=0) rfl,Xb,_,Xb,?_⟩;rw[Q8,Qxo];refine Q6 ?_;refine⟨_,Xb,e,_,_,_,Xb,Xb,Q9.of C,Qj (j:=0) rfl,Xb,_,Xb,?_⟩;rw[Q8,Qs2];refine Q6 ?_;refine⟨_,Xb,_,Xb,l,e,tv,tl,v1,v2,b,x,y,Xb,f,I,C,t1,t2,⟨gx.1,gx.2.1⟩,⟨gy.1,gy.2.1⟩,az,by omega,λrr H8 t hb=>⟨rr,Xb,?_⟩⟩;cases rr with
  |true=>
   refine Q6 ?_;have g:Jq tl (.tell b x y)=(tl,.str "clash"):=by simp only[Jq];rw[Gk (hb.mp Xb)]
   rw[g];exact⟨l,tv,_,_,Xb,G.trans t,hl,t _ _ f,I.Qr (Q4.of t)⟩
  |false=>
   refine Yy ?_;have aw:¬We (tl++[(b,x,y)]):=λz=>Gv (hb.mpr z);have g:Jq tl (.tell b x y)=(tl++[(b,x,y)],.int ((tl.length:Int)+1)):=by simp only[Jq];rw[Gg aw]
   rw[g];refine⟨_,Xb,.inl ⟨Xb,_,Zc.of (t _ _ f)⟩,_,Xb,l,tv,_,Xb,Xb,t _ _ f,by rw[Gy];omega,?_⟩;have tu:Q4 N (upd H8 l (.lst (tv++[.ref e]))):=(Q4.of t).trans (Zz λxs z=>by rw[t _ _ f]at z;cases z);exact⟨l,tv++[.ref e],_,_,Xb,λc o h=>by rw[Qg (Qd h hl)];exact t _ _ (G _ _ h),hl,Qb,Yj (I.Qr tu) (.cons ⟨e,v1,v2,Xb,tu _ _ C,t1.Qr tu,t2.Qr tu⟩ .nil)⟩
end
end K03
namespace Sb
open PySem L2
def Y2(K:PySem.W.Frag)(x q:GJ)(st:T2)(f:Gc):Prop:=∃oc od an sl kV b pm a ct,K.lookup f=Ga ⟨oc,od,.func (PySem.W.fnOf x q (Iu st) (Ua st) (Qn st) .none kV b pm an a ct),sl⟩/\PySem.W.codeIn K a q=Ge/\PySem.W.keepIn K (.ref f)=Ge
abbrev O2(K:PySem.W.Frag)(x:GJ)(f:Gc):Prop:=PySem.W.nsIn K T6 x=Ga (Ga (.ref f))
abbrev FiF(K:PySem.W.Frag)(c:Gc)(x:GJ)(f:Gc):Prop:=PySem.W.findIn K (.ref c) x=Ga (Ga (.ref f))
abbrev NsN(K:PySem.W.Frag)(x:GJ):Prop:=PySem.W.nsIn K T6 x=Ga Gf
end Sb
namespace K03
open PySem L2 Sb
section
variable{K:PySem.W.Frag}
theorem Qxk{l:PySem.W.OpenLaw}{w:Gu}{h:Heap}{mg:GJ->Option Value}{fa CP c m i f0 f1 f2 f3 f4 f5 f6 f7 f8 f9 ab ac ad ae af ag ah bR bS bT ai aj ak al bU am ao ap aq ar au bV bW bX bY bZ ca cb ce cf cg ch ci cj ck cl cm cn:Gc}(X:K.In h)(G:h.Ns T6 mg)(fi:mg "law"=Ga (.ref fa)){fN:FA}
  (aP:O2 K "Places" CP)(pP:PySem.W.plainGet K CP DU=Ge)(dP:PySem.W.hasDictIn K CP=Ge)(oP:PySem.W.plainOver K CP=Ge)(sP:PySem.W.findIn K (.ref CP) "__setattr__"=Ga (Ga (.builtin "object.__setattr__")))(mP:PySem.W.makesIn K CP=Ge)(cP:PySem.W.keepIn K (.ref CP)=Ge)
  (F:PySem.W.findIn K (.ref CP) "things"=Ga Gf)(T:PySem.W.findIn K (.ref CP) "forms"=Ga Gf)(U:PySem.W.findIn K (.ref CP) "known"=Ga Gf)(aN:O2 K "Net" c)(pN:PySem.W.plainGet K c DU=Ge)(dN:PySem.W.hasDictIn K c=Ge)(oN:PySem.W.plainOver K c=Ge)
  (sN:PySem.W.findIn K (.ref c) "__setattr__"=Ga (Ga (.builtin "object.__setattr__")))(mN:PySem.W.makesIn K c=Ge)(cN:PySem.W.keepIn K (.ref c)=Ge)(N:PySem.W.findIn K (.ref c) "forms"=Ga Gf)(O:PySem.W.findIn K (.ref c) "leads"=Ga Gf)(u:PySem.W.findIn K (.ref c) "members"=Ga Gf)
  (S:PySem.W.findIn K (.ref c) "users"=Ga Gf)(R:PySem.W.findIn K (.ref c) "table"=Ga Gf)(Q:PySem.W.findIn K (.ref c) "links"=Ga Gf)(E:PySem.W.findIn K (.ref c) "link_at"=Ga Gf)(L:PySem.W.findIn K (.ref c) "above"=Ga Gf)(aS:O2 K "Showing" m)
  (pS:PySem.W.plainGet K m DU=Ge)(dS:PySem.W.hasDictIn K m=Ge)(oS:PySem.W.plainOver K m=Ge)(sS:PySem.W.findIn K (.ref m) "__setattr__"=Ga (Ga (.builtin "object.__setattr__")))(mS:PySem.W.makesIn K m=Ge)(cS:PySem.W.keepIn K (.ref m)=Ge)(H:PySem.W.findIn K (.ref m) "things"=Ga Gf)
  (aM:PySem.W.findIn K (.ref m) "net"=Ga Gf)(V:PySem.W.findIn K (.ref m) "lines"=Ga Gf)(z:PySem.W.findIn K (.ref m) "numbers"=Ga Gf)(aB:O2 K "Book" i)(pB:PySem.W.plainGet K i DU=Ge)(dB:PySem.W.hasDictIn K i=Ge)(oB:PySem.W.plainOver K i=Ge)
  (sB:PySem.W.findIn K (.ref i) "__setattr__"=Ga (Ga (.builtin "object.__setattr__")))(mB:PySem.W.makesIn K i=Ge)(cB:PySem.W.keepIn K (.ref i)=Ge)(D:PySem.W.findIn K (.ref i) "places"=Ga Gf)(ax:PySem.W.findIn K (.ref i) "told"=Ga Gf)(t:PySem.W.findIn K (.ref i) "entries"=Ga Gf)
  (ea:PySem.W.nsIn K T6 "NO_MOMENT"=Ga (Ga (.str "no moment" fN)))(a0:O2 K "top_words" f0)(h0:Y2 K "top_words" "top_words" Qo2 f0)(a1:FiF K CP "__init__" f1)(i1:PySem.W.isFn K (.ref f1)=Ge)(h1:Y2 K "__init__" "Places.__init__" Qbt f1)
  (a2:FiF K CP "place_of" f2)(i2:PySem.W.isFn K (.ref f2)=Ge)(h2:Y2 K "place_of" "Places.place_of" Od f2)(a3:FiF K CP "place_within" f3)(i3:PySem.W.isFn K (.ref f3)=Ge)(h3:Y2 K "place_within" "Places.place_within" Jv f3)
  (a4:FiF K CP "place_by_form" f4)(i4:PySem.W.isFn K (.ref f4)=Ge)(h4:Y2 K "place_by_form" "Places.place_by_form" Qbr f4)(a5:O2 K "net_of" f5)(h5:Y2 K "net_of" "net_of" Qf8 f5)(a6:FiF K c "__init__" f6)(i6:PySem.W.isFn K (.ref f6)=Ge)
  (h6:Y2 K "__init__" "Net.__init__" Oy f6)(a7:FiF K c "take_in" f7)(i7:PySem.W.isFn K (.ref f7)=Ge)(h7:Y2 K "take_in" "Net.take_in" R0 f7)(a8:FiF K c "key_of" f8)(i8:PySem.W.isFn K (.ref f8)=Ge)(h8:Y2 K "key_of" "Net.key_of" Rw f8)
  (a9:FiF K c "equal" f9)(i9:PySem.W.isFn K (.ref f9)=Ge)(h9:Y2 K "equal" "Net.equal" Qfl f9)(dx:FiF K c "merge" ab)(fj:PySem.W.isFn K (.ref ab)=Ge)(eE:Y2 K "merge" "Net.merge" Qgj ab)(dy:FiF K c "merge_link" ac)
  (fk:PySem.W.isFn K (.ref ac)=Ge)(eF:Y2 K "merge_link" "Net.merge_link" Ji ac)(dz:FiF K c "hang" ad)(fl:PySem.W.isFn K (.ref ad)=Ge)(eG:Y2 K "hang" "Net.hang" Qmk ad)(dA:FiF K c "give_over" ae)(fm:PySem.W.isFn K (.ref ae)=Ge)
  (eH:Y2 K "give_over" "Net.give_over" Il ae)(dC:FiF K c "way" af)(fn:PySem.W.isFn K (.ref af)=Ge)(eI:Y2 K "way" "Net.way" Qt5 af)(dD:FiF K c "way_up" ag)(fo:PySem.W.isFn K (.ref ag)=Ge)(eJ:Y2 K "way_up" "Net.way_up" Qfx ag)
  (dE:FiF K c "rows" ah)(fp:PySem.W.isFn K (.ref ah)=Ge)(eK:Y2 K "rows" "Net.rows" Qid ah)(dF:O2 K "lines_between" bR)(eL:Y2 K "lines_between" "lines_between" Qfq bR)(dG:O2 K "links_needed" bS)(eM:Y2 K "links_needed" "links_needed" Qbz bS)
  (bL:O2 K "pairs_below" bT)(eN:Y2 K "pairs_below" "pairs_below" Qf3 bT)(dH:FiF K m "__init__" ai)(fq:PySem.W.isFn K (.ref ai)=Ge)(eO:Y2 K "__init__" "Showing.__init__" Qb5 ai)(dI:FiF K m "write" aj)(fr:PySem.W.isFn K (.ref aj)=Ge)
  (eP:Y2 K "write" "Showing.write" Qfy aj)(dJ:FiF K m "write_link" ak)(fs:PySem.W.isFn K (.ref ak)=Ge)(eQ:Y2 K "write_link" "Showing.write_link" Vz ak)(dK:FiF K m "line_for" al)(ft:PySem.W.isFn K (.ref al)=Ge)
  (eR:Y2 K "line_for" "Showing.line_for" Ih al)(dL:O2 K "answers" bU)(eS:Y2 K "answers" "answers" Jy bU)(dM:FiF K i "__init__" am)(fu:PySem.W.isFn K (.ref am)=Ge)(eT:Y2 K "__init__" "Book.__init__" Qbp am)
  (dO:FiF K i "answer" ao)(fv:PySem.W.isFn K (.ref ao)=Ge)(eU:Y2 K "answer" "Book.answer" Qbu ao)(dQ:FiF K i "go_back" ap)(fw:PySem.W.isFn K (.ref ap)=Ge)(eV:Y2 K "go_back" "Book.go_back" Qb3 ap)(dR:FiF K i "tell" aq)
  (fx:PySem.W.isFn K (.ref aq)=Ge)(eW:Y2 K "tell" "Book.tell" Qlh aq)(dT:FiF K i "ask" ar)(fy:PySem.W.isFn K (.ref ar)=Ge)(eX:Y2 K "ask" "Book.ask" Quv ar)(dU:FiF K i "lines_for" au)(fz:PySem.W.isFn K (.ref au)=Ge)
  (eY:Y2 K "lines_for" "Book.lines_for" Ij au)(bM:O2 K "least_clash" bV)(eZ:Y2 K "least_clash" "least_clash" Qf7 bV)(dV:O2 K "_law_any_word" bW)(e0:Y2 K "_law_any_word" "_law_any_word" Qmp bW)(dW:O2 K "_law_drawn_things" bX)
  (e1:Y2 K "_law_drawn_things" "_law_drawn_things" Qfj bX)(dX:O2 K "_law_drawn_deeds" bY)(e2:Y2 K "_law_drawn_deeds" "_law_drawn_deeds" Qgo bY)(dY:O2 K "_law_room" bZ)(e3:Y2 K "_law_room" "_law_room" Qk0 bZ)(dZ:O2 K "_law_any" ca)
  (e4:Y2 K "_law_any" "_law_any" Qs0 ca)(d0:O2 K "_law_classes" cb)(e5:Y2 K "_law_classes" "_law_classes" Wu cb)(d1:O2 K "_law_barred" ce)(e6:Y2 K "_law_barred" "_law_barred" Qbo ce)(aE:O2 K "_law_whole" cf)
  (e7:Y2 K "_law_whole" "_law_whole" Qfn cf)(d2:O2 K "_law_is_thing" cg)(e8:Y2 K "_law_is_thing" "_law_is_thing" Ob cg)(d3:O2 K "_law_line_follows" ch)(e9:Y2 K "_law_line_follows" "_law_line_follows" Jt ch)
  (d4:O2 K "_law_lines_show" ci)(fb:Y2 K "_law_lines_show" "_law_lines_show" Qme ci)(d5:O2 K "_law_number_in" cj)(fc:Y2 K "_law_number_in" "_law_number_in" Ro cj)(d6:O2 K "_law_is_world" ck)(fe:Y2 K "_law_is_world" "_law_is_world" Ou ck)
  (d7:O2 K "_law_world_fits" cl)(ff:Y2 K "_law_world_fits" "_law_world_fits" Ql8 cl)(d8:O2 K "_law_is_right" cm)(fg:Y2 K "_law_is_right" "_law_is_right" Qgl cm)(d9:O2 K "law" cn)(fh:Y2 K "law" "law" Qjt cn)(Y:NsN K "len")(aR:NsN K "min")
  (aO:NsN K "abs")(A:NsN K "list")(q:NsN K "tuple")(aT:NsN K "str")(ay:NsN K "bool")(aQ:NsN K "int")(j:NsN K "isinstance")(p:NsN K "range")(d:NsN K "reversed")(o:NsN K "enumerate")(aU:NsN K "zip")(I:NsN K "sorted")
  :∃fd:Tf,(∀(s:Gi)(v:Value),SI s fd ⟨[v],[]⟩ [("_law_script",v)])/\∀base:Heap,K.In base->base.Ns T6 mg->Qz l.prog w K mg base Yb 66 fa fd ["_law_script"] (Ql9 K):=by
 have e:=fi.symm.trans (PySem.W.mg_of X G d9);cases e;have g:=λ{x:GJ}{f:Gc}(e:O2 K x f)=>PySem.W.mg_of X G e;have y:=λ{x:GJ}(e:NsN K x)=>PySem.W.mg_none_of X G e;have TP:Qca K mg CP:=⟨⟨pP,dP,oP,sP⟩,F,T,U,g aP⟩;have n:V7 K mg c:=⟨⟨pN,dN,oN,sN⟩,N,O,u,S,R,Q,E,L,g aN⟩;have TS:Qne K m:=⟨⟨pS,dS,oS,sS⟩,H,aM,V,z⟩;have TB:Qhh K mg i:=⟨⟨pB,dB,oB,sB⟩,D,ax,t,g aB,⟨_,PySem.W.mg_of X G ea,⟨_,Xb⟩⟩⟩;have B:Blt mg:=⟨y Y,y aR,y aO,y A,y q,y aT,y ay,y aQ,y j,y p,y d⟩;have r:J0 mg:=⟨y Y,y A,y q,y p,y d,y o,y aU,y I⟩;obtain⟨_,_,_,_,_,_,_,_,_,b,a,k0⟩:=h0;have F0:=Zi (st:=Qo2) b a k0;have b0:=F0.binds (ps:=["thing"]) (by eq_refl);obtain⟨_,_,_,_,_,_,_,_,_,b,a,k1⟩:=h1;have F1:=Zi (st:=Qbt) b a k1;have b1:=F1.binds (ps:=["self"]) (by eq_refl);obtain⟨_,_,_,_,_,_,_,_,_,b,a,k2⟩:=h2;have F2:=Zi (st:=Od) b a k2;have b2:=F2.binds (ps:=["self","thing"]) (by eq_refl);have m2:Yd K CP "place_of" f2:=⟨a2,i2,k2⟩;obtain⟨_,_,_,_,_,_,_,_,_,b,a,k3⟩:=h3;have F3:=Zi (st:=Jv) b a k3;have b3:=F3.binds (ps:=["self","thing","near"]) (by eq_refl);have m3:Yd K CP "place_within" f3:=⟨a3,i3,k3⟩;obtain⟨_,_,_,_,_,_,_,_,_,b,a,k4⟩:=h4;have F4:=Zi (st:=Qbr) b a k4;have b4:=F4.binds (ps:=["self","thing","form"]) (by eq_refl);have m4:Yd K CP "place_by_form" f4:=⟨a4,i4,k4⟩;obtain⟨_,_,_,_,_,_,_,_,_,b,a,k5⟩:=h5;have F5:=Zi (st:=Qf8) b a k5;have b5:=F5.binds (ps:=["forms","told"]) (by eq_refl);obtain⟨_,_,_,_,_,_,_,_,_,b,a,k6⟩:=h6;have F6:=Zi (st:=Oy) b a k6;have b6:=F6.binds (ps:=["self","forms"]) (by eq_refl);obtain⟨_,_,_,_,_,_,_,_,_,b,a,k7⟩:=h7;have F7:=Zi (st:=R0) b a k7;have b7:=F7.binds (ps:=["self","place"]) (by eq_refl);have m7:Yd K c "take_in" f7:=⟨a7,i7,k7⟩;obtain⟨_,_,_,_,_,_,_,_,_,b,a,k8⟩:=h8;have F8:=Zi (st:=Rw) b a k8;have b8:=F8.binds (ps:=["self","place"]) (by eq_refl);have m8:Yd K c "key_of" f8:=⟨a8,i8,k8⟩;obtain⟨_,_,_,_,_,_,_,_,_,b,a,k9⟩:=h9;have F9:=Zi (st:=Qfl) b a k9;have b9:=F9.binds (ps:=["self","one","other"]) (by eq_refl);have m9:Yd K c "equal" f9:=⟨a9,i9,k9⟩;obtain⟨_,_,_,_,_,_,_,_,_,b,a,co⟩:=eE;have aV:=Zi (st:=Qgj) b a co;have bN:=aV.binds (ps:=["self","one","other","reason"]) (by eq_refl);have cZ:Yd K c "merge" ab:=⟨dx,fj,co⟩;obtain⟨_,_,_,_,_,_,_,_,_,b,a,cp⟩:=eF;have aW:=Zi (st:=Ji) b a cp;have eb:=aW.binds (ps:=["self","link"]) (by eq_refl);have fD:Yd K c "merge_link" ac:=⟨dy,fk,cp⟩;obtain⟨_,_,_,_,_,_,_,_,_,b,a,cq⟩:=eG;have aX:=Zi (st:=Qmk) b a cq;have ec:=aX.binds (ps:=["self","low","high"]) (by eq_refl);have fE:Yd K c "hang" ad:=⟨dz,fl,cq⟩;obtain⟨_,_,_,_,_,_,_,_,_,b,a,cr⟩:=eH;have aY:=Zi (st:=Il) b a cr;have ed:=aY.binds (ps:=["self","gone","kept"]) (by eq_refl);have fF:Yd K c "give_over" ae:=⟨dA,fm,cr⟩;obtain⟨_,_,_,_,_,_,_,_,_,b,a,cs⟩:=eI;have aZ:=Zi (st:=Qt5) b a cs;have aF:=aZ.binds (ps:=["self","one","other"]) (by eq_refl);have aK:Yd K c "way" af:=⟨dC,fn,cs⟩;obtain⟨_,_,_,_,_,_,_,_,_,b,a,cu⟩:=eJ;have ba:=Zi (st:=Qfx) b a cu;have ee:=ba.binds (ps:=["self","place"]) (by eq_refl);have fG:Yd K c "way_up" ag:=⟨dD,fo,cu⟩;obtain⟨_,_,_,_,_,_,_,_,_,b,a,cv⟩:=eK;have bb:=Zi (st:=Qid) b a cv;have ef:=bb.binds (ps:=["self"]) (by eq_refl);have fH:Yd K c "rows" ah:=⟨dE,fp,cv⟩;obtain⟨_,_,_,_,_,_,_,_,_,b,a,cw⟩:=eL;have bc:=Zi (st:=Qfq) b a cw;have eg:=bc.binds (ps:=["things","net","one","other"]) (by eq_refl);obtain⟨_,_,_,_,_,_,_,_,_,b,a,cx⟩:=eM;have bd:=Zi (st:=Qbz) b a cx;have eh:=bd.binds (ps:=["net","one","other"]) (by eq_refl);obtain⟨_,_,_,_,_,_,_,_,_,b,a,aI⟩:=eN;have be:=Zi (st:=Qf3) b a aI;have bO:=be.binds (ps:=["net","link"]) (by eq_refl);obtain⟨_,_,_,_,_,_,_,_,_,b,a,fA⟩:=eO;have bf:=Zi (st:=Qb5) b a fA;have ei:=bf.binds (ps:=["self","things","net"]) (by eq_refl);obtain⟨_,_,_,_,_,_,_,_,_,b,a,cy⟩:=eP;have bg:=Zi (st:=Qfy) b a cy;have aG:=bg.binds (ps:=["self","one","other","reason"]) (by eq_refl);have aL:Yd K m "write" aj:=⟨dI,fr,cy⟩;obtain⟨_,_,_,_,_,_,_,_,_,b,a,cz⟩:=eQ;have bh:=Zi (st:=Vz) b a cz;have ej:=bh.binds (ps:=["self","link"]) (by eq_refl);have fI:Yd K m "write_link" ak:=⟨dJ,fs,cz⟩;obtain⟨_,_,_,_,_,_,_,_,_,b,a,cA⟩:=eR;have az:=Zi (st:=Ih) b a cA;have aa:=az.binds (ps:=["self","one","other"]) (by eq_refl);have aw:Yd K m "line_for" al:=⟨dK,ft,cA⟩;obtain⟨_,_,_,_,_,_,_,_,_,b,a,cC⟩:=eS;have bi:=Zi (st:=Jy) b a cC;have ek:=bi.binds (ps:=["deeds"]) (by eq_refl);obtain⟨_,_,_,_,_,_,_,_,_,b,a,fB⟩:=eT;have bj:=Zi (st:=Qbp) b a fB;have el:=bj.binds (ps:=["self"]) (by eq_refl);obtain⟨_,_,_,_,_,_,_,_,_,b,a,cD⟩:=eU;have bk:=Zi (st:=Qbu) b a cD;have em:=bk.binds (ps:=["self","deed"]) (by eq_refl);have fJ:Yd K i "answer" ao:=⟨dO,fv,cD⟩;obtain⟨_,_,_,_,_,_,_,_,_,b,a,cE⟩:=eV;have bl:=Zi (st:=Qb3) b a cE;have en:=bl.binds (ps:=["self","moment"]) (by eq_refl);have fK:Yd K i "go_back" ap:=⟨dQ,fw,cE⟩;obtain⟨_,_,_,_,_,_,_,_,_,b,a,cF⟩:=eW;have bm:=Zi (st:=Qlh) b a cF;have eo:=bm.binds (ps:=["self","deed","entry"]) (by eq_refl);have fL:Yd K i "tell" aq:=⟨dR,fx,cF⟩;obtain⟨_,_,_,_,_,_,_,_,_,b,a,cG⟩:=eX;have bn:=Zi (st:=Quv) b a cG;have ep:=bn.binds (ps:=["self","entry"]) (by eq_refl);have fM:Yd K i "ask" ar:=⟨dT,fy,cG⟩;obtain⟨_,_,_,_,_,_,_,_,_,b,a,cH⟩:=eY;have bo:=Zi (st:=Ij) b a cH;have bP:=bo.binds (ps:=["self","net","entry"]) (by eq_refl);have c0:Yd K i "lines_for" au:=⟨dU,fz,cH⟩;obtain⟨_,_,_,_,_,_,_,_,_,b,a,aJ⟩:=eZ;have bp:=Zi (st:=Qf7) b a aJ;have bQ:=bp.binds (ps:=["net","entries"]) (by eq_refl);obtain⟨_,_,_,_,_,_,_,_,_,b,a,cI⟩:=e0;have bq:=Zi (st:=Qmp) b a cI;have eq:=bq.binds (ps:=["_law_cell"]) (by eq_refl);obtain⟨_,_,_,_,_,_,_,_,_,b,a,cJ⟩:=e1;have br:=Zi (st:=Qfj) b a cJ;have er:=br.binds (ps:=["_law_cells"]) (by eq_refl);obtain⟨_,_,_,_,_,_,_,_,_,b,a,cK⟩:=e2;have bs:=Zi (st:=Qgo) b a cK;have es:=bs.binds (ps:=["_law_cells","_law_things"]) (by eq_refl);obtain⟨_,_,_,_,_,_,_,_,_,b,a,cL⟩:=e3;have bt:=Zi (st:=Qk0) b a cL;have et:=bt.binds (ps:=["_law_script","_law_most","_law_bound"]) (by eq_refl);obtain⟨_,_,_,_,_,_,_,_,_,b,a,cM⟩:=e4;have bu:=Zi (st:=Qs0) b a cM;have eu:=bu.binds (ps:=["_law_cell"]) (by eq_refl);obtain⟨_,_,_,_,_,_,_,_,_,b,a,cO⟩:=e5;have bv:=Zi (st:=Wu) b a cO;have ev:=bv.binds (ps:=["_law_told","_law_things"]) (by eq_refl);obtain⟨_,_,_,_,_,_,_,_,_,b,a,cQ⟩:=e6;have bw:=Zi (st:=Qbo) b a cQ;have ew:=bw.binds (ps:=["_law_told","_law_deed"]) (by eq_refl);obtain⟨_,_,_,_,_,_,_,_,_,b,a,av⟩:=e7;have bx:=Zi (st:=Qfn) b a av;have aH:=bx.binds (ps:=["_law_found"]) (by eq_refl);obtain⟨_,_,_,_,_,_,_,_,_,b,a,cR⟩:=e8;have bz:=Zi (st:=Ob) b a cR;have ex:=bz.binds (ps:=["_law_found"]) (by eq_refl);obtain⟨_,_,_,_,_,_,_,_,_,b,a,cT⟩:=e9;have bA:=Zi (st:=Jt) b a cT;have ey:=bA.binds (ps:=["_law_told","_law_lines","_law_k","_law_pair"]) (by eq_refl);obtain⟨_,_,_,_,_,_,_,_,_,b,a,cU⟩:=fb;have bB:=Zi (st:=Qme) b a cU;have ez:=bB.binds (ps:=["_law_told","_law_lines","_law_one","_law_other","_law_pair"]) (by eq_refl);obtain⟨_,_,_,_,_,_,_,_,_,b,a,cV⟩:=fc;have bC:=Zi (st:=Ro) b a cV;have eA:=bC.binds (ps:=["_law_rows","_law_thing"]) (by eq_refl);obtain⟨_,_,_,_,_,_,_,_,_,b,a,cW⟩:=fe;have bD:=Zi (st:=Ou) b a cW;have eB:=bD.binds (ps:=["_law_rows"]) (by eq_refl);obtain⟨_,_,_,_,_,_,_,_,_,b,a,cX⟩:=ff;have bE:=Zi (st:=Ql8) b a cX;have eC:=bE.binds (ps:=["_law_rows","_law_told"]) (by eq_refl);obtain⟨_,_,_,_,_,_,_,_,_,b,a,cY⟩:=fg;have bF:=Zi (st:=Qgl) b a cY;have eD:=bF.binds (ps:=["_law_told","_law_one","_law_other","_law_found"]) (by eq_refl);obtain⟨oc,od,an,sl,kV,dc,pm,cd,ct,b,a,fC⟩:=fh;have c1:=Zi (st:=Qjt) b a fC;have MP:Mk K CP f1:=⟨mP,a1,i1,cP⟩;have MN:Mk K c f6:=⟨mN,a6,i6,cN⟩;have MS:Mk K m ai:=⟨mS,dH,fq,cS⟩;have MB:Mk K i am:=⟨mB,dM,fu,cB⟩;refine⟨PySem.W.fnOf "law" "law" (Iu Qjt) (Ua Qjt) (Qn Qjt) .none kV dc pm an cd ct,λs v=>.of_eq Xb,λbase _ _=>?_⟩;have G0:=Qwt (P:=l.prog) (w:=w) (mg:=mg) (base:=base) F0 r;have G4:=Qnx (P:=l.prog) (w:=w) (mg:=mg) (base:=base) F4 TP r;have G3:=Qct (P:=l.prog) (w:=w) (mg:=mg) (base:=base) F3 TP r m3 b3 G0 k0 b0 (g a0) m4 G4 b4 50;have G2:=Qjv F2 TP m3 b3 G3;have G1:=Qn8 (P:=l.prog) (w:=w) (mg:=mg) (base:=base) F1 TP;have G9:=Qo9 (P:=l.prog) (w:=w) (mg:=mg) (base:=base) F9 n;have G8:=Qrk (P:=l.prog) (w:=w) (mg:=mg) (base:=base) F8 n r;have J:=Qm1 (P:=l.prog) (w:=w) (mg:=mg) (base:=base) F8 n r;have c5:=Qqu (P:=l.prog) (w:=w) (mg:=mg) (base:=base) ba n;have c3:=Qtz (P:=l.prog) (w:=w) (mg:=mg) (base:=base) aX n;have c4:=Qsw aY n m8 G8 b8;have c2:=Qgk aW n r fE c3 ec fF c4 ed;have bG:=Qsc aV n m9 G9 b9 fD c2 eb;have G6:=Qi1 (P:=l.prog) (w:=w) (mg:=mg) (base:=base) F6 n;have G7:=Qh4 F7 n m7 b7 m8 G8 b8 59;have G5:=Qqv F5 n r MN G6 b6 m7 G7 b7 cZ bG bN;have bK:=Qsd bp n r m9 G9 b9;have aA:=Qwm aZ n r fG c5 ee;have c6:=Qs8 bb n r m8 J b8;have bH:=Qo3 (P:=l.prog) (w:=w) (mg:=mg) (base:=base) be n r;have c8:=Qmx bd n r aK aA aF bH aI bO (g bL);have aC:=Qoy (P:=l.prog) (w:=w) (mg:=mg) (base:=base) (C:=c) bg TS r;have Z:=Qli (g:=Gp) (k:=2) (by decide) az TS n aw aa Qyr aK aA aF aL aC aG;have bI:=Qli (g:=Ge) (k:=3) (by decide) az TS n aw aa Z aK aA aF aL aC aG;have da:=Qpg bh TS aw aa bI bH aI bO (g bL) aL aC aG;have c9:=Qnf (P:=l.prog) (w:=w) (mg:=mg) (base:=base) (C:=c) bf TS;have c7:=Qom bc TS n (PySem.W.mg_of X G aS) MS c9 ei c8 cx eh (g dG) aw aa bI fI ej da;have bJ:=Qib bo TB TP c7 cw eg (g dF);have dh:=Qws bn TB TP n G5 k5 b5 (g a5) m9 G9 b9 fH c6 ef cZ bG bN bK aJ bQ (g bM) c0 bJ bP;have dg:=Qvb bm TB TP r G5 k5 b5 (g a5) bK aJ bQ (g bM) c0 bJ bP;have df:=Qn4 (P:=l.prog) (w:=w) (mg:=mg) (base:=base) (CP:=CP) bl TB r;have dd:=Qnr bj TB TP MP G1 b1;have de:=Qmz bk TB TP fK df en m2 G2 b2 fM dh ep fL dg eo;have db:=Qj0 bi TB MB dd el fJ de em;have di:=Quj (P:=l.prog) (w:=w) (mg:=mg) (base:=base) bq B.abs;have dj:=Qpr br B di cI eq (g dV);have dm:=Qxp (P:=l.prog) (w:=w) (mg:=mg) (base:=base) bu;have dk:=Qsk bs B dm cM eu (g dZ);have dl:=Qux (P:=l.prog) (w:=w) (mg:=mg) (base:=base) bt B;have dn:=Qjm (P:=l.prog) (w:=w) (mg:=mg) (base:=base) bv B;have dp:=Qng bw dn cO ev (g d0);have aD:=Qpk (P:=l.prog) (w:=w) (mg:=mg) (base:=base) bx B;have dq:=Qjb (P:=l.prog) (w:=w) (mg:=mg) (base:=base) bz B;have dr:=Qkt bA B aD av aH (g aE);have ds:=Quk bB B dq cR ex (g d2) dr cT ey (g d3);have dt:=Qqn (P:=l.prog) (w:=w) (mg:=mg) (base:=base) bC B;have du:=Qjz bD B aD av aH (g aE);have dv:=Qvf bE du cW eB (g d6) dt cV eA (g d5);have dw:=Qsj bF B ds cU ez (g d4) aD av aH (g aE) dv cX eC (g d7);exact Qw0 (M:=65) c1 B (by decide) (by decide) dj cJ er (g dW) dk cK es (g dX) dl cL et (g dY) db cC ek (g dL) dw cY eD (g d8) dp cQ ew (g d1)
end
theorem Q01{l:PySem.W.OpenLaw}{q:Gj}{b:List GJ}{i:(GJ->Option Value)->Heap->Prop}{e:Gu->Heap->Prop}{d:Fx}{K:Fk->PySem.W.Frag}(o:l.most=Ga 63)(c:d.params.defaults=[])
  (j:∀(w:Gu)(h:Heap),e w h->(K w.params).In h)
  (F:∀(w:Gu)(mg:GJ->Option Value)(g:Gc)(h:Heap),(K w.params).In h->h.Ns T6 mg->mg d.name=Ga (.ref g)->
   ∃fd:Tf,(∀(s:Gi)(u:Value),SI s fd ⟨[u],[]⟩ [("_law_script",u)])/\∀base:Heap,(K w.params).In base->base.Ns T6 mg->Qz l.prog w (K w.params) mg base Yb 66 g fd ["_law_script"] (Ql9 (K w.params))):
  PySem.W.WalkO q b i e l.row.toRowW d [] (λf vs=>PySem.call f vs):=
 L2.Qtm (n:=63) (k:=66) (x:="_law_script") (CX:=λ_=>Yb) (sp:=λw=>Ql9 (K w.params)) o (by decide) c ⟨Xb,by decide,by decide⟩ j F (λ_ _ a ns m _ hS=>⟨a,ns,Xb,hS,m,λ_=>rfl⟩) λ_ _ _ _ _ z=>z
end K03
open PySem PySem.W PyProof.Rows
set_option maxRecDepth 100000 in
set_option maxHeartbeats 0 in
theorem PySem.Challenge.cw_samebook_k03_whole_answers_shown_holds : PySem.Challenge.rw_samebook_k03_whole_answers_shown.Holds := by
  w_on; o_law; k_head; (case hw => w_witness2)
  k_fill
  refine K03.Q01 (l := PySem.Challenge.rw_samebook_k03_whole_answers_shown) rfl rfl (λ w h Y => PySem.W.kIn_of Y) ?F
  case F =>
    intro w mg b h KX G a
    refine' K03.Qxk KX G a ?_ ?_ ?_ ?_ ?_ ?_ ?_ ?_ ?_ ?_ ?_ ?_ ?_ ?_ ?_ ?_ ?_ ?_ ?_ ?_ ?_ ?_ ?_ ?_ ?_ ?_ ?_ ?_ ?_ ?_ ?_ ?_ ?_ ?_ ?_ ?_ ?_ ?_ ?_ ?_ ?_ ?_ ?_ ?_ ?_ ?_ ?_ ?_ ?_ ?_ ?_ ?_ ?_ ?_ ?_ ?_ ?_ ?_ ?_ ?_ ?_ ?_ ?_ ?_ ?_ ?_ ?_ ?_ ?_ ?_ ?_ ?_ ?_ ?_ ?_ ?_ ?_ ?_ ?_ ?_ ?_ ?_ ?_ ?_ ?_ ?_ ?_ ?_ ?_ ?_ ?_ ?_ ?_ ?_ ?_ ?_ ?_ ?_ ?_ ?_ ?_ ?_ ?_ ?_ ?_ ?_ ?_ ?_ ?_ ?_ ?_ ?_ ?_ ?_ ?_ ?_ ?_ ?_ ?_ ?_ ?_ ?_ ?_ ?_ ?_ ?_ ?_ ?_ ?_ ?_ ?_ ?_ ?_ ?_ ?_ ?_ ?_ ?_ ?_ ?_ ?_ ?_ ?_ ?_ ?_ ?_ ?_ ?_ ?_ ?_ ?_ ?_ ?_ ?_ ?_ ?_ ?_ ?_ ?_ ?_ ?_ ?_ ?_ ?_ ?_ ?_ ?_ ?_ ?_ ?_ ?_ ?_ ?_ ?_ ?_ ?_ ?_ ?_ ?_ ?_ ?_ ?_
    all_goals first | exact ⟨_, _, _, _, _, _, _, _, _, by k_is, by k_is, by k_is⟩ | (show _ = _; k_is) | skip
