import PyProof.Rows.All
import Wide.All
import OpenK.AllK
import Wide.FinOn
import Lean
import PyProof.EqAt
import PyProof.EqKinds
import PyProof.TupleCall
import KE.KIsAll
import KE.KRevIter
import PyProof.P3In
import PyProof.P3Eq
import KE.KDictList
import KE.KDictSum
import KE.KDictLaws
import PyProof.ZipIter
import KE.KItemsList
import PySem.Challenge.RW_samebook_k05_equal_unlike_or_open
set_option maxHeartbeats 16000000
abbrev Ga:=@PySem.wpAny_bind
abbrev Gb:=@List.mem_of_getElem?
abbrev Gc:=@PySem.W.Frag
abbrev Gd:=@List.mem_append
abbrev Ge:=@List.getElem?_eq_some_iff
abbrev Gf:=@PySem.wpAny_pure
abbrev Gg:=@List.getElem?_eq_getElem
abbrev Gh:=@PySem.Heap.get?_push_of_some
abbrev Gi:=@List.mem_append_left
abbrev Gj:=@if_neg
abbrev Gk:=@List.length_append
abbrev Gm:=@List.mem_cons_of_mem
abbrev Gn:=@List.length_map
abbrev Gp:=@if_pos
abbrev Gq:=@Ne.symm
abbrev Gr:=@Nat.le_refl
abbrev Gs:=@PySem.Paired.length
abbrev Gu:=@List.mem_cons
abbrev Gv:=@List.length_singleton
abbrev Gw:=@PySem.Heap.lt_size
abbrev Gx:=@List.mem_singleton
abbrev Gy:=@PySem.F.plainAttrs_list
abbrev Gz:=@PySem.Heap.get?_push_size
abbrev GF:=@List.size_toArray
abbrev GJ:=@List.mem_cons_self
abbrev GO:=@List.map_cons
abbrev GQ:=@List.getElem?_append_left
abbrev GV:=@Bool.false_ne_true
abbrev GX:=@PySem.PassesOwn.never
abbrev GY:=@List.getElem?_map
abbrev Ta:=@Nat.zero_le
abbrev Tb:=@List.length_cons
abbrev Tc:=@PySem.F.slot_list_append
abbrev Td:=@PySem.sizeLine_eq
abbrev Te:=@List.take_length
abbrev Tf:=@List.take_add_one
abbrev Tg:=@decide_eq_false
abbrev Ti:=@List.mem_map
abbrev Tj:=@PySem.boot_len
abbrev Tk:=@PySem.F.type_list_append
abbrev Tn:=@List.mem_append_right
abbrev To:=@List.getElem?_append_right
abbrev Tp:=@decide_eq_true
abbrev Tq:=@PyProof.Rows.boot_isinstance
abbrev Ts:=@Nat.ne_of_lt
abbrev Tt:=@List.map_append
abbrev Tu:=@Array.getElem?_eq_getElem
abbrev Tv:=@Nat.lt_of_lt_of_le
abbrev Tw:=@List.map_congr_left
abbrev Tx:=@List.cons.injEq
abbrev Tz:=@List.getElem?_eq_none
abbrev TC:=@Nat.lt_or_ge
abbrev TD:=@Bool.and_eq_true
abbrev TF:=@Option.some.inj
abbrev TH:=@List.append_assoc
abbrev TJ:=@List.map_map
abbrev TL:=@List.mem_iff_getElem?
abbrev TM:=@List.cons_append
abbrev TQ:=@Nat.ne_of_gt
abbrev TR:=@PySem.wpAny_call_entry
abbrev TU:=@PySem.wpAny_newObj_type
abbrev TV:=@List.nodup_cons
abbrev TW:=@Int.emod_lt_of_pos
abbrev TX:=@Array.length_toList
abbrev TY:=@PyProof.Rows.boot_list
abbrev TZ:=@PySem.wpAny_field
abbrev T1:=@List.not_mem_nil
abbrev T3:=@of_decide_eq_true
abbrev T4:=@Bool.false_eq_true
abbrev T5:=@PySem.wpAny_callSpecial?_slot
abbrev T6:=@List.length_take
abbrev T8:=@List.lookup_cons
abbrev T9:=@PySem.Heap.get?_update_self
abbrev Db:=@List.append_nil
abbrev Dc:=@Int.emod_nonneg
abbrev De:=@PyProof.Rows.boot_tuple
abbrev Df:=@List.nodup_append
abbrev Dg:=@Nat.le_trans
abbrev Dh:=@List.find?_cons
abbrev Di:=@Option.map_some
abbrev Dj:=@PySem.wpAny_holding
abbrev Dk:=@PySem.Heap.SameBut.update
abbrev Dl:=@Array.getElem?_toList
abbrev Dm:=@PySem.wpAny_Call_Name_kw
abbrev Do:=@PySem.wpAny_seqItems
abbrev Dp:=@List.mem_of_mem_take
abbrev Dq:=@PySem.W.kia_one
abbrev Ds:=@Prod.mk.injEq
abbrev Du:=@Array.getElem?_eq_none
abbrev Dw:=@Nat.le_add_right
abbrev Dx:=@PySem.F.slot_dict_valueiterator_next
abbrev Dy:=@PySem.mem_of_lookup
abbrev Dz:=@Int.toNat_natCast
abbrev DA:=@List.getLast?_eq_some_getLast
abbrev DB:=@List.getElem?_take_of_lt
abbrev DC:=@PySem.W.kia_tup
abbrev DD:=@PySem.F.slot_dict_keyiterator_next
abbrev DE:=@if_false
abbrev DF:=@List.mem_flatMap
abbrev DG:=@PySem.wpAny_dictEntries
abbrev DI:=@List.getD_eq_getElem?_getD
abbrev DJ:=@beq_eq_false_iff_ne
abbrev DK:=@PySem.F.plain_extend_loop
abbrev DL:=@PySem.wpAny_mono
abbrev DM:=@List.countP_cons
abbrev DN:=@PySem.wpAny_setField_rec
abbrev DO:=@PySem.Paired.snoc
abbrev DP:=@PySem.wpAny_typeNameOfWhole_keyiter
abbrev DQ:=@PySem.wpAny_typeNameOfWhole_valiter
abbrev DR:=@List.length_range
abbrev DS:=@PySem.wpAny_specialOf
abbrev DT:=@PyProof.Rows.callWith_type1
abbrev DU:=@PySem.Heap.get?_update_other
abbrev DV:=@List.idxOf_lt_length_of_mem
abbrev DW:=@Nat.lt_irrefl
abbrev DX:=@Nat.lt_succ_self
abbrev DY:=@List.mem_range
abbrev DZ:=@PySem.Heap.size_push
abbrev D0:=@PySem.Obj.data_mapFields
abbrev D1:=@List.append_of_mem
abbrev D2:=@PySem.F.slot_tuple_iterator_next
abbrev D4:=@List.length_replicate
abbrev D9:=@PySem.F.slot_list_pop
abbrev Ea:=@PySem.F.type_list_pop
abbrev Eb:=@List.mem_of_find?_eq_some
abbrev Ed:=@PySem.wpAny_passesOwn
abbrev Ee:=@List.nil_append
abbrev Ef:=@PySem.wpAny_truthy_bool
abbrev Eg:=@Option.isSome_map
abbrev Eh:=@Array.toArray_toList
abbrev Ei:=@List.reverse_cons
abbrev Ej:=@List.getLast?_append
abbrev Ek:=@Nat.mul_le_mul_right
abbrev El:=@List.getLast?_concat
abbrev Em:=@PySem.wpAny_typeNameOf_keyiter
abbrev Eo:=@PySem.wpAny_typeNameOf_valiter
abbrev Ep:=@PyProof.Rows.slot_tuple_getitem
abbrev Er:=@List.take_succ_cons
abbrev Es:=@Nat.add_lt_add_left
abbrev Et:=@List.nodup_nil
abbrev Eu:=@or_false
abbrev Ev:=@PySem.F.plainAttrs_dict
abbrev Ew:=@Nat.add_mul
abbrev Ey:=@List.take_append_of_le_length
abbrev Ez:=@PySem.Calls.callWith_builtin
abbrev EA:=@List.map_nil
abbrev EB:=@PySem.tupleKind_room_in1
abbrev EC:=@PySem.wpAny_dictEpoch
abbrev ED:=@PySem.F.slot_dict_setdefault
abbrev EE:=@PySem.F.type_dict_setdefault
abbrev EF:=@List.dropLast_concat_getLast
abbrev EG:=@PySem.builtinLookup_eq_fast
abbrev EH:=@Bool.and_eq_true_iff
abbrev EI:=@PySem.wpAny_setField
abbrev EJ:=@beq_self_eq_true
abbrev EK:=@PySem.wpAny_isInstance
abbrev EL:=@Int.zero_add
abbrev EM:=@List.getLastD_eq_getLast?
abbrev EN:=@List.getElem?_zip_eq_some
abbrev EO:=@List.length_reverse
abbrev ER:=@PySem.F.args_dict_setdefault_3
abbrev ES:=@List.sum_cons
abbrev ET:=@PySem.F.slot_list_extend
abbrev EU:=@PySem.F.type_list_extend
abbrev EV:=@Bool.eq_iff_iff
abbrev EW:=@List.forIn_cons
abbrev EX:=@List.length_zip
abbrev EY:=@Array.forIn_toList
abbrev EZ:=@Nat.le_succ
abbrev E1:=@PySem.F.entry_dict_setdefault
abbrev E2:=@PySem.W.kitx_list
abbrev E3:=@PySem.W.kitx_dict
abbrev E4:=@PySem.Calls.spliced_nil
abbrev E5:=@PyProof.Rows.subscriptTail_builtinR
abbrev E6:=@Option.map_eq_some_iff
abbrev E7:=@PySem.F.slot_dict_setdefault
abbrev E8:=@PySem.F.slot_tuple_hash
abbrev E9:=@List.ext_getElem?
abbrev Sa:=@PySem.F.args_dict_valueiterator_next_1
abbrev Sc:=@PyProof.Rows.boot_bool
abbrev Sd:=@PySem.F.entry_dict_valueiterator_next
abbrev Se:=@PySem.W.methodCall_KW
abbrev Sf:=@PySem.wpAny_notOrdered_dict
abbrev Sg:=@PySem.Obj.isFreed_of_fields
abbrev Sh:=@PySem.wpAny_isOneOf_valiter
abbrev Si:=@PySem.wpAny_rule
abbrev Sj:=@PySem.F.args_dict_keyiterator_next_1
abbrev Sk:=@List.getElem_mem
abbrev Sm:=@Int.mul_le_mul_of_nonneg_right
abbrev Sn:=@PySem.wpAny_attempt
abbrev So:=@PySem.F.entry_dict_keyiterator_next
abbrev Sq:=@PySem.wpAny_updateSeq_pair
abbrev Sr:=@List.dropLast_concat
abbrev Ss:=@List.mem_filter
abbrev Su:=@PySem.wpAny_execs_nil
abbrev Sw:=@List.length_nil
abbrev Sx:=@List.find?_some
abbrev Sy:=@Nat.min_eq_left
abbrev Sz:=@PySem.wpAny_updateSeq
abbrev SA:=@PySem.wpAny_ite_split
abbrev SD:=@PySem.F.args_tuple_iterator_next_1
abbrev SE:=@PySem.typeLookup_type
abbrev SF:=@List.filterMap_cons
abbrev SG:=@PySem.W.plainGet_of
abbrev SH:=@PySem.F.entry_tuple_iterator_next
abbrev SI:=@PySem.Calls.Name_function_global
abbrev SJ:=@PySem.wpAny_pyIter_tuple
abbrev SK:=@List.mem_filterMap
abbrev SM:=@beq_iff_eq
abbrev SN:=@PySem.Calls.spliced_cons
abbrev SO:=@PySem.W.callWith_K
abbrev SQ:=@Nat.lt_of_le_of_lt
abbrev SR:=@PySem.wpAny_fieldsOf
abbrev SS:=@List.getElem_idxOf
abbrev SU:=@List.take_take
abbrev SV:=@List.zip_cons_cons
abbrev SW:=@List.forIn_nil
abbrev SX:=@Option.ne_none_iff_exists'
abbrev SY:=@PySem.F.slot_dict_getitem
abbrev S0:=@PySem.Calls.call_function_entry
abbrev S9:=@PySem.F.entry_extend_loop
abbrev La:=@List.pairwise_iff_getElem
abbrev Lb:=@Bool.eq_false_iff
abbrev Lc:=@PySem.wpAny_letGo
abbrev Le:=@PySem.wpAny_pyIter_slot
abbrev Lf:=@PySem.Obj.cls_mapFields
abbrev Lg:=@List.map_id
abbrev Lh:=@List.flatMap_cons
abbrev Lj:=@Option.isSome_iff_exists
abbrev Ll:=@PySem.wpAny_comprehension_free
abbrev Lm:=@List.append_cancel_right
abbrev Lo:=@List.length_erase_of_mem
abbrev Lp:=@PySem.wpAny_onRaise
abbrev Lq:=@PySem.F.slot_dict_values
abbrev Ls:=@List.map_take
abbrev Lu:=@PySem.W.mg_of
abbrev Lv:=@List.getElem?_replicate
abbrev Lw:=@PySem.wpAny_Dict_empty
abbrev Lx:=@List.getElem?_cons_succ
abbrev Ly:=@List.all_eq_true
abbrev Lz:=@List.mem_reverse
abbrev LA:=@List.dropLast_cons_cons
abbrev LB:=@Nat.lt_add_of_pos_right
abbrev LC:=@Nat.le_of_lt
abbrev LD:=@List.getElem?_set_self
abbrev LF:=@PyProof.noPylong_small
abbrev LG:=@PySem.codeAny_mono
abbrev LH:=@PySem.W.cellsFrom_some
abbrev LI:=@if_true
abbrev LJ:=@List.length_pos_of_mem
abbrev LK:=@List.of_mem_zip
abbrev LL:=@PySem.F.slot_zip_next
abbrev LM:=@Classical.choose_spec
abbrev LN:=@List.eq_nil_or_concat
abbrev LO:=@PyProof.Rows.boot_str
abbrev LP:=@List.getElem?_set_ne
abbrev LQ:=@PySem.isSubtype_stop
abbrev LR:=@List.take_zero
abbrev LU:=@List.mem_erase_of_ne
abbrev LV:=@List.count_le_length
abbrev LW:=@PySem.W.callWith_K0
abbrev LX:=@PySem.evalArgs_none
abbrev LY:=@List.flatMap_append
abbrev LZ:=@List.drop_succ_cons
abbrev L1:=@List.length_pos_iff
abbrev L4:=@PySem.wpAny_standAt
abbrev L6:=@List.any_cons
abbrev L8:=@PySem.wpAny_handled
abbrev L9:=@PySem.plainId_quiet
abbrev Fa:=@Array.append_assoc
abbrev Fc:=@PySem.W.kitx_float
abbrev Fd:=@PySem.W.kitx_tuple
abbrev Fe:=@PySem.call_meets
abbrev Ff:=@Option.isSome_some
abbrev Fg:=@List.getElem?_take
abbrev Fh:=@List.mem_replicate
abbrev Fi:=@List.find?_eq_none
abbrev Fj:=@Nat.not_lt
abbrev Fk:=@Nat.le_of_eq
abbrev Fl:=@Prod.ext
abbrev Fn:=@Nat.add_zero
abbrev Fo:=@Nat.one_mul
abbrev Fp:=@and_true
abbrev Xb:=@rfl
set_option Elab.async false
set_option linter.all false
set_option maxRecDepth 100000
namespace L2
open PySem PySem.Spec PyProof.Rows
abbrev Xo:=Sum Int Str
def Qbs:Xo->Value->Bool
 |.inl k,v=>Value.isInt k v
 |.inr x,v=>Value.isStrOf x v
def Q07(w:World):Xo->Int
 |.inl k=>hashInt k
 |.inr x=>hashStr w x
theorem Yq:∀{k:Xo}{v:Value},Qbs k v=true->(∃i t,k=Sum.inl i/\v=Value.int i t)\/(∃x t,k=Sum.inr x/\v=Value.str x t)
 |.inl i,v,h=>by
  obtain⟨t,e⟩:=Value.isInt_shape (k:=i) (v:=v) h
  exact .inl ⟨i,t,Xb,e⟩
 |.inr x,v,h=>by
  obtain⟨t,e⟩:=Value.isStrOf_shape (x:=x) (v:=v) h
  exact .inr ⟨x,t,Xb,e⟩
theorem Qmy(i:Int)(t:Tok):Qbs (.inl i) (.int i t)=true:=by simp[Qbs,Value.isInt]
theorem Qn0(x:Str)(t:Tok):Qbs (.inr x) (.str x t)=true:=by simp[Qbs,Value.isStrOf]
theorem Qwm(a b:Int):decide ((Sum.inl a:Xo)=Sum.inl b)=(a==b):=by
 by_cases e:a=b
 ·subst e;simp
 ·have h:¬(Sum.inl a:Xo)=Sum.inl b:=λq=>e (Sum.inl.inj q)
  rw[Tg h]
  exact(DJ.mpr e).symm
theorem Qw1(a b:Str):decide ((Sum.inr a:Xo)=Sum.inr b)=decide (a=b):=by
 by_cases e:a=b
 ·subst e;simp
 ·have h:¬(Sum.inr a:Xo)=Sum.inr b:=λq=>e (Sum.inr.inj q)
  rw[Tg h,Tg e]
theorem Qwu(a:Int)(b:Str):decide ((Sum.inl a:Xo)=Sum.inr b)=false:=Tg (λq=>nomatch q)
theorem Qw8(a:Str)(b:Int):decide ((Sum.inr a:Xo)=Sum.inl b)=false:=Tg (λq=>nomatch q)
def Yh(prog:Program)(w:World):PySem.KeyKind prog w Xo where
 is:=Qbs
 hash:=Q07 w
 inj:=λv a b f hb=>by
  rcases Yq f with⟨i,t,rfl,rfl⟩|⟨x,t,rfl,rfl⟩
  ·rcases Yq hb with⟨j,u,rfl,e⟩|⟨y,u,rfl,e⟩
   ·injection e with c _;rw[c]
   ·exact nomatch e
  ·rcases Yq hb with⟨j,u,rfl,e⟩|⟨y,u,rfl,e⟩
   ·exact nomatch e
   ·injection e with c _;rw[c]
 byValue:=λk v h=>by
  rcases Yq h with⟨i,t,rfl,rfl⟩|⟨x,t,rfl,rfl⟩<;>rfl
 pyHash:=λd h=>by
  rcases Yq d with⟨i,t,rfl,rfl⟩|⟨x,t,rfl,rfl⟩
  ·exact wpAny_pyHash_int h
  ·exact wpAny_pyHash_str h
 eqBool:=λg d h=>by
  rcases Yq g with⟨i,t,rfl,rfl⟩|⟨x,t,rfl,rfl⟩
  ·rcases Yq d with⟨j,u,rfl,rfl⟩|⟨y,u,rfl,rfl⟩
   ·rw[Qwm]at h;exact wpAny_eqBool_int h
   ·rw[Qwu]at h;exact SeqAt.EqAt.int_str i t y u _ _ _ _ h
  ·rcases Yq d with⟨j,u,rfl,rfl⟩|⟨y,u,rfl,rfl⟩
   ·rw[Qw8]at h;exact SeqAt.EqAt.str_int x t j u _ _ _ _ h
   ·rw[Qw1]at h;exact wpAny_eqBool_str h
 «strs»:=λk x t v h=>by
  rcases Yq h with⟨i,u,rfl,e⟩|⟨y,u,rfl,e⟩
  ·exact nomatch e
  ·injection e with c _
   subst c
   cases v<;>rfl
theorem Qim(prog:Program)(w:World)(i:Int)(t:Tok):(Yh prog w).is (.inl i) (.int i t)=true:=Qmy i t
theorem Qiw(prog:Program)(w:World)(x:Str)(t:Tok):(Yh prog w).is (.inr x) (.str x t)=true:=Qn0 x t
open PySem PySem.Spec PyProof.Rows
inductive V where
 |non|bl (b:Bool)|int (i:Int)|str (x:Str)|byt (b:Array UInt8)|flt (b:UInt64)|ref (a:Addr)|ty (n:String)
 deriving DecidableEq
def RelV:V->Value->Prop
 |.non,u=>u=Value.none
 |.bl b,u=>u=Value.bool b
 |.int i,u=>∃t,u=Value.int i t
 |.str x,u=>∃t,u=Value.str x t
 |.byt b,u=>∃t,u=Value.bytes b t
 |.flt b,u=>∃t,u=Value.float b t
 |.ref a,u=>u=Value.ref a
 |.ty n,u=>u=Value.type n
abbrev Zv:List V->List Value->Prop:=Paired RelV
theorem Zv.length{xs:List V}{us:List Value}(r:Zv xs us):xs.length=us.length:=Gs r
theorem Zv.get:∀{xs:List V}{us:List Value}{i:Nat}{x:V},Zv xs us->xs[i]?=some x->∃u,us[i]?=some u/\RelV x u
 |_,_,_,_,.nil,e=>by simp at e
 |_,_,0,_,.cons r _,e=>by simp at e;subst e;exact⟨_,Xb,r⟩
 |_,_,i+1,x,.cons _ t,e=>by
  obtain⟨u,h1,h2⟩:=Zv.get (i:=i) (x:=x) t (by simpa using e)
  exact⟨u,by simpa using h1,h2⟩
theorem Zv.append:∀{xs ys:List V}{us a:List Value},Zv xs us->Zv ys a->Zv (xs++ys) (us++a)
 |_,_,_,_,.nil,s=>s
 |_,_,_,_,.cons r t,s=>.cons r (Zv.append t s)
theorem Zv.take:∀{xs:List V}{us:List Value}(n:Nat),Zv xs us->Zv (xs.take n) (us.take n)
 |_,_,0,_=>.nil
 |_,_,_+1,.nil=>.nil
 |_,_,n+1,.cons r t=>.cons r (Zv.take n t)
theorem Zv.drop:∀{xs:List V}{us:List Value}(n:Nat),Zv xs us->Zv (xs.drop n) (us.drop n)
 |_,_,0,r=>r
 |_,_,_+1,.nil=>.nil
 |_,_,n+1,.cons _ t=>Zv.drop n t
def Jk:Option V->Option Value->Prop
 |some v,some u=>RelV v u
 |none,none=>True
 |_,_=>False
def KV{κ:Type}:List (κ×V)->List (κ×Value)->Prop:=Paired λ(p:κ×V)(q:κ×Value)=>p.1=q.1/\RelV p.2 q.2
def kV:Xo->V
 |.inl i=>.int i
 |.inr x=>.str x
inductive HO where
 |lst (xs:List V)
 |tup (xs:List V)
 |dK (kvs:List (Xo×V))|dT (kvs:List (List Xo×V))
 |set (S:Int->Bool) (n:Nat)
 |ins (C dx:Addr) (fs:List (Str×V))
 |own (x:Addr)
 |xd (fs:List (Str×V))
 |met (f x:Addr)
 |rng (lo hi:Int)
 |frz (o:Obj) (u:HO)
 |tbl (ps:Array Value)
 |ext (φ:Heap->Prop)
abbrev Hp:=Addr->Option HO
def upd(H:Hp)(a:Addr)(o:HO):Hp:=λb=>if b=a then some o else H b
theorem Qb{H:Hp}{a:Addr}{o:HO}:upd H a o a=some o:=by unfold upd;rw[Gp rfl]
theorem Qf{H:Hp}{a b:Addr}{o:HO}(h:b≠a):upd H a o b=H b:=by unfold upd;rw[Gj h]
theorem U1{H:Hp}{a:Addr}{o u:HO}:upd (upd H a o) a u=upd H a u:=by
 funext b;unfold upd;split<;>rfl
theorem Zu{H:Hp}{a b:Addr}{o u:HO}(h:H a=some o)(h':H b=some u)(d:o≠u):a≠b:=by
 intro e;subst e;rw[h]at h';exact d (TF h')
theorem Qc{H:Hp}{a b:Addr}{o:HO}(h:H a=some o)(h':H b=none):a≠b:=by
 intro e;subst e;rw[h]at h';cases h'
section
variable(P:Program)(w:World)
def Z0(H:Hp)(h:Heap)(a:Addr):HO->Prop
 |.lst xs=>xs.length<=sizeLine/\∃(its:List Value)(n:Nat),Zv xs its/\h.get? a=some {cls:=.type "list",data:=.seq its.toArray n}
 |.tup xs=>xs.length<=sizeLine/\∃its:List Value,Zv xs its/\IsTup h a its.toArray
 |.dK kvs=>kvs.length<=sizeLine/\(a==sysModules)=false/\∃vs,KV kvs vs/\h.DictOf (Yh P w) a vs
 |.dT kvs=>kvs.length<=sizeLine/\(a==sysModules)=false/\∃xs:List (List Xo×Addr×Value),
   Paired (λ(p:List Xo×V)(q:List Xo×Addr×Value)=>p.1=q.1/\H q.2.1=some (.tup (p.1.map kV))/\RelV p.2 q.2.2) kvs xs/\
   ∃o es ep,h.get? a=some o/\o.ExactDict/\o.data=.dict es ep/\es.toList=xs.map (entryOfKey (tupleKind (Yh P w)))/\(xs.map (·.1)).Nodup
 |.set S n=>h.SetOf (intKind P w) a S n
 |.ins C dx fs=>H dx=some (.own a)/\fs.length<=1000/\dx≠a/\h.get? a=some (PySem.W.instObj C dx)/\
   ∃mA,h.Ns1 dx mA/\(∀f,Jk (fs.lookup f) (mA f))/\PySem.Within mA (fs.map (·.1))
 |.own _=>∃o,h.get? a=some o
 |.xd fs=>∃mA,h.Ns1 a mA/\∀f,Jk (fs.lookup f) (mA f)
 |.rng lo hi=>∃t u v,h.get? a=some {cls:=.type "range",data:=.fields #[.int lo t,.int hi u,.int 1 v]}
 |.frz o u=>h.get? a=some o/\Z0 H h a u
 |.tbl ps=>h.get? a=some {cls:=.none,data:=.fields ps}
 |.met f x=>h.get? a=some (PySem.W.methodObj (.ref f) (.ref x))
 |.ext φ=>φ h/\(∃o,h.get? a=some o)/\∀h1 h2:Heap,φ h1->(∀o,h1.get? a=some o->h2.get? a=some o)->φ h2
def Ir(H:Hp)(h:Heap):Prop:=∀a o,H a=some o->Z0 P w H h a o
end
section
variable{P:Program}{w:World}{H H':Hp}{h h':Heap}{a:Addr}{o:HO}
theorem Z0.lt(x:Z0 P w H h a o):a<h.objs.size:=by
 cases o with
 |lst xs=>obtain⟨_,_,_,_,e⟩:=x;exact Gw e
 |tup xs=>obtain⟨_,_,_,p⟩:=x;exact p.lt
 |dK kvs=>obtain⟨_,_,_,_,o,_,_,e,_⟩:=x;exact Gw e
 |dT kvs=>obtain⟨_,_,_,_,o,_,_,e,_⟩:=x;exact Gw e
 |set S n=>obtain⟨o,_,_,_,e,_⟩:=x;exact Gw e
 |ins C dx fs=>obtain⟨_,_,_,e,_⟩:=x;exact Gw e
 |own y=>obtain⟨_,e⟩:=x;exact Gw e
 |xd fs=>obtain⟨_,⟨_,_,_,e,_⟩,_⟩:=x;exact Gw e
 |rng lo hi=>obtain⟨_,_,_,e⟩:=x;exact Gw e
 |frz ob u=>obtain⟨e,_⟩:=x;exact Gw e
 |tbl ps=>exact Gw (show h.get? a=some _ from x)
 |met f y=>exact Gw (show h.get? a=some _ from x)
 |ext φ=>obtain⟨_,⟨_,e⟩,_⟩:=x;exact Gw e
theorem Paired.Z8{α β:Type}{F G:α->β->Prop}:∀{c:List α}{l₂:List β},Paired F c l₂->(∀a b,F a b->G a b)->Paired G c l₂
 |_,_,.nil,_=>.nil
 |_,_,.cons r t,f=>.cons (f _ _ r) (Paired.Z8 t f)
theorem Z0.Qif(x:Z0 P w H h a o)(k:∀b u,(b=a\/H b=some (.own a))->h.get? b=some u->h'.get? b=some u)
  (i:∀b,H b=some (.own a)->H' b=some (.own a))(j:∀b xs,H b=some (.tup xs)->H' b=some (.tup xs)):Z0 P w H' h' a o:=by
 induction o with
 |lst xs=>obtain⟨z,its,n,r,e⟩:=x;exact⟨z,its,n,r,k _ _ (.inl Xb) e⟩
 |tup xs=>obtain⟨z,its,r,ob,e,c⟩:=x;exact⟨z,its,r,ob,k _ _ (.inl Xb) e,c⟩
 |dK kvs=>obtain⟨z,y,vs,r,ob,es,ep,e,c⟩:=x;exact⟨z,y,vs,r,ob,es,ep,k _ _ (.inl Xb) e,c⟩
 |dT kvs=>
  obtain⟨z,y,xs,r,ob,es,ep,e,c⟩:=x
  exact⟨z,y,xs,Paired.Z8 r λp q z=>⟨z.1,j _ _ z.2.1,z.2.2⟩,ob,es,ep,k _ _ (.inl Xb) e,c⟩
 |set S n=>obtain⟨ob,es,ep,t,e,c⟩:=x;exact⟨ob,es,ep,t,k _ _ (.inl Xb) e,c⟩
 |ins C dx fs=>
  obtain⟨d,z,ne,e,mA,⟨od,es,ep,g,c⟩,r⟩:=x
  exact⟨i _ d,z,ne,k _ _ (.inl Xb) e,mA,⟨od,es,ep,k _ _ (.inr d) g,c⟩,r⟩
 |own y=>obtain⟨ob,e⟩:=x;exact⟨ob,k _ _ (.inl Xb) e⟩
 |xd fs=>obtain⟨mA,⟨od,es,ep,e,c⟩,r⟩:=x;exact⟨mA,⟨od,es,ep,k _ _ (.inl Xb) e,c⟩,r⟩
 |rng lo hi=>obtain⟨t,u,v,e⟩:=x;exact⟨t,u,v,k _ _ (.inl Xb) e⟩
 |frz ob u l=>obtain⟨e,q⟩:=x;exact⟨k _ _ (.inl Xb) e,l q⟩
 |tbl ps=>
  have e:h.get? a=some {cls:=.none,data:=.fields ps}:=x
  show h'.get? a=some {cls:=.none,data:=.fields ps}
  exact k a _ (.inl Xb) e
 |met f y=>
  have e:h.get? a=some (PySem.W.methodObj (.ref f) (.ref y)):=x
  show h'.get? a=some (PySem.W.methodObj (.ref f) (.ref y))
  exact k a _ (.inl Xb) e
 |ext φ=>obtain⟨p,⟨o,e⟩,st⟩:=x;exact⟨st _ _ p λo q=>k _ _ (.inl Xb) q,⟨o,k _ _ (.inl Xb) e⟩,st⟩
theorem Ir.lt(x:Ir P w H h)(e:H a=some o):a<h.objs.size:=(x a o e).lt
theorem Ir.fresh(x:Ir P w H h)(e:h.objs.size<=a):H a=none:=by
 cases q:H a with
 |none=>rfl
 |some u=>exact absurd (Tv (x.lt q) e) (DW _)
theorem Ir.kept(x:Ir P w H h)(k:∀b u,h.get? b=some u->h'.get? b=some u):Ir P w H h':=λa o e=>
 (x a o e).Qif (λb u _ q=>k b u q) (λ_ q=>q) λ_ _ q=>q
theorem Ir.laid(x:Ir P w H h)(k:∀b u,h.get? b=some u->h'.get? b=some u)(f:h.objs.size<=a)(new:Z0 P w (upd H a o) h' a o):Ir P w (upd H a o) h':=λb u e=>by
 have d:=x.fresh f
 by_cases hb:b=a
 ·subst hb;rw[Qb]at e;cases e;exact new
 ·rw[Qf hb]at e
  exact(x b u e).Qif (λc v _ q=>k c v q) (λc q=>by rw[Qf (Qc q d)];exact q) λc xs q=>by rw[Qf (Qc q d)];exact q
end
def Rd(H:Hp)(a:Addr)(u:HO):Prop:=H a=some u\/∃o,H a=some (.frz o u)
theorem Rd.ok{P:Program}{w:World}{H:Hp}{h:Heap}{a:Addr}{u:HO}(r:Rd H a u)(x:Ir P w H h):Z0 P w H h a u:=by
 rcases r with r|⟨o,r⟩
 ·exact x a u r
 ·obtain⟨_,q⟩:=x a _ r
  exact q
def Mut:Option HO->Prop
 |some (.lst _)=>True
 |some (.dK _)=>True
 |some (.dT _)=>True
 |some (.set _ _)=>True
 |some (.ins _ _ _)=>True
 |some (.ext _)=>True
 |_=>False
section
variable{P:Program}{w:World}{H:Hp}{h h':Heap}{x e:Addr}{o':HO}
theorem Ir.write(ok:Ir P w H h)(mu:Mut (H x))(j:e=x\/H e=some (.own x))(k:∀b u,b≠e->h.get? b=some u->h'.get? b=some u)(i:∃u,h'.get? e=some u)
  (new:Z0 P w (upd H x o') h' x o'):Ir P w (upd H x o') h':=λb u q=>by
 have d:∀c y,H c=some (.own y)->c≠x:=λc y r z=>by subst z;rw[r]at mu;exact mu
 have f:∀c xs,H c=some (.tup xs)->c≠x:=λc xs r z=>by subst z;rw[r]at mu;exact mu
 by_cases hb:b=x
 ·subst hb;rw[Qb]at q;cases q;exact new
 ·rw[Qf hb]at q
  by_cases a:b=e
  ·have l:H b=some (.own x):=by
    rcases j with z|z
    ·exact absurd (a.trans z) hb
    ·rw[a];exact z
   rw[q]at l;cases l
   obtain⟨v,m⟩:=i
   exact⟨v,by rw[a];exact m⟩
  ·refine(ok b u q).Qif (λc v g r=>k c v ?_ r) (λc r=>by rw[Qf (d c b r)];exact r) λc xs r=>by rw[Qf (f c xs r)];exact r
   rcases g with rfl|g
   ·exact a
   ·rintro rfl
    rcases j with z|z
    ·exact d c b g z
    ·rw[g]at z;cases z;exact hb rfl
end
structure Un(fs ex:List Addr)(H H':Hp)(h h':Heap):Prop where
 keep:∀b o,h.get? b=some o->H b=none->b∉fs->b∉ex->h'.get? b=some o
 slot:∀b o,h.get? b=some o->H b=none->b∈fs->b∉ex->∃sl,h'.get? b=some {o with slots:=sl}
 free:∀b o,h.get? b=some o->H b=none->b∉ex->H' b=none
 there:∀b o,h.get? b=some o->b∉ex->∃o',h'.get? b=some o'
 Qm:∀b xs,H b=some (.tup xs)->H' b=some (.tup xs)
 R1:∀b o u,H b=some (.frz o u)->H' b=some (.frz o u)
 Qa5:∀b ps,H b=some (.tbl ps)->∃more,H' b=some (.tbl (ps++more))
section
variable{fs fs' ex ex':List Addr}{H H1 H2:Hp}{h h1 h2 h':Heap}{a x e:Addr}{o:HO}
theorem Un.any(u:Un fs ex H H1 h h1){b:Addr}{ob:Obj}(q:h.get? b=some ob)(n:H b=none)(a:b∉ex):∃sl,h1.get? b=some {ob with slots:=sl}:=by
 by_cases hb:b∈fs
 ·exact u.slot b ob q n hb a
 ·exact⟨ob.slots,u.keep b ob q n hb a⟩
theorem Un.trans(a:Un fs ex H H1 h h1)(b:Un fs ex H1 H2 h1 h2):Un fs ex H H2 h h2 where
 keep:=λc ob q n f d=>b.keep c ob (a.keep c ob q n f d) (a.free c ob q n d) f d
 slot:=λc ob q n f d=>by
  obtain⟨sl,e⟩:=a.slot c ob q n f d
  obtain⟨i,g⟩:=b.slot c _ e (a.free c ob q n d) f d
  exact⟨i,g⟩
 free:=λc ob q n d=>by
  obtain⟨o',e⟩:=a.there c ob q d
  exact b.free c o' e (a.free c ob q n d) d
 there:=λc ob q d=>by
  obtain⟨o',e⟩:=a.there c ob q d
  exact b.there c o' e d
 Qm:=λc xs q=>b.Qm c xs (a.Qm c xs q)
 R1:=λc ob xs q=>b.R1 c ob xs (a.R1 c ob xs q)
 Qa5:=λc ps q=>by
  obtain⟨j,e⟩:=a.Qa5 c ps q
  obtain⟨k,g⟩:=b.Qa5 c _ e
  exact⟨j++k,by rw[g,Fa]⟩
theorem Un.kept(k:∀b u,h.get? b=some u->h'.get? b=some u):Un fs ex H H h h':=
 ⟨λb ob q _ _ _=>k b ob q,λb ob q _ _ _=>⟨ob.slots,k b ob q⟩,λ_ _ _ n _=>n,λb ob q _=>⟨ob,k b ob q⟩,λ_ _ q=>q,λ_ _ _ q=>q,λ_ ps q=>⟨#[],by rw[q];simp⟩⟩
theorem Un.refl:Un fs ex H H h h:=Un.kept λ_ _ q=>q
theorem Un.laid(k:∀b u,h.get? b=some u->h'.get? b=some u)(d:h.objs.size<=a)(c:H a=none):Un fs ex H (upd H a o) h h' where
 keep:=λb u q _ _ _=>k b u q
 slot:=λb u q _ _ _=>⟨u.slots,k b u q⟩
 free:=λb u q n _=>by rw[Qf (Ts (Tv (Gw q) d))];exact n
 there:=λb u q _=>⟨u,k b u q⟩
 Qm:=λb xs q=>by rw[Qf (Qc q c)];exact q
 R1:=λb u xs q=>by rw[Qf (Qc q c)];exact q
 Qa5:=λb ps q=>⟨#[],by rw[Qf (Qc q c),q];simp⟩
theorem Un.write(mu:Mut (H x))(g:e=x\/H e=some (.own x))(k:∀b u,b≠e->h.get? b=some u->h'.get? b=some u)(c:∃u,h'.get? e=some u):Un fs ex H (upd H x o) h h':=by
 have f:∀b,H b=none->b≠x:=λb n z=>by subst z;rw[n]at mu;exact mu
 have hb:∀b,H b=none->b≠e:=λb n z=>by
  subst z
  rcases g with r|r
  ·exact f b n r
  ·rw[n]at r;cases r
 have d:∀b u,H b=some u->¬Mut (some u)->b≠x:=λb u q i z=>by subst z;rw[q]at mu;exact i mu
 refine⟨λb u q n _ _=>k b u (hb b n) q,λb u q n _ _=>⟨u.slots,k b u (hb b n) q⟩,λb u q n _=>by rw[Qf (f b n)];exact n,λb u q _=>?_,
  λb xs q=>by rw[Qf (d b _ q λz=>z)];exact q,λb u xs q=>by rw[Qf (d b _ q λz=>z)];exact q,λb ps q=>⟨#[],by rw[Qf (d b _ q λz=>z),q];simp⟩⟩
 by_cases a:b=e
 ·subst a;exact c
 ·exact⟨u,k b u a q⟩
end
def trk(h:Heap)(H:Hp):List Addr:=(List.range h.objs.size).filter λa=>(H a).isSome
def Qfs(h:Heap)(H:Hp):Heap:=PySem.W.hideAll h (trk h H)
theorem Qnp(h:Heap)(H:Hp):(Qfs h H).objs.size=h.objs.size:=PySem.W.hideAll_size _ _
theorem Qq7{h:Heap}{H:Hp}{b:Addr}{o:Obj}(e:h.get? b=some o)(n:H b=none):(Qfs h H).get? b=some o:=
 PySem.W.hideAll_get _ e λa=>by
  have q:(H b).isSome=true:=(Ss.mp a).2
  rw[n]at q;simp at q
theorem Qt4{h:Heap}{H:Hp}{b:Addr}{o:Obj}(e:(Qfs h H).get? b=some o):h.get? b=some o/\H b=none:=by
 have a:h.get? b=some o:=PySem.W.of_hideAll (trk h H) e
 refine⟨a,?_⟩
 cases q:H b with
 |none=>rfl
 |some x=>
  have c:b∈trk h H:=Ss.mpr ⟨DY.mpr (Gw a),by simp[q]⟩
  have z:(Qfs h H).get? b=none:=PySem.W.hideAll_none (trk h H) c
  rw[z]at e;cases e
def Qut(g h:Heap)(L:Addr):List (Addr×Obj):=(List.range h.objs.size).filterMap λa=>if a=L\/(g.get? a).isSome=true then none else(h.get? a).map λo=>(a,o)
def Wz(g h:Heap)(L d:Addr):List (Addr×Obj):=(Qut g h L).filter λp=>decide (p.1≠d)
open PySem PySem.Spec PyProof.Rows
structure Mod(K:Gc)(mg:Str->Option Value)(base:Heap):Prop where
 kin:K.In base
 glob:base.Ns mainGlobals mg
 blt:∃mb,base.Ns builtinsNs mb/\∀x:Str,x≠"__name__"->mb x=bootBuiltins x
 nolimit:base.NoLimit
structure Cx where
 prog:Program
 w:World
 K:Gc
 mg:Str->Option Value
 base:Heap
 A:Around
 N:List Str
 s₀:Shared
 H₀:Hp
 env:Env
 outer:List Env
 stack:List Env
 ex:List Addr
 fn:Str->Bool
 calm:Bool
 pn:List (Addr×Obj)
 xe:Value->Shared->Prop
def frs(l:List Env):List Addr:=l.filterMap (·.frame)
abbrev Cx.fs(X:Cx):List Addr:=frs X.outer
def Vis(a:Scope)(x:Str):Prop:=a.names.lookup x=some .local\/a.names.lookup x=some .cell\/a.names.lookup x=some .free
def Loc(a:Scope)(x:Str):Prop:=a.names.lookup x=some .local\/a.names.lookup x=some .cell
def Look(env:Env)(h:Heap)(m:Str->Option Value)(x:Str)(u:Value):Prop:=
 (env.kindOf x=some .local/\m x=some u)\/((env.kindOf x=some .cell\/env.kindOf x=some .free)/\∃c,env.cells.lookup x=some c/\h.IsCell c (some u))
structure Cx.Ok(X:Cx):Prop where
 mod:Mod X.K X.mg X.base
 kind:X.env.scope.kind=.function
 glob:X.env.globals=mainGlobals
 blt:X.env.builtins=builtinsNs
 above:X.s₀.heap.objs.size<=X.env.locals
 inj:∀x y c,X.env.cells.lookup x=some c->X.env.cells.lookup y=some c->x=y
 has:∀x,(X.env.kindOf x=some .cell\/X.env.kindOf x=some .free)->∃c,X.env.cells.lookup x=some c
 cab:∀x c,X.fn x=true->X.env.cells.lookup x=some c->X.s₀.heap.objs.size<=c
 hd:X.calm=true->X.A.handled=none
 frames:X.A.frames=some X.stack
 stk:X.stack=X.outer\/(X.stack=X.env::X.outer/\X.env.frame=some X.env.locals)
 exf:∀b∈X.ex,b≠X.env.locals/\∀x c,X.env.cells.lookup x=some c->c≠b
 bs:∀b o,X.base.get? b=some o->X.s₀.heap.get? b=some o/\X.H₀ b=none
 bsz:X.base.objs.size<=X.s₀.heap.objs.size
 Qpa:∀b o,X.base.get? b=some o->b∉X.ex
 Qtr:∀b∈X.ex,b∉X.fs
 Qa6:X.s₀.heap.FunFrames X.base X.outer
 frf:∀b∈X.fs,X.H₀ b=none
structure Inv(X:Cx)(pins:List (Addr×Obj))(σ:List (Option V))(H:Hp)(s:Shared):Prop where
 ok:X.Ok
 os:s.os=X.s₀.os
 bare:AllBare s.gens
 base:Un X.fs X.ex X.H₀ H X.s₀.heap s.heap
 loc:∃m,s.heap.Ns X.env.locals m/\∀(i:Nat)(x:Str)(v:V),X.N[i]?=some x->σ[i]?=some (some v)->Vis X.env.scope x->∃u,RelV v u/\Look X.env s.heap m x u
 cell:∀x c,X.env.cells.lookup x=some c->∃v,s.heap.IsCell c v
 free:H X.env.locals=none
 Je:∀x c,X.env.cells.lookup x=some c->H c=none
 pin:∀p∈X.pn++pins,s.heap.get? p.1=some p.2/\H p.1=none/\p.1≠X.env.locals/\p.1∉X.fs/\∀v,p.2.data≠.cell v
 Zy:Ir X.prog X.w H s.heap
 len:σ.length=X.N.length
section
variable{X:Cx}{pins:List (Addr×Obj)}{σ:List (Option V)}{H H':Hp}{s:Shared}{h':Heap}
theorem Cx.Ok.Qz7(ok:X.Ok){b:Addr}{o:Obj}(e:X.base.get? b=some o):b∉X.fs:=λhb=>by
 have:=(ok.Qa6.mem hb).1
 rw[e]at this;cases this
theorem Inv.bs(I:Inv X pins σ H s):∀b o,X.base.get? b=some o->s.heap.get? b=some o/\H b=none:=λb o e=>
 ⟨I.base.keep b o (I.ok.bs b o e).1 (I.ok.bs b o e).2 (I.ok.Qz7 e) (I.ok.Qpa b o e),I.base.free b o (I.ok.bs b o e).1 (I.ok.bs b o e).2 (I.ok.Qpa b o e)⟩
theorem Inv.bk(I:Inv X pins σ H s):∀b o,X.base.get? b=some o->s.heap.get? b=some o:=λb o e=>(I.bs b o e).1
theorem Inv.mod(I:Inv X pins σ H s):Mod X.K X.mg X.base:=I.ok.mod
theorem Inv.Jh(I:Inv X pins σ H s):X.K.In s.heap:=I.ok.mod.kin.keeps I.bk
theorem Inv.lt(I:Inv X pins σ H s):X.env.locals<s.heap.objs.size:=let⟨_,a,_⟩:=I.loc;a.lt
theorem Inv.sz(I:Inv X pins σ H s):X.s₀.heap.objs.size<=s.heap.objs.size:=Dg I.ok.above (LC I.lt)
theorem Inv.Q1a(I:Inv X pins σ H s){a:Addr}(h:s.heap.objs.size<=a):a∉X.fs:=λhb=>by
 obtain⟨_,o,b,_⟩:=I.ok.Qa6.mem hb
 exact absurd (Tv (Gw b) (Dg I.sz h)) (DW _)
theorem Inv.cne(I:Inv X pins σ H s):∀x c,X.env.cells.lookup x=some c->c≠X.env.locals:=λx c e z=>by
 obtain⟨v,o,d,hd⟩:=I.cell x c e
 obtain⟨m,⟨o',es,ep,b,a,_⟩,_⟩:=I.loc
 rw[z,b]at d;cases d;rw[a]at hd;cases hd
theorem Inv.Qa6(I:Inv X pins σ H s):s.heap.FunFrames X.base X.outer:=by
 have all:∀(l:List Env),(∀b∈frs l,b∈X.fs)->X.s₀.heap.FunFrames X.base l->s.heap.FunFrames X.base l:=by
  intro l
  induction l with
  |nil=>intro _ _;trivial
  |cons env r k=>
   intro d g
   obtain⟨f,⟨L,o,c,h,i,hd⟩,j⟩:=g
   have a:L∈X.fs:=d L (by unfold frs;rw[SF,c];exact GJ)
   obtain⟨sl,e⟩:=I.base.slot L o i (I.ok.frf L a) a λz=>I.ok.Qtr L z a
   exact⟨f,⟨L,_,c,h,e,hd⟩,k (λb hb=>d b (by unfold frs;rw[SF,c];exact Gm _ hb)) j⟩
 exact all X.outer (λ_ hb=>hb) I.ok.Qa6
theorem Inv.stack(I:Inv X pins σ H s):s.heap.FunFrames X.base X.stack:=by
 rcases I.ok.stk with e|⟨e,a⟩
 ·rw[e];exact I.Qa6
 ·rw[e]
  obtain⟨m,b,_⟩:=I.loc
  refine .cons (by rw[I.ok.kind];decide) a b ?_ I.Qa6
  exact Heap.get?_none_of_le (Dg I.ok.bsz I.ok.above)
theorem Inv.Qfr(I:Inv X pins σ H s):∀b∈frs X.stack,b∈X.env.locals::X.fs:=λb hb=>by
 rcases I.ok.stk with e|⟨e,a⟩
 ·rw[e]at hb;exact Gm _ hb
 ·rw[e]at hb
  unfold frs at hb
  rw[SF,a]at hb
  exact hb
theorem Inv.Qlm(I:Inv X pins σ H s):∀b∈frs X.stack,H b=none:=λb hb=>by
 rcases Gu.mp (I.Qfr b hb)with e|hb
 ·rw[e];exact I.free
 ·obtain⟨_,o,a,_⟩:=I.ok.Qa6.mem hb
  exact I.base.free b o a (I.ok.frf b hb) λz=>I.ok.Qtr b z hb
theorem Inv.step{g':Array GenState}{t':Nat}{d':Drawn}{ch:List Addr}(I:Inv X pins σ H s)
  (g:∀b∈ch,(b∈X.ex\/X.s₀.heap.objs.size<=b)/\b≠X.env.locals/\(∀x c,X.env.cells.lookup x=some c->c≠b)/\∀p∈X.pn++pins,p.1≠b)
  (keep:∀b o,b≠X.env.locals->b∉X.fs->b∉ch->s.heap.get? b=some o->H b=none->h'.get? b=some o)
  (slot:∀b o,b≠X.env.locals->b∈X.fs->b∉ch->s.heap.get? b=some o->H b=none->∃sl,h'.get? b=some {o with slots:=sl})(free:∀b o,b∉ch->s.heap.get? b=some o->H b=none->H' b=none)
  (there:∀b o,b∉ch->s.heap.get? b=some o->∃o',h'.get? b=some o')
  (Qm:∀b xs,H b=some (.tup xs)->H' b=some (.tup xs))(R1:∀b o u,H b=some (.frz o u)->H' b=some (.frz o u))(Qa5:∀b ps,H b=some (.tbl ps)->∃more,H' b=some (.tbl (ps++more)))
  (ns:∀m,s.heap.Ns X.env.locals m->h'.Ns X.env.locals m)(Zy:Ir X.prog X.w H' h')(J:AllBare g'):
  Inv X pins σ H' {s with heap:=h',gens:=g',drawn:=d',toks:=t'}:=by
 have B:∀b o,X.s₀.heap.get? b=some o->b≠X.env.locals:=λb o e=>Ts (Tv (Gw e) I.ok.above)
 have t:∀b o,X.s₀.heap.get? b=some o->b∉X.ex->b∉ch:=λb o e a hb=>by
  rcases(g b hb).1 with z|z
  ·exact a z
  ·exact absurd (Tv (Gw e) z) (DW _)
 have f:∀x c,X.env.cells.lookup x=some c->∀v,s.heap.IsCell c v->h'.IsCell c v:=λx c e v⟨o,y,hd⟩=>by
  have h:c∉ch:=λz=>(g c z).2.2.1 x c e rfl
  by_cases D:c∈X.fs
  ·obtain⟨sl,q⟩:=slot c o (I.cne x c e) D h y (I.Je x c e)
   exact⟨_,q,hd⟩
  ·exact⟨o,keep c o (I.cne x c e) D h y (I.Je x c e),hd⟩
 refine⟨I.ok,I.os,J,⟨λb o e n hb a=>?_,λb o e n hb a=>?_,λb o e n a=>?_,λb o e a=>?_,λb xs e=>Qm b xs (I.base.Qm b xs e),λb o xs e=>R1 b o xs (I.base.R1 b o xs e),λb ps e=>?_⟩,?_,λx c e=>?_,?_,λx c e=>?_,λp E=>?_,Zy,I.len⟩
 ·exact keep b o (B b o e) hb (t b o e a) (I.base.keep b o e n hb a) (I.base.free b o e n a)
 ·obtain⟨sl,j⟩:=I.base.slot b o e n hb a
  obtain⟨C,A⟩:=slot b _ (B b o e) hb (t b o e a) j (I.base.free b o e n a)
  exact⟨C,A⟩
 ·obtain⟨o',j⟩:=I.base.there b o e a
  exact free b o' (t b o e a) j (I.base.free b o e n a)
 ·obtain⟨o',j⟩:=I.base.there b o e a
  exact there b o' (t b o e a) j
 ·obtain⟨M,j⟩:=I.base.Qa5 b ps e
  obtain⟨N,A⟩:=Qa5 b _ j
  exact⟨M++N,by rw[A,Fa]⟩
 ·obtain⟨m,L,K⟩:=I.loc
  refine⟨m,ns m L,λi x v j A G=>?_⟩
  obtain⟨u,r,l⟩:=K i x v j A G
  refine⟨u,r,?_⟩
  rcases l with l|⟨k,c,e,z⟩
  ·exact .inl l
  ·exact .inr ⟨k,c,e,f x c e _ z⟩
 ·obtain⟨v,z⟩:=I.cell x c e
  exact⟨v,f x c e v z⟩
 ·obtain⟨m,⟨o,_,_,y,_⟩,_⟩:=I.loc
  exact free _ o (λz=>(g _ z).2.1 Xb) y I.free
 ·obtain⟨v,o,y,hd⟩:=I.cell x c e
  exact free c o (λz=>(g c z).2.2.1 x c e Xb) y (I.Je x c e)
 ·obtain⟨e,n,ne,F,d⟩:=I.pin p E
  have h:p.1∉ch:=λz=>(g p.1 z).2.2.2 p E rfl
  exact⟨keep p.1 p.2 ne F h e n,free p.1 p.2 h e n,ne,F,d⟩
theorem Inv.un{t':Nat}(I:Inv X pins σ H s)(u:Un X.fs [] H H' s.heap h')(Zy:Ir X.prog X.w H' h'):Inv X pins σ H' {s with heap:=h',toks:=t'}:=by
 obtain⟨m,⟨o,es,ep,f,r⟩,_⟩:=id I.loc
 obtain⟨sl,g⟩:=u.any f I.free (by simp)
 exact I.step (g':=s.gens) (d':=s.drawn) (ch:=[]) (λ_ z=>nomatch z) (λb o _ hb _ e n=>u.keep b o e n hb (by simp)) (λb o _ hb _ e n=>u.slot b o e n hb (by simp)) (λb o _ e n=>u.free b o e n (by simp)) (λb o _ e=>u.there b o e (by simp)) u.Qm u.R1 u.Qa5 (λj h=>by
  obtain⟨o',d,c,a,i⟩:=h
  rw[f]at a;cases a
  exact⟨_,d,c,g,i⟩) Zy I.bare
theorem Inv.call{g':Array GenState}{t':Nat}{d':Drawn}{ch:List Addr}(I:Inv X pins σ H s)(u:Un (frs X.stack) ch H H' s.heap h')(Zy:Ir X.prog X.w H' h')(k:AllBare g')
  (d:∀b∈ch,(b∈X.ex\/X.s₀.heap.objs.size<=b)/\b≠X.env.locals/\(∀x c,X.env.cells.lookup x=some c->c≠b)/\∀p∈X.pn++pins,p.1≠b):
  Inv X pins σ H' {s with heap:=h',gens:=g',drawn:=d',toks:=t'}:=by
 obtain⟨m,⟨o,es,ep,j,r⟩,_⟩:=id I.loc
 obtain⟨sl,i⟩:=u.any j I.free λz=>(d _ z).2.1 rfl
 exact I.step (ch:=ch) d (λb o i hb a e n=>u.keep b o e n (λz=>(Gu.mp (I.Qfr b z)).elim i hb) a) (λb o _ _ a e n=>u.any e n a) (λb o a e n=>u.free b o e n a) (λb o a e=>u.there b o e a) u.Qm u.R1 u.Qa5 (λt l=>by
  obtain⟨o',h,g,f,q⟩:=l
  rw[j]at f;cases f
  exact⟨_,h,g,i,q⟩) Zy k
theorem Inv.turned{t':Nat}{it:Addr}(I:Inv X pins σ H s)(k:∀b o,b≠it->s.heap.get? b=some o->h'.get? b=some o)(i:H it=none)(f:it≠X.env.locals)
  (h1:it∈X.ex\/X.s₀.heap.objs.size<=it)(h2:∀x c,X.env.cells.lookup x=some c->c≠it)(g:∀p∈X.pn++pins,p.1≠it):Inv X pins σ H {s with heap:=h',toks:=t'}:=by
 have d:∀b u,H b=some u->b≠it:=λb u e z=>by rw[z,i]at e;cases e
 refine I.step (g':=s.gens) (d':=s.drawn) (ch:=[it]) (λb hb=>?_) (λb o _ _ a e _=>k b o (λz=>a (by simp[z])) e) (λb o _ _ a e _=>⟨o.slots,k b o (λz=>a (by simp[z])) e⟩) (λ_ _ _ _ n=>n)
  (λb o a e=>⟨o,k b o (λz=>a (by simp[z])) e⟩) (λ_ _ e=>e) (λ_ _ _ e=>e) (λb ps e=>⟨#[],by rw[e];simp⟩) (λm h=>?_) (λb u e=>?_) I.bare
 ·have e:b=it:=by simpa using hb
  subst e
  exact⟨h1,f,h2,g⟩
 ·obtain⟨o,es,ep,j,r⟩:=h
  exact⟨o,es,ep,k _ o (Gq f) j,r⟩
 ·refine(I.Zy b u e).Qif (λc v a q=>k c v ?_ q) (λ_ q=>q) λ_ _ q=>q
  rcases a with z|z
  ·rw[z];exact d b u e
  ·exact d c _ z
theorem Inv.tok(I:Inv X pins σ H s)(t:Nat):Inv X pins σ H {s with toks:=t}:=I.un (h':=s.heap) (t':=t) Un.refl I.Zy
theorem Inv.kept{t':Nat}(I:Inv X pins σ H s)(k:∀b u,s.heap.get? b=some u->h'.get? b=some u):Inv X pins σ H {s with heap:=h',toks:=t'}:=I.un (Un.kept k) (I.Zy.kept k)
theorem Inv.laid{a:Addr}{o:HO}{t':Nat}(I:Inv X pins σ H s)(k:∀b u,s.heap.get? b=some u->h'.get? b=some u)(c:s.heap.objs.size<=a)(new:Z0 X.prog X.w (upd H a o) h' a o):
  Inv X pins σ (upd H a o) {s with heap:=h',toks:=t'}:=I.un (Un.laid k c (I.Zy.fresh c)) (I.Zy.laid k c new)
theorem Inv.write{x e:Addr}{o:HO}{t':Nat}(I:Inv X pins σ H s)(mu:Mut (H x))(c:e=x\/H e=some (.own x))(k:∀b u,b≠e->s.heap.get? b=some u->h'.get? b=some u)(a:∃u,h'.get? e=some u)
  (new:Z0 X.prog X.w (upd H x o) h' x o):Inv X pins σ (upd H x o) {s with heap:=h',toks:=t'}:=I.un (Un.write mu c k a) (I.Zy.write mu c k a new)
theorem Inv.Qlf{a:List (Addr×Obj)}(I:Inv X pins σ H s)(h:∀p∈a,s.heap.get? p.1=some p.2/\H p.1=none/\p.1≠X.env.locals/\p.1∉X.fs/\∀v,p.2.data≠.cell v):Inv X a σ H s:=
 ⟨I.ok,I.os,I.bare,I.base,I.loc,I.cell,I.free,I.Je,λp b=>(Gd.mp b).elim (λz=>I.pin p (Gi _ z)) (h p),I.Zy,I.len⟩
theorem Qia{N:List Str}(e:N.Nodup){i j:Nat}{x:Str}(a:N[i]?=some x)(b:N[j]?=some x):i=j:=by
 obtain⟨h1,c⟩:=Ge.mp a
 obtain⟨h2,d⟩:=Ge.mp b
 exact(List.getElem_inj e).mp (c.trans d.symm)
theorem Qee{M:Model}{A:Around}{E:Value->Shared->Prop}{i:Nat}{x:Str}{v:V}{u:Value}{Q:Unit->Shared->Prop}(I:Inv X pins σ H s)(hN:X.N.Nodup)(hi:X.N[i]?=some x)(B:Loc X.env.scope x)(r:RelV v u)
  (h:∀s',Inv X pins (σ.set i (some v)) H s'->(∃a,Heap.SameBut a s.heap s'.heap/\(a=X.env.locals\/X.env.cells.lookup x=some a))->Q () s')(hf:X.fn x=true\/X.env.scope.names.lookup x=some .local:=by first|exact .inl rfl|exact .inr rfl|assumption):wpAny M A (storeName X.env x u) Q E s:=by
 obtain⟨m,Y,hl⟩:=id I.loc
 have P:(X.env.scope.kind==.class||(X.env.scope.kind==.module&&X.env.locals !=X.env.globals))=false:=by rw[I.ok.kind];rfl
 have F:i<σ.length:=by rw[I.len];exact(Ge.mp hi).1
 have cne:=I.cne
 have l:∀{a:Addr}{h':Heap},(∃o,s.heap.get? a=some o/\H a=none)->Heap.SameBut a s.heap h'->Ir X.prog X.w H h':=λ{a h'}ha f b ob e=>by
  obtain⟨_,_,C⟩:=ha
  refine(I.Zy b ob e).Qif (λc U t q=>(f.2 c ?_).trans q) (λ_ q=>q) λ_ _ q=>q
  rintro rfl
  rcases t with rfl|t
  ·rw[C]at e;cases e
  ·rw[C]at t;cases t
 rcases B with G|G
 ·refine wpAny_storeName_local G Y (λh' Z f=>?_) P
  obtain⟨oL,_,_,aa,_⟩:=id Y
  refine h _ ⟨I.ok,I.os,I.bare,⟨λb o e n hb B=>?_,λb o e n hb B=>?_,I.base.free,λb o e B=>?_,I.base.Qm,I.base.R1,I.base.Qa5⟩,⟨_,Z,λj y v' g D W=>?_⟩,λy c e=>?_,I.free,I.Je,λp hp=>?_,l ⟨oL,aa,I.free⟩ f,by simpa using I.len⟩ ⟨_,f,.inl Xb⟩
  ·exact(f.2 b (Ts (Tv (Gw e) I.ok.above))).trans (I.base.keep b o e n hb B)
  ·obtain⟨sl,g⟩:=I.base.slot b o e n hb B
   exact⟨sl,(f.2 b (Ts (Tv (Gw e) I.ok.above))).trans g⟩
  ·obtain⟨o',g⟩:=I.base.there b o e B
   exact⟨o',(f.2 b (Ts (Tv (Gw e) I.ok.above))).trans g⟩
  ·by_cases K:j=i
   ·subst K
    rw[hi]at g;cases g
    rw[LD F]at D
    cases D
    exact⟨u,r,.inl ⟨G,by simp⟩⟩
   ·rw[LP (Gq K)]at D
    obtain⟨u',r',q⟩:=hl j y v' g D W
    refine⟨u',r',?_⟩
    rcases q with⟨k,e⟩|⟨k,c,e,z⟩
    ·refine .inl ⟨k,?_⟩
     have:y≠x:=λe=>K (Qia hN g (e▸hi))
     simp[this,e]
    ·exact .inr ⟨k,c,e,z.sameBut f (cne y c e)⟩
  ·obtain⟨U,z⟩:=I.cell y c e
   exact⟨U,z.sameBut f (cne y c e)⟩
  ·obtain⟨e,n,ne,nf,d⟩:=I.pin p hp
   exact⟨(f.2 p.1 ne).trans e,n,ne,nf,d⟩
 ·have J:X.fn x=true:=by
   rcases hf with z|z
   ·exact z
   ·rw[z]at G;cases G
  obtain⟨c,t⟩:=I.ok.has x (.inl G)
  obtain⟨U,z⟩:=I.cell x c t
  refine wpAny_storeName_cell I.ok.kind G t z (λh' L f=>?_)
  obtain⟨oc,R,S⟩:=id z
  refine h {s with heap:=h'} ⟨I.ok,I.os,I.bare,⟨λb o e n hb B=>?_,λb o e n hb B=>?_,I.base.free,λb o e B=>?_,I.base.Qm,I.base.R1,I.base.Qa5⟩,⟨m,Y.sameBut f (Gq (cne x c t)),λj y v' g D W=>?_⟩,λy T e=>?_,I.free,I.Je,λp hp=>?_,l ⟨oc,R,I.Je x c t⟩ f,by simpa using I.len⟩ ⟨c,f,.inr t⟩
  ·exact(f.2 b (Ts (Tv (Gw e) (I.ok.cab x c J t)))).trans (I.base.keep b o e n hb B)
  ·obtain⟨sl,g⟩:=I.base.slot b o e n hb B
   exact⟨sl,(f.2 b (Ts (Tv (Gw e) (I.ok.cab x c J t)))).trans g⟩
  ·obtain⟨o',g⟩:=I.base.there b o e B
   exact⟨o',(f.2 b (Ts (Tv (Gw e) (I.ok.cab x c J t)))).trans g⟩
  ·by_cases K:j=i
   ·subst K
    rw[hi]at g;cases g
    rw[LD F]at D
    cases D
    exact⟨u,r,.inr ⟨.inl G,c,t,L⟩⟩
   ·rw[LP (Gq K)]at D
    obtain⟨u',r',q⟩:=hl j y v' g D W
    refine⟨u',r',?_⟩
    rcases q with q|⟨k,T,e,z'⟩
    ·exact .inl q
    ·refine .inr ⟨k,T,e,z'.sameBut f ?_⟩
     rintro rfl
     exact K (Qia hN g (I.ok.inj _ _ _ e t▸hi))
  ·by_cases O:T=c
   ·subst O;exact⟨_,L⟩
   ·obtain⟨w2,z2⟩:=I.cell y T e
    exact⟨w2,z2.sameBut f O⟩
  ·obtain⟨e,n,ne,nf,d⟩:=I.pin p hp
   refine⟨(f.2 p.1 ?_).trans e,n,ne,nf,d⟩
   intro q
   rw[q,R]at e
   have q':oc=p.2:=TF e
   exact d U (by rw[<-q'];exact S)
theorem Qgy{M:Model}{A:Around}{E:Value->Shared->Prop}{i:Nat}{x:Str}{v:V}{u:Value}{Q:Unit->Shared->Prop}(I:Inv X pins σ H s)(b:X.N.Nodup)(hi:X.N[i]?=some x)(d:Loc X.env.scope x)(r:RelV v u)
  (h:∀s',Inv X pins (σ.set i (some v)) H s'->Q () s')(c:X.fn x=true\/X.env.scope.names.lookup x=some .local:=by first|exact .inl rfl|exact .inr rfl|assumption):wpAny M A (storeName X.env x u) Q E s:=
 Qee I b hi d r (λs' a _=>h s' a) c
theorem Inv.Qyx{s':Shared}{ch:List Addr}(I:Inv X pins σ H s)(f:s'.os=s.os)(u:Un (frs X.stack) ch H H' s.heap s'.heap)(Zy:Ir X.prog X.w H' s'.heap)(d:AllBare s'.gens)
  (a:∀b∈ch,(b∈X.ex\/X.s₀.heap.objs.size<=b)/\b≠X.env.locals/\(∀x c,X.env.cells.lookup x=some c->c≠b)/\∀p∈X.pn++pins,p.1≠b):Inv X pins σ H' s':=by
 obtain⟨h',g',d',t',o'⟩:=s'
 have e:o'=s.os:=f
 subst e
 exact I.call (g':=g') (t':=t') (d':=d') u Zy d a
end
abbrev XK:=Value->Option Addr->Hp->Prop
abbrev St:=List (Option V)
abbrev VK:=V->Hp->Prop
abbrev TE:=St->Hp->VK->Prop
abbrev TT:=St->Hp->(Bool->Hp->Prop)->Prop
abbrev TA:=St->Hp->(List V->Hp->Prop)->Prop
structure Ends where
 nx:St->Hp->Prop
 rt:VK
 bk:St->Hp->Prop:=λ_ _=>False
 ct:St->Hp->Prop:=λ_ _=>False
abbrev TS:=Ends->St->Hp->Prop
def EP(X:Cx)(pins:List (Addr×Obj))(σ:St)(Q:VK)(u:Value)(s':Shared):Prop:=∃v H',Inv X pins σ H' s'/\RelV v u/\Q v H'
def TP(X:Cx)(pins:List (Addr×Obj))(σ:St)(Q:Bool->Hp->Prop)(b:Bool)(s':Shared):Prop:=∃H',Inv X pins σ H' s'/\Q b H'
def AP(X:Cx)(pins:List (Addr×Obj))(σ:St)(Q:List V->Hp->Prop)(us:List Value)(s':Shared):Prop:=∃vs H',Inv X pins σ H' s'/\Zv vs us/\Q vs H'
def SP(X:Cx)(pins:List (Addr×Obj))(D:Ends)(f:Flow)(s':Shared):Prop:=
 match f with
 |.next=>∃a H',Inv X pins a H' s'/\D.nx a H'
 |.brk=>∃a H',Inv X pins a H' s'/\D.bk a H'
 |.cont=>∃a H',Inv X pins a H' s'/\D.ct a H'
 |.ret u=>∃v a H',Inv X pins a H' s'/\RelV v u/\D.rt v H'
def PE(X:Cx)(e:Expr)(t:TE):Prop:=
 ∀(pins:List (Addr×Obj))(s:Shared)(σ:St)(H:Hp)(Q:VK),Inv X pins σ H s->t σ H Q->wpAny (model X.prog X.w) X.A (eval e X.env) (EP X pins σ Q) X.xe s
def PT(X:Cx)(e:Expr)(t:TT):Prop:=
 ∀(pins:List (Addr×Obj))(s:Shared)(σ:St)(H:Hp)(Q:Bool->Hp->Prop),Inv X pins σ H s->t σ H Q->wpAny (model X.prog X.w) X.A (isTrue e X.env (eval e X.env)) (TP X pins σ Q) X.xe s
def PW(X:Cx)(e:Expr)(t:TT):Prop:=
 ∀(a:Sem Value)(pins:List (Addr×Obj))(s:Shared)(σ:St)(H:Hp)(Q:Bool->Hp->Prop),Inv X pins σ H s->t σ H Q->wpAny (model X.prog X.w) X.A (isTrue e X.env a) (TP X pins σ Q) X.xe s
theorem PW.pt{X:Cx}{e:Expr}{t:TT}(h:PW X e t):PT X e t:=h _
def PA(X:Cx)(es:List Expr)(t:TA):Prop:=
 ∀(pos:Pos)(pins:List (Addr×Obj))(s:Shared)(σ:St)(H:Hp)(Q:List V->Hp->Prop),Inv X pins σ H s->t σ H Q->wpAny (model X.prog X.w) X.A (spliced (backTo pos (starEach es X.env))) (AP X pins σ Q) X.xe s
def PS(X:Cx)(st:Stmt)(t:TS):Prop:=
 ∀(pins:List (Addr×Obj))(s:Shared)(σ:St)(H:Hp)(D:Ends),Inv X pins σ H s->t D σ H->wpAny (model X.prog X.w) X.A (exec st X.env) (SP X pins D) X.xe s
def PSs(X:Cx)(st:List Stmt)(t:TS):Prop:=
 ∀(pins:List (Addr×Obj))(s:Shared)(σ:St)(H:Hp)(D:Ends),Inv X pins σ H s->t D σ H->wpAny (model X.prog X.w) X.A (execs st X.env) (SP X pins D) X.xe s
theorem Ys{α:Type}{t:Sem α}{Q b:α->Shared->Prop}{M:Model}{A:Around}{E:Value->Shared->Prop}{s:Shared}(h:wpAny M A t Q E s)(c:∀a s,Q a s->b a s):wpAny M A t b E s:=DL h c λ_ _ x=>x
open PySem PySem.Spec PyProof.Rows
section
variable{X:Cx}
theorem bin{a b:Expr}{ta tb:TE}(i:PE X a ta)(hb:PE X b tb){pins:List (Addr×Obj)}{s:Shared}{σ:St}{H:Hp}{R:V->V->Hp->Prop}(I:Inv X pins σ H s)(h:ta σ H λx H1=>tb σ H1 λy H2=>R x y H2)
  {α:Type}{Q:α->Shared->Prop}{f:Value->Value->Sem α}
  (j:∀v u s2 x y H2,Inv X pins σ H2 s2->RelV x v->RelV y u->R x y H2->wpAny (model X.prog X.w) X.A (f v u) Q X.xe s2):
  wpAny (model X.prog X.w) X.A (eval a X.env) (λv c=>wpAny (model X.prog X.w) X.A (eval b X.env) (λu d=>wpAny (model X.prog X.w) X.A (f v u) Q X.xe d) X.xe c) X.xe s:=by
 refine Ys (i pins s σ H _ I h) λv s1⟨x,H1,e,m,k⟩=>?_
 refine Ys (hb pins s1 σ H1 _ e k) λu s2⟨y,H2,g,n,l⟩=>?_
 exact j v u s2 x y H2 g m n l
def V2(i:Nat):TE:=λσ H Q=>∃v,σ[i]?=some (some v)/\Q v H
def tC(v:V):TE:=λ_ H Q=>Q v H
theorem Qwd{i:Nat}{x:Str}{pos:Pos}(g:X.N[i]?=some x)(o:Vis X.env.scope x)(hd:(x==("__debug__":Str))=false:=by decide)(d:(x==("__classdict__":Str))=false:=by decide):PE X (.Name x pos) (V2 i):=by
 intro pins s σ H Q I h
 obtain⟨v,e,h⟩:=h
 obtain⟨m,n,j⟩:=I.loc
 obtain⟨u,r,l⟩:=j i x v g e o
 have fin:EP X pins σ Q u s:=⟨v,H,I,r,h⟩
 rcases l with⟨b,k⟩|⟨b,c,f,a⟩
 ·exact wpAny_Name (wpAny_loadName_local I.ok.kind b n k fin) hd
 ·rcases b with b|b
  ·exact wpAny_Name (wpAny_loadName_cell I.ok.kind b f a fin) hd
  ·exact wpAny_Name (wpAny_loadName_free I.ok.kind b f a fin d) hd
theorem Qj{i j pos}:PE X (.Constant (.int i) j pos) (tC (.int i)):=λ_ _ _ H _ I h=>wpAny_Constant_int ⟨.int i,H,I.tok _,⟨_,Xb⟩,h⟩
theorem W0{b j pos}:PE X (.Constant (.bool b) j pos) (tC (.bl b)):=λ_ _ _ H _ I h=>Constant_bool ⟨.bl b,H,I,Xb,h⟩
theorem Ja{j pos}:PE X (.Constant .none j pos) (tC .non):=λ_ _ _ H _ I h=>Constant_none ⟨.non,H,I,Xb,h⟩
theorem Zc{x j pos}:PE X (.Constant (.str x) j pos) (tC (.str x)):=λ_ _ _ H _ I h=>Calls.Constant_str ⟨.str x,H,I.tok _,⟨_,Xb⟩,h⟩
def Gl(X:Cx)(x:Str):Prop:=X.env.kindOf x=some .globalImplicit
theorem Qbd{E:Value->Shared->Prop}{pins:List (Addr×Obj)}{s:Shared}{σ:St}{H:Hp}{x:Str}{u:Value}{pos:Pos}{Q:Value->Shared->Prop}(I:Inv X pins σ H s)(a:Gl X x)(b:X.mg x=some u)(h:Q u s)
  (hd:(x==("__debug__":Str))=false:=by decide):wpAny (model X.prog X.w) X.A (eval (.Name x pos) X.env) Q E s:=
 SI I.ok.kind a (Calls.loadGlobal_global (by rw[I.ok.glob];exact I.mod.glob.keeps I.bk) b h) hd
theorem V3{E:Value->Shared->Prop}{pins:List (Addr×Obj)}{s:Shared}{σ:St}{H:Hp}{x:Str}{u:Value}{pos:Pos}{Q:Value->Shared->Prop}(I:Inv X pins σ H s)(a:Gl X x)(b:X.mg x=none)(d:bootBuiltins x=some u)(h:Q u s)
  (c:x≠"__name__":=by decide)(hd:(x==("__debug__":Str))=false:=by decide):wpAny (model X.prog X.w) X.A (eval (.Name x pos) X.env) Q E s:=by
 obtain⟨e,h1,h2⟩:=I.mod.blt
 exact SI I.ok.kind a (Calls.loadGlobal_builtin (by rw[I.ok.glob];exact I.mod.glob.keeps I.bk) b (by rw[I.ok.blt];exact h1.keeps I.bk) ((h2 x c).trans d) h) hd
theorem Qs1{x:Str}{v:V}{u:Value}{pos:Pos}(a:Gl X x)(b:X.mg x=some u)(r:RelV v u)(hd:(x==("__debug__":Str))=false:=by decide):PE X (.Name x pos) (tC v):=
 λ_ _ _ H _ I h=>Qbd I a b ⟨v,H,I,r,h⟩ hd
theorem Xq{x:Str}{v:V}{u:Value}{pos:Pos}(a:Gl X x)(b:X.mg x=none)(d:bootBuiltins x=some u)(r:RelV v u)(c:x≠"__name__":=by decide)(hd:(x==("__debug__":Str))=false:=by decide):PE X (.Name x pos) (tC v):=
 λ_ _ _ H _ I h=>V3 I a b d ⟨v,H,I,r,h⟩ c hd
variable{a b:Expr}{ta tb:TE}{pos:Pos}
def PC(X:Cx)(e:CmpOp)(a b:Expr)(t:TE):Prop:=
 ∀(pins:List (Addr×Obj))(s:Shared)(σ:St)(H:Hp)(Q:VK),Inv X pins σ H s->t σ H Q->
  wpAny (model X.prog X.w) X.A (eval a X.env) (λv c=>wpAny (model X.prog X.w) X.A (eval b X.env) (λu d=>wpAny (model X.prog X.w) X.A (compareOp e v u) (EP X pins σ Q) X.xe d) X.xe c) X.xe s
theorem Qrs(b:Expr){a:CmpOp}(h:a≠.In)(h2:a≠.NotIn):behindInMarks a b=false:=by
 have c:(a==CmpOp.In)=false:=by cases a<;>first|rfl|exact absurd rfl h
 have d:(a==CmpOp.NotIn)=false:=by cases a<;>first|rfl|exact absurd rfl h2
 cases b<;>simp[behindInMarks,c,d]
def Q0z(ta:TE):TE:=λσ H Q=>ta σ H λx H1=>Q (.bl (decide (x=.non))) H1
def Qyh(ta:TE):TE:=λσ H Q=>ta σ H λx H1=>Q (.bl (!decide (x=.non))) H1
theorem RelV.Qg7{x:V}{v:Value}(r:RelV x v):(v==Value.none)=decide (x=.non):=by
 cases x with
 |non=>cases r;rfl
 |bl _=>cases r;rfl
 |int _=>obtain⟨t,rfl⟩:=r;rfl
 |str _=>obtain⟨t,rfl⟩:=r;rfl
 |byt _=>obtain⟨t,rfl⟩:=r;rfl
 |flt _=>obtain⟨t,rfl⟩:=r;rfl
 |ref _=>cases r;rfl
 |ty _=>cases r;rfl
theorem Qvq{j pos'}(c:PE X a ta):PC X .Is a (.Constant .none j pos') (Q0z ta):=by
 intro pins s σ H Q I h
 refine Ys (c pins s σ H _ I h) λv s1⟨x,H1,b,e,d⟩=>?_
 exact Constant_none (is_none_gen ⟨.bl _,H1,b,by rw[e.Qg7];rfl,d⟩)
theorem Qtw{j pos'}(c:PE X a ta):PC X .IsNot a (.Constant .none j pos') (Qyh ta):=by
 intro pins s σ H Q I h
 refine Ys (c pins s σ H _ I h) λv s1⟨x,H1,b,e,d⟩=>?_
 exact Constant_none (isnot_none_gen ⟨.bl _,H1,b,by rw[e.Qg7];rfl,d⟩)
def tB(t:TE):TT:=λσ H Q=>t σ H λx H1=>∃c,x=.bl c/\Q c H1
theorem Oo{e:CmpOp}{t:TE}(h:PC X e a b t)(h1:behindInMarks e b=false:=by first|exact Qrs _ (by decide) (by decide)|rfl):PT X (.Compare a [e] [b] pos) (tB t):=by
 intro pins s σ H Q I hw
 refine wpAny_isTrue_Compare1 (Ys (h pins s σ H _ I hw) λv s1 h1=>Ys h1 λu s2 h2=>Ys h2 λc j⟨x,H1,f,i,g⟩=>?_) h1
 obtain⟨d,rfl,q⟩:=g
 cases i
 exact Ef ⟨H1,f,q⟩
theorem Xs{e:Expr}{t:TE}(h:PE X e t)(c:∀a,isTrue e X.env a=(do let v<-a;standAt e.pos;holding [v] (truthy v)):=by intro _;rfl):PT X e (tB t):=by
 intro pins s σ H Q I hw
 refine isTrue_plain (Ys (h pins s σ H _ I hw) λv s1⟨x,H1,b,g,f⟩=>?_) (c _)
 obtain⟨d,rfl,q⟩:=f
 cases g
 exact Ef ⟨H1,b,q⟩
variable{tA tB':TT}{Wz:List Expr}
def Qz2(t u:TT):TT:=λσ H Q=>t σ H λc H1=>if c=true then u σ H1 Q else Q false H1
def tOr(t u:TT):TT:=λσ H Q=>t σ H λc H1=>if c=true then Q true H1 else u σ H1 Q
def Q0n(t:TT):TT:=λσ H Q=>t σ H λc H1=>Q (!c) H1
theorem Vf(b:PT X a tA):PW X (.BoolOp .And [a] pos) tA:=by
 intro d pins s σ H Q I h
 refine isTrue_and (Ys (b pins s σ H Q I h) λc s1 e=>?_)
 cases c with
 |true=>exact isTrue_and_nil e
 |false=>exact e
theorem Qc6(b:PT X a tA):PW X (.BoolOp .Or [a] pos) tA:=by
 intro d pins s σ H Q I h
 refine isTrue_or (Ys (b pins s σ H Q I h) λc s1 e=>?_)
 cases c with
 |false=>exact isTrue_or_nil e
 |true=>exact e
theorem V1(f:PT X a tA)(hb:PW X (.BoolOp .And (b::Wz) pos) tB'):PW X (.BoolOp .And (a::b::Wz) pos) (Qz2 tA tB'):=by
 intro g pins s σ H Q I h
 refine isTrue_and (Ys (f pins s σ H _ I h) λc s1⟨H1,d,e⟩=>?_)
 cases c with
 |true=>exact hb g pins s1 σ H1 Q d e
 |false=>exact⟨H1,d,e⟩
theorem Qcn(f:PT X a tA)(hb:PW X (.BoolOp .Or (b::Wz) pos) tB'):PW X (.BoolOp .Or (a::b::Wz) pos) (tOr tA tB'):=by
 intro g pins s σ H Q I h
 refine isTrue_or (Ys (f pins s σ H _ I h) λc s1⟨H1,d,e⟩=>?_)
 cases c with
 |true=>exact⟨H1,d,e⟩
 |false=>exact hb g pins s1 σ H1 Q d e
theorem Re(b:PT X a tA):PT X (.UnaryOp .Not a pos) (Q0n tA):=by
 intro pins s σ H Q I h
 exact isTrue_not (b pins s σ H (λc H1=>Q (!c) H1) I h)
end
open PySem PySem.Spec PyProof.Rows
def Zd(K:Gc)(H:Hp)(a:Addr)(xs:List V):Prop:=
 Rd H a (.lst xs)\/
  ∃(o:Obj)(its:Array Value)(n:Nat),K.lookup a=some o/\o.cls=.type "list"/\o.dict=none/\o.data=.seq its n/\its.size<=sizeLine/\Zv xs its.toList
def Z4(K:Gc)(H:Hp)(a:Addr)(xs:List V):Prop:=
 Rd H a (.tup xs)\/
  ∃(o:Obj)(its:Array Value)(n:Nat),K.lookup a=some o/\o.cls=.type "tuple"/\o.data=.seq its n/\its.size<=sizeLine/\Zv xs its.toList
def Q0x:Value->Option V
 |.none=>some .non
 |.bool b=>some (.bl b)
 |.int i _=>some (.int i)
 |.str x _=>some (.str x)
 |.bytes b _=>some (.byt b)
 |.float b _=>some (.flt b)
 |.ref a=>some (.ref a)
 |.type n=>some (.ty n)
 |_=>none
theorem RelV.abs{x:V}{u:Value}(r:RelV x u):Q0x u=some x:=by
 cases x with
 |non=>cases r;rfl
 |bl _=>cases r;rfl
 |int _=>obtain⟨t,rfl⟩:=r;rfl
 |str _=>obtain⟨t,rfl⟩:=r;rfl
 |byt _=>obtain⟨t,rfl⟩:=r;rfl
 |flt _=>obtain⟨t,rfl⟩:=r;rfl
 |ref _=>cases r;rfl
 |ty _=>cases r;rfl
theorem RelV.inj{x y:V}{u:Value}(r:RelV x u)(q:RelV y u):x=y:=TF (r.abs.symm.trans q.abs)
theorem Zv.inj:∀{xs ys:List V}{us:List Value},Zv xs us->Zv ys us->xs=ys
 |_,_,_,.nil,.nil=>rfl
 |_,_,_,.cons r t,.cons a t'=>by rw[r.inj a,Zv.inj t t']
section
variable{X:Cx}{pins:List (Addr×Obj)}{σ:St}{H:Hp}{s:Shared}{a:Addr}{xs ys:List V}
theorem Zd.of{K:Gc}(h:H a=some (.lst xs)):Zd K H a xs:=.inl (.inl h)
theorem Z4.of{K:Gc}(h:H a=some (.tup xs)):Z4 K H a xs:=.inl (.inl h)
theorem Inv.list(I:Inv X pins σ H s)(h:Zd X.K H a xs):∃its:List Value,Zv xs its/\PlainL s.heap a its.toArray/\xs.length<=sizeLine:=by
 rcases h with h|⟨o,its,n,c,b,hd,d,hz,r⟩
 ·obtain⟨z,its,n,r,e⟩:=h.ok I.Zy
  exact⟨its,r,⟨_,n,e,Xb,Xb,Xb⟩,z⟩
 ·refine⟨its.toList,r,⟨o,n,I.Jh a o c,b,hd,by simpa using d⟩,?_⟩
  have e:=r.length
  simp only[TX]at e
  omega
theorem Inv.tuple(I:Inv X pins σ H s)(h:Z4 X.K H a xs):∃its:List Value,Zv xs its/\IsTup s.heap a its.toArray/\xs.length<=sizeLine:=by
 rcases h with h|⟨o,its,n,c,b,d,hz,r⟩
 ·obtain⟨z,its,r,p⟩:=h.ok I.Zy
  exact⟨its,r,p,z⟩
 ·refine⟨its.toList,r,⟨o,I.Jh a o c,b,n,by simpa using d⟩,?_⟩
  have e:=r.length
  simp only[TX]at e
  omega
theorem Inv.Qix(I:Inv X pins σ H s)(h:Zd X.K H a xs)(h':Zd X.K H a ys):xs=ys:=by
 obtain⟨its,r,⟨o,n,e,_,_,d⟩,_⟩:=I.list h
 obtain⟨its',f,⟨o',g,b,_,_,d'⟩,_⟩:=I.list h'
 rw[e]at b;cases b
 rw[d]at d'
 injection d' with c _
 have:its=its':=by simpa using congrArg Array.toList c
 subst this
 exact r.inj f
theorem Inv.Qmz(I:Inv X pins σ H s)(h:Z4 X.K H a xs)(h':Z4 X.K H a ys):xs=ys:=by
 obtain⟨its,r,⟨o,e,_,n,d⟩,_⟩:=I.tuple h
 obtain⟨its',f,⟨o',b,_,g,d'⟩,_⟩:=I.tuple h'
 rw[e]at b;cases b
 rw[d]at d'
 injection d' with c _
 have:its=its':=by simpa using congrArg Array.toList c
 subst this
 exact r.inj f
end
abbrev Cx.Qd4(X:Cx)(E:Value->Shared->Prop):Cx:={X with xe:=E}
abbrev Cx.nox(X:Cx):Cx:=X.Qd4 λ_ _=>False
theorem Cx.Ok.Qd4{X:Cx}(ok:X.Ok)(E:Value->Shared->Prop):(X.Qd4 E).Ok:=
 ⟨ok.mod,ok.kind,ok.glob,ok.blt,ok.above,ok.inj,ok.has,ok.cab,ok.hd,ok.frames,ok.stk,ok.exf,ok.bs,ok.bsz,ok.Qpa,ok.Qtr,ok.Qa6,ok.frf⟩
theorem Cx.Ok.Jr{X:Cx}{E:Value->Shared->Prop}(ok:(X.Qd4 E).Ok):X.Ok:=
 ⟨ok.mod,ok.kind,ok.glob,ok.blt,ok.above,ok.inj,ok.has,ok.cab,ok.hd,ok.frames,ok.stk,ok.exf,ok.bs,ok.bsz,ok.Qpa,ok.Qtr,ok.Qa6,ok.frf⟩
section
variable{X:Cx}{pins:List (Addr×Obj)}{σ:St}{H:Hp}{s:Shared}{E:Value->Shared->Prop}
theorem Inv.Qd4(I:Inv X pins σ H s)(E:Value->Shared->Prop):Inv (X.Qd4 E) pins σ H s:=⟨I.ok.Qd4 E,I.os,I.bare,I.base,I.loc,I.cell,I.free,I.Je,I.pin,I.Zy,I.len⟩
theorem Inv.Jr(I:Inv (X.Qd4 E) pins σ H s):Inv X pins σ H s:=⟨I.ok.Jr,I.os,I.bare,I.base,I.loc,I.cell,I.free,I.Je,I.pin,I.Zy,I.len⟩
theorem SP.Jr{D:Ends}{f:Flow}{s':Shared}(h:SP (X.Qd4 E) pins D f s'):SP X pins D f s':=by
 cases f with
 |next=>obtain⟨a,H',I,q⟩:=h;exact⟨a,H',I.Jr,q⟩
 |brk=>obtain⟨a,H',I,q⟩:=h;exact⟨a,H',I.Jr,q⟩
 |cont=>obtain⟨a,H',I,q⟩:=h;exact⟨a,H',I.Jr,q⟩
 |ret u=>obtain⟨v,a,H',I,r,q⟩:=h;exact⟨v,a,H',I.Jr,r,q⟩
theorem PSs.nox{st:List Stmt}{t:TS}(h:PSs X.nox st t):PSs X st t:=λpins s σ H D I hw=>
 DL (h pins s σ H D (I.Qd4 _) hw) (λ_ _ q=>q.Jr) λ_ _ z=>False.elim z
end
section
variable{X:Cx}{st:Stmt}{Wz:List Stmt}{t u:TS}{e:Expr}{te:TE}{pos:Pos}
def Qy6:TS:=λD σ H=>D.nx σ H
def Q0q(t u:TS):TS:=λD σ H=>t {D with nx:=u D} σ H
theorem Q8:PSs X [] Qy6:=λ_ _ σ H _ I h=>Su ⟨σ,H,I,h⟩
theorem Qd(h1:PS X st t)(h2:PSs X Wz u):PSs X (st::Wz) (Q0q t u):=by
 intro pins s σ H D I h
 refine wpAny_execs_cons (Ys (h1 pins s σ H {D with nx:=u D} I h) λf s1 q=>?_)
 cases f with
 |next=>
  obtain⟨a,H',b,q⟩:=q
  exact h2 pins s1 a H' D b q
 |ret v=>exact q
 |brk=>exact q
 |cont=>exact q
theorem Qh(h1:PS X st t):PSs X [st] t:=by
 intro pins s σ H D I h
 refine wpAny_execs_cons (Ys (h1 pins s σ H D I h) λf s1 q=>?_)
 cases f with
 |next=>exact Su q
 |ret v=>exact q
 |brk=>exact q
 |cont=>exact q
theorem Inv.quiet{pins:List (Addr×Obj)}{σ:St}{H:Hp}{s:Shared}(I:Inv X pins σ H s):interactive X.env=false:=by simp[interactive,I.ok.kind]
def Qyc(te:TE):TS:=λD σ H=>te σ H λ_ H1=>D.nx σ H1
theorem Zb(b:PE X e te)(c:swapsWith e none pos.line X.env=pure false:=by rfl):PS X (.Expr e pos) (Qyc te):=by
 intro pins s σ H D I h
 exact wpAny_Expr_any (Ys (b pins s σ H _ I h) λv s1⟨x,H1,a,f,d⟩=>⟨σ,H1,a,d⟩) I.quiet c
def Qz6(te:TE):TS:=λD σ H=>te σ H D.rt
theorem Qy(b:PE X e te):PS X (.Return (some e) pos) (Qz6 te):=by
 intro pins s σ H D I h
 exact wpAny_Return_some (Ys (b pins s σ H _ I h) λv s1⟨x,H1,a,d,c⟩=>⟨x,σ,H1,a,d,c⟩)
def Qyp:TS:=λD _ H=>D.rt .non H
theorem Qum:PS X (.Return none pos) Qyp:=λ_ _ σ H _ I h=>wpAny_Return_none ⟨.non,σ,H,I,Xb,h⟩
def Qz4(c:TT)(t u:TS):TS:=λD σ H=>c σ H λb H1=>if b=true then t D σ H1 else u D σ H1
theorem Zm{c:Expr}{a b:List Stmt}{tc:TT}(i:PT X c tc)(g:PSs X a t)(hb:PSs X b u):PS X (.If c a b pos) (Qz4 tc t u):=by
 intro pins s σ H D I h
 refine wpAny_If (Ys (i pins s σ H _ I h) λd s1⟨H1,e,f⟩=>?_)
 cases d with
 |true=>exact g pins s1 σ H1 D e f
 |false=>exact hb pins s1 σ H1 D e f
end
abbrev TG:=V->St->Hp->(St->Hp->Prop)->Prop
abbrev TGs:=List V->St->Hp->(St->Hp->Prop)->Prop
def PG(X:Cx)(a:Expr)(t:TG):Prop:=
 ∀(pins:List (Addr×Obj))(s:Shared)(σ:St)(H:Hp)(v:V)(u:Value)(Q:St->Hp->Prop),Inv X pins σ H s->RelV v u->t v σ H Q->
  wpAny (model X.prog X.w) X.A (assign a X.env u) (λ_ s'=>∃b H',Inv X pins b H' s'/\Q b H') X.xe s
def PGs(X:Cx)(ts:List Expr)(t:TGs):Prop:=
 ∀(pins:List (Addr×Obj))(s:Shared)(σ:St)(H:Hp)(vs:List V)(us:List Value)(Q:St->Hp->Prop),Inv X pins σ H s->Zv vs us->t vs σ H Q->
  wpAny (model X.prog X.w) X.A (assignInOrder ((assignEach ts X.env).map (·.2)) us) (λ_ s'=>∃a H',Inv X pins a H' s'/\Q a H') X.xe s
abbrev Qtu:=V->V->V->Hp->(Hp->Prop)->Prop
def Qyd(X:Cx)(t:Qtu):Prop:=
 ∀(pins:List (Addr×Obj))(s:Shared)(σ:St)(H:Hp)(o i v:V)(ov a u:Value)(Q:Hp->Prop),Inv X pins σ H s->RelV o ov->RelV i a->RelV v u->t o i v H Q->
  wpAny (model X.prog X.w) X.A (setItem ov a u) (λ_ s'=>∃H',Inv X pins σ H' s'/\Q H') X.xe s
section
variable{X:Cx}{pos:Pos}
def V8(i:Nat):TG:=λv σ H Q=>Q (σ.set i (some v)) H
theorem Qr{i:Nat}{x:Str}(b:X.N.Nodup)(hi:X.N[i]?=some x)(d:Loc X.env.scope x)(c:X.fn x=true\/X.env.scope.names.lookup x=some .local:=by first|exact .inl rfl|exact .inr rfl|assumption):PG X (.Name x pos) (V8 i):=by
 intro pins s σ H v u Q I r h
 exact wpAny_assign_Name (Qgy I b hi d r (λs' a=>⟨_,H,a,h⟩) c)
def Qv7:TGs:=λvs σ H Q=>vs=[]/\Q σ H
def Qhy(t:TG)(u:TGs):TGs:=λvs σ H Q=>∃v r,vs=v::r/\t v σ H λa H'=>u r a H' Q
theorem Xz:PGs X [] Qv7:=by
 intro pins s σ H vs us Q I r h
 obtain⟨e,h⟩:=h
 subst e
 cases r
 exact assignInOrder_nil ⟨σ,H,I,h⟩
theorem Zj{e:Expr}{es:List Expr}{t:TG}{u:TGs}(h1:PG X e t)(h2:PGs X es u)
  (d:(assignEach (e::es) X.env).map (·.2)=assign e X.env::(assignEach es X.env).map (·.2):=by rfl):PGs X (e::es) (Qhy t u):=by
 intro pins s σ H vs us Q I r h
 obtain⟨v,i,c,h⟩:=h
 subst c
 cases r with
 |cons r g=>
  rw[d]
  refine assignInOrder_cons (Ys (h1 pins s σ H _ _ _ I r h) λ_ s1⟨a,H1,b,f⟩=>?_)
  exact h2 pins s1 a H1 _ _ Q b g f
def Qv1(K:Gc)(n:Nat)(t:TGs):TG:=λv σ H Q=>∃a xs,v=.ref a/\Z4 K H a xs/\xs.length=n/\t xs σ H Q
theorem W9{es:List Expr}{k:Nat}{t:TGs}{n:Nat}(g:X.calm=true)(h:PGs X es t)
  (j:(assignEach es X.env).length=n:=by rfl)(c:(assignEach es X.env).findIdx? (·.1)=none:=by rfl):PG X (.Tuple es k pos) (Qv1 X.K n t):=by
 intro pins s σ H v u Q I r hw
 obtain⟨a,xs,f,l,i,hw⟩:=hw
 subst f
 cases r
 obtain⟨its,rv,m,hz⟩:=I.tuple l
 refine assign_Tuple_tuple (I.ok.hd g) m (by simp[j,<-i,rv.length]) c λh' p=>?_
 have d:Inv X pins σ H {s with heap:=h'}:=I.kept (t':=s.toks) λb o e=>p b o (Ts (Gw e)) e
 exact h pins _ σ H xs _ Q d (by simpa using rv) hw
def Q09(to ti:TE)(t:Qtu):TG:=λv σ H Q=>to σ H λo H1=>ti σ H1 λi H2=>t o i v H2 λa=>Q σ a
theorem Qb9{o i:Expr}{to ti:TE}{t:Qtu}(g:PE X o to)(hi:PE X i ti)(j:Qyd X t)
  (f:∀v,assign (.Subscript o i pos) X.env v=(do
   let ov<-holding [v] (eval o X.env)
   let a<-holding [v,ov] (eval i X.env)
   standAt pos
   holding [v,ov,a] (setItem ov a v)
   release [v,ov,a] []):=by intro _;rfl):PG X (.Subscript o i pos) (Q09 to ti t):=by
 intro pins s σ H v u Q I r h
 rw[f]
 refine Ga (Dj (Ys (g pins s σ H _ I h) λov s1⟨x,H1,c,n,k⟩=>?_))
 refine Ga (Dj (Ys (hi pins s1 σ H1 _ c k) λa s2⟨y,H2,d,p,l⟩=>?_))
 refine Ga (L4 (Ga (Dj (Ys (j pins s2 σ H2 x y v ov a u _ d n p r l) λ_ q⟨b,e,m⟩=>?_))))
 exact wpAny_release ⟨σ,b,e,m⟩
def Qwj(te:TE)(g:TG):TS:=λD σ H=>te σ H λx H1=>g x σ H1 D.nx
theorem Qaa{tg e:Expr}{te:TE}{g:TG}(b:PE X e te)(c:PG X tg g)(d:swapsWithSole [tg] e pos.line X.env=pure false:=by rfl)(hw:swappedStores [tg] e X.env=pure none:=by rfl)
  (h1:(assignEach [tg] X.env).map (·.2)=[assign tg X.env]:=by rfl):PS X (.Assign [tg] e pos) (Qwj te g):=by
 intro pins s σ H D I h
 refine wpAny_Assign_stores (Ys (b pins s σ H _ I h) λv s1⟨x,H1,a,i,f⟩=>?_) d hw
 rw[h1]
 exact Ys (c pins s1 σ H1 x v _ a i f) λ_ s2 q=>q
theorem Ql{i:Nat}{x:Str}{e:Expr}{te:TE}{pos':Pos}(c:X.N.Nodup)(hi:X.N[i]?=some x)(j:Loc X.env.scope x)(d:PE X e te)(g:swapsWith e (some (.Name x pos')) pos.line X.env=pure false:=by rfl)(f:X.fn x=true\/X.env.scope.names.lookup x=some .local:=by first|exact .inl rfl|exact .inr rfl|assumption):
  PS X (.Assign [.Name x pos'] e pos) (Qwj te (V8 i)):=by
 intro pins s σ H D I h
 refine wpAny_Assign_Name (Ys (d pins s σ H _ I h) λv s1⟨y,H1,a,l,k⟩=>?_) g
 exact Qgy a c hi j l (λs2 b=>⟨_,H1,b,k⟩) f
end
section
variable{X:Cx}{pos:Pos}
def Qqv(c:TT)(tb:TS):TS:=λD σ H=>∃W:Nat->St->Hp->Prop,(∃m,W m σ H)/\∀m σ H,W m σ H->
 c σ H λb H1=>if b=true then∃N:St->Hp->Prop,(∀a H',N a H'->∃d,d<m/\W d a H')/\tb {D with nx:=N,ct:=N,bk:=D.nx} σ H1 else D.nx σ H1
theorem Wx{c:Expr}{e:List Stmt}{tc:TT}{tb:TS}(t:PassesOwn (model X.prog X.w) X.A X.env X.xe)(x:PT X c tc)(hb:PSs X e tb):PS X (.While c e [] pos) (Qqv tc tb):=by
 intro pins s σ H D I h
 obtain⟨W,⟨m0,y⟩,turn⟩:=h
 refine wpAny_While (codeAny_whileLoop (λn s'=>∃i H',Inv X pins i H' s'/\W n i H') ?_ m0 ⟨σ,H,I,y⟩)
 rintro n s1 ⟨d,H1,u,z⟩
 refine Ed t (Ys (x pins s1 d H1 _ u (turn n d H1 z)) λb s2⟨H2,q,j⟩=>?_)
 cases b with
 |true=>
  obtain⟨N,r,j⟩:=j
  rw[Gp rfl]
  refine Ed t (Ys (hb pins s2 d H2 _ q j) λf B k=>?_)
  cases f with
  |next=>
   obtain⟨a,g,l,n3⟩:=k
   obtain⟨o,m,p⟩:=r a g n3
   exact⟨o,m,a,g,l,p⟩
  |cont=>
   obtain⟨a,g,l,n3⟩:=k
   obtain⟨o,m,p⟩:=r a g n3
   exact⟨o,m,a,g,l,p⟩
  |brk=>exact k
  |ret v=>exact k
 |false=>
  rw[Gj GV]
  exact Su ⟨d,H2,q,j⟩
end
structure It where
 go:Nat->Hp->Prop
 yld:Nat->Hp->V->Hp->Prop
 stop:Nat->Hp->Prop
def O6(X:Cx)(pins:List (Addr×Obj))(H:Hp)(b:Addr):Prop:=
 H b=none/\b≠X.env.locals/\b∉X.fs/\(b∈X.ex\/X.s₀.heap.objs.size<=b)/\(∀x c,X.env.cells.lookup x=some c->c≠b)/\∀p∈X.pn++pins,p.1≠b
theorem Inv.Qkg{X:Cx}{pins:List (Addr×Obj)}{σ:St}{H H':Hp}{s:Shared}{b:Addr}(I:Inv X pins σ H s)(hb:s.heap.objs.size<=b)(a:H' b=none):O6 X pins H' b:=by
 refine⟨a,TQ (Tv I.lt hb),I.Q1a hb,.inr (Dg I.sz hb),λx c e z=>?_,λp d z=>?_⟩
 ·obtain⟨v,q⟩:=I.cell x c e
  exact absurd (Tv q.lt (by rw[z];exact hb)) (DW _)
 ·exact absurd (Tv (Gw (I.pin p d).1) (by rw[z];exact hb)) (DW _)
structure Qg8(P:Program)(w:World)(K:Gc)(tg:Expr)(J:It)(fp:List Addr)(it:Addr)(tn:Nat->Heap->Prop):Prop where
 mem:it∈fp
 obj:∀i h,tn i h->∀b∈fp,∃o,h.get? b=some o/\∀v,o.data≠.cell v
 keep:∀i h h',tn i h->(∀b∈fp,∀o,h.get? b=some o->h'.get? b=some o)->tn i h'
 item:∀(X:Cx),X.prog=P->X.w=w->X.K=K->X.calm=true->∀(i:Nat)(pins:List (Addr×Obj))(s:Shared)(σ:St)(H:Hp)(E:Value->Shared->Prop),Inv X pins σ H s->(∀b∈fp,O6 X pins H b)->tn i s.heap->J.go i H->
  wpAny (model P w) X.A (pyNext (.ref it)) (λr s1=>∃u,r=some u/\
   wpAny (model P w) X.A (letOwnedTupleGo tg (.ref it) u) (λ_ s2=>∃x H',Inv X pins σ H' s2/\RelV x u/\J.yld i H x H'/\tn (i+1) s2.heap/\∀b∈fp,H' b=none) E s1) E s
 done:∀(X:Cx),X.prog=P->X.w=w->X.K=K->X.calm=true->∀(i:Nat)(pins:List (Addr×Obj))(s:Shared)(σ:St)(H:Hp)(E:Value->Shared->Prop),Inv X pins σ H s->(∀b∈fp,O6 X pins H b)->tn i s.heap->J.stop i H->
  wpAny (model P w) X.A (pyNext (.ref it)) (λr s1=>r=none/\Inv X pins σ H s1) E s
 self:∀(A:Around)(i:Nat)(s:Shared)(Q:Value->Shared->Prop)(E:Value->Shared->Prop),tn i s.heap->Q (.ref it) s->wpAny (model P w) A (pyIter (.ref it)) Q E s
abbrev TI:=St->Hp->(It->Hp->Prop)->Prop
def PIE(X:Cx)(pins:List (Addr×Obj))(σ:St)(tg:Expr)(R:It->Hp->Prop)(a:Value)(s2:Shared):Prop:=
 ∃(it:Addr)(fp:List Addr)(tn:Nat->Heap->Prop)(J:It)(H':Hp),a=.ref it/\Inv X pins σ H' s2/\Qg8 X.prog X.w X.K tg J fp it tn/\tn 0 s2.heap/\(∀b∈fp,O6 X pins H' b)/\R J H'
def PI(X:Cx)(tg iter:Expr)(wi:TI):Prop:=
 ∀(pins:List (Addr×Obj))(s:Shared)(σ:St)(H:Hp)(R:It->Hp->Prop),Inv X pins σ H s->wi σ H R->
  wpAny (model X.prog X.w) X.A (eval iter X.env) (λv s1=>wpAny (model X.prog X.w) X.A (pyIter v) (PIE X pins σ tg R) X.xe s1) X.xe s
theorem Qhj {M : Model} {A : Around} {E : Value -> Shared -> Prop} {s : Shared} {tg : Expr} {it : Addr} {u : Value} {o : Obj} {n : String} {vs : Array Value} {Q : Unit -> Shared -> Prop} (d : s.heap.get? it = some o) (b : o.cls = .type n) (hd : o.data = .fields vs)
    (c : ["enumerate", "zip", "dict_itemiterator", "dict_reverseitemiterator", "odict_iterator", "itertools.zip_longest", "itertools.pairwise"].contains n = false) (a : Q () s) : wpAny M A (letOwnedTupleGo tg (.ref it) u) Q E s := by
  unfold letOwnedTupleGo
  cases tg <;> first
    | exact Gf a
    | (cases u <;> first
        | exact Gf a
        | (refine Ga (wpAny_load d ?_)
           rw [b, hd]
           show wpAny M A (if (["enumerate", "zip", "dict_itemiterator", "dict_reverseitemiterator", "odict_iterator", "itertools.zip_longest", "itertools.pairwise"].contains n && vs[0]? == some (rawInt _)) = true then _ else _) Q E s
           rw [Gj (by intro h; rw [c, Bool.false_and] at h; cases h)]
           exact Gf a))
def Itl(K:Gc)(a:Addr):It:=
 ⟨λi H=>∃xs x,Zd K H a xs/\xs[i]?=some x,λi H x H'=>H'=H/\∀xs,Zd K H a xs->xs[i]?=some x,λi H=>∃xs,Zd K H a xs/\xs.length<=i⟩
def Itt(K:Gc)(a:Addr):It:=
 ⟨λi H=>∃xs x,Z4 K H a xs/\xs[i]?=some x,λi H x H'=>H'=H/\∀xs,Z4 K H a xs->xs[i]?=some x,λi H=>∃xs,Z4 K H a xs/\xs.length<=i⟩
def Itr(lo:Int)(n:Nat):It:=⟨λi _=>i<n,λi H x H'=>H'=H/\x=.int (lo+i),λi _=>n<=i⟩
theorem Qn2{P:Program}{w:World}{K:Gc}{tg:Expr}(a it:Addr):Qg8 P w K tg (Itl K a) [it] it (λi h=>h.IsListIter it a i) where
 mem:=by simp
 obj:=λi h st b hb=>by
  have e:b=it:=by simpa using hb
  subst e
  obtain⟨o,e,c,d⟩:=st
  exact⟨o,e,λv z=>by rw[d]at z;cases z⟩
 keep:=λi h h' st k=>st.at λo e=>k it (by simp) o e
 item:=by
  intro X y hw t C i pins s σ H E I g st A
  subst y hw t
  obtain⟨xs,x,j,B⟩:=A
  obtain⟨its,rv,p,hz⟩:=I.list j
  obtain⟨u,J,M⟩:=rv.get B
  obtain⟨l,m,G,n,q,r⟩:=g it (by simp)
  refine wpAny_pyNext_list_item st p.isList (x:=u) (by simpa using J) λh' f N=>?_
  have D:Inv X pins σ H {s with heap:=h'}:=I.turned (t':=s.toks) (λb o hb e=>(N.2 b hb).trans e) l m n q r
  obtain⟨o,e,c,d⟩:=id f
  exact⟨u,Xb,Qhj (s:={s with heap:=h'}) e c d (by decide) ⟨x,H,D,M,⟨Xb,λys L=>by rw[I.Qix L j];exact B⟩,f,λb hb=>(g b hb).1⟩⟩
 done:=by
  intro X y hw t C i pins s σ H E I g st A
  subst y hw t
  obtain⟨xs,j,B⟩:=A
  obtain⟨its,rv,p,hz⟩:=I.list j
  obtain⟨l,m,G,n,q,r⟩:=g it (by simp)
  have O:=rv.length
  exact wpAny_pyNext_list_end (I.ok.hd C) st p.isList (by simp;omega) λh' F=>⟨Xb,I.turned (t':=s.toks) (λb o hb e=>F b o hb e) l m n q r⟩
 self:=λ_ _ _ _ _ st h=>wpAny_pyIter_listiter st h
theorem Qkq{P:Program}{w:World}{K:Gc}{tg:Expr}(a it:Addr):Qg8 P w K tg (Itt K a) [it] it (λi h=>h.IsTupleIter it a i) where
 mem:=by simp
 obj:=λi h st b hb=>by
  have e:b=it:=by simpa using hb
  subst e
  obtain⟨o,e,c,d⟩:=st
  exact⟨o,e,λv z=>by rw[d]at z;cases z⟩
 keep:=λi h h' st k=>st.at λo e=>k it (by simp) o e
 item:=by
  intro X y hw t C i pins s σ H E I g st A
  subst y hw t
  obtain⟨xs,x,j,B⟩:=A
  obtain⟨its,rv,p,hz⟩:=I.tuple j
  obtain⟨u,J,M⟩:=rv.get B
  obtain⟨l,m,G,n,q,r⟩:=g it (by simp)
  refine wpAny_pyNext_tuple_item st (show s.heap.IsTuple a its.toArray from p) (x:=u) (by simpa using J) λh' f N=>?_
  have D:Inv X pins σ H {s with heap:=h'}:=I.turned (t':=s.toks) (λb o hb e=>(N.2 b hb).trans e) l m n q r
  obtain⟨o,e,c,d⟩:=id f
  exact⟨u,Xb,Qhj (s:={s with heap:=h'}) e c d (by decide) ⟨x,H,D,M,⟨Xb,λys L=>by rw[I.Qmz L j];exact B⟩,f,λb hb=>(g b hb).1⟩⟩
 done:=by
  intro X y hw t C i pins s σ H E I g st A
  subst y hw t
  obtain⟨xs,j,B⟩:=A
  obtain⟨its,rv,p,hz⟩:=I.tuple j
  obtain⟨l,m,G,n,q,r⟩:=g it (by simp)
  have O:=rv.length
  exact wpAny_pyNext_tuple_end (I.ok.hd C) st (show s.heap.IsTuple a its.toArray from p) (by simp;omega) λh' F=>⟨Xb,I.turned (t':=s.toks) (λb o hb e=>F b o hb e) l m n q r⟩
 self:=λ_ _ _ _ _ st h=>wpAny_pyIter_tupleiter st h
theorem Qj9{P:Program}{w:World}{K:Gc}{tg:Expr}(it:Addr)(lo:Int)(n:Nat):Qg8 P w K tg (Itr lo n) [it] it (λi h=>IsRangeIter h it (lo+(i:Nat)*1) ((n:Int) - (i:Nat)) 1) where
 mem:=by simp
 obj:=λi h st b hb=>by
  have e:b=it:=by simpa using hb
  subst e
  exact⟨_,st,λv z=>by
   have C:Data.fields _=Data.cell v:=z
   cases C⟩
 keep:=λi h h' st k=>k it (by simp) _ st
 item:=by
  intro X p hw m q i pins s σ H E I c st r
  subst p hw m
  obtain⟨d,f,y,g,j,l⟩:=c it (by simp)
  have W:=Walks.range (prog:=X.prog) (w:=X.w) (I.ok.hd q) it lo 1 n
  refine W.item i s _ _ r st λv h' tk A a B=>?_
  obtain⟨t,rfl⟩:=A
  have u:Inv X pins σ H {s with heap:=h',toks:=tk}:=I.turned (λb o hb e=>B b o (by simpa using hb) e) d f g j l
  refine⟨_,Xb,Qhj (s:={s with heap:=h',toks:=tk}) (n:="range_iterator") a rfl rfl (by decide) ⟨.int (lo+i),H,u,⟨t,?_⟩,⟨Xb,Xb⟩,a,λb hb=>(c b hb).1⟩⟩
  rw[Int.mul_one]
 done:=by
  intro X p hw m q i pins s σ H E I c st r
  subst p hw m
  obtain⟨d,f,y,g,j,l⟩:=c it (by simp)
  exact wpAny_pyNext_range_end (I.ok.hd q) st (by have:n<=i:=r;omega) λh' x=>⟨Xb,I.turned (t':=s.toks) (λb o hb e=>x b o hb e) d f g j l⟩
 self:=λ_ _ _ _ _ st h=>wpAny_pyIter_rangeiter st h
open PySem PySem.Spec PyProof.Rows
section
variable{X:Cx}{tg:Expr}
def Qzk(K:Gc)(tl:TE):TI:=λσ H R=>tl σ H λx H1=>∃a,x=.ref a/\(∃xs,Zd K H1 a xs)/\R (Itl K a) H1
def Q0w(K:Gc)(tl:TE):TI:=λσ H R=>tl σ H λx H1=>∃a,x=.ref a/\(∃xs,Z4 K H1 a xs)/\R (Itt K a) H1
theorem Yp{l:Expr}{tl:TE}(d:PE X l tl):PI X tg l (Qzk X.K tl):=by
 intro pins s σ H R I h
 refine Ys (d pins s σ H _ I h) λv s1⟨x,H1,c,i,g⟩=>?_
 obtain⟨a,e,⟨xs,f⟩,q⟩:=g
 subst e
 cases i
 obtain⟨its,rv,p,hz⟩:=c.list f
 refine wpAny_pyIter_list p.isList ?_
 refine⟨s1.heap.objs.size,[s1.heap.objs.size],_,_,H1,Xb,c.kept (t':=s1.toks) λb o e=>Gh _ e,Qn2 a _,⟨_,Gz _ Xb,Xb,Xb⟩,λb hb=>?_,q⟩
 have e:b=s1.heap.objs.size:=by simpa using hb
 subst e
 exact c.Qkg (Gr _) (c.Zy.fresh (Gr _))
theorem U2{l:Expr}{tl:TE}(d:PE X l tl):PI X tg l (Q0w X.K tl):=by
 intro pins s σ H R I h
 refine Ys (d pins s σ H _ I h) λv s1⟨x,H1,c,i,g⟩=>?_
 obtain⟨a,e,⟨xs,f⟩,q⟩:=g
 subst e
 cases i
 obtain⟨its,rv,p,hz⟩:=c.tuple f
 refine SJ (show s1.heap.IsTuple a its.toArray from p) ?_
 refine⟨s1.heap.objs.size,[s1.heap.objs.size],_,_,H1,Xb,c.kept (t':=s1.toks) λb o e=>Gh _ e,Qkq a _,⟨_,Gz _ Xb,Xb,Xb⟩,λb hb=>?_,q⟩
 have e:b=s1.heap.objs.size:=by simpa using hb
 subst e
 exact c.Qkg (Gr _) (c.Zy.fresh (Gr _))
theorem Qpb{pins:List (Addr×Obj)}{σ:St}{H:Hp}{s:Shared}{R:It->Hp->Prop}{E:Value->Shared->Prop}{lo hi:Int}{t u v:Tok}{tk:Nat}(I:Inv X pins σ H s)(h1: -(2^62)<=lo)(h2:lo<2^62)(f: -(2^62)<=hi)(g:hi<2^62)
  (q:R (Itr lo (hi - lo).toNat) H):wpAny (model X.prog X.w) X.A (pyIter (.ref s.heap.objs.size)) (PIE X pins σ tg R) E {s with heap:=s.heap.push {cls:=.type "range",data:=.fields #[.int lo t,.int hi u,.int 1 v]},toks:=tk}:=by
 refine wpAny_pyIter_range (IsRange.new ..) (small_one h1 h2 f g) ?_
 have a:Inv X pins σ H {s with heap:=s.heap.push {cls:=.type "range",data:=.fields #[.int lo t,.int hi u,.int 1 v]},toks:=tk}:=I.kept λb o e=>Gh _ e
 refine⟨(s.heap.push {cls:=.type "range",data:=.fields #[.int lo t,.int hi u,.int 1 v]}).objs.size,[(s.heap.push {cls:=.type "range",data:=.fields #[.int lo t,.int hi u,.int 1 v]}).objs.size],_,_,H,Xb,
  a.kept (t':=tk) λb o e=>Gh _ e,Qj9 _ lo (hi - lo).toNat,?_,λb hb=>?_,q⟩
 ·have c:lo+((0:Nat):Int)*1=lo:=by simp
  have d:(((hi - lo).toNat:Nat):Int) - ((0:Nat):Int)=Builtin.Range.rangeSize lo hi 1:=by rw[rangeSize_one];split<;>omega
  show IsRangeIter _ _ (lo+((0:Nat):Int)*1) ((((hi - lo).toNat:Nat):Int) - ((0:Nat):Int)) 1
  rw[c,d]
  exact Gz _ rfl
 ·have e:b=(s.heap.push {cls:=.type "range",data:=.fields #[.int lo t,.int hi u,.int 1 v]}).objs.size:=by simpa using hb
  subst e
  exact a.Qkg (Gr _) (a.Zy.fresh (Gr _))
def Qxw(ta:TA):TI:=λσ H R=>ta σ H λvs H1=>∃j:Int,vs=[.int j]/\ -(2^62)<=j/\j<2^62/\R (Itr 0 j.toNat) H1
theorem Ue{a:Expr}{ta:TA}{p pos:Pos}(f:Gl X "range")(g:X.mg "range"=none)(d:PA X [a] ta)(i:starEach [a] X.env=[(false,eval a X.env)]:=by rfl):PI X tg (.Call (.Name "range" p) [a] [] pos) (Qxw ta):=by
 intro pins s σ H R I h
 refine Call_ (V3 I f g boot_range (DT (Ys (d pos pins s σ H _ I h) λus s1⟨vs,H1,c,l,b⟩=>?_) i Xb))
 obtain⟨j,e,b,k,q⟩:=b
 subst e
 cases l with
 |cons r m=>
  cases m
  obtain⟨t,rfl⟩:=r
  exact call_range_1 (Qpb c (by omega) (by omega) b k (by simpa using q))
def Qz5(wi:TI)(g:TG)(tb:TS):TS:=λD σ H=>wi σ H λJ H1=>∃W:Nat->Nat->St->Hp->Prop,(∃m,W 0 m σ H1)/\∀i m σ H,W i m σ H->
 (J.stop i H/\D.nx σ H)\/(J.go i H/\∃N:St->Hp->Prop,(∀a H',N a H'->∃c,c<m/\W (i+1) c a H')/\∀x H',J.yld i H x H'->g x σ H' λb H2=>tb {D with nx:=N,ct:=N,bk:=D.nx} b H2)
def Qcc(fp:List Addr)(h:Heap):List (Addr×Obj):=fp.filterMap λb=>(h.get? b).map λo=>(b,o)
theorem Uz{fp:List Addr}{h:Heap}{b:Addr}{o:Obj}(hb:b∈fp)(e:h.get? b=some o):(b,o)∈Qcc fp h:=SK.mpr ⟨b,hb,by rw[e];rfl⟩
theorem Qmo{fp:List Addr}{h:Heap}{p:Addr×Obj}(c:p∈Qcc fp h):p.1∈fp/\h.get? p.1=some p.2:=by
 obtain⟨b,hb,e⟩:=SK.mp c
 cases q:h.get? b with
 |none=>rw[q]at e;cases e
 |some o=>
  rw[q]at e
  have a:(b,o)=p:=TF e
  subst a
  exact⟨hb,q⟩
theorem Inv.pinned{pins:List (Addr×Obj)}{σ:St}{H:Hp}{s:Shared}{fp:List Addr}(I:Inv X pins σ H s)(h:∀b∈fp,O6 X pins H b)(i:∀b∈fp,∃o,s.heap.get? b=some o/\∀v,o.data≠.cell v):Inv X (pins++Qcc fp s.heap) σ H s:=
 I.Qlf λp j=>(Gd.mp j).elim (λz=>I.pin p (Tn _ z)) λz=>by
  obtain⟨hb,e⟩:=Qmo z
  obtain⟨c,f,g,_⟩:=h p.1 hb
  obtain⟨o,a,d⟩:=i p.1 hb
  rw[e]at a;cases a
  exact⟨e,c,f,g,d⟩
theorem Inv.Rq{pins pl:List (Addr×Obj)}{σ:St}{H:Hp}{s:Shared}(I:Inv X (pins++pl) σ H s):Inv X pins σ H s:=I.Qlf λp a=>I.pin p (Tn _ (Gi _ a))
theorem Ye{iter:Expr}{q:List Stmt}{wi:TI}{g:TG}{tb:TS}{pos:Pos}(B:PassesOwn (model X.prog X.w) X.A X.env X.xe)(U:X.calm=true)(hi:PI X tg iter wi)(hg:PG X tg g)(hb:PSs X q tb)
  (hs:∀x,foldedSetIterable iter X.env x=pure x:=by intro _;rfl):PS X (.For tg iter q [] pos) (Qz5 wi g tb):=by
 intro pins s σ H D I h
 refine wpAny_For (Ys (hi pins s σ H _ I h) λv s1 h1=>Ys h1 λaa s2 h2=>?_) hs
 obtain⟨it,fp,tn,J,H2,e,I2,T,O,S,W,⟨m0,w0⟩,turn⟩:=h2
 subst e
 have k:∀{H':Hp},(∀b∈fp,H' b=none)->∀b∈fp,O6 X pins H' b:=λhn b hb=>⟨hn b hb,(S b hb).2⟩
 refine codeAny_forLoop_any (λn s'=>∃i l H',Inv X pins l H' s'/\tn i s'.heap/\(∀b∈fp,H' b=none)/\W i n l H') ?_ m0 ⟨0,σ,H2,I2,O,λb hb=>(S b hb).1,w0⟩
 rintro n V ⟨i,p,F,R,E,z,w3⟩
 rcases turn i n p F w3 with⟨stop,qn⟩|⟨go,N,hN,step⟩
 ·refine Ed B (Ys (T.done X rfl rfl rfl U i pins V p F X.xe R (k z) E stop) λr s4⟨L,I4⟩=>?_)
  subst L
  exact Su ⟨p,F,I4,qn⟩
 ·refine Ed B (Ys (T.item X rfl rfl rfl U i pins V p F X.xe R (k z) E go) λr s4⟨u,L,h4⟩=>?_)
  subst L
  refine Ed B (Ys h4 λ_ Y⟨x,Q,I5,r5,y5,y,K⟩=>?_)
  have G:=I5.pinned (k K) (T.obj _ _ y)
  refine Ed B (Ys (hg _ Y p Q x u _ G r5 (step x Q y5)) λ_ s6⟨P,Z,I6,q6⟩=>?_)
  refine Ed B (Ys (hb _ s6 P Z _ I6 q6) λf M t=>?_)
  have again:∀{a:St}{c:Hp},Inv X (pins++Qcc fp Y.heap) a c M->N a c->∃m,m<n/\∃i l H',Inv X pins l H' M/\tn i M.heap/\(∀b∈fp,H' b=none)/\W i m l H':=λ{a c}j C=>by
   obtain⟨m',hm,w7⟩:=hN a c C
   refine⟨m',hm,i+1,a,c,j.Rq,T.keep _ _ _ y λb hb o e=>(j.pin (b,o) (Tn _ (Tn _ (Uz hb e)))).1,λb hb=>?_,w7⟩
   obtain⟨o,e,d⟩:=T.obj _ _ y b hb
   exact(j.pin (b,o) (Tn _ (Tn _ (Uz hb e)))).2.1
  cases f with
  |next=>obtain⟨a,c,j,C⟩:=t;exact again j C
  |cont=>obtain⟨a,c,j,C⟩:=t;exact again j C
  |brk=>obtain⟨a,c,j,t⟩:=t;exact⟨a,c,j.Rq,t⟩
  |ret v=>obtain⟨x7,a,c,j,r7,t⟩:=t;exact⟨x7,a,c,j.Rq,r7,t⟩
end
theorem Y2{K:Gc}{a:Addr}{xs:List V}{g:TG}{tb:TS}{D:Ends}{σ:St}{H:Hp}(Pv:Nat->St->Hp->Prop)(h:Pv 0 σ H)(j:∀i σ H,i<=xs.length->Pv i σ H->Zd K H a xs)
  (k:∀i x σ H,xs[i]?=some x->Pv i σ H->g x σ H λc H2=>tb {D with nx:=Pv (i+1),ct:=Pv (i+1),bk:=D.nx} c H2)(hd:∀σ H,Pv xs.length σ H->D.nx σ H):
  ∃W:Nat->Nat->St->Hp->Prop,(∃m,W 0 m σ H)/\∀i m σ H,W i m σ H->
   ((Itl K a).stop i H/\D.nx σ H)\/((Itl K a).go i H/\∃N:St->Hp->Prop,(∀b H',N b H'->∃f,f<m/\W (i+1) f b H')/\∀x H',(Itl K a).yld i H x H'->g x σ H' λc H2=>tb {D with nx:=N,ct:=N,bk:=D.nx} c H2):=by
 refine⟨λi m σ H=>m=xs.length - i/\i<=xs.length/\Pv i σ H,⟨xs.length,by simp,Ta _,h⟩,?_⟩
 rintro i m σ H ⟨rfl,hi,p⟩
 have q:=j i σ H hi p
 by_cases d:i<xs.length
 ·refine .inr ⟨⟨xs,xs[i],q,by simp[d]⟩,Pv (i+1),λb H' l=>⟨xs.length - (i+1),by omega,Xb,d,l⟩,λx H' y=>?_⟩
  obtain⟨e,y⟩:=y
  subst e
  exact k i x σ _ (y xs q) p
 ·have e:i=xs.length:=by omega
  subst e
  exact .inl ⟨⟨xs,q,Gr _⟩,hd σ H p⟩
theorem Qgb{K:Gc}{a:Addr}{xs:List V}{g:TG}{tb:TS}{D:Ends}{σ:St}{H:Hp}(Pv:Nat->St->Hp->Prop)(h:Pv 0 σ H)(j:∀i σ H,i<=xs.length->Pv i σ H->Z4 K H a xs)
  (k:∀i x σ H,xs[i]?=some x->Pv i σ H->g x σ H λc H2=>tb {D with nx:=Pv (i+1),ct:=Pv (i+1),bk:=D.nx} c H2)(hd:∀σ H,Pv xs.length σ H->D.nx σ H):
  ∃W:Nat->Nat->St->Hp->Prop,(∃m,W 0 m σ H)/\∀i m σ H,W i m σ H->
   ((Itt K a).stop i H/\D.nx σ H)\/((Itt K a).go i H/\∃N:St->Hp->Prop,(∀b H',N b H'->∃f,f<m/\W (i+1) f b H')/\∀x H',(Itt K a).yld i H x H'->g x σ H' λc H2=>tb {D with nx:=N,ct:=N,bk:=D.nx} c H2):=by
 refine⟨λi m σ H=>m=xs.length - i/\i<=xs.length/\Pv i σ H,⟨xs.length,by simp,Ta _,h⟩,?_⟩
 rintro i m σ H ⟨rfl,hi,p⟩
 have q:=j i σ H hi p
 by_cases d:i<xs.length
 ·refine .inr ⟨⟨xs,xs[i],q,by simp[d]⟩,Pv (i+1),λb H' l=>⟨xs.length - (i+1),by omega,Xb,d,l⟩,λx H' y=>?_⟩
  obtain⟨e,y⟩:=y
  subst e
  exact k i x σ _ (y xs q) p
 ·have e:i=xs.length:=by omega
  subst e
  exact .inl ⟨⟨xs,q,Gr _⟩,hd σ H p⟩
theorem Ud{lo:Int}{n:Nat}{g:TG}{tb:TS}{D:Ends}{σ:St}{H:Hp}(Pv:Nat->St->Hp->Prop)(f:Pv 0 σ H)
  (h:∀i σ H,i<n->Pv i σ H->g (.int (lo+i)) σ H λc H2=>tb {D with nx:=Pv (i+1),ct:=Pv (i+1),bk:=D.nx} c H2)(hd:∀σ H,Pv n σ H->D.nx σ H):
  ∃W:Nat->Nat->St->Hp->Prop,(∃m,W 0 m σ H)/\∀i m σ H,W i m σ H->
   ((Itr lo n).stop i H/\D.nx σ H)\/((Itr lo n).go i H/\∃N:St->Hp->Prop,(∀b H',N b H'->∃d,d<m/\W (i+1) d b H')/\∀x H',(Itr lo n).yld i H x H'->g x σ H' λc H2=>tb {D with nx:=N,ct:=N,bk:=D.nx} c H2):=by
 refine⟨λi m σ H=>m=n - i/\i<=n/\Pv i σ H,⟨n,by simp,Ta _,f⟩,?_⟩
 rintro i m σ H ⟨rfl,hi,p⟩
 by_cases a:i<n
 ·refine .inr ⟨a,Pv (i+1),λb H' j=>⟨n - (i+1),by omega,Xb,a,j⟩,λx H' y=>?_⟩
  obtain⟨e,y⟩:=y
  subst e y
  exact h i σ _ a p
 ·have e:i=n:=by omega
  subst e
  exact .inl ⟨Gr _,hd σ H p⟩
open PySem PySem.Spec PyProof.Rows
abbrev R2:=V->V->Hp->VK->Prop
def Oh(X:Cx)(f:Value->Value->Sem Value)(r:R2):Prop:=
 ∀(pins:List (Addr×Obj))(s:Shared)(σ:St)(H:Hp)(x y:V)(v u:Value)(Q:VK),Inv X pins σ H s->RelV x v->RelV y u->r x y H Q->
  wpAny (model X.prog X.w) X.A (f v u) (EP X pins σ Q) X.xe s
def UnR(X:Cx)(f:Value->Sem Value)(r:V->Hp->VK->Prop):Prop:=
 ∀(pins:List (Addr×Obj))(s:Shared)(σ:St)(H:Hp)(x:V)(v:Value)(Q:VK),Inv X pins σ H s->RelV x v->r x H Q->
  wpAny (model X.prog X.w) X.A (f v) (EP X pins σ Q) X.xe s
def Vr(X:Cx)(f:Value)(r:List V->Hp->VK->Prop):Prop:=
 ∀(pins:List (Addr×Obj))(s:Shared)(σ:St)(H:Hp)(xs:List V)(us:List Value)(Q:VK),Inv X pins σ H s->Zv xs us->r xs H Q->
  wpAny (model X.prog X.w) X.A (call f us) (EP X pins σ Q) X.xe s
def Q0r(X:Cx)(r:V->Hp->(Bool->Hp->Prop)->Prop):Prop:=
 ∀(pins:List (Addr×Obj))(s:Shared)(σ:St)(H:Hp)(x:V)(v:Value)(Q:Bool->Hp->Prop),Inv X pins σ H s->RelV x v->r x H Q->
  wpAny (model X.prog X.w) X.A (truthy v) (TP X pins σ Q) X.xe s
def tOp(r:R2)(ta tb:TE):TE:=λσ H Q=>ta σ H λx H1=>tb σ H1 λy H2=>r x y H2 Q
def tUn(r:V->Hp->VK->Prop)(ta:TE):TE:=λσ H Q=>ta σ H λx H1=>r x H1 Q
def rI(C:Int->Int->Prop)(g:Int->Int->V):R2:=λx y H Q=>∃i j,x=.int i/\y=.int j/\C i j/\Q (g i j) H
def rI0(g:Int->Int->V):R2:=λx y H Q=>∃i j,x=.int i/\y=.int j/\Q (g i j) H
def rU(g:Int->V):V->Hp->VK->Prop:=λx H Q=>∃i,x=.int i/\Q (g i) H
section
variable{X:Cx}{a b c:Expr}{ta tb tc:TE}{pos:Pos}
theorem Qwy(i:PE X a ta)(hb:PE X b tb){pins:List (Addr×Obj)}{s:Shared}{σ:St}{H:Hp}{R:V->V->Hp->Prop}(I:Inv X pins σ H s)
  (h:ta σ H λx H1=>tb σ H1 λy H2=>R x y H2){Q:Value->Shared->Prop}{f:Value->Value->Sem Value}
  (j:∀v u s2 x y H2,Inv X pins σ H2 s2->RelV x v->RelV y u->R x y H2->wpAny (model X.prog X.w) X.A (f v u) Q X.xe s2):
  wpAny (model X.prog X.w) X.A (eval a X.env) (λv c=>wpAny (model X.prog X.w) X.A (eval b X.env) (λu d=>wpAny (model X.prog X.w) X.A (f v u) Q X.xe d) X.xe c) X.xe s:=by
 refine Ys (i pins s σ H _ I h) λv s1⟨x,H1,e,m,k⟩=>?_
 refine Ys (hb pins s1 σ H1 _ e k) λu s2⟨y,H2,g,n,l⟩=>?_
 exact j v u s2 x y H2 g m n l
theorem Zp{c:Operator}{r:R2}(f:Oh X (binaryOp c) r)(e:PE X a ta)(hb:PE X b tb):PE X (.BinOp a c b pos) (tOp r ta tb):=by
 intro pins s σ H Q I h
 exact wpAny_BinOp (Qwy e hb I h λv u s2 x y H2 d g i q=>f pins s2 σ H2 x y v u Q d g i q)
theorem Qdf{b:UnaryOp}{r:V->Hp->VK->Prop}(e:UnR X (unaryOp b) r)(d:PE X a ta):PE X (.UnaryOp b a pos) (tUn r ta):=by
 intro pins s σ H Q I h
 exact UnaryOp_ (Ys (d pins s σ H _ I h) λv s1⟨x,H1,c,g,f⟩=>e pins s1 σ H1 x v Q c g f)
theorem opI{f:Value->Value->Sem Value}{C:Int->Int->Prop}{g:Int->Int->Int}
  (rule:∀(i j:Int)(t u:Tok)(s:Shared)(Q:Value->Shared->Prop)(E:Value->Shared->Prop),C i j->Q (.int (g i j) s.toks) {s with toks:=s.toks+1}->wpAny (model X.prog X.w) X.A (f (.int i t) (.int j u)) Q E s):
  Oh X f (rI C λi j=>.int (g i j)):=by
 intro pins s σ H x y v u Q I b c h
 obtain⟨i,j,rfl,rfl,a,q⟩:=h
 obtain⟨t,rfl⟩:=b
 obtain⟨t',rfl⟩:=c
 exact rule i j t t' s _ _ a ⟨.int (g i j),H,I.tok _,⟨_,Xb⟩,q⟩
theorem Qxz{f:Value->Value->Sem Value}{g:Int->Int->Int}
  (rule:∀(i j:Int)(t u:Tok)(s:Shared)(Q:Value->Shared->Prop)(E:Value->Shared->Prop),Q (.int (g i j) s.toks) {s with toks:=s.toks+1}->wpAny (model X.prog X.w) X.A (f (.int i t) (.int j u)) Q E s):
  Oh X f (rI0 λi j=>.int (g i j)):=by
 intro pins s σ H x y v u Q I a b h
 obtain⟨i,j,rfl,rfl,q⟩:=h
 obtain⟨t,rfl⟩:=a
 obtain⟨t',rfl⟩:=b
 exact rule i j t t' s _ _ ⟨.int (g i j),H,I.tok _,⟨_,Xb⟩,q⟩
theorem Qt2{f:Value->Value->Sem Value}{g:Int->Int->Bool}
  (rule:∀(i j:Int)(t u:Tok)(s:Shared)(Q:Value->Shared->Prop)(E:Value->Shared->Prop),Q (.bool (g i j)) s->wpAny (model X.prog X.w) X.A (f (.int i t) (.int j u)) Q E s):
  Oh X f (rI0 λi j=>.bl (g i j)):=by
 intro pins s σ H x y v u Q I a b h
 obtain⟨i,j,rfl,rfl,q⟩:=h
 obtain⟨t,rfl⟩:=a
 obtain⟨t',rfl⟩:=b
 exact rule i j t t' s _ _ ⟨.bl (g i j),H,I,Xb,q⟩
def Q0a(i j:Int):Prop:=0<j/\j<1073741824
def Q0v(i j:Int):Prop:=0<=j/\j<=1000000/\i.natAbs<2^64
def Qww(i j:Int):Prop:=(-(2^64)<i/\i<2^64)\/(-(2^64)<j/\j<2^64)
theorem Qww.ok{i j:Int}(h:Qww i j):IntMulOk i j:=by
 rcases h with⟨h1,h2⟩|⟨h1,h2⟩
 ·exact .of_left (intBits_le_64 h1 h2)
 ·exact .of_right (intBits_le_64 h1 h2)
theorem Qb5:Oh X (binaryOp .Add) (rI0 λi j=>.int (i+j)):=Qxz λ_ _ _ _ _ _ _ q=>add_int q
theorem Qf0:Oh X (binaryOp .Sub) (rI0 λi j=>.int (i - j)):=Qxz λ_ _ _ _ _ _ _ q=>sub_int q
theorem Qr1:Oh X (binaryOp .Mult) (rI Qww λi j=>.int (i*j)):=opI λ_ _ _ _ _ _ _ a q=>mul_int q a.ok
theorem Wv:Oh X (binaryOp .FloorDiv) (rI Q0a λi j=>.int (i / j)):=opI λi j _ _ _ _ _ a q=>by
 have h1:(0:Int)<j:=a.1
 have h2:j<1073741824:=a.2
 exact floordiv_int (by omega) (by rw[Int.fdiv_eq_ediv_of_nonneg i (by omega)];exact q) (.inl (LF (by omega)))
theorem Xt:Oh X (binaryOp .Mod) (rI (λ_ j=>0<j) λi j=>.int (i % j)):=opI λi j _ _ _ _ _ a q=>by
 have h1:(0:Int)<j:=a
 exact mod_int' (by omega) (by rw[Int.fmod_eq_emod_of_nonneg i (by omega)];exact q)
theorem Qq4:Oh X (binaryOp .Pow) (rI Q0v λi j=>.int (i^j.toNat)):=opI λ_ _ _ _ _ _ _ a q=>pow_int_small a.1 a.2.1 a.2.2 q
theorem unI{f:Value->Sem Value}{g:Int->Int}
  (rule:∀(i:Int)(t:Tok)(s:Shared)(Q:Value->Shared->Prop)(E:Value->Shared->Prop),Q (.int (g i) s.toks) {s with toks:=s.toks+1}->wpAny (model X.prog X.w) X.A (f (.int i t)) Q E s):
  UnR X f (rU λi=>.int (g i)):=by
 intro pins s σ H x v Q I a h
 obtain⟨i,rfl,q⟩:=h
 obtain⟨t,rfl⟩:=a
 exact rule i t s _ _ ⟨.int (g i),H,I.tok _,⟨_,Xb⟩,q⟩
theorem Iw:UnR X (unaryOp .USub) (rU λi=>.int (-i)):=unI λ_ _ _ _ _ q=>neg_int q
end
def Qyi:V->V->Bool
 |.non,.non=>true|.non,.int _=>true|.int _,.non=>true|.non,.bl _=>true|.bl _,.non=>true|.non,.str _=>true|.str _,.non=>true
 |.int _,.int _=>true|.bl _,.bl _=>true|.str _,.str _=>true|.byt _,.byt _=>true
 |.int _,.str _=>true|.str _,.int _=>true|.bl _,.str _=>true|.str _,.bl _=>true
 |_,_=>false
def rEq:R2:=λx y H Q=>Qyi x y=true/\Q (.bl (decide (x=y))) H
def rNe:R2:=λx y H Q=>Qyi x y=true/\Q (.bl (!decide (x=y))) H
theorem Vd{i j:Int}:decide (V.int i=V.int j)=(i==j):=by
 rw[EV]
 simp
theorem Qra{i j:Bool}:decide (V.bl i=V.bl j)=(i==j):=by
 rw[EV]
 simp
theorem Yf{i j:Str}:decide (V.str i=V.str j)=(i==j):=by
 rw[EV]
 simp
theorem Qlw{i j:Array UInt8}:decide (V.byt i=V.byt j)=(i.toList==j.toList):=by
 rw[EV]
 cases i
 cases j
 simp
section
variable{X:Cx}{a b c:Expr}{ta tb tc:TE}{pos:Pos}
theorem Z3{pins:List (Addr×Obj)}{σ:St}{H:Hp}{s:Shared}{Q:VK}{k a:Bool}(I:Inv X pins σ H s)(q:Q (.bl k) H)(e:k=a):EP X pins σ Q (.bool a) s:=by
 subst e
 exact⟨.bl k,H,I,Xb,q⟩
theorem Wf:Oh X (compareOp .Eq) rEq:=by
 intro pins s σ H x y v u Q I c a h
 obtain⟨b,q⟩:=h
 cases x with
 |non=>
  cases c
  cases y with
  |non=>cases a;exact PySem.EqNone.eq_none_none (Z3 I q (by simp))
  |bl j=>cases a;exact PySem.EqNone.eq_none_bool (Z3 I q (by simp))
  |int j=>obtain⟨t',rfl⟩:=a;exact PySem.EqNone.eq_none_int (Z3 I q (by simp))
  |str j=>obtain⟨t',rfl⟩:=a;exact PySem.EqNone.eq_none_str (Z3 I q (by simp))
  |_=>exact absurd (show false=true from b) GV
 |bl i=>
  cases c
  cases y with
  |non=>cases a;exact PySem.EqNone.eq_bool_none (Z3 I q (by simp))
  |bl j=>cases a;exact eq_bool (Z3 I q Qra)
  |str j=>obtain⟨t',rfl⟩:=a;exact PySem.EqMixed.eq_bool_str (Z3 I q (by simp))
  |_=>exact absurd (show false=true from b) GV
 |int i=>
  obtain⟨t,rfl⟩:=c
  cases y with
  |non=>cases a;exact PySem.EqNone.eq_int_none (Z3 I q (by simp))
  |int j=>obtain⟨t',rfl⟩:=a;exact eq_int (Z3 I q Vd)
  |str j=>obtain⟨t',rfl⟩:=a;exact PySem.EqMixed.eq_int_str (Z3 I q (by simp))
  |_=>exact absurd (show false=true from b) GV
 |str i=>
  obtain⟨t,rfl⟩:=c
  cases y with
  |non=>cases a;exact PySem.EqNone.eq_str_none (Z3 I q (by simp))
  |bl j=>cases a;exact PySem.EqMixed.eq_str_bool (Z3 I q (by simp))
  |int j=>obtain⟨t',rfl⟩:=a;exact PySem.EqMixed.eq_str_int (Z3 I q (by simp))
  |str j=>obtain⟨t',rfl⟩:=a;exact eq_str (Z3 I q Yf)
  |_=>exact absurd (show false=true from b) GV
 |byt i=>
  obtain⟨t,rfl⟩:=c
  cases y with
  |byt j=>obtain⟨t',rfl⟩:=a;exact PySem.W.eq_bytes (Z3 I q Qlw)
  |_=>exact absurd (show false=true from b) GV
 |_=>cases y<;>exact absurd (show false=true from b) GV
theorem Jq:Oh X (compareOp .NotEq) rNe:=by
 intro pins s σ H x y v u Q I c a h
 obtain⟨b,q⟩:=h
 cases x with
 |non=>
  cases c
  cases y with
  |non=>cases a;exact PySem.EqNone.ne_none_none (Z3 I q (by simp))
  |bl j=>cases a;exact PySem.EqNone.ne_none_bool (Z3 I q (by simp))
  |int j=>obtain⟨t',rfl⟩:=a;exact PySem.EqNone.ne_none_int (Z3 I q (by simp))
  |str j=>obtain⟨t',rfl⟩:=a;exact PySem.EqNone.ne_none_str (Z3 I q (by simp))
  |_=>exact absurd (show false=true from b) GV
 |bl i=>
  cases c
  cases y with
  |non=>cases a;exact PySem.EqNone.ne_bool_none (Z3 I q (by simp))
  |bl j=>cases a;exact ne_bool (Z3 I q (congrArg not Qra))
  |str j=>obtain⟨t',rfl⟩:=a;exact PySem.EqMixed.ne_bool_str (Z3 I q (by simp))
  |_=>exact absurd (show false=true from b) GV
 |int i=>
  obtain⟨t,rfl⟩:=c
  cases y with
  |non=>cases a;exact PySem.EqNone.ne_int_none (Z3 I q (by simp))
  |int j=>obtain⟨t',rfl⟩:=a;exact ne_int (Z3 I q (congrArg not Vd))
  |str j=>obtain⟨t',rfl⟩:=a;exact PySem.EqMixed.ne_int_str (Z3 I q (by simp))
  |_=>exact absurd (show false=true from b) GV
 |str i=>
  obtain⟨t,rfl⟩:=c
  cases y with
  |non=>cases a;exact PySem.EqNone.ne_str_none (Z3 I q (by simp))
  |bl j=>cases a;exact PySem.EqMixed.ne_str_bool (Z3 I q (by simp))
  |int j=>obtain⟨t',rfl⟩:=a;exact PySem.EqMixed.ne_str_int (Z3 I q (by simp))
  |str j=>obtain⟨t',rfl⟩:=a;exact ne_str (Z3 I q (congrArg not Yf))
  |_=>exact absurd (show false=true from b) GV
 |byt i=>
  obtain⟨t,rfl⟩:=c
  cases y with
  |byt j=>obtain⟨t',rfl⟩:=a;exact PySem.W.ne_bytes (Z3 I q (congrArg not Qlw))
  |_=>exact absurd (show false=true from b) GV
 |_=>cases y<;>exact absurd (show false=true from b) GV
theorem Qg3:Oh X (compareOp .Lt) (rI0 λi j=>.bl (decide (i<j))):=Qt2 λ_ _ _ _ _ _ _ q=>lt_int q
theorem Qp0:Oh X (compareOp .LtE) (rI0 λi j=>.bl (decide (i<=j))):=Qt2 λ_ _ _ _ _ _ _ q=>le_int q
theorem Qii:Oh X (compareOp .Gt) (rI0 λi j=>.bl (decide (j<i))):=Qt2 λ_ _ _ _ _ _ _ q=>gt_int q
theorem Qya:Oh X (compareOp .GtE) (rI0 λi j=>.bl (decide (j<=i))):=Qt2 λ_ _ _ _ _ _ _ q=>ge_int q
theorem Qxe:Oh X (compareOp .Is) (λx y H Q=>y=.non/\Q (.bl (decide (x=.non))) H):=by
 intro pins s σ H x y v u Q I a b h
 obtain⟨rfl,q⟩:=h
 cases b
 refine is_none_gen (Z3 I q ?_)
 cases x<;>first
  |(cases a;rfl)
  |(obtain⟨t,rfl⟩:=a;rfl)
theorem Rn:Oh X (compareOp .IsNot) (λx y H Q=>y=.non/\Q (.bl (!decide (x=.non))) H):=by
 intro pins s σ H x y v u Q I a b h
 obtain⟨rfl,q⟩:=h
 cases b
 refine isnot_none_gen (Z3 I q ?_)
 cases x<;>first
  |(cases a;rfl)
  |(obtain⟨t,rfl⟩:=a;rfl)
theorem Q7(b:Expr){a:CmpOp}(h:a≠.In:=by decide)(h2:a≠.NotIn:=by decide):behindInMarks a b=false:=by
 have c:(a==CmpOp.In)=false:=by cases a<;>first|rfl|exact absurd rfl h
 have d:(a==CmpOp.NotIn)=false:=by cases a<;>first|rfl|exact absurd rfl h2
 cases b<;>simp[behindInMarks,c,d]
theorem Qur{c:CmpOp}{r:R2}(g:Oh X (compareOp c) r)(e:PE X a ta)(hb:PE X b tb)(f:behindInMarks c b=false):PE X (.Compare a [c] [b] pos) (tOp r ta tb):=by
 intro pins s σ H Q I h
 exact wpAny_Compare1 (Qwy e hb I h λv u s2 x y H2 d i j q=>g pins s2 σ H2 x y v u Q d i j q) f
def Qvp(t:TE):TT:=λσ H Q=>t σ H λx H'=>∃k,x=.bl k/\Q k H'
theorem Qs{d:CmpOp}{r:R2}(n:Oh X (compareOp d) r)(l:PE X a ta)(hb:PE X b tb)(m:behindInMarks d b=false):PT X (.Compare a [d] [b] pos) (Qvp (tOp r ta tb)):=by
 intro pins s σ H Q I h
 refine wpAny_isTrue_Compare1 (Ys (l pins s σ H _ I h) λv s1⟨x,H1,g,t,o⟩=>Ys (hb pins s1 σ H1 _ g o) λu s2⟨y,H2,i,w,p⟩=>
  Ys (n pins s2 σ H2 x y v u _ i t w p) λc B⟨z,f,j,A,k,e,q⟩=>?_) m
 subst e
 cases A
 exact Ef ⟨f,j,q⟩
def Qv6(r c:R2)(ta tb tc:TE):TE:=λσ H Q=>ta σ H λx H1=>tb σ H1 λy H2=>r x y H2 λz a=>∃k,z=.bl k/\
 (if k=true then tc σ a λd b=>c y d b Q else Q (.bl false) a)
theorem Qq3{i f:CmpOp}{r n:R2}(J:Oh X (compareOp i) r)(g:Oh X (compareOp f) n)(E:PE X a ta)(hb:PE X b tb)(F:PE X c tc)
  (G:lastMarks [i,f] [b,c]=false:=by with_unfolding_all rfl):PT X (.Compare a [i,f] [b,c] pos) (Qvp (Qv6 r n ta tb tc)):=by
 intro pins s σ H Q I h
 refine isTrue_chain (Ys (E pins s σ H _ I h) λv s1⟨x,H1,t,P,L⟩=>test_link (Ys (hb pins s1 σ H1 _ t L) λu s2⟨y,H2,w,o,M⟩=>
  Ys (J pins s2 σ H2 x y v u _ w P o M) λd U⟨z,j,l,R,k,e,m⟩=>?_)) G
 subst e
 cases R
 refine Ef ?_
 cases k with
 |false=>
  obtain⟨Y,C,K⟩:=m
  cases C
  exact ite_ff ⟨j,l,K⟩
 |true=>
  refine ite_tt (test_last (Ys (F pins U σ j _ l m) λV s4⟨W,p,A,S,N⟩=>Ys (g pins s4 σ p y W u V _ A o S N) λd' s5⟨z2,q,B,T,Z,D,O⟩=>?_))
  subst D
  cases T
  exact Ef ⟨q,B,O⟩
def Qzg(K:Gc)(x:V)(H:Hp)(k:Bool):Prop:=
 match x with
 |.non=>k=false
 |.bl b=>k=b
 |.int i=>k=(i !=0)
 |.str y=>y.length<=sizeLine/\k=((y.length:Int) !=0)
 |.byt y=>y.size<=sizeLine/\k=((y.size:Int) !=0)
 |.ref p=>(∃xs,Zd K H p xs/\k= !xs.isEmpty)\/(∃xs,Z4 K H p xs/\k= !xs.isEmpty)\/∃kvs,H p=some (.dK kvs)/\k= !kvs.isEmpty
 |_=>False
theorem Qjg{κ:Type}{kvs:List (κ×V)}{vs:List (κ×Value)}(r:KV kvs vs):(!vs.isEmpty)= !kvs.isEmpty:=by
 cases r<;>rfl
theorem Qcv{xs:List V}{its:List Value}(r:Zv xs its):(!its.toArray.isEmpty)= !xs.isEmpty:=by
 cases r<;>simp
theorem Rh:(sizeLine:Nat)<2^63:=by rw[Td];decide
theorem Qw9:Q0r X (λx H Q=>∃k,Qzg X.K x H k/\Q k H):=by
 intro pins s σ H x v Q I d h
 obtain⟨k,e,q⟩:=h
 have j:=Rh
 have l:sizeLine=16777216:=Td
 cases x with
 |non=>
  cases d
  have a:k=false:=e
  subst a
  exact truthy_none ⟨H,I,q⟩
 |bl b=>
  cases d
  have a:k=b:=e
  subst a
  exact Ef ⟨H,I,q⟩
 |int i=>
  obtain⟨t,rfl⟩:=d
  have a:k=(i !=0):=e
  subst a
  exact PySem.P.truthy_int ⟨H,I,q⟩
 |str y=>
  obtain⟨t,rfl⟩:=d
  obtain⟨g,a⟩:y.length<=sizeLine/\k=((y.length:Int) !=0):=e
  subst a
  exact PySem.P.truthy_str (by omega) ⟨H,I.tok _,q⟩
 |byt y=>
  obtain⟨t,rfl⟩:=d
  obtain⟨g,a⟩:y.size<=sizeLine/\k=((y.size:Int) !=0):=e
  subst a
  exact PySem.W.truthy_bytes (by omega) ⟨H,I.tok _,q⟩
 |ref p=>
  cases d
  have a:(∃xs,Zd X.K H p xs/\k= !xs.isEmpty)\/(∃xs,Z4 X.K H p xs/\k= !xs.isEmpty)\/∃kvs,H p=some (.dK kvs)/\k= !kvs.isEmpty:=e
  rcases a with⟨xs,f,a⟩|⟨xs,f,a⟩|⟨kvs,f,a⟩
  ·subst a
   obtain⟨its,r,pl,hz⟩:=I.list f
   have c:=r.length
   exact wpAny_truthy_list pl.isList (by simp only[GF];omega) ⟨H,I.tok _,by rw[Qcv r];exact q⟩
  ·subst a
   obtain⟨its,r,pl,hz⟩:=I.tuple f
   have c:=r.length
   exact truthy_tuple pl (by simp only[GF];omega) ⟨H,I.tok _,by rw[Qcv r];exact q⟩
  ·subst a
   obtain⟨hz,hS,vs,r,m⟩:kvs.length<=sizeLine/\(p==sysModules)=false/\∃vs,KV kvs vs/\s.heap.DictOf (Yh X.prog X.w) p vs:=I.Zy p _ f
   have c:kvs.length=vs.length:=Gs r
   exact wpAny_truthy_dict hS m (by omega) ⟨H,I.tok _,by rw[Qjg r];exact q⟩
 |_=>exact(show False from e).elim
theorem Qot(d:PE X a ta)(e:∀b,isTrue a X.env b=(do let v<-b;standAt a.pos;holding [v] (truthy v))):
  PT X a (λσ H Q=>ta σ H λx H'=>∃k,Qzg X.K x H' k/\Q k H'):=by
 intro pins s σ H Q I h
 exact isTrue_plain (Ys (d pins s σ H _ I h) λv s1⟨x,H1,c,g,f⟩=>Qw9 pins s1 σ H1 x v Q c g f) (e _)
theorem Qjm:Oh X (binaryOp .Add) (λx y H Q=>∃i j,x=.str i/\y=.str j/\i.length+j.length<=sizeLine/\Q (.str (i++j)) H):=by
 intro pins s σ H x y v u Q I a b h
 obtain⟨i,j,rfl,rfl,hz,q⟩:=h
 obtain⟨t,rfl⟩:=a
 obtain⟨t',rfl⟩:=b
 exact add_str (λt' tk=>⟨.str (i++j),H,I.tok _,⟨_,Xb⟩,q⟩) hz
theorem vals1{x:V}{us:List Value}(r:Zv [x] us):∃u,us=[u]/\RelV x u:=by
 cases r with
 |cons a b=>cases b;exact⟨_,Xb,a⟩
theorem vals2{x y:V}{us:List Value}(r:Zv [x,y] us):∃u a,us=[u,a]/\RelV x u/\RelV y a:=by
 cases r with
 |cons b c=>
  cases c with
  |cons d e=>cases e;exact⟨_,_,Xb,b,d⟩
theorem Qpy:Vr X (.builtin "abs") (λxs H Q=>∃i,xs=[.int i]/\Q (.int (if i<0 then -i else i)) H):=by
 intro pins s σ H xs us Q I r h
 obtain⟨i,rfl,q⟩:=h
 obtain⟨u,rfl,t,rfl⟩:=vals1 r
 exact call_abs_int λu tk=>⟨.int (if i<0 then -i else i),H,I.tok _,⟨_,Xb⟩,q⟩
theorem Qnx(b:X.calm=true):Vr X (.builtin "min") (λxs H Q=>∃i j,xs=[.int i,.int j]/\Q (.int (if j<i then j else i)) H):=by
 intro pins s σ H xs us Q I r h
 obtain⟨i,j,rfl,q⟩:=h
 obtain⟨u,c,rfl,⟨t,rfl⟩,⟨t',rfl⟩⟩:=vals2 r
 refine min_two_ints (I.ok.hd b) λh' tk k=>⟨_,H,I.kept k,?_,q⟩
 by_cases a:j<i
 ·rw[Gp a,Gp a];exact⟨_,Xb⟩
 ·rw[Gj a,Gj a];exact⟨_,Xb⟩
def Q0c(K:Gc)(x:V)(H:Hp)(n:Nat):Prop:=
 match x with
 |.str y=>y.length<=sizeLine/\n=y.length
 |.byt y=>y.size<=sizeLine/\n=y.size
 |.ref p=>(∃xs,Zd K H p xs/\n=xs.length)\/∃xs,Z4 K H p xs/\n=xs.length
 |_=>False
theorem Yv:Vr X (.builtin "len") (λxs H Q=>∃x n,xs=[x]/\Q0c X.K x H n/\Q (.int n) H):=by
 intro pins s σ H xs us Q I r h
 obtain⟨x,n,rfl,e,q⟩:=h
 obtain⟨u,rfl,f⟩:=vals1 r
 have i:=Rh
 have j:sizeLine=16777216:=Td
 cases x with
 |str y=>
  obtain⟨t,rfl⟩:=f
  obtain⟨g,b⟩:y.length<=sizeLine/\n=y.length:=e
  subst b
  exact len_str (by omega) ⟨.int _,H,I.tok _,⟨_,Xb⟩,q⟩
 |byt y=>
  obtain⟨t,rfl⟩:=f
  obtain⟨g,b⟩:y.size<=sizeLine/\n=y.size:=e
  subst b
  exact PySem.W.len_bytes (by omega) ⟨.int _,H,I.tok _,⟨_,Xb⟩,q⟩
 |ref p=>
  cases f
  have b:(∃xs,Zd X.K H p xs/\n=xs.length)\/∃xs,Z4 X.K H p xs/\n=xs.length:=e
  rcases b with⟨xs,c,b⟩|⟨xs,c,b⟩
  ·subst b
   obtain⟨its,d,pl,hz⟩:=I.list c
   have a:=d.length
   exact Calls.call_len_list pl.isList (by simp only[GF];omega) ⟨.int xs.length,H,I.tok _,⟨_,by simp only[GF];rw[a]⟩,q⟩
  ·subst b
   obtain⟨its,d,pl,hz⟩:=I.tuple c
   have a:=d.length
   exact len_tuple pl (by simp only[GF];omega) ⟨.int xs.length,H,I.tok _,⟨_,by simp only[GF];rw[a]⟩,q⟩
 |_=>exact(show False from e).elim
end
open PySem PySem.Spec PyProof.Rows
structure Qjn(h:Heap)(x dx C:Addr)(mA:Str->Option Value):Prop where
 obj:h.get? x=some (PySem.W.instObj C dx)
 ns:h.Ns1 dx mA
 ne:dx≠x
theorem Qnr{h:Heap}{dx:Addr}{mA:Str->Option Value}(n:h.Ns1 dx mA):∃od,h.get? dx=some od/\∀name,PySem.W.lookIn name od=some (mA name):=by
 obtain⟨o,es,ep,g,hd,d,_,f⟩:=n
 refine⟨o,g,λname=>?_⟩
 have e:=f name
 unfold nsFind findBy at e
 rw[<-Array.find?_toList]at e
 unfold PySem.W.lookIn
 rw[hd]
 dsimp only
 split
 ·rename_i y q
  rw[q]at e
  exact congrArg some e
 ·rename_i q
  rw[q]at e
  have a:es.toList.any (·.refKey)=false:=by
   rw[List.any_eq_false]
   intro y i
   obtain⟨z,t,b⟩:=d y (Array.mem_toList_iff.mp i)
   simp[DictEntry.refKey,b]
  have c:¬es.toList.any (·.refKey)=true:=by rw[a];exact GV
  rw[Gj c]
  exact congrArg some e
theorem Qjn.look{h:Heap}{x dx C:Addr}{mA:Str->Option Value}(I:Qjn h x dx C mA):∃od,PySem.W.InstAt h x (PySem.W.instObj C dx) C (some od)/\∀name,PySem.W.lookIn name od=some (mA name):=
 let⟨od,b,a⟩:=Qnr I.ns
 ⟨od,⟨I.obj,Xb,Xb,b⟩,a⟩
section
variable{prog:Program}{w:World}{A:Around}{E:Value->Shared->Prop}{s:Shared}{K:Gc}{x dx C f:Addr}{mA:Str->Option Value}{name:Str}{v:Value}
theorem Qtv{a:Bool}{Q:Value->Shared->Prop}(X:K.In s.heap)(I:Qjn s.heap x dx C mA)(d:PySem.W.plainGet K C name=true)(e:PySem.W.hasDictIn K C=true)
  (c:PySem.W.findIn K (.ref C) name=some none)(g:mA name=some v)(b:PySem.W.handedIn v=true)(h:Q v {s with toks:=s.toks+1}):
  wpAny (model prog w) A (getAttr (.ref x) name a) Q E s:=by
 obtain⟨od,J,f⟩:=I.look
 exact PySem.W.get_value X J (SG d).1 (PySem.W.findObj_own e c rfl (by rw[f,g])) b h
theorem Qqx{pl:Sem Bool}{Q:Value×List Value->Shared->Prop}(X:K.In s.heap)(I:Qjn s.heap x dx C mA)(a:PySem.W.plainGet K C name=true)
  (b:PySem.W.findIn K (.ref C) name=some (some (.ref f)))(d:PySem.W.isFn K (.ref f)=true)(e:mA name=none)(h:Q (.ref f,[.ref x]) s):
  wpAny (model prog w) A (getMethod (.ref x) name pl) Q E s:=by
 obtain⟨od,J,c⟩:=I.look
 exact PySem.W.method_fn X J (SG a).1 (SG a).2 b (SM.mp d) (by show(PySem.W.lookIn name od).map (·.isSome)=some false;rw[c,e];rfl) h
theorem Qty{ns:List Str}{Q:Unit->Shared->Prop}(X:K.In s.heap)(I:Qjn s.heap x dx C mA)
  (o:PySem.W.findIn K (.ref C) "__setattr__"=some (some (.builtin "object.__setattr__")))(n:PySem.W.plainOver K C=true)(p:PySem.W.takerIn K C name=some none)(m:PySem.W.hasDictIn K C=true)
  (hw:PySem.Within mA ns)(hsz:ns.length<=sizeLine)
  (h:∀h',Qjn h' x dx C (λy=>if y=name then some v else mA y)->Heap.SameBut dx s.heap h'->Q () {s with heap:=h',toks:=s.toks+2}):
  wpAny (model prog w) A (setAttr (.ref x) name v) Q E s:=by
 obtain⟨od,J,u⟩:=I.look
 refine PySem.W.set_plain X J o (PySem.W.osa_open (s:={s with toks:=s.toks+1}) (r:=none) X J n p λb=>?_)
 obtain⟨t,l,f⟩:=PySem.W.any_some m
 have q:s.heap.get? x=some ⟨.ref C,some dx,.plain,#[]⟩:=I.obj
 refine Ga (Gf (Ga (Ga (wpAny_loadPart q (Ga (PySem.W.Looks.here (s:={s with toks:=s.toks+1}) (PySem.W.looks_clsIn X l) ?_))))))
 rw[f]
 refine Gf (a:=some dx) (Ga (Gf (Ga ?_)))
 refine wpAny_nsSet1 (s:={s with toks:=s.toks+1}) I.ns λh' c d=>?_
 obtain⟨z,k,j,i,g,e⟩:=c.count (PySem.Within.cons name v hw)
 refine Ga (wpAny_lookBehind i (by rw[g];exact pastItsLine_dict (Dg e (by rw[Tb];omega))) ?_)
 exact Gf (h _ ⟨(d.2 _ (Gq I.ne)).trans I.obj,c,I.ne⟩ d)
theorem Qrt{R:Result->Shared->Prop}{vs:List Value}{a:List (Str×Value)}(X:K.In s.heap)(c:PySem.W.makesIn K C=true)
  (hi:PySem.W.findIn K (.ref C) "__init__"=some (some (.ref f)))(b:PySem.W.typeIn K (.ref f)=some (.type "function"))
  (h:codeAny (model prog w) (A.under (.builtin "type.__call__" ⟨.ref C::vs,a⟩)) (.call (.ref f) ⟨.ref (s.heap.objs.size+1)::vs,a⟩) (PySem.W.InitBack (s.heap.objs.size+1) R)
   {s with heap:=(s.heap.push PySem.W.emptyDict).push (PySem.W.instObj C s.heap.objs.size)}):
  codeAny (model prog w) A (.call (.ref C) ⟨vs,a⟩) R s:=by
 obtain⟨e,g,d,t,os⟩:=s
 exact PySem.W.make_core (PySem.W.makes_of X c) (PySem.W.looks_findIn X hi) (λself=>PySem.W.bind_fn X self b) (.inl Xb) h
end
def Yn(f:Str)(v:V):List (Str×V)->List (Str×V)
 |[]=>[(f,v)]
 |(g,x)::r=>if g=f then(g,v)::r else(g,x)::Yn f v r
theorem Qau(f g:Str)(v:V):∀fs:List (Str×V),(Yn f v fs).lookup g=if g=f then some v else fs.lookup g
 |[]=>by
  show List.lookup g [(f,v)]=_
  by_cases h:g=f
  ·have hb:(g==f)=true:=SM.mpr h
   simp only[List.lookup,hb,Gp h]
  ·have hb:(g==f)=false:=DJ.mpr h
   simp only[List.lookup,hb,Gj h]
 |(k,x)::r=>by
  have b:=Qau f g v r
  rw[show Yn f v ((k,x)::r)=(if k=f then(k,v)::r else(k,x)::Yn f v r)from rfl]
  by_cases a:k=f
  ·rw[Gp a]
   by_cases h:g=k
   ·have hb:(g==k)=true:=SM.mpr h
    simp only[List.lookup,hb,Gp (h.trans a)]
   ·have hb:(g==k)=false:=DJ.mpr h
    simp only[List.lookup,hb,Gj (λe:g=f=>h (e.trans a.symm))]
  ·rw[Gj a]
   by_cases h:g=k
   ·have hb:(g==k)=true:=SM.mpr h
    simp only[List.lookup,hb,Gj (λe:g=f=>a (h.symm.trans e))]
   ·have hb:(g==k)=false:=DJ.mpr h
    simp only[List.lookup,hb]
    exact b
theorem Qaf(f:Str)(v:V):∀fs:List (Str×V),f∈(Yn f v fs).map (·.1)/\∀g,g∈fs.map (·.1)->g∈(Yn f v fs).map (·.1)
 |[]=>⟨by simp[Yn],λg h=>by simp at h⟩
 |(k,x)::r=>by
  obtain⟨i1,i2⟩:=Qaf f v r
  rw[show Yn f v ((k,x)::r)=(if k=f then(k,v)::r else(k,x)::Yn f v r)from rfl]
  by_cases a:k=f
  ·rw[Gp a]
   subst a
   exact⟨by simp,λg h=>by simpa using h⟩
  ·rw[Gj a]
   refine⟨?_,λg h=>?_⟩
   ·rw[GO]
    exact Gm _ i1
   ·rw[GO]at h⊢
    rcases Gu.mp h with e|e
    ·exact Gu.mpr (.inl e)
    ·exact Gm _ (i2 g e)
theorem Qaq(f:Str)(v:V):∀fs:List (Str×V),(Yn f v fs).length<=fs.length+1
 |[]=>by simp[Yn]
 |(k,x)::r=>by
  have b:=Qaq f v r
  rw[show Yn f v ((k,x)::r)=(if k=f then(k,v)::r else(k,x)::Yn f v r)from rfl]
  by_cases a:k=f
  ·rw[Gp a,Tb,Tb];omega
  ·rw[Gj a,Tb,Tb];omega
theorem Jk.some_of{v:V}{o:Option Value}(r:Jk (some v) o):∃u,o=some u/\RelV v u:=by
 cases o with
 |none=>exact(show False from r).elim
 |some u=>exact⟨u,Xb,r⟩
theorem Jk.none_of{o:Option Value}(r:Jk none o):o=none:=by
 cases o with
 |none=>rfl
 |some u=>exact(show False from r).elim
theorem Qns{v:V}{u:Value}(r:RelV v u):PySem.W.handedIn u=true:=by
 cases v with
 |non=>cases(show u=Value.none from r);rfl
 |bl b=>cases(show u=Value.bool b from r);rfl
 |int i=>obtain⟨t,e⟩:=(show∃t,u=Value.int i t from r);cases e;rfl
 |str x=>obtain⟨t,e⟩:=(show∃t,u=Value.str x t from r);cases e;rfl
 |byt b=>obtain⟨t,e⟩:=(show∃t,u=Value.bytes b t from r);cases e;rfl
 |flt b=>obtain⟨t,e⟩:=(show∃t,u=Value.float b t from r);cases e;rfl
 |ref a=>cases(show u=Value.ref a from r);rfl
 |ty n=>cases(show u=Value.type n from r);rfl
section
variable{P:Program}{w:World}{H H':Hp}{h h':Heap}{a C dx:Addr}{fs fs':List (Str×V)}
theorem Qbf(Zy:Ir P w H h)(e:H a=some (.ins C dx fs)):∃mA,Qjn h a dx C mA/\(∀f,Jk (fs.lookup f) (mA f))/\PySem.Within mA (fs.map (·.1))/\fs.length<=1000/\H dx=some (.own a):=by
 obtain⟨d,z,ne,ob,mA,n,r,q⟩:=(show Z0 P w H h a (.ins C dx fs)from Zy a _ e)
 exact⟨mA,⟨ob,n,ne⟩,r,q,z,d⟩
end
structure Cls(K:Gc)(C:Addr):Prop where
 pg:PySem.W.plainGet K C Str.empty=true
 hd:PySem.W.hasDictIn K C=true
 po:PySem.W.plainOver K C=true
 sa:PySem.W.findIn K (.ref C) "__setattr__"=some (some (.builtin "object.__setattr__"))
theorem Cls.get{K:Gc}{C:Addr}(c:Cls K C)(f:Str):PySem.W.plainGet K C f=true:=c.pg
def Yo(K:Gc)(C:Addr)(f:Str):Prop:=PySem.W.findIn K (.ref C) f=some none
theorem Yo.Qxq{K:Gc}{C:Addr}{f:Str}(n:Yo K C f):PySem.W.takerIn K C f=some none:=by
 unfold PySem.W.takerIn
 rw[show PySem.W.findIn K (.ref C) f=some none from n]
 rfl
structure Z9(K:Gc)(C:Addr)(m:Str)(f:Addr):Prop where
 at_:PySem.W.findIn K (.ref C) m=some (some (.ref f))
 fn:PySem.W.isFn K (.ref f)=true
 kp:PySem.W.keepIn K (.ref f)=true
section
variable{X:Cx}{pins:List (Addr×Obj)}{σ:St}{H:Hp}{s:Shared}{a C dx:Addr}{fs:List (Str×V)}{f:Str}{v:V}{A:Around}{E:Value->Shared->Prop}
theorem Qjq{b:Bool}{Q:Value->Shared->Prop}(I:Inv X pins σ H s)(e:H a=some (.ins C dx fs))(c:Cls X.K C)(n:Yo X.K C f)(l:fs.lookup f=some v)
  (h:∀u s',Inv X pins σ H s'->RelV v u->Q u s'):wpAny (model X.prog X.w) A (getAttr (.ref a) f b) Q E s:=by
 obtain⟨mA,O,r,_,_,_⟩:=Qbf I.Zy e
 obtain⟨u,g,d⟩:=Jk.some_of (v:=v) (o:=mA f) (by rw[<-l];exact r f)
 exact Qtv I.Jh O (c.get f) c.hd n g (Qns d) (h u _ (I.tok _) d)
theorem Iz{m:Str}{g:Addr}{pl:Sem Bool}{Q:Value×List Value->Shared->Prop}(I:Inv X pins σ H s)(e:H a=some (.ins C dx fs))(c:Cls X.K C)(k:Z9 X.K C m g)(l:fs.lookup m=none)
  (h:Q (.ref g,[.ref a]) s):wpAny (model X.prog X.w) A (getMethod (.ref a) m pl) Q E s:=by
 obtain⟨mA,O,r,_,_,_⟩:=Qbf I.Zy e
 have b:mA m=none:=Jk.none_of (by rw[<-l];exact r m)
 exact Qqx I.Jh O (c.get m) k.at_ k.fn b h
theorem Qi6{y:V}{u:Value}{Q:Unit->Shared->Prop}(I:Inv X pins σ H s)(e:H a=some (.ins C dx fs))(c:Cls X.K C)(n:Yo X.K C f)(p:fs.length<1000)(l:RelV y u)
  (h:∀s',Inv X pins σ (upd H a (.ins C dx (Yn f y fs))) s'->Q () s'):wpAny (model X.prog X.w) A (setAttr (.ref a) f u) Q E s:=by
 obtain⟨mA,O,r,wi,_,i⟩:=Qbf I.Zy e
 have hz:(fs.map (·.1)).length<=sizeLine:=by rw[Gn,Td];omega
 refine Qty I.Jh O c.sa c.po n.Qxq c.hd wi hz λh' d m=>h _ ?_
 have hd:∃o,h'.get? dx=some o:=let⟨o,_,_,j,_⟩:=d.ns;⟨o,j⟩
 refine I.write (x:=a) (e:=dx) (by rw[e];exact True.intro) (.inr i) (λb q hb z=>(m.2 b hb).trans z) hd ?_
 refine⟨by rw[Qf O.ne];exact i,?_,O.ne,d.obj,_,d.ns,λg=>?_,λg k=>?_⟩
 ·have:=Qaq f y fs;omega
 ·show Jk ((Yn f y fs).lookup g) (if g=f then some u else mA g)
  rw[Qau]
  by_cases q:g=f
  ·rw[Gp q,Gp q];exact l
  ·rw[Gj q,Gj q];exact r g
 ·by_cases q:g=f
  ·rw[q];exact(Qaf f y fs).1
  ·refine(Qaf f y fs).2 g (wi g λz=>k ?_)
   show(if g=f then some u else mA g)=none
   rw[Gj q];exact z
theorem Inv.made(I:Inv X pins σ H s):Inv X pins σ (upd (upd H s.heap.objs.size (.own (s.heap.objs.size+1))) (s.heap.objs.size+1) (.ins C s.heap.objs.size []))
  {s with heap:=(s.heap.push PySem.W.emptyDict).push (PySem.W.instObj C s.heap.objs.size)}:=by
 have c:(s.heap.push PySem.W.emptyDict).get? s.heap.objs.size=some PySem.W.emptyDict:=Gz s.heap rfl
 have f:((s.heap.push PySem.W.emptyDict).push (PySem.W.instObj C s.heap.objs.size)).get? (s.heap.objs.size+1)=some (PySem.W.instObj C s.heap.objs.size):=by
  have:=Gz (s.heap.push PySem.W.emptyDict) (o:=PySem.W.instObj C s.heap.objs.size) rfl
  rwa[DZ]at this
 have g:(s.heap.push PySem.W.emptyDict).Ns s.heap.objs.size (λ_=>none):=⟨PySem.W.emptyDict,#[],_,c,Xb,(λe h=>absurd h (by simp)),λ_=>rfl⟩
 have d:=I.laid (a:=s.heap.objs.size) (o:=.own (s.heap.objs.size+1)) (h':=s.heap.push PySem.W.emptyDict) (t':=s.toks) (λb u q=>Gh _ q) (Gr _) ⟨_,c⟩
 refine d.laid (a:=s.heap.objs.size+1) (o:=.ins C s.heap.objs.size []) (t':=s.toks) (λb u q=>Gh _ q) (Fk (DZ _ _)) ?_
 have ne:s.heap.objs.size≠s.heap.objs.size+1:=Ts (DX _)
 refine⟨by rw[Qf ne,Qb],Ta _,ne,f,λ_=>none,(Heap.Ns1.of_empty g).at λo q=>Gh _ q,λ_=>True.intro,λy i=>absurd rfl i⟩
theorem Qtt{prog:Program}{w:World}{env:Env}{e:Expr}{f:Str}{pos:Pos}{s:Shared}{Q:Value->Shared->Prop}(hb:attributeBase e f env (eval e env)=eval e env)
  (h:wpAny (model prog w) A (eval e env) (λo a=>wpAny (model prog w) A (getAttr o f true) Q E a) E s):wpAny (model prog w) A (eval (.Attribute e f pos) env) Q E s:=
 Attribute_any_ h (by rw[arm_eval_Attribute,hb])
end
def Qun(K:Gc)(ta:TE)(f:Str):TE:=λσ H Q=>ta σ H λx H1=>∃a C dx fs v,x=.ref a/\H1 a=some (.ins C dx fs)/\Cls K C/\Yo K C f/\fs.lookup f=some v/\Q v H1
def Q0j(K:Gc)(ta tv:TE)(f:Str):TS:=λD σ H=>tv σ H λy H1=>ta σ H1 λx H2=>∃a C dx fs,x=.ref a/\H2 a=some (.ins C dx fs)/\Cls K C/\Yo K C f/\fs.length<1000/\
 D.nx σ (upd H2 a (.ins C dx (Yn f y fs)))
section
variable{X:Cx}{o e value:Expr}{f:Str}{pos pos' tpos:Pos}{ta tv:TE}
theorem Qn(g:PE X e ta)(hb:attributeBase e f X.env (eval e X.env)=eval e X.env):PE X (.Attribute e f pos) (Qun X.K ta f):=by
 intro pins s σ H Q I h
 refine Qtt hb (Ys (g pins s σ H _ I h) λu s1⟨x,H1,b,j,a,C,dx,fs,v,ex,ea,c,n,l,q⟩=>?_)
 subst ex
 obtain rfl:u=Value.ref a:=j
 exact Qjq b ea c n l λk s2 d i=>⟨v,H1,d,i,q⟩
theorem Y9(g:PE X o ta)(j:PE X value tv)(i:swapsWith value (some (.Attribute o f pos')) pos.line X.env=pure false):PS X (.Assign [.Attribute o f pos'] value pos) (Q0j X.K ta tv f):=by
 intro pins s σ H D I h
 refine plainObj_wpAny_Assign_Attribute (Ys (j pins s σ H _ I h) λu s1⟨y,H1,b,p,q⟩=>Ys (g pins s1 σ H1 _ b q) λov s2⟨x,H2,d,m,a,C,dx,fs,ex,ea,c,n,l,k⟩=>?_) i
 subst ex
 obtain rfl:ov=Value.ref a:=m
 exact Qi6 d ea c n l p λr e=>⟨σ,_,e,k⟩
theorem Qvb{pl:Sem Bool}{m:Str}{apos:Pos}{args:List Expr}{pins:List (Addr×Obj)}{s:Shared}{σ:St}{H:Hp}{Q:Value->Shared->Prop}{te:TE}(d:PE X e te)(I:Inv X pins σ H s)
  (h:te σ H λx H1=>∃a C dx fs g,x=.ref a/\H1 a=some (.ins C dx fs)/\Cls X.K C/\Z9 X.K C m g/\fs.lookup m=none/\
   ∀s1,Inv X pins σ H1 s1->wpAny (model X.prog X.w) X.A (callWith pos (.ref g) [.ref a] (backTo pos (starEach args X.env)) (backToKw pos (keywordEach [] X.env))) Q X.xe s1)
  (i:eval (.Call (.Attribute e m apos) args [] pos) X.env=(do
   let ov<-eval e X.env
   standAt apos.atName
   let(f,first)<-holding [ov] (getMethod ov m pl)
   callWith pos f first (backTo pos (starEach args X.env)) (backToKw pos (keywordEach [] X.env)))):
  wpAny (model X.prog X.w) X.A (eval (.Call (.Attribute e m apos) args [] pos) X.env) Q X.xe s:=by
 refine Se (pl:=pl) (Ys (d pins s σ H _ I h) λu s1⟨x,H1,b,j,a,C,dx,fs,g,ex,ea,c,k,l,q⟩=>?_) i
 subst ex
 obtain rfl:u=Value.ref a:=j
 exact Iz b ea c k l (q s1 b)
end
section
variable{X:Cx}{pins:List (Addr×Obj)}{σ:St}{H:Hp}{s:Shared}{A:Around}{E:Value->Shared->Prop}{Q:Value->Shared->Prop}{c:Value}{b:Bool}
inductive Ik(K:Gc)(H:Hp):V->Value->Prop where
 |non:Ik K H .non (.type "NoneType")
 |bl (x:Bool):Ik K H (.bl x) (.type "bool")
 |int (i:Int):Ik K H (.int i) (.type "int")
 |str (x:Str):Ik K H (.str x) (.type "str")
 |flt (x:UInt64):Ik K H (.flt x) (.type "float")
 |lst {a:Addr} {xs:List V} (e:H a=some (.lst xs)):Ik K H (.ref a) (.type "list")
 |frz {a:Addr} {o:Obj} {xs:List V} (e:H a=some (.frz o (.lst xs))):Ik K H (.ref a) (.type "list")
 |tup {a:Addr} {xs:List V} (e:H a=some (.tup xs)):Ik K H (.ref a) (.type "tuple")
 |dK {a:Addr} {kvs:List (Xo×V)} (e:H a=some (.dK kvs)):Ik K H (.ref a) (.type "dict")
 |dT {a:Addr} {kvs:List (List Xo×V)} (e:H a=some (.dT kvs)):Ik K H (.ref a) (.type "dict")
 |ins {a C dx:Addr} {fs:List (Str×V)} (e:H a=some (.ins C dx fs)) (cl:Cls K C) (ha:PySem.W.findIn K (.ref C) "__class__"=some (some (.builtin "object.__class__")))
   (hn:PySem.W.specialIn K (.builtin "object.__class__") "__get__"=some (some (.builtin "getset_descriptor.__get__"))) (htk:PySem.W.takesIn K (.builtin "object.__class__")=some true)
   (hm:PySem.W.mroIn K C (.type "object")=some true):Ik K H (.ref a) (.ref C)
theorem Qn9{x:V}{u t:Value}(I:Inv X pins σ H s)(d:RelV x u)(ty:Ik X.K H x t)(e:PySem.W.kitOne X.K t c=some b)(h:∀tk,Q (.bool b) {s with toks:=tk}):
  wpAny (model X.prog X.w) A (call (.builtin "isinstance") [u,c]) Q E s:=by
 cases ty with
 |non=>cases(show u=Value.none from d);exact Dq PySem.W.kitx_none I.Jh True.intro e (λz=>nomatch z) h
 |bl y=>cases(show u=Value.bool y from d);exact Dq PySem.W.kitx_bool I.Jh True.intro e (λz=>nomatch z) h
 |int i=>obtain⟨t,q⟩:=(show∃t,u=Value.int i t from d);cases q;exact Dq PySem.W.kitx_int I.Jh True.intro e (λz=>nomatch z) h
 |str y=>obtain⟨t,q⟩:=(show∃t,u=Value.str y t from d);cases q;exact Dq PySem.W.kitx_str I.Jh True.intro e (λz=>nomatch z) h
 |flt y=>obtain⟨t,q⟩:=(show∃t,u=Value.float y t from d);cases q;exact Dq Fc I.Jh True.intro e (λz=>nomatch z) h
 |@lst a xs ea=>
  cases(show u=Value.ref a from d)
  obtain⟨_,_,n,_,h1⟩:=(show Z0 X.prog X.w H s.heap a (.lst xs)from I.Zy a _ ea)
  exact Dq E2 I.Jh ⟨_,h1,Xb⟩ e (λz=>nomatch z) h
 |@frz a ob xs ea=>
  cases(show u=Value.ref a from d)
  obtain⟨_,_,_,n,_,h1⟩:=(show Z0 X.prog X.w H s.heap a (.frz ob (.lst xs))from I.Zy a _ ea)
  exact Dq E2 I.Jh ⟨_,h1,Xb⟩ e (λz=>nomatch z) h
 |@tup a xs ea=>
  cases(show u=Value.ref a from d)
  obtain⟨_,_,_,p⟩:=(show Z0 X.prog X.w H s.heap a (.tup xs)from I.Zy a _ ea)
  obtain⟨o,h1,h2,_⟩:=p
  exact Dq Fd I.Jh ⟨o,h1,h2⟩ e (λz=>nomatch z) h
 |@dK a kvs ea=>
  cases(show u=Value.ref a from d)
  obtain⟨_,_,vs,_,p⟩:=(show Z0 X.prog X.w H s.heap a (.dK kvs)from I.Zy a _ ea)
  obtain⟨o,es,ep,h1,h2,_⟩:=p
  exact Dq E3 I.Jh ⟨o,h1,h2.1⟩ e (λz=>nomatch z) h
 |@dT a kvs ea=>
  cases(show u=Value.ref a from d)
  obtain⟨_,_,xs,_,o,es,ep,h1,h2,_⟩:=(show Z0 X.prog X.w H s.heap a (.dT kvs)from I.Zy a _ ea)
  exact Dq E3 I.Jh ⟨o,h1,h2.1⟩ e (λz=>nomatch z) h
 |@ins a C dx fs ea cl g k f j=>
  cases(show u=Value.ref a from d)
  obtain⟨mA,O,_⟩:=Qbf I.Zy ea
  obtain⟨od,J,_⟩:=O.look
  exact Dq (PySem.W.kitx_own (cl.get _) cl.hd g k f j) I.Jh J e (λz=>nomatch z) h
end
open PySem PySem.Spec PyProof.Rows
structure Yc(k:Nat)(A:Around):Prop where
 hd:A.handled=none
 dp:A.depth+3*k+5<recursionLimit
 un:A.units+16*k+200<cLine
theorem Yc.mono{j k:Nat}{A:Around}(r:Yc k A)(h:j<=k):Yc j A:=⟨r.hd,by have:=r.dp;omega,by have:=r.un;omega⟩
theorem Yc.deeper{k:Nat}{A:Around}(r:Yc (k+1) A)(env:Env):Yc k (A.deeper env):=
 ⟨r.hd,by have:=r.dp;show A.depth+1+3*k+5<_;omega,by have:=r.un;show A.units+3+16*k+200<_;omega⟩
theorem Qkm{A:Around}{C:Addr}{us:List Value}{a:List (Str×Value)}:(A.under (.builtin "type.__call__" ⟨.ref C::us,a⟩)).depth=A.depth+1:=by
 first|rfl|simp[Around.under,Code.weight,Code.isCreation,Code.isGuard,Code.isCaller,Code.frames,Code.isFrame,guardIds]
theorem Qkp{A:Around}{C:Addr}{us:List Value}{a:List (Str×Value)}:(A.under (.builtin "type.__call__" ⟨.ref C::us,a⟩)).units=A.units+1:=by
 first|rfl|simp[Around.under,Code.cUnits,Code.frames,Code.isFrame]
theorem Yc.make{k:Nat}{A:Around}(r:Yc (k+1) A)(C:Addr)(us:List Value)(a:List (Str×Value)):Yc k (A.under (.builtin "type.__call__" ⟨.ref C::us,a⟩)):=
 ⟨r.hd,by have:=r.dp;rw[Qkm];omega,by have:=r.un;rw[Qkp];omega⟩
theorem Yc.depth{k:Nat}{A:Around}(r:Yc k A):A.depth<recursionLimit:=by have:=r.dp;omega
theorem Yc.units{k:Nat}{A:Around}(r:Yc k A):A.units+64<cLine:=by have:=r.un;omega
def Qnq:TA:=λ_ H Q=>Q [] H
def Qe2(ta:TE)(a:TA):TA:=λσ H Q=>ta σ H λx H1=>a σ H1 λxs H2=>Q (x::xs) H2
section
variable{X:Cx}{e:Expr}{es:List Expr}{te:TE}{t:TA}{pos:Pos}
theorem Qe:PA X [] Qnq:=λ_ _ _ _ H Q I h=>E4 ⟨[],H,I,.nil,h⟩
theorem Qa(c:PE X e te)(d:PA X es t)(f:starEach (e::es) X.env=(false,eval e X.env)::starEach es X.env:=by rfl):PA X (e::es) (Qe2 te t):=by
 intro pos pins s σ H Q I h
 rw[f]
 show wpAny _ _ (spliced ((false,eval e X.env)::backTo pos (starEach es X.env))) _ _ s
 refine SN (Ys (c pins s σ H _ I h) λu s1⟨x,H1,a,j,g⟩=>?_)
 exact Ys (d pos pins s1 σ H1 _ a g) λus s2⟨xs,H2,b,k,i⟩=>⟨x::xs,H2,b,.cons j k,i⟩
def Q03(t:TA):TE:=λσ H Q=>t σ H λxs H1=>xs.length<=sizeLine/\∀p,H1 p=none->Q (.ref p) (upd H1 p (.tup xs))
def Q0g(t:TA):TE:=λσ H Q=>t σ H λxs H1=>xs.length<=sizeLine/\∀p,H1 p=none->Q (.ref p) (upd H1 p (.lst xs))
theorem Za{f}(h:PA X es t):PE X (.Tuple es f pos) (Q03 t):=by
 intro pins s σ H Q I d
 refine wpAny_Tuple_spliced (Ys (h pos pins s σ H _ I d) λus s1⟨xs,H1,a,r,z,q⟩=>⟨by rw[<-r.length];exact z,?_⟩)
 have c:H1 s1.heap.objs.size=none:=a.Zy.fresh (Gr _)
 refine⟨.ref s1.heap.objs.size,upd H1 s1.heap.objs.size (.tup xs),a.laid (t':=s1.toks) (λb u e=>Gh _ e) (Gr _) ?_,Xb,q _ c⟩
 exact⟨z,us,r,⟨_,Gz _ Xb,Xb,_,Xb⟩⟩
theorem Zt(h:PA X es t):PE X (.List es pos) (Q0g t):=by
 intro pins s σ H Q I d
 refine wpAny_List_spliced (Ys (h pos pins s σ H _ I d) λus s1⟨xs,H1,a,r,z,q⟩=>⟨by rw[<-r.length];exact z,?_⟩)
 have c:H1 s1.heap.objs.size=none:=a.Zy.fresh (Gr _)
 refine⟨.ref s1.heap.objs.size,upd H1 s1.heap.objs.size (.lst xs),a.laid (t':=s1.toks) (λb u e=>Gh _ e) (Gr _) ?_,Xb,q _ c⟩
 exact⟨z,us,0,r,Gz _ Xb⟩
end
abbrev Sp:=List V->Hp->VK->XK->Prop
abbrev CXT:=List Env->Hp->Shared->XK->Value->Shared->Prop
structure Qj5(P:Program)(w:World)(K:Gc)(mg:Str->Option Value)(base:Heap)(A:Around)(outer:List Env)(s:Shared)(H:Hp):Prop where
 frames:A.frames=some outer
 mod:Mod K mg base
 bs:∀b o,base.get? b=some o->s.heap.get? b=some o/\H b=none
 bsz:base.objs.size<=s.heap.objs.size
 Qa6:s.heap.FunFrames base outer
 frf:∀b∈frs outer,H b=none
 Zy:Ir P w H s.heap
 bare:AllBare s.gens
def CE(outer:List Env)(P:Program)(w:World)(H:Hp)(s:Shared)(Q:VK)(u:Value)(s':Shared):Prop:=
 ∃v H',s'.os=s.os/\AllBare s'.gens/\Un (frs outer) [] H H' s.heap s'.heap/\Ir P w H' s'.heap/\RelV v u/\Q v H'
def CR(CX:CXT)(outer:List Env)(P:Program)(w:World)(H:Hp)(s:Shared)(Q:VK)(E:XK)(r:Result)(s':Shared):Prop:=
 match r with
 |.ok (.ret u)=>CE outer P w H s Q u s'
 |.ok _=>False
 |.error e=>CX outer H s E e s'
structure Qt(P:Program)(w:World)(K:Gc)(mg:Str->Option Value)(base:Heap)(CX:CXT)(k:Nat)(f:Addr)(fd:FuncData)(ps:List Str)(sp:Sp):Prop where
 len:∀vs H Q E,sp vs H Q E->vs.length=ps.length
 run:∀(A:Around)(outer:List Env)(s:Shared)(H:Hp)(args:Args)(us:List Value)(vs:List V)(Q:VK)(E:XK),Yc k A->Qj5 P w K mg base A outer s H->BindsTo s fd args (ps.zip us)->Zv vs us->sp vs H Q E->
  codeAny (model P w) A (.call (.ref f) args) (CR CX outer P w H s Q E) s
theorem Qj5.make{P:Program}{w:World}{K:Gc}{mg:Str->Option Value}{base:Heap}{A:Around}{outer:List Env}{s:Shared}{H:Hp}(e:Qj5 P w K mg base A outer s H)(C:Addr)(us:List Value)(a:List (Str×Value)):
  Qj5 P w K mg base (A.under (.builtin "type.__call__" ⟨.ref C::us,a⟩)) outer s H:=⟨by first|exact e.frames|(simpa[Around.under,Code.envs,Code.isFrame,pushEnvs]using e.frames),e.mod,e.bs,e.bsz,e.Qa6,e.frf,e.Zy,e.bare⟩
section
variable{X:Cx}{pins:List (Addr×Obj)}{σ:St}{H:Hp}{s s':Shared}
theorem Inv.Qyk(I:Inv X pins σ H s):Qj5 X.prog X.w X.K X.mg X.base X.A X.stack s H:=
 ⟨I.ok.frames,I.ok.mod,I.bs,Dg I.ok.bsz I.sz,I.stack,I.Qlm,I.Zy,I.bare⟩
theorem Inv.after{Q:VK}{u:Value}(I:Inv X pins σ H s)(h:CE X.stack X.prog X.w H s Q u s'):EP X pins σ Q u s':=by
 obtain⟨v,H',os,bare,un,Zy,r,q⟩:=h
 obtain⟨c,g,d,t,a⟩:=s'
 obtain rfl:a=s.os:=os
 exact⟨v,H',I.call (h':=c) (g':=g) (d':=d) (t':=t) (ch:=[]) un Zy bare (λb z=>absurd z (by simp)),r,q⟩
end
def Qx7(sp:Sp)(dvs:List V)(E:XK)(t:TA):TE:=λσ H Q=>t σ H λvs H1=>sp (vs++dvs) H1 Q E
def Qib(C:Addr)(m:Str)(sp:Sp)(dvs:List V)(E:XK)(ta:TE)(t:TA):TE:=λσ H Q=>ta σ H λx H1=>∃a dx fs,x=.ref a/\H1 a=some (.ins C dx fs)/\fs.lookup m=none/\
 t σ H1 λvs H2=>sp (x::(vs++dvs)) H2 Q E
def Qu9(C:Addr)(sp:Sp)(dvs:List V)(E:XK)(t:TA):TE:=λσ H Q=>t σ H λvs H1=>∀x dx,H1 x=none->H1 dx=none->dx≠x->
 sp (.ref x::(vs++dvs)) (upd (upd H1 dx (.own x)) x (.ins C dx [])) (λv H2=>v=.non/\Q (.ref x) H2) E
def Binds(K:Gc)(fd:FuncData)(ps:List Str)(ds:List Value):Prop:=
 ∀(s:Shared)(us:List Value),K.In s.heap->(us++ds).length=ps.length->BindsTo s fd ⟨us,[]⟩ (ps.zip (us++ds))
theorem Binds.all{K:Gc}{fd:FuncData}{ps:List Str}(h:∀us:List Value,us.length=ps.length->bindArgs fd ⟨us,[]⟩=pure (ps.zip us)):Binds K fd ps []:=λs us _ a=>by
 rw[Db]at a⊢
 exact .of_eq (h us a)
def Jn(CX:CXT)(X:Cx)(E:XK):Prop:=∀(pins:List (Addr×Obj))(σ:St)(H:Hp)(s:Shared)(e:Value)(s':Shared),Inv X pins σ H s->CX X.stack H s E e s'->X.xe e s'
section
variable{X:Cx}{CX:CXT}{k:Nat}{f C:Addr}{fd:FuncData}{ps:List Str}{sp:Sp}{dvs:List V}{ds:List Value}{E:XK}{x m:Str}{p pos apos:Pos}{e o:Expr}{es:List Expr}{ta:TE}{t:TA}
theorem Qkc{pins:List (Addr×Obj)}{σ:St}{H:Hp}{s:Shared}{Q:VK}{us:List Value}{vs:List V}(F:Qt X.prog X.w X.K X.mg X.base CX k f fd ps sp)(g:Yc k X.A)(hb:Binds X.K fd ps ds)(hd:Zv dvs ds)(i:Jn CX X E)
  (I:Inv X pins σ H s)(r:Zv vs us)(h:sp (vs++dvs) H Q E):wpAny (model X.prog X.w) X.A (call (.ref f) us) (EP X pins σ Q) X.xe s:=by
 have b:Zv (vs++dvs) (us++ds):=r.append hd
 have d:(us++ds).length=ps.length:=by rw[<-b.length];exact F.len _ _ _ _ h
 refine wpAny_call (LG (F.run X.A X.stack s H ⟨us,[]⟩ (us++ds) (vs++dvs) Q E g I.Qyk (hb s us I.Jh d) b h) λr s' a=>?_)
 cases r with
 |error e=>exact i pins σ H s e s' I a
 |ok c=>
  cases c with
  |ret u=>exact I.after a
  |next=>exact False.elim a
  |brk=>exact False.elim a
  |cont=>exact False.elim a
theorem Z6(F:Qt X.prog X.w X.K X.mg X.base CX k f fd ps sp)(m:Yc k X.A)(i:Gl X x)(l:X.mg x=some (.ref f))(j:PySem.W.keepIn X.K (.ref f)=true)(hb:Binds X.K fd ps ds)(hd:Zv dvs ds)(n:Jn CX X E)
  (d:PA X (e::es) t)(a:(x==("__debug__":Str))=false:=by decide)(g:starEach (e::es) X.env=(false,eval e X.env)::starEach es X.env:=by rfl)(b:(backTo pos (starEach es X.env)).any (·.1)=false:=by rfl):
  PE X (.Call (.Name x p) (e::es) [] pos) (Qx7 sp dvs E t):=by
 intro pins s σ H Q I h
 refine Dm (Qbd I i l ?_ a)
 refine SO (h₀:=X.base) I.ok.mod.kin j (Ys (d pos pins s σ H _ I h) λus s1⟨vs,H1,c,r,q⟩=>⟨c.Jh,?_⟩) g b
 exact Qkc F m hb hd n c r q
theorem Q9{pl:Sem Bool}(p:PE X o ta)(c:Cls X.K C)(j:Z9 X.K C m f)(F:Qt X.prog X.w X.K X.mg X.base CX k f fd ps sp)(v:Yc k X.A)(hb:Binds X.K fd ps ds)(hd:Zv dvs ds)(z:Jn CX X E)(n:PA X (e::es) t)
  (d:starEach (e::es) X.env=(false,eval e X.env)::starEach es X.env:=by rfl)(b:(backTo pos (starEach es X.env)).any (·.1)=false:=by rfl)
  (y:eval (.Call (.Attribute o m apos) (e::es) [] pos) X.env=(do
   let ov<-eval o X.env
   standAt apos.atName
   let(f,first)<-holding [ov] (getMethod ov m pl)
   callWith pos f first (backTo pos (starEach (e::es) X.env)) (backToKw pos (keywordEach [] X.env))):=by rfl):
  PE X (.Call (.Attribute o m apos) (e::es) [] pos) (Qib C m sp dvs E ta t):=by
 intro pins s σ H Q I h
 refine Se (pl:=pl) (Ys (p pins s σ H _ I h) λu s1⟨x,H1,g,D,a,dx,fs,ex,ea,l,q⟩=>?_) y
 subst ex
 obtain rfl:u=Value.ref a:=D
 refine Iz g ea c j l ?_
 refine SO (first:=[.ref a]) (h₀:=X.base) I.ok.mod.kin j.kp (Ys (n pos pins s1 σ H1 _ g q) λus s2⟨vs,H2,i,r,B⟩=>⟨i.Jh,?_⟩) d b
 exact Qkc (us:=.ref a::us) (vs:=.ref a::vs) F v hb hd z i (.cons rfl r) B
theorem Qis{pl:Sem Bool}(e:PE X o ta)(c:Cls X.K C)(d:Z9 X.K C m f)(F:Qt X.prog X.w X.K X.mg X.base CX k f fd ps sp)(g:Yc k X.A)(hb:Binds X.K fd ps ds)(hd:Zv dvs ds)(j:Jn CX X E)
  (i:eval (.Call (.Attribute o m apos) [] [] pos) X.env=(do
   let ov<-eval o X.env
   standAt apos.atName
   let(f,first)<-holding [ov] (getMethod ov m pl)
   callWith pos f first (backTo pos (starEach [] X.env)) (backToKw pos (keywordEach [] X.env))):=by rfl):
  PE X (.Call (.Attribute o m apos) [] [] pos) (Qib C m sp dvs E ta Qnq):=by
 intro pins s σ H Q I h
 refine Se (pl:=pl) (Ys (e pins s σ H _ I h) λu s1⟨x,H1,b,n,a,dx,fs,ex,ea,l,q⟩=>?_) i
 subst ex
 obtain rfl:u=Value.ref a:=n
 refine Iz b ea c d l ?_
 exact LW (first:=[.ref a]) b.Jh d.kp (Qkc (us:=[.ref a]) (vs:=[.ref a]) F g hb hd j b (.cons rfl .nil) q)
structure Mk(K:Gc)(C f:Addr):Prop where
 makes:PySem.W.makesIn K C=true
 init:PySem.W.findIn K (.ref C) "__init__"=some (some (.ref f))
 fn:PySem.W.isFn K (.ref f)=true
 kp:PySem.W.keepIn K (.ref C)=true
theorem Qh6{pins:List (Addr×Obj)}{σ:St}{H:Hp}{s:Shared}{Q:VK}{us:List Value}{vs:List V}(M:Mk X.K C f)(F:Qt X.prog X.w X.K X.mg X.base CX k f fd ps sp)(l:Yc (k+1) X.A)(hb:Binds X.K fd ps ds)(hd:Zv dvs ds)
  (m:Jn CX X E)(I:Inv X pins σ H s)(r:Zv vs us)
  (h:∀x dx,H x=none->H dx=none->dx≠x->sp (.ref x::(vs++dvs)) (upd (upd H dx (.own x)) x (.ins C dx [])) (λv H2=>v=.non/\Q (.ref x) H2) E):
  wpAny (model X.prog X.w) X.A (call (.ref C) us) (EP X pins σ Q) X.xe s:=by
 have c:=h (s.heap.objs.size+1) s.heap.objs.size (I.Zy.fresh (EZ _)) (I.Zy.fresh (Gr _)) (Ts (DX _))
 have b:=Inv.made (C:=C) I
 have d:Zv (V.ref (s.heap.objs.size+1)::(vs++dvs)) (Value.ref (s.heap.objs.size+1)::(us++ds)):=.cons rfl (r.append hd)
 have j:(Value.ref (s.heap.objs.size+1)::us++ds).length=ps.length:=by
  have e:=d.length
  rw[F.len _ _ _ _ c]at e
  exact e.symm
 refine wpAny_call (Qrt (f:=f) I.Jh M.makes M.init (SM.mp M.fn) (LG (F.run _ X.stack _ _ ⟨Value.ref (s.heap.objs.size+1)::us,[]⟩ (Value.ref (s.heap.objs.size+1)::(us++ds)) _ _ E (l.make C us [])
  (b.Qyk.make C us []) (hb _ (Value.ref (s.heap.objs.size+1)::us) b.Jh j) d c) λr s' a=>?_))
 cases r with
 |error e=>exact m pins σ _ _ e s' b a
 |ok i=>
  cases i with
  |ret u=>
   obtain⟨v,H',g,rv,ev,n⟩:=b.after a
   subst ev
   exact⟨rv,⟨V.ref (s.heap.objs.size+1),H',g,Xb,n⟩⟩
  |next=>exact False.elim a
  |brk=>exact False.elim a
  |cont=>exact False.elim a
theorem Qlp(M:Mk X.K C f)(F:Qt X.prog X.w X.K X.mg X.base CX k f fd ps sp)(l:Yc (k+1) X.A)(i:Gl X x)(j:X.mg x=some (.ref C))(hb:Binds X.K fd ps ds)(hd:Zv dvs ds)(m:Jn CX X E)
  (d:PA X (e::es) t)(a:(x==("__debug__":Str))=false:=by decide)(g:starEach (e::es) X.env=(false,eval e X.env)::starEach es X.env:=by rfl)(b:(backTo pos (starEach es X.env)).any (·.1)=false:=by rfl):
  PE X (.Call (.Name x p) (e::es) [] pos) (Qu9 C sp dvs E t):=by
 intro pins s σ H Q I h
 refine Dm (Qbd I i j ?_ a)
 refine SO (h₀:=X.base) I.ok.mod.kin M.kp (Ys (d pos pins s σ H _ I h) λus s1⟨vs,H1,c,r,q⟩=>⟨c.Jh,?_⟩) g b
 exact Qh6 M F l hb hd m c r q
theorem Qbv(M:Mk X.K C f)(F:Qt X.prog X.w X.K X.mg X.base CX k f fd ps sp)(d:Yc (k+1) X.A)(b:Gl X x)(c:X.mg x=some (.ref C))(hb:Binds X.K fd ps ds)(hd:Zv dvs ds)(e:Jn CX X E)
  (a:(x==("__debug__":Str))=false:=by decide):PE X (.Call (.Name x p) [] [] pos) (Qu9 C sp dvs E Qnq):=by
 intro pins s σ H Q I h
 refine Dm (Qbd I b c ?_ a)
 exact LW I.Jh M.kp (Qh6 (us:=[]) M F d hb hd e I .nil h)
end
structure Qx(N P:List Str)(sc:Scope):Prop where
 kind:sc.kind=.function
 co:sc.isCoroutine=false
 gen:sc.isGenerator=false
 nd:N.Nodup
 pre:N.take P.length=P
 par:∀x∈P,sc.names.lookup x=some .local\/sc.names.lookup x=some .cell
 Qwa:∀y∈sc.names,y.2≠.free
theorem Qed{kindOf:Str->Option NameKind}{x:Str}:∀{binds:List (Str×Value)}{m:Str->Option Value},(∀v,(x,v)∉binds)->bindL kindOf binds m x=m x
 |[],_,_=>rfl
 |(n,v)::r,m,h=>by
  unfold bindL
  rw[Qed λw hw=>h w (Gm _ hw)]
  split
  ·have:x≠n:=by rintro rfl;exact h v GJ
   simp[this]
  ·rfl
theorem Qez{kindOf:Str->Option NameKind}{x:Str}:∀{binds:List (Str×Value)}{m:Str->Option Value},(∀v,(x,v)∉binds)->bindC kindOf binds m x=m x
 |[],_,_=>rfl
 |(n,v)::r,m,h=>by
  unfold bindC
  rw[Qez λw hw=>h w (Gm _ hw)]
  split
  ·rfl
  ·have:x≠n:=by rintro rfl;exact h v GJ
   simp[this]
theorem Qd5{kindOf:Str->Option NameKind}{x:Str}{v:Value}:∀{P:List Str}{vs:List Value}{i:Nat}{m:Str->Option Value},P.Nodup->P[i]?=some x->vs[i]?=some v->kindOf x=some .local->
  bindL kindOf (P.zip vs) m x=some v
 |[],_,_,_,_,h,_,_=>by simp at h
 |_::_,[],_,_,_,_,h,_=>by simp at h
 |p::P,w::vs,0,m,nd,h1,h2,a=>by
  simp at h1 h2;subst h1;subst h2
  show bindL kindOf ((p,w)::P.zip vs) m p=_
  unfold bindL
  rw[Qed λv b=>(TV.mp nd).1 (LK b).1,Gp a]
  simp
 |p::P,w::vs,i+1,m,nd,h1,h2,a=>by
  show bindL kindOf ((p,w)::P.zip vs) m x=_
  unfold bindL
  exact Qd5 (i:=i) (TV.mp nd).2 (by simpa using h1) (by simpa using h2) a
theorem Qeg{kindOf:Str->Option NameKind}{x:Str}{v:Value}:∀{P:List Str}{vs:List Value}{i:Nat}{m:Str->Option Value},P.Nodup->P[i]?=some x->vs[i]?=some v->kindOf x≠some .local->
  bindC kindOf (P.zip vs) m x=some v
 |[],_,_,_,_,h,_,_=>by simp at h
 |_::_,[],_,_,_,_,h,_=>by simp at h
 |p::P,w::vs,0,m,nd,h1,h2,a=>by
  simp at h1 h2;subst h1;subst h2
  show bindC kindOf ((p,w)::P.zip vs) m p=_
  unfold bindC
  rw[Qez λv b=>(TV.mp nd).1 (LK b).1,Gj a]
  simp
 |p::P,w::vs,i+1,m,nd,h1,h2,a=>by
  show bindC kindOf ((p,w)::P.zip vs) m x=_
  unfold bindC
  exact Qeg (i:=i) (TV.mp nd).2 (by simpa using h1) (by simpa using h2) a
def start(N:List Str)(vs:List V):St:=vs.map some++List.replicate (N.length - vs.length) none
def Qh3(CX:CXT)(P:Program)(w:World)(K:Gc)(mg:Str->Option Value)(base:Heap)(N:List Str)(qual:Str)(scope:Scope)(f:Addr)(b:Value)(A:Around)(outer:List Env)(s:Shared)(H:Hp)(E:XK):Cx where
 prog:=P
 w:=w
 K:=K
 mg:=mg
 base:=base
 A:=A.deeper (envOfC qual scope s.heap.objs.size f b)
 N:=N
 s₀:=s
 H₀:=H
 env:=envOfC qual scope s.heap.objs.size f b
 outer:=outer
 stack:=envOfC qual scope s.heap.objs.size f b::outer
 ex:=[]
 calm:=true
 fn:=λ_=>true
 pn:=[]
 xe:=λe s'=>wpAny (model P w) (A.deeper (envOfC qual scope s.heap.objs.size f b)) (leaving (envOfC qual scope s.heap.objs.size f b) e) (λ_ a=>CX outer H s E e a) (λc a=>CX outer H s E c a) s'
theorem Qgu{a:Scope}{n:Nat}{x:Str}(h:a.names.lookup x=some .cell):∃c,(cellsFrom n a.names []).lookup x=some c:=by
 have q:=LH a.names n [] (.inl h)
 exact Lj.mp q
theorem Qnh{CX:CXT}{P:Program}{w:World}{K:Gc}{mg:Str->Option Value}{base:Heap}{N ps:List Str}{qual:Str}{scope:Scope}{f:Addr}{o:Value}{A:Around}{outer:List Env}{s s1:Shared}{H:Hp}{E:XK}{us:List Value}{vs:List V}
  (S:Qx N ps scope)(hd:A.handled=none)(d:Qj5 P w K mg base A outer s H)(G:vs.length=ps.length)(r:Zv vs us)
  (x:InCallC s s.heap.objs.size (bindL (envOfC qual scope s.heap.objs.size f o).kindOf (ps.zip us) λ_=>none) (cellsFrom (s.heap.objs.size+1) scope.names []) (bindC (envOfC qual scope s.heap.objs.size f o).kindOf (ps.zip us) λ_=>none) s1):
  Inv (Qh3 CX P w K mg base N qual scope f o A outer s H E) [] (start N vs) H s1:=by
 have D:ps.length<=N.length:=by have:=congrArg List.length S.pre;rw[T6]at this;omega
 obtain⟨h1,tk,rfl,t⟩:=x.done
 have j:∀b:Addr,b∉(Qh3 CX P w K mg base N qual scope f o A outer s H E).ex:=λb z=>absurd (show b∈([]:List Addr)from z) (by simp)
 refine⟨⟨d.mod,S.kind,Xb,Xb,Gr _,λy z c h1 h2=>?_,λy g=>?_,λy c _ h=>?_,λ_=>hd,Around.frames_deeper d.frames,.inr ⟨Xb,Xb⟩,λb z=>absurd z (j b),d.bs,d.bsz,λb _ _=>j b,λb z=>absurd z (j b),d.Qa6,d.frf⟩,
  Xb,d.bare,Un.kept t,⟨_,x.toInCall.ns,λi y v h1 h2 F=>?_⟩,λy c h=>⟨_,x.cell y c h⟩,d.Zy.fresh (Gr _),λy c h=>?_,λp l=>absurd (show p∈([]:List (Addr×Obj))from l) (by simp),d.Zy.kept t,?_⟩
 ·exact name_of_addr x.apart (Dy h1) (Dy h2)
 ·have g:scope.names.lookup y=some .cell\/scope.names.lookup y=some .free:=g
  rcases g with g|g
  ·exact Qgu g
  ·exact absurd rfl (S.Qwa _ (Dy g))
 ·exact LC (x.above y c (Dy h))
 ·have hi:i<vs.length:=by
   unfold start at h2
   by_cases hi:i<vs.length
   ·exact hi
   ·rw[To (by simpa using hi)]at h2
    rw[Lv]at h2
    split at h2<;>cases h2
  have C:vs[i]?=some v:=by
   unfold start at h2
   rw[GQ (by simpa using hi),GY]at h2
   cases e:vs[i]? with
   |none=>rw[e]at h2;cases h2
   |some a=>rw[e]at h2;cases h2;rfl
  obtain⟨u,B,rv⟩:=r.get C
  have l:ps[i]?=some y:=by
   rw[<-S.pre,DB (by omega)];exact h1
  have m:ps.Nodup:=by rw[<-S.pre];exact S.nd.sublist (List.take_sublist _ _)
  refine⟨u,rv,?_⟩
  rcases S.par y (Gb l)with k|k
  ·exact .inl ⟨k,Qd5 m l B k⟩
  ·obtain⟨c,e⟩:=Qgu (n:=s.heap.objs.size+1) k
   refine .inr ⟨.inl k,c,e,?_⟩
   have q:=x.cell y c e
   rw[Qeg m l B (by show scope.names.lookup y≠_;rw[k];decide)]at q
   exact q
 ·exact d.Zy.fresh (LC (x.above y c (Dy h)))
 ·unfold start
  show _=N.length
  rw[Gk,Gn,D4]
  omega
theorem Qxt{CX:CXT}{P:Program}{w:World}{K:Gc}{mg:Str->Option Value}{base:Heap}{k:Nat}{f:Addr}{name qual:Str}{a:Arguments}{c:List Stmt}{scope:Scope}{B kV doc pm cdv ct oc:Value}{an od:Option Addr}
  {osl:Array (Option Value)}{N ps:List Str}{sp:Sp}(lk:K.lookup f=some ⟨oc,od,.func (PySem.W.fnOf name qual a c scope B kV doc pm an cdv ct),osl⟩)(m:PySem.W.codeIn K cdv qual=true)(S:Qx N ps scope)
  (len:∀vs H Q E,sp vs H Q E->vs.length=ps.length)
  (g:∀(A:Around)(outer:List Env)(s:Shared)(H:Hp)(vs:List V)(Q:VK)(E:XK),Yc k (A.deeper (envOfC qual scope s.heap.objs.size f cdv))->sp vs H Q E->
   ∃t,PSs (Qh3 CX P w K mg base N qual scope f cdv A outer s H E) c t/\t {nx:=λ_ H'=>Q .non H',rt:=Q} (start N vs) H):
  Qt P w K mg base CX (k+1) f (PySem.W.fnOf name qual a c scope B kV doc pm an cdv ct) ps sp:=by
 refine⟨len,λA outer s H args us vs Q E p j hb r l=>?_⟩
 have F:=len _ _ _ _ l
 have KX:K.In s.heap:=j.mod.kin.keeps λb o e=>(j.bs b o e).1
 have z:s.heap.NoLimit:=j.mod.nolimit.keeps λb o e=>(j.bs b o e).1
 have h:∀y∈ps.zip us,scope.names.lookup y.1=some .local\/(scope.names.lookup y.1=some .cell/\((cellsFrom (s.heap.objs.size+1) scope.names []).lookup y.1).isSome=true):=λ⟨n,v⟩M=>by
  rcases S.par n (LK M).1 with q|q
  ·exact .inl q
  ·exact .inr ⟨q,LH _ _ _ (.inl q)⟩
 refine codeAny_call_function p.depth (KX _ _ lk) rfl S.co S.gen rfl (PySem.W.codeRec_of KX m) (hb _ _ _ _ ?_)
 refine wpAny_newFunctionEnv_cells S.kind h λenv D s1 x=>?_
 subst D
 refine⟨z.keeps x.toInCall.keep,codeAny_func ?_⟩
 obtain⟨t,L,G⟩:=g A outer s H vs Q E (p.deeper _) l
 have I:Inv (Qh3 CX P w K mg base N qual scope f cdv A outer s H E) [] (start N vs) H s1:=Qnh S p.hd j F r x
 refine DL (L [] s1 (start N vs) H _ I G) (λC s' i=>?_) λe s' i=>i
 have fin:∀{d:St}{H':Hp}{v:V}{u:Value},Inv (Qh3 CX P w K mg base N qual scope f cdv A outer s H E) [] d H' s'->RelV v u->Q v H'->CE outer P w H s Q u s':=
  λ{d H' v u}J rv q=>⟨v,H',J.os,J.bare,J.base,J.Zy,rv,q⟩
 cases C with
 |ret u=>
  obtain⟨v,d,H',J,rv,q⟩:=i
  exact fin J rv q
 |next=>
  obtain⟨d,H',J,q⟩:=i
  exact fin (v:=V.non) (u:=Value.none) J rfl q
 |brk=>
  obtain⟨_,_,_,q⟩:=i
  exact False.elim q
 |cont=>
  obtain⟨_,_,_,q⟩:=i
  exact False.elim q
open PySem PySem.Spec PyProof.Rows
section
variable{X:Cx}{x:Str}{p pos:Pos}{e:Expr}{es:List Expr}{t:TA}{id T:String}{r:List V->Hp->VK->Prop}
def tCB(r:List V->Hp->VK->Prop)(t:TA):TE:=λσ H Q=>t σ H λvs H1=>r vs H1 Q
theorem Qp(f:Vr X (.builtin id) r)(i:Gl X x)(j:X.mg x=none)(l:bootBuiltins x=some (.builtin id))(d:PA X (e::es) t)(k:x≠"__name__":=by decide)(a:(x==("__debug__":Str))=false:=by decide)
  (g:starEach (e::es) X.env=(false,eval e X.env)::starEach es X.env:=by rfl)(b:(backTo pos (starEach es X.env)).any (·.1)=false:=by rfl):PE X (.Call (.Name x p) (e::es) [] pos) (tCB r t):=by
 intro pins s σ H Q I h
 refine Dm (V3 I i j l ?_ k a)
 exact PyProof.Rows.callWith_builtin1 (Ys (d pos pins s σ H _ I h) λus s1⟨vs,H1,c,n,m⟩=>f pins s1 σ H1 vs us Q c n m) g b
theorem Xn(f:Vr X (.type T) r)(i:Gl X x)(j:X.mg x=none)(l:bootBuiltins x=some (.type T))(d:PA X (e::es) t)(k:x≠"__name__":=by decide)(a:(x==("__debug__":Str))=false:=by decide)
  (g:starEach (e::es) X.env=(false,eval e X.env)::starEach es X.env:=by rfl)(b:(backTo pos (starEach es X.env)).any (·.1)=false:=by rfl):PE X (.Call (.Name x p) (e::es) [] pos) (tCB r t):=by
 intro pins s σ H Q I h
 refine Dm (V3 I i j l ?_ k a)
 exact DT (Ys (d pos pins s σ H _ I h) λus s1⟨vs,H1,c,n,m⟩=>f pins s1 σ H1 vs us Q c n m) g b
end
end L2
namespace HT
open PySem PyProof.Rows
section
variable{prog:Program}{w:World}{A:Around}{E:Value->Shared->Prop}{s:Shared}
def Wb(n d:Nat):Option Int->Nat
 |none=>d
 |some v=>if v<0 then(v+(n:Int)).toNat else min v.toNat n
theorem Ro(n d:Nat):Wb n d none=d:=rfl
theorem Rz(n d k:Nat):Wb n d (some (k:Int))=min k n:=by
 show(if(k:Int)<0 then((k:Int)+(n:Int)).toNat else min (k:Int).toNat n)=min k n
 rw[Gj (by omega),Dz]
theorem Qv5(n d:Nat)(hd:d<=n)(o:Option Int):Wb n d o<=n:=by
 cases o with
 |none=>exact hd
 |some v=>
  show(if v<0 then(v+(n:Int)).toNat else min v.toNat n)<=n
  by_cases a:v<0
  ·rw[Gp a];omega
  ·rw[Gj a];exact Nat.min_le_right _ _
theorem Ql9(v:Int)(n d:Nat):(if v<0 then max (v+(n:Int)) 0 else min v (n:Int))=((Wb n d (some v):Nat):Int):=by
 show(if v<0 then max (v+(n:Int)) 0 else min v (n:Int))=(((if v<0 then(v+(n:Int)).toNat else min v.toNat n):Nat):Int)
 by_cases a:v<0
 ·simp only[Gp a];omega
 ·simp only[Gj a];omega
theorem Qki(lo hi:Option Int)(n:Nat):Builtin.Slice.sliceAdjust lo hi 1 (n:Int)=(((Wb n 0 lo:Nat):Int),((Wb n n hi:Nat):Int)):=by
 have h1:¬((1:Int)<0):=by omega
 unfold Builtin.Slice.sliceAdjust
 simp only[h1,DE]
 refine Fl ?_ ?_
 ·cases lo with
  |none=>rfl
  |some v=>exact Ql9 v n 0
 ·cases hi with
  |none=>rfl
  |some v=>exact Ql9 v n n
theorem Qjv(i j:Nat):Builtin.Slice.slicePlaces (i:Int) (j:Int) 1=j - i:=by
 unfold Builtin.Slice.slicePlaces
 have h1:(1:Int)>0:=by omega
 simp only[h1,LI,Int.ediv_one]
 split<;>omega
theorem Qcs{v:Value}{o:Option Int}{Q:Option Int->Shared->Prop}(p:IsPart v o)(h:Q o s):wpAny (model prog w) A (Builtin.Slice.slicePartIndex v) Q E s:=by
 cases p with
 |none=>exact slicePart_none h
 |int i t=>exact slicePart_int h
theorem O1{sl:Addr}{c d:Value}{lo hi:Option Int}{n:Nat}{Q:Int×Int×Nat->Shared->Prop}(f:s.heap.IsSliceOf sl c d .none)(pl:IsPart c lo)(g:IsPart d hi)
  (h:Q (((Wb n 0 lo:Nat):Int),1,Wb n n hi - Wb n 0 lo) s):wpAny (model prog w) A (Builtin.Slice.sliceApplied (.ref sl) (pure (n:Int))) Q E s:=by
 obtain⟨os,b,e,a⟩:=id f
 unfold Builtin.Slice.sliceApplied Builtin.Slice.sliceFields
 refine Ga (Ga (TZ b a (x:=c) rfl (Ga (TZ b a (x:=d) rfl (Ga (TZ b a (x:=.none) rfl (Gf ?_)))))))
 refine Ga (slicePart_none ?_)
 show wpAny _ _ (if((1:Int)==0)=true then _ else _) _ _ s
 rw[Gj (by decide)]
 refine Ga (Qcs pl (Ga (Qcs g (Ga (Gf ?_)))))
 show wpAny _ _ (match Builtin.Slice.sliceAdjust lo hi 1 (n:Int)with|(lo,hi)=>pure (lo,(1:Int),Builtin.Slice.slicePlaces lo hi 1)) _ _ s
 rw[Qki lo hi n]
 show wpAny _ _ (pure (((Wb n 0 lo:Nat):Int),(1:Int),Builtin.Slice.slicePlaces ((Wb n 0 lo:Nat):Int) ((Wb n n hi:Nat):Int) 1)) _ _ s
 rw[Qjv]
 exact Gf h
theorem Qr0(xs:Array Value)(i k:Nat):((List.range k).filterMap λ(m:Nat)=>xs[((i:Int)+(m:Int)*1).toNat]?).toArray=((xs.toList.drop i).take k).toArray:=by
 have e:(λ(m:Nat)=>xs[((i:Int)+(m:Int)*1).toNat]?)=λm=>xs[i+m]?:=by
  funext m
  have:((i:Int)+(m:Int)*1).toNat=i+m:=by omega
  rw[this]
 rw[e]
 have:=pick_run xs i k
 rw[List.filterMap_map]at this
 have a:((λx=>xs[x]?)∘λx=>i+x)=λm=>xs[i+m]?:=rfl
 rw[a]at this
 rw[this]
theorem R9{t sl:Addr}{a:Array Value}{j k:Value}{lo hi:Option Int}{Q:Value->Shared->Prop}(c:IsTup s.heap t a)(i:s.heap.IsSliceOf sl j k .none)(pl:IsPart j lo)(n:IsPart k hi)
  (hw:¬(Wb a.size 0 lo=0/\Wb a.size a.size hi=a.size))
  (h:Q (.ref s.heap.objs.size) {s with heap:=s.heap.push {cls:=.type "tuple",data:=.seq ((a.toList.drop (Wb a.size 0 lo)).take (Wb a.size a.size hi - Wb a.size 0 lo)).toArray}})
  (hsz:a.size<=sizeLine):wpAny (model prog w) A (getItem (.ref t) (.ref sl)) Q E s:=by
 have b:sizeOk (.seq ((a.toList.drop (Wb a.size 0 lo)).take (Wb a.size a.size hi - Wb a.size 0 lo)).toArray):=by
  show((a.toList.drop (Wb a.size 0 lo)).take (Wb a.size a.size hi - Wb a.size 0 lo)).toArray.size<=sizeLine
  rw[GF,T6,List.length_drop,TX]
  omega
 have o:Wb a.size a.size hi<=a.size:=Qv5 _ _ (Gr _) hi
 obtain⟨os,g,e,l⟩:=id i
 have d:s.TypeIs (.ref sl) "slice":=⟨os,g,e⟩
 unfold getItem
 try with_reducible refine Dj ?_
 first|refine Ga (Gf ?_)|skip
 refine Ga (wpAny_sequenceKey c.typeIs (by decide) ?_)
 refine Ga (T5 (name:=Str.ofString "__getitem__") c.typeIs Ep
  (TR Ep c.typeIs entry_tuple_getitem ?_ (args_tuple_getitem _ _)))
 show wpAny _ _ (Builtin.Tuple.tupleItemsOf (.ref t)>>=_) _ _ s
 refine Ga (tupleItemsOf_ c ?_)
 refine Ga (wpAny_typeOf d ?_)
 rw[Gp (by decide)]
 refine Ga (O1 i pl n ?_)
 have f:¬((((Wb a.size 0 lo:Nat):Int)==0&&(1:Int)==1&&(Wb a.size a.size hi - Wb a.size 0 lo)==a.size)=true):=by
  intro q
  rw[TD,TD]at q
  have p:((Wb a.size 0 lo:Nat):Int)=0:=eq_of_beq q.1.1
  have r:Wb a.size a.size hi - Wb a.size 0 lo=a.size:=eq_of_beq q.2
  exact hw ⟨by omega,by omega⟩
 show wpAny _ _ (if(((Wb a.size 0 lo:Nat):Int)==0&&(1:Int)==1&&(Wb a.size a.size hi - Wb a.size 0 lo)==a.size)=true then _ else _) _ _ s
 rw[Gj f,Qr0]
 first
  |exact Ga (m:=Builtin.Tuple.tupleExact _) (TU (Gf ⟨_,Xb,Gf h⟩) b)
  |exact Ga (m:=Builtin.Tuple.tupleExact _) (TU (Ga (Gf (Gf ⟨_,Xb,Gf h⟩))) b)
  |exact Ga (Ga (m:=Builtin.Tuple.tupleExact _) (TU (Gf (Gf ⟨_,Xb,Gf h⟩)) b))
  |exact Ga (Ga (m:=Builtin.Tuple.tupleExact _) (TU (Gf ⟨_,Xb,Gf h⟩) b))
end
end HT
namespace L2
open PySem PySem.Spec PyProof.Rows
abbrev TO:=St->Hp->(Option Int->Hp->Prop)->Prop
def PO(X:Cx)(e:Option Expr)(t:TO):Prop:=
 ∀(pins:List (Addr×Obj))(s:Shared)(σ:St)(H:Hp)(Q:Option Int->Hp->Prop),Inv X pins σ H s->t σ H Q->
  wpAny (model X.prog X.w) X.A (evalPart e X.env) (λu s'=>∃o H',Inv X pins σ H' s'/\IsPart u o/\Q o H') X.xe s
def Qtc:TO:=λ_ H Q=>Q none H
def Qy3(t:TE):TO:=λσ H Q=>t σ H λx H1=>∃i,x=.int i/\Q (some i) H1
section
variable{X:Cx}{e:Expr}{te:TE}{lo hi:Option Expr}{tl th:TO}{pos p2:Pos}
theorem Xy:PO X none Qtc:=by
 intro pins s σ H Q I h
 rw[evalPart_none]
 exact Gf ⟨none,H,I,.none,h⟩
theorem Yy(h:PE X e te):PO X (some e) (Qy3 te):=by
 intro pins s σ H Q I hw
 rw[evalPart_some]
 refine Ys (h pins s σ H _ I hw) λu s1⟨x,H1,a,c,b⟩=>?_
 obtain⟨i,rfl,q⟩:=b
 obtain⟨t,rfl⟩:=c
 exact⟨some i,H1,a,.int i t,q⟩
def SlR(X:Cx)(r:V->Option Int->Option Int->Hp->VK->Prop):Prop:=
 ∀(pins:List (Addr×Obj))(s:Shared)(σ:St)(H:Hp)(x:V)(v a b:Value)(lo hi:Option Int)(sl:Addr)(Q:VK),Inv X pins σ H s->RelV x v->s.heap.IsSliceOf sl a b .none->IsPart a lo->IsPart b hi->r x lo hi H Q->
  ∃T id,typeLookup (.type T) "__getitem__"=pure (some (.builtin id))/\s.TypeIs v T/\wpAny (model X.prog X.w) X.A (getItem v (.ref sl)) (EP X pins σ Q) X.xe s
def tSl(r:V->Option Int->Option Int->Hp->VK->Prop)(te:TE)(tl th:TO):TE:=λσ H Q=>te σ H λx H1=>tl σ H1 λl H2=>th σ H2 λu a=>r x l u a Q
theorem Yx{r:V->Option Int->Option Int->Hp->VK->Prop}(t:SlR X r)(n:PE X e te)(p:PO X lo tl)(z:PO X hi th):PE X (.Subscript e (.Slice lo hi none p2) pos) (tSl r te tl th):=by
 intro pins s σ H Q I h
 refine Subscript_ (Ys (n pins s σ H _ I h) λv s1⟨x,H1,g,F,C⟩=>?_)
 refine wpAny_Slice (Ys (p pins s1 σ H1 _ g C) λc s2⟨l,H2,i,pl,D⟩=>Ys (z pins s2 σ H2 _ i D) λd a⟨u,f,j,B,E⟩=>?_)
 rw[evalPart_none]
 refine Gf ?_
 have k:Inv X pins σ f {a with heap:=a.heap.push {cls:=.type "slice",data:=.fields #[c,d,.none]}}:=j.kept (t':=a.toks) λb ob q=>Gh _ q
 obtain⟨T,id,m,y,o⟩:=t pins {a with heap:=a.heap.push {cls:=.type "slice",data:=.fields #[c,d,.none]}} σ f x v c d l u a.heap.objs.size Q k F (Heap.IsSliceOf.new ..) pl B E
 show wpAny (model X.prog X.w) X.A (subscriptTail e (.Slice lo hi none p2) v (.ref a.heap.objs.size)) (EP X pins σ Q) X.xe {a with heap:=a.heap.push {cls:=.type "slice",data:=.fields #[c,d,.none]}}
 exact tail_any (ops:=[.ref a.heap.objs.size,v]) y m o (by with_unfolding_all rfl)
def Uj(xs:List V)(lo hi:Option Int):List V:=(xs.drop (HT.Wb xs.length 0 lo)).take (HT.Wb xs.length xs.length hi - HT.Wb xs.length 0 lo)
theorem Qaj(xs:List V)(lo hi:Option Int):(Uj xs lo hi).length<=xs.length:=by
 unfold Uj
 rw[T6,List.length_drop]
 omega
def Qyy(K:Gc):V->Option Int->Option Int->Hp->VK->Prop:=λx lo hi H Q=>∃a xs,x=.ref a/\Z4 K H a xs/\
 ¬(HT.Wb xs.length 0 lo=0/\HT.Wb xs.length xs.length hi=xs.length)/\∀p,H p=none->Q (.ref p) (upd H p (.tup (Uj xs lo hi)))
theorem Ow:SlR X (Qyy X.K):=by
 intro pins s σ H x v j k lo hi sl Q I i e pl g h
 obtain⟨a,xs,rfl,f,hw,q⟩:=h
 cases i
 obtain⟨its,r,d,hz⟩:=I.tuple f
 have c:its.toArray.size=xs.length:=by rw[GF];exact r.length.symm
 refine⟨"tuple",_,Ep.lookup,d.typeIs,?_⟩
 refine HT.R9 d e pl g (by rw[c];exact hw) ?_ (by rw[c];exact hz)
 rw[c]
 refine⟨.ref s.heap.objs.size,_,I.laid (t':=s.toks) (o:=.tup (Uj xs lo hi)) (λb ob q=>Gh _ q) (Gr _) ?_,Xb,q _ (I.Zy.fresh (Gr _))⟩
 exact⟨Dg (Qaj xs lo hi) hz,_,(r.drop (HT.Wb xs.length 0 lo)).take (HT.Wb xs.length xs.length hi - HT.Wb xs.length 0 lo),IsTup.new _ _⟩
end
open PySem PySem.Spec PyProof.Rows
def ixN(n:Nat)(i:Int):Option Nat:=if 0<=i then(if i<n then some i.toNat else none)else if -(n:Int)<=i then some (i+n).toNat else none
def atI{α:Type}(xs:List α)(i:Int):Option α:=(ixN xs.length i).bind λj=>xs[j]?
theorem Quu{n:Nat}{i:Int}{j:Nat}(h:ixN n i=some j):seqIndex? i n=some j/\j<n/\ -(n:Int)<=i/\i<n:=by
 unfold ixN at h
 by_cases a:0<=i
 ·rw[Gp a]at h
  by_cases h1:i<n
  ·rw[Gp h1]at h
   have e:i.toNat=j:=TF h
   exact⟨by rw[seqIndex_of a h1,e],by omega,by omega,h1⟩
  ·rw[Gj h1]at h;cases h
 ·rw[Gj a]at h
  by_cases h1: -(n:Int)<=i
  ·rw[Gp h1]at h
   have e:(i+n).toNat=j:=TF h
   exact⟨by rw[seqIndex_neg (by omega) h1,e],by omega,h1,by omega⟩
  ·rw[Gj h1]at h;cases h
theorem Qfq{α:Type}{xs:List α}{i:Int}{v:α}(h:atI xs i=some v):∃j,seqIndex? i xs.length=some j/\xs[j]?=some v/\j<xs.length/\ -(xs.length:Int)<=i/\i<xs.length:=by
 unfold atI at h
 cases e:ixN xs.length i with
 |none=>rw[e]at h;cases h
 |some j=>
  rw[e]at h
  obtain⟨h1,h2,a,b⟩:=Quu e
  exact⟨j,h1,h,h2,a,b⟩
theorem Qz{α:Type}{xs:List α}{j:Nat}{v:α}(h:xs[j]?=some v):atI xs (j:Int)=some v:=by
 have a:j<xs.length:=(Ge.mp h).1
 have e:ixN xs.length (j:Int)=some j:=by
  unfold ixN
  rw[Gp (by omega),Gp (by omega)];simp
 unfold atI;rw[e];exact h
def Qtg(b:Expr):Prop:=∀o i,subscripted b false o i=operate [o,i] (getItem o i)
def IxR(X:Cx)(r:R2):Prop:=
 ∀(value a:Expr)(pins:List (Addr×Obj))(s:Shared)(σ:St)(H:Hp)(x y:V)(v u:Value)(Q:VK),Inv X pins σ H s->RelV x v->RelV y u->r x y H Q->
  subscripted a false v u=operate [v,u] (getItem v u)->wpAny (model X.prog X.w) X.A (subscriptTail value a v u) (EP X pins σ Q) X.xe s
def MtR(X:Cx)(id:String)(r:V->List V->Hp->VK->Prop):Prop:=
 ∀(pins:List (Addr×Obj))(s:Shared)(σ:St)(H:Hp)(x:V)(xs:List V)(v:Value)(us:List Value)(Q:VK),Inv X pins σ H s->RelV x v->Zv xs us->r x xs H Q->
  wpAny (model X.prog X.w) X.A (call (.builtin id) (v::us)) (EP X pins σ Q) X.xe s
section
variable{X:Cx}{a b:Expr}{ta tb:TE}{pos:Pos}
theorem IxR.or{r c:R2}(h:IxR X r)(h':IxR X c):IxR X (λx y H Q=>r x y H Q\/c x y H Q):=by
 intro value a pins s σ H x y v u Q I d e q b
 rcases q with q|q
 ·exact h value a pins s σ H x y v u Q I d e q b
 ·exact h' value a pins s σ H x y v u Q I d e q b
theorem Qo{r:R2}(e:IxR X r)(d:PE X a ta)(hb:PE X b tb)(f:Qtg b):PE X (.Subscript a b pos) (tOp r ta tb):=by
 intro pins s σ H Q I h
 exact Subscript_ (Qwy d hb I h λv u s2 x y H2 c g i q=>e a b pins s2 σ H2 x y v u Q c g i q (f _ _))
def Qx2(K:Gc):R2:=λx y H Q=>∃p xs i v,x=.ref p/\y=.int i/\Zd K H p xs/\atI xs i=some v/\Q v H
def Qsr(K:Gc):R2:=λx y H Q=>∃p xs i v,x=.ref p/\y=.int i/\Z4 K H p xs/\atI xs i=some v/\Q v H
def Qzh:R2:=λx y H Q=>∃z i c,x=.str z/\y=.int i/\z.length<=sizeLine/\atI z.cps.toList i=some c/\Q (.str ⟨#[c]⟩) H
theorem Zh:IxR X (Qx2 X.K):=by
 intro value c pins s σ H x y v u Q I o A h f
 obtain⟨p,xs,i,z,rfl,rfl,n,l,q⟩:=h
 cases o
 obtain⟨t,rfl⟩:=A
 obtain⟨its,r,pl,hz⟩:=I.list n
 obtain⟨j,h1,h2,B,g,k⟩:=Qfq l
 obtain⟨w,d,b⟩:=r.get h2
 have m:=r.length
 have C:=Rh
 have fin:EP X pins σ Q w s:=⟨z,H,I,b,q⟩
 by_cases e:0<=i
 ·have a:i.toNat=j:=by
   rw[seqIndex_of e k]at h1
   exact TF h1
  exact item_listR pl.isList e (by omega) (by rw[a];simpa using d) fin f
 ·have a:(i+(its.toArray.size:Int)).toNat=j:=by
   rw[seqIndex_neg (by omega) g]at h1
   rw[GF,<-m]
   exact TF h1
  exact E5 (x:=w) pl.isList.typeIs slot_list_getitem.lookup
   (wpAny_getItem_list_neg (Q:=λr s'=>r=w/\EP X pins σ Q r s') pl.isList (by omega) (by rw[GF]<;>omega) (by omega) (by rw[a];simpa using d) ⟨Xb,fin⟩) f
theorem Q4:IxR X (Qsr X.K):=by
 intro value b pins s σ H x y v u Q I k l h g
 obtain⟨p,xs,i,z,rfl,rfl,f,d,q⟩:=h
 cases k
 obtain⟨t,rfl⟩:=l
 obtain⟨its,r,pl,hz⟩:=I.tuple f
 obtain⟨j,h1,h2,m,n,o⟩:=Qfq d
 obtain⟨w,c,a⟩:=r.get h2
 have e:=r.length
 have A:=Rh
 have fin:EP X pins σ Q w s:=⟨z,H,I,a,q⟩
 exact E5 (x:=w) pl.typeIs slot_tuple_getitem.lookup
  (getItem_tuple (j:=j) (Q:=λr s'=>r=w/\EP X pins σ Q r s') pl (by omega) (by omega) (by rw[GF,<-e];exact h1) (by simpa using c) ⟨Xb,fin⟩) g
theorem Qr3:IxR X Qzh:=by
 intro value a pins s σ H x y v u Q I m n h l
 obtain⟨z,i,c,rfl,rfl,hz,g,q⟩:=h
 obtain⟨t,rfl⟩:=m
 obtain⟨t',rfl⟩:=n
 obtain⟨j,h1,h2,o,e,f⟩:=Qfq g
 have k:z.cps.toList.length=z.length:=by simp[Str.length]
 rw[k]at h1 e f
 have p:=Rh
 exact tail_any (typeIs_str s z t) slot_str_getitem.lookup (getItem_str (c:=c) (by
  have b:decide (i< -(2^63:Int))=false:=Tg (by omega)
  have d:decide (i>=2^63)=false:=Tg (by omega)
  rw[b,d,Bool.or_false]) (by rw[h1];simpa using h2) ⟨.str ⟨#[c]⟩,H,I.tok _,⟨_,Xb⟩,q⟩) l
def rIx(K:Gc):R2:=λx y H Q=>Qx2 K x y H Q\/Qsr K x y H Q\/Qzh x y H Q
theorem Qol:IxR X (rIx X.K):=Zh.or (Q4.or Qr3)
theorem Qgn(lo hi:Option Int)(n:Nat):(sliceBounds lo hi none n).1=((HT.Wb n 0 lo:Nat):Int)/\(sliceBounds lo hi none n).2.1=((HT.Wb n n hi:Nat):Int)/\(sliceBounds lo hi none n).2.2=1:=by
 refine⟨?_,?_,Xb⟩
 ·cases lo with
  |none=>simp[sliceBounds,HT.Wb]
  |some i=>
   simp only[sliceBounds,HT.Wb,Option.getD_none,show(1:Int)>0 by decide,LI]
   by_cases h:i<0
   ·simp only[h,LI]<;>omega
   ·simp only[h,DE]<;>omega
 ·cases hi with
  |none=>simp[sliceBounds,HT.Wb]
  |some i=>
   simp only[sliceBounds,HT.Wb,Option.getD_none,show(1:Int)>0 by decide,LI]
   by_cases h:i<0
   ·simp only[h,LI]<;>omega
   ·simp only[h,DE]<;>omega
theorem Qd2(its:List Value)(lo hi:Option Int):slicePick its.toArray lo hi none=((its.drop (HT.Wb its.length 0 lo)).take (HT.Wb its.length its.length hi - HT.Wb its.length 0 lo)).toArray:=by
 obtain⟨h1,h2,a⟩:=Qgn lo hi its.toArray.size
 unfold slicePick
 rw[h1,h2,a]
 simp only[sliceRange_one,pick_run,GF]<;>rfl
def Q05(K:Gc):V->Option Int->Option Int->Hp->VK->Prop:=λx lo hi H Q=>∃a xs,x=.ref a/\Zd K H a xs/\∀p,H p=none->Q (.ref p) (upd H p (.lst (Uj xs lo hi)))
theorem Vc:SlR X (Q05 X.K):=by
 intro pins s σ H x v j k lo hi sl Q I i e pl g h
 obtain⟨a,xs,rfl,f,q⟩:=h
 cases i
 obtain⟨its,r,d,hz⟩:=I.list f
 have c:=r.length
 refine⟨"list",_,slot_list_getitem.lookup,d.isList.typeIs,?_⟩
 refine wpAny_getItem_list_slice d.isList e pl g .none (by simp) ?_ (by rw[GF]<;>omega)
 rw[Qd2,<-c]
 refine⟨.ref s.heap.objs.size,_,I.laid (t':=s.toks) (o:=.lst (Uj xs lo hi)) (λb ob q=>Gh _ q) (Gr _) ?_,Xb,q _ (I.Zy.fresh (Gr _))⟩
 exact⟨Dg (Qaj xs lo hi) hz,_,0,(r.drop (HT.Wb xs.length 0 lo)).take (HT.Wb xs.length xs.length hi - HT.Wb xs.length 0 lo),Gz _ Xb⟩
theorem Zk:Vr X (.builtin "len") (λxs H Q=>∃p ys,xs=[.ref p]/\(Zd X.K H p ys\/Z4 X.K H p ys)/\Q (.int ys.length) H):=by
 intro pins s σ H xs us Q I r h
 obtain⟨p,ys,rfl,b,q⟩:=h
 obtain⟨u,rfl,d⟩:=vals1 r
 cases d
 have e:=Rh
 rcases b with b|b
 ·obtain⟨its,c,pl,hz⟩:=I.list b
  have a:=c.length
  exact Calls.call_len_list pl.isList (by simp only[GF]<;>omega) ⟨.int ys.length,H,I.tok _,⟨s.toks+1,by rw[GF,a]⟩,q⟩
 ·obtain⟨its,c,pl,hz⟩:=I.tuple b
  have a:=c.length
  exact len_tuple pl (by simp only[GF]<;>omega) ⟨.int ys.length,H,I.tok _,⟨s.toks+1,by rw[GF,a]⟩,q⟩
theorem Vb:Vr X (.type "list") (λxs H Q=>∃p ys,xs=[.ref p]/\(Zd X.K H p ys\/Z4 X.K H p ys)/\∀l,H l=none->Q (.ref l) (upd H l (.lst ys))):=by
 intro pins s σ H xs us Q I r h
 obtain⟨p,ys,rfl,f,q⟩:=h
 obtain⟨u,rfl,j⟩:=vals1 r
 cases j
 have fin:∀(its:List Value),Zv ys its->ys.length<=sizeLine->∀(h':Heap)(a:Nat),(∀b o',s.heap.get? b=some o'->h'.get? b=some o')->
   h'.get? s.heap.objs.size=some {cls:=.type "list",dict:=none,data:=.seq its.toArray a,slots:=#[]}->EP X pins σ Q (.ref s.heap.objs.size) {s with heap:=h'}:=λits c hz h' a kp e=>
  ⟨.ref s.heap.objs.size,_,I.laid (t':=s.toks) kp (Gr _) (show Z0 X.prog X.w _ h' _ (.lst ys)from⟨hz,its,a,c,e⟩),Xb,q _ (I.Zy.fresh (Gr _))⟩
 rcases f with f|f
 ·obtain⟨its,c,pl,hz⟩:=I.list f
  have d:=c.length
  obtain⟨o,i,g,n,hd⟩:=pl.isList
  exact call_list_seq p (.inl Xb) i g hd (λh' a kp e=>fin its c hz h' a kp e) (by simp only[GF]<;>omega)
 ·obtain⟨its,c,pl,hz⟩:=I.tuple f
  have d:=c.length
  obtain⟨o,i,g,n,hd⟩:=pl
  exact call_list_seq p (.inr Xb) i g hd (λh' a kp e=>fin its c hz h' a kp e) (by simp only[GF]<;>omega)
theorem Ww:Vr X (.type "tuple") (λxs H Q=>∃p ys,xs=[.ref p]/\((Zd X.K H p ys/\∀l,H l=none->Q (.ref l) (upd H l (.tup ys)))\/(Z4 X.K H p ys/\Q (.ref p) H))):=by
 intro pins s σ H xs us Q I r h
 obtain⟨p,ys,rfl,h⟩:=h
 obtain⟨u,rfl,i⟩:=vals1 r
 cases i
 rcases h with⟨a,q⟩|⟨a,q⟩
 ·obtain⟨its,c,pl,hz⟩:=I.list a
  have f:=c.length
  refine call_tuple_list pl.isList (λh' kp=>?_) (by simp only[GF]<;>omega)
  have d:Inv X pins σ H {s with heap:=h'}:=I.kept (t':=s.toks) kp
  have g:Inv X pins σ (upd H h'.objs.size (.tup ys)) {s with heap:=h'.push {cls:=.type "tuple",data:=.seq its.toArray}}:=
   d.laid (t':=s.toks) (λb o e=>Gh _ e) (Gr _) (show Z0 X.prog X.w _ _ _ (.tup ys)from⟨hz,its,c,IsTup.new _ _⟩)
  exact⟨.ref h'.objs.size,_,g,Xb,q _ (d.Zy.fresh (Gr _))⟩
 ·obtain⟨its,c,pl,hz⟩:=I.tuple a
  exact call_tuple_same pl ⟨.ref p,H,I,Xb,q⟩
def tyV(K:Gc)(T:String)(x:V)(H:Hp):Prop:=match x with
 |.str _=>T="str"
 |.int _=>T="int"
 |.ref p=>(T="list"/\∃xs,Zd K H p xs)\/(T="tuple"/\∃o,K.lookup p=some o/\o.cls=.type "tuple"/\o.dict=none)\/
   (T="dict"/\((∃kvs,H p=some (.dK kvs))\/∃kvs,H p=some (.dT kvs)))\/(T="set"/\∃S n,H p=some (.set S n))
 |_=>False
theorem Qqr{pins:List (Addr×Obj)}{σ:St}{H:Hp}{s:Shared}{T:String}{x:V}{v:Value}(I:Inv X pins σ H s)(r:RelV x v)(ty:tyV X.K T x H):
  s.TypeIs v T/\∀a,v=.ref a->∃ob,s.heap.get? a=some ob/\ob.dict=none:=by
 cases x with
 |str z=>
  obtain⟨t,rfl⟩:=r
  cases(show T="str"from ty)
  exact⟨typeIs_str s z t,λ_ e=>nomatch e⟩
 |int i=>
  obtain⟨t,rfl⟩:=r
  cases(show T="int"from ty)
  exact⟨typeIs_int s i t,λ_ e=>nomatch e⟩
 |ref p=>
  cases r
  rcases ty with⟨rfl,xs,g⟩|⟨rfl,o,b,f,hd⟩|⟨rfl,b⟩|⟨rfl,S,n,b⟩
  ·obtain⟨its,_,pl,_⟩:=I.list g
   refine⟨pl.isList.typeIs,λa e=>?_⟩
   cases e
   obtain⟨o,n,e,c,hd,_⟩:=pl
   exact⟨o,e,hd⟩
  ·refine⟨⟨o,I.Jh p o b,f⟩,λa e=>?_⟩
   cases e
   exact⟨o,I.Jh _ o b,hd⟩
  ·have z:∃o,s.heap.get? p=some o/\o.ExactDict:=by
    rcases b with⟨kvs,b⟩|⟨kvs,b⟩
    ·obtain⟨_,_,_,_,o,_,_,e,ex,_⟩:=I.Zy p _ b
     exact⟨o,e,ex⟩
    ·obtain⟨_,_,_,_,o,_,_,e,ex,_⟩:=I.Zy p _ b
     exact⟨o,e,ex⟩
   obtain⟨o,e,ex⟩:=z
   refine⟨⟨o,e,ex.1⟩,λa d=>?_⟩
   cases d
   exact⟨o,e,ex.2.1⟩
  ·obtain⟨o,_,_,_,e,ex,_⟩:=I.Zy p _ b
   refine⟨⟨o,e,ex.1⟩,λa d=>?_⟩
   cases d
   exact⟨o,e,ex.2.1⟩
 |_=>exact False.elim ty
def Q0m(K:Gc)(T:String)(r:V->List V->Hp->VK->Prop)(to:TE):TE:=λσ H Q=>to σ H λx H1=>tyV K T x H1/\r x [] H1 Q
def tBM(K:Gc)(T:String)(r:V->List V->Hp->VK->Prop)(to:TE)(t:TA):TE:=λσ H Q=>to σ H λx H1=>tyV K T x H1/\t σ H1 λxs H2=>r x xs H2 Q
variable{o e:Expr}{es:List Expr}{to:TE}{t:TA}{name:Str}{apos cpos:Pos}{T id:String}{r:V->List V->Hp->VK->Prop}
theorem Qcf(i:PlainAttrs T)(slot:Slot T name id)(c:typeOf (.builtin id)=pure (.type "method_descriptor"))(f:MtR X id r)(g:PE X o to)
  (a:attributeBase o name X.env (eval o X.env)=eval o X.env:=by rfl)(b:(apos.endLine==cpos.line)=true:=by rfl):PE X (.Call (.Attribute o name apos) [] [] cpos) (Q0m X.K T r to):=by
 intro pins s σ H Q I h
 refine wpAny_Call_method0_late a b (Ys (g pins s σ H _ I h) λv s1⟨x,H1,d,e,ty,j⟩=>?_)
 obtain⟨h1,h2⟩:=Qqr d e ty
 exact⟨T,id,i,slot,c,h1,h2,Ez rfl (LX (f pins s1 σ H1 x [] v [] Q d e .nil j))⟩
theorem Xr(q:PlainAttrs T)(slot:Slot T name id)(f:typeOf (.builtin id)=pure (.type "method_descriptor"))(m:MtR X id r)(n:PE X o to)(l:PA X (e::es) t)
  (b:attributeBase o name X.env (eval o X.env)=eval o X.env:=by rfl)
  (d:((backTo cpos (starEach (e::es) X.env)).all (λx=>!x.1)&&(backToKw cpos (keywordEach [] X.env)).all (λx=>x.1.isSome)
   &&decide ((e::es).length+([]:List Keyword).length+(if([]:List Keyword).isEmpty then 0 else 1)<30))=true:=by rfl)
  (c:(apos.endLine==cpos.line)=true:=by rfl)(p:starEach (e::es) X.env=(false,eval e X.env)::starEach es X.env:=by rfl)(a:(backTo cpos (starEach es X.env)).any (·.1)=false:=by rfl):
  PE X (.Call (.Attribute o name apos) (e::es) [] cpos) (tBM X.K T r to t):=by
 intro pins s σ H Q I h
 refine wpAny_Call_method_late b d c rfl (Ys (n pins s σ H _ I h) λv s1⟨x,H1,g,j,ty,u⟩=>?_)
 obtain⟨h1,h2⟩:=Qqr g j ty
 refine⟨T,id,q,slot,f,h1,h2,?_⟩
 have i:=l cpos pins s1 σ H1 _ g u
 rw[p]at i⊢
 refine Ez (by show(false||(backTo cpos (starEach es X.env)).any (·.1))=false;rw[a]<;>rfl) (Calls.evalArgs_plain ?_)
 exact Ys i λus s2⟨vs,H2,k,y,w⟩=>m pins s2 σ H2 x vs v us Q k j y w
end
open PySem PySem.Spec PyProof.Rows
def MtM(X:Cx)(id:String)(r:V->List V->Hp->VK->Prop):Prop:=
 ∀(pins:List (Addr×Obj))(s:Shared)(σ:St)(H:Hp)(x:V)(xs:List V)(v:Value)(us:List Value)(Q:VK),Inv X pins σ H s->RelV x v->Zv xs us->r x xs H Q->
  wpAny (model X.prog X.w) X.A (call (.builtin id) (v::us)) (EP X pins σ Q) X.xe s
theorem Zv.one:∀{x:V}{us:List Value},Zv [x] us->∃u,us=[u]/\RelV x u
 |_,_,.cons r .nil=>⟨_,Xb,r⟩
theorem Zv.zero:∀{us:List Value},Zv [] us->us=[]
 |_,.nil=>rfl
theorem Zv.dropLast{xs:List V}{us:List Value}(h:Zv xs us):Zv xs.dropLast us.dropLast:=by
 induction h with
 |nil=>exact .nil
 |cons r t a=>
  cases t with
  |nil=>exact .nil
  |cons q t'=>exact .cons r a
theorem Qkn{α:Type}(l:List α):l.eraseIdx (l.length - 1)=l.dropLast:=by
 induction l with
 |nil=>rfl
 |cons a r c=>
  cases r with
  |nil=>rfl
  |cons b r=>
   have e:(a::b::r).length - 1=((b::r).length - 1)+1:=by
    have h1:(a::b::r).length=r.length+2:=rfl
    have h2:(b::r).length=r.length+1:=rfl
    omega
   rw[e,List.eraseIdx_cons_succ,c]
   all_goals rfl
section
variable{X:Cx}{pins:List (Addr×Obj)}{σ:St}{H:Hp}{s:Shared}{l b:Addr}{xs ys zs:List V}
theorem Inv.Qtl{its its':List Value}{n:Nat}{f:Array Value->Array Value}{t':Nat}(I:Inv X pins σ H s)(a:H l=some (.lst xs))
  (e:s.heap.get? l=some {cls:=.type "list",data:=.seq its.toArray n})(b:f its.toArray=its'.toArray)(d:Zv ys its')(hz:ys.length<=sizeLine):
  Inv X pins σ (upd H l (.lst ys)) {s with heap:=s.heap.update l (Obj.mapSeq f),toks:=t'}:=by
 have q:=PySem.IsL.update e f
 rw[b]at q
 refine I.write (x:=l) (e:=l) (by rw[a];exact trivial) (.inl Xb) (λg u hb c=>(DU s.heap (Obj.mapSeq f) (Gq hb)).trans c) ⟨_,q⟩ ?_
 exact⟨hz,its',_,d,q⟩
theorem Inv.Qzj{its:List Value}{t':Nat}(I:Inv X pins σ H s)(a:Zv ys its)(hz:ys.length<=sizeLine):
  Inv X pins σ (upd H s.heap.objs.size (.lst ys)) {s with heap:=s.heap.push {cls:=.type "list",data:=.seq its.toArray},toks:=t'}:=
 I.laid (λ_ _ q=>Gh _ q) (Gr _) ⟨hz,its,0,a,Gz _ Xb⟩
theorem Inv.fresh(I:Inv X pins σ H s):H s.heap.objs.size=none:=I.Zy.fresh (Gr _)
theorem Inv.Qj4(I:Inv X pins σ H s)(a:H l=some (.lst xs)):xs.length<=sizeLine/\∃(its:List Value)(n:Nat),Zv xs its/\xs.length=its.length/\s.heap.get? l=some {cls:=.type "list",data:=.seq its.toArray n}:=by
 obtain⟨z,its,n,r,e⟩:=I.Zy l _ a
 exact⟨z,its,n,r,r.length,e⟩
theorem Qql{n:Nat}(h:n<=sizeLine):Builtin.List.listTooLong n=false:=by
 unfold Builtin.List.listTooLong
 exact Tg (by omega)
end
section
variable{X:Cx}
def Qta:V->List V->Hp->VK->Prop:=λx vs H Q=>∃l xs y,x=.ref l/\vs=[y]/\H l=some (.lst xs)/\xs.length<sizeLine/\Q .non (upd H l (.lst (xs++[y])))
theorem Z2:MtM X "list.append" Qta:=by
 intro pins s σ H x vs v us Q I c rv h
 obtain⟨l,xs,y,rfl,rfl,a,hz,q⟩:=h
 cases c
 obtain⟨u,rfl,b⟩:=rv.one
 obtain⟨z,its,n,r,d,e⟩:=I.Qj4 a
 refine Fe F.slot_list_append ⟨_,e,Xb⟩ F.entry_list_append (F.args_list_append_2 _ _) (PySem.list_append l its.toArray n u (by rw[GF];omega)) ⟨e,?_⟩
 refine⟨.non,_,I.Qtl (its':=its++[u]) a e (by simp) (r.append (.cons b .nil)) ?_,Xb,q⟩
 rw[Gk,Gv]
 omega
def Qs6:V->List V->Hp->VK->Prop:=λx vs H Q=>∃l b xs zs,x=.ref l/\vs=[.ref b]/\H l=some (.lst xs)/\H b=some (.lst zs)/\xs.length+zs.length<=sizeLine/\Q .non (upd H l (.lst (xs++zs)))
theorem Oq:MtM X "list.extend" Qs6:=by
 intro pins s σ H x vs v us Q I m rv h
 obtain⟨l,b,xs,zs,rfl,rfl,d,g,hz,q⟩:=h
 cases m
 obtain⟨u,rfl,k⟩:=rv.one
 cases k
 obtain⟨z,its,n,r,o,e⟩:=I.Qj4 d
 obtain⟨p,a,n2,j,i,f⟩:=I.Qj4 g
 have hsz:its.toArray.size+a.toArray.size<=sizeLine:=by rw[GF,GF];omega
 have c:¬(!its.toArray.isEmpty&&Builtin.List.listTooLong (its.toArray.size+a.toArray.size))=true:=by
  rw[Qql hsz,Bool.and_false]
  exact GV
 refine Fe F.slot_list_extend ⟨_,e,Xb⟩ F.entry_list_extend (F.args_list_extend_2 _ _)
  (AutoSeq1.list_extend_list_list_0 l its.toArray n b a.toArray n2 c (by rw[GF];omega) (by omega)) ⟨e,f,?_⟩
 refine⟨.non,_,I.Qtl (its':=its++a) d e (by simp) (r.append j) ?_,Xb,q⟩
 rw[Gk]
 omega
def Q04:V->List V->Hp->VK->Prop:=λx vs H Q=>∃l xs y,x=.ref l/\vs=[]/\H l=some (.lst xs)/\xs[xs.length - 1]?=some y/\Q y (upd H l (.lst xs.dropLast))
theorem Qds:MtM X "list.pop" Q04:=by
 intro pins s σ H x vs v us Q I j rv h
 obtain⟨l,xs,y,rfl,rfl,c,g,q⟩:=h
 cases j
 have a:=rv.zero
 subst a
 obtain⟨z,its,n,r,d,e⟩:=I.Qj4 c
 obtain⟨u,f,i⟩:=r.get g
 have b:its.toArray[its.toArray.size - 1]?=some u:=by
  show its.toArray[its.length - 1]?=some u
  rw[<-Dl,<-d]
  exact f
 refine Fe F.slot_list_pop ⟨_,e,Xb⟩ F.entry_list_pop (F.args_list_pop_1 _) (MeetsSeq.list_pop_last l its.toArray n u b (by rw[GF];omega)) ⟨e,?_⟩
 refine⟨y,_,I.Qtl (its':=its.dropLast) c e ?_ r.dropLast ?_,i,q⟩
 ·show its.toArray.eraseIdxIfInBounds (its.toArray.size - 1)=its.dropLast.toArray
  rw[GF,List.eraseIdxIfInBounds_toArray,Qkn]
 ·rw[List.length_dropLast]
  omega
def Q0e:R2:=λx y H Q=>∃l b xs zs,x=.ref l/\y=.ref b/\H l=some (.lst xs)/\H b=some (.lst zs)/\xs.length+zs.length<=sizeLine/\∀p,H p=none->Q (.ref p) (upd H p (.lst (xs++zs)))
theorem V0:Oh X (binaryOp .Add) Q0e:=by
 intro pins s σ H x y v u Q I j k h
 obtain⟨l,b,xs,zs,rfl,rfl,f,d,hz,q⟩:=h
 cases j
 cases k
 obtain⟨z,its,n,r,m,e⟩:=I.Qj4 f
 obtain⟨o,a,n2,i,g,c⟩:=I.Qj4 d
 refine PySem.P.add_list e c ?_ (by rw[GF,GF];omega)
 have ea:its.toArray++a.toArray=(its++a).toArray:=by simp
 rw[ea]
 exact⟨.ref _,_,I.Qzj (t':=s.toks) (r.append i) (by rw[Gk];omega),Xb,q _ I.fresh⟩
end
open PySem PySem.Spec PyProof.Rows
section
variable{κ:Type}[DecidableEq κ]
def Yu(kvs:List (κ×V))(k:κ):Option V:=(kvs.find? λa=>decide (a.1=k)).map (·.2)
def Wo(kvs:List (κ×V))(k:κ)(v:V):List (κ×V):=
 if(kvs.any λa=>decide (a.1=k))=true then kvs.map (λa=>if a.1=k then(a.1,v)else a)else kvs++[(k,v)]
theorem Qhh{k:κ}:Yu ([]:List (κ×V)) k=none:=rfl
theorem Xk{p:κ×V}{r:List (κ×V)}{k:κ}(e:p.1=k):Yu (p::r) k=some p.2:=by simp[Yu,Dh,e]
theorem Xe{p:κ×V}{r:List (κ×V)}{k:κ}(e:¬p.1=k):Yu (p::r) k=Yu r k:=by simp[Yu,Dh,e]
theorem Uo(k:κ):∀kvs:List (κ×V),(kvs.any λa=>decide (a.1=k))=(Yu kvs k).isSome
 |[]=>rfl
 |p::r=>by
  rw[L6]
  by_cases e:p.1=k
  ·simp only[Xk e,Tp e,Bool.true_or,Ff]
  ·rw[Xe e,Tg e,Bool.false_or];exact Uo k r
theorem Qhi(k j:κ)(y:V):∀kvs:List (κ×V),Yu (kvs.map λa=>if a.1=k then(a.1,y)else a) j=(Yu kvs j).map λx=>if j=k then y else x
 |[]=>rfl
 |p::r=>by
  have b:=Qhi k j y r
  rw[GO]
  by_cases h:p.1=k
  ·rw[Gp h]
   by_cases e:p.1=j
   ·rw[Xk (p:=(p.1,y)) e,Xk e,Di,Gp (e.symm.trans h)]
   ·rw[Xe (p:=(p.1,y)) e,Xe e,b]
  ·rw[Gj h]
   by_cases e:p.1=j
   ·rw[Xk (p:=p) e,Xk e,Di,Gj (λz=>h (e.trans z))]
   ·rw[Xe (p:=p) e,Xe e,b]
theorem Oj(k j:κ)(y:V):∀kvs:List (κ×V),Yu kvs k=none->Yu (kvs++[(k,y)]) j=if j=k then some y else Yu kvs j
 |[],_=>by
  by_cases e:k=j
  ·rw[Gp e.symm];exact Xk (p:=(k,y)) e
  ·rw[Gj (λz=>e z.symm)];exact Xe (p:=(k,y)) e
 |p::r,a=>by
  rw[TM]
  have b:¬p.1=k:=λz=>by rw[Xk z]at a;cases a
  rw[Xe b]at a
  have c:=Oj k j y r a
  by_cases e:p.1=j
  ·rw[Xk e,Xk e,Gj (λz=>b (e.trans z))]
  ·rw[Xe e,Xe e,c]
theorem Qdi(kvs:List (κ×V))(k j:κ)(y:V):Yu (Wo kvs k y) j=if j=k then some y else Yu kvs j:=by
 unfold Wo
 by_cases a:(kvs.any λc=>decide (c.1=k))=true
 ·rw[Gp a,Qhi]
  rw[Uo]at a
  by_cases e:j=k
  ·obtain⟨x,b⟩:=Lj.mp a
   rw[Gp e,e,b,Di,Gp rfl]
  ·rw[Gj e]
   cases Yu kvs j with
   |none=>rfl
   |some x=>rw[Di,Gj e]
 ·rw[Gj a]
  refine Oj k j y kvs ?_
  rw[Uo]at a
  cases q:Yu kvs k with
  |none=>rfl
  |some x=>rw[q]at a;exact(a Xb).elim
theorem X6(kvs:List (κ×V))(k:κ)(v:V):(Wo kvs k v).length<=kvs.length+1:=by
 unfold Wo
 split
 ·rw[Gn];omega
 ·rw[Gk,Tb,Sw];omega
theorem Qp5{kvs:List (κ×V)}{k:κ}(v:V)(h:Yu kvs k=none):Wo kvs k v=kvs++[(k,v)]:=by
 unfold Wo
 rw[Uo,h]
 exact Gj (by decide)
theorem Jk.X7{o:Option V}{u:Option Value}(r:Jk o u):o.isSome=u.isSome:=by
 cases o with
 |none=>cases u with
  |none=>rfl
  |some _=>exact(show False from r).elim
 |some _=>cases u with
  |none=>exact(show False from r).elim
  |some _=>rfl
theorem KV.val{kvs:List (κ×V)}{vs:List (κ×Value)}(r:KV kvs vs)(k:κ):Jk (Yu kvs k) (valueAt vs k):=by
 unfold KV at r
 induction r with
 |nil=>exact True.intro
 |@cons p q ps c h t d=>
  obtain⟨h1,h2⟩:=h
  by_cases e:p.1=k
  ·have a:q.1=k:=h1.symm.trans e
   have b:valueAt (q::c) k=some q.2:=by simp[valueAt,Dh,a]
   rw[Xk e,b];exact h2
  ·have a:¬q.1=k:=λz=>e (h1.trans z)
   have b:valueAt (q::c) k=valueAt c k:=by simp[valueAt,Dh,a]
   rw[Xe e,b];exact d
theorem KV.any{kvs:List (κ×V)}{vs:List (κ×Value)}(r:KV kvs vs)(k:κ):(kvs.any λa=>decide (a.1=k))=vs.any λa=>decide (a.1=k):=by
 unfold KV at r
 induction r with
 |nil=>rfl
 |cons h t b=>rw[L6,L6,b,h.1]
theorem KV.Qwv{kvs:List (κ×V)}{vs:List (κ×Value)}(r:KV kvs vs)(k:κ){y:V}{u:Value}(c:RelV y u):
  KV (kvs.map λa=>if a.1=k then(a.1,y)else a) (vs.map λa=>if a.1=k then(a.1,u)else a):=by
 unfold KV at r⊢
 induction r with
 |nil=>exact .nil
 |@cons p q ps d h t b=>
  rw[GO,GO]
  refine .cons ?_ b
  obtain⟨h1,h2⟩:=h
  by_cases e:p.1=k
  ·rw[Gp e,Gp (h1.symm.trans e)];exact⟨h1,c⟩
  ·rw[Gj e,Gj (λz=>e (h1.trans z))];exact⟨h1,h2⟩
theorem KV.put{kvs:List (κ×V)}{vs:List (κ×Value)}(r:KV kvs vs)(k:κ){y:V}{u:Value}(a:RelV y u):KV (Wo kvs k y) (stored vs k u):=by
 unfold Wo stored
 rw[r.any k]
 by_cases e:(vs.any λb=>decide (b.1=k))=true
 ·rw[Gp e,Gp e];exact r.Qwv k a
 ·rw[Gj e,Gj e];exact DO r ⟨Xb,a⟩
theorem KV.length{kvs:List (κ×V)}{vs:List (κ×Value)}(r:KV kvs vs):kvs.length=vs.length:=Gs r
end
theorem Qef{P:Program}{w:World}{k:Xo}{u:Value}(r:RelV (kV k) u):(Yh P w).is k u=true:=by
 cases k with
 |inl i=>obtain⟨t,e⟩:=(show∃t,u=Value.int i t from r);subst e;exact Qim P w i t
 |inr x=>obtain⟨t,e⟩:=(show∃t,u=Value.str x t from r);subst e;exact Qiw P w x t
theorem Qd8{P:Program}{w:World}:∀{a:List Xo}{us:List Value},Zv (a.map kV) us->ItemsAre (Yh P w) a us
 |[],_,r=>by rw[EA]at r;cases r;exact .nil
 |k::a,_,r=>by
  rw[GO]at r
  cases r with
  |cons h t=>exact .cons (Qef h) (Qd8 t)
abbrev KT(H:Hp):List (List Xo×V)->List (List Xo×Addr×Value)->Prop:=Paired λp q=>p.1=q.1/\H q.2.1=some (.tup (p.1.map kV))/\RelV p.2 q.2.2
theorem KT.val{H:Hp}{kvs:List (List Xo×V)}{xs:List (List Xo×Addr×Value)}(r:KT H kvs xs)(k:List Xo):Jk (Yu kvs k) ((atKey xs k).map (·.2)):=by
 induction r with
 |nil=>exact True.intro
 |@cons p q ps c h t d=>
  obtain⟨h1,_,h2⟩:=h
  by_cases e:p.1=k
  ·have a:q.1=k:=h1.symm.trans e
   have b:atKey (q::c) k=some q.2:=by simp[atKey,Dh,a]
   rw[Xk e,b];exact h2
  ·have a:¬q.1=k:=λz=>e (h1.trans z)
   have b:atKey (q::c) k=atKey c k:=by simp[atKey,Dh,a]
   rw[Xe e,b];exact d
theorem KT.Qwv{H:Hp}{kvs:List (List Xo×V)}{xs:List (List Xo×Addr×Value)}(r:KT H kvs xs)(k:List Xo){y:V}{u:Value}(d:RelV y u):
  KT H (kvs.map λa=>if a.1=k then(a.1,y)else a) (xs.map (putAt k u)):=by
 induction r with
 |nil=>exact .nil
 |@cons p q ps f h t c=>
  rw[GO,GO]
  refine .cons ?_ c
  obtain⟨h1,h2,b⟩:=h
  unfold putAt
  by_cases e:p.1=k
  ·rw[Gp e,Gp (h1.symm.trans e)];exact⟨h1,h2,d⟩
  ·rw[Gj e,Gj (λz=>e (h1.trans z))];exact⟨h1,h2,b⟩
theorem KT.put{H:Hp}{kvs:List (List Xo×V)}{xs:List (List Xo×Addr×Value)}(r:KT H kvs xs)(k:List Xo){b:Addr}{y:V}{u:Value}(hb:H b=some (.tup (k.map kV)))(a:RelV y u):
  KT H (Wo kvs k y) (storedH xs k b u):=by
 have e:(kvs.any λc=>decide (c.1=k))=(atKey xs k).isSome:=by
  rw[Uo,(r.val k).X7,Eg]
 unfold Wo storedH
 rw[e]
 by_cases q:(atKey xs k).isSome=true
 ·rw[Gp q,Gp q];exact r.Qwv k a
 ·rw[Gj q,Gj q];exact DO r ⟨Xb,hb,a⟩
theorem KT.keeps{H H':Hp}{kvs:List (List Xo×V)}{xs:List (List Xo×Addr×Value)}(r:KT H kvs xs)(a:∀b ys,H b=some (.tup ys)->H' b=some (.tup ys)):KT H' kvs xs:=
 Paired.Z8 r λ_ _ z=>⟨z.1,a _ _ z.2.1,z.2.2⟩
section
variable{P:Program}{w:World}{H:Hp}{h:Heap}{a:Addr}
theorem Qvl{u:HO}(ok:Ir P w H h)(e:Rd H a u):Z0 P w H h a u:=e.ok ok
theorem Qen{kvs:List (Xo×V)}(ok:Ir P w H h)(e:Rd H a (.dK kvs)):kvs.length<=sizeLine/\(a==sysModules)=false/\∃vs,KV kvs vs/\h.DictOf (Yh P w) a vs:=
 show Z0 P w H h a (.dK kvs)from Qvl ok e
theorem Qlj{kvs:List (Xo×V)}(ok:Ir P w H h)(e:H a=some (.dK kvs)):kvs.length<=sizeLine/\(a==sysModules)=false/\∃vs,KV kvs vs/\h.DictOf (Yh P w) a vs:=Qen ok (.inl e)
theorem Qag{b:List Xo}(ok:Ir P w H h)(e:H a=some (.tup (b.map kV))):(tupleKind (Yh P w)).is h b a:=by
 obtain⟨_,its,r,o,h1,h2,n,c⟩:=(show Z0 P w H h a (.tup (b.map kV))from ok a _ e)
 exact⟨o,its.toArray,n,h1,h2,c,by simpa using Qd8 r⟩
theorem Qht{kvs:List (List Xo×V)}(ok:Ir P w H h)(e:Rd H a (.dT kvs)):kvs.length<=sizeLine/\(a==sysModules)=false/\
  ∃xs,KT H kvs xs/\h.DictOfH (tupleKind (Yh P w)) a xs:=by
 obtain⟨z,y,xs,r,o,es,ep,h1,h2,d,f,g⟩:=(show Z0 P w H h a (.dT kvs)from Qvl ok e)
 refine⟨z,y,xs,r,o,es,ep,h1,h2,d,f,λx b=>?_,g⟩
 have all:∀{l:List (List Xo×V)}{m:List (List Xo×Addr×Value)},KT H l m->∀x∈m,(tupleKind (Yh P w)).is h x.1 x.2.1:=by
  intro l m q
  induction q with
  |nil=>intro x b;exact nomatch b
  |@cons p q ps j c t i=>
   intro x b
   rcases Gu.mp b with e|b
   ·subst e
    exact Qag ok (by rw[<-c.1];exact c.2.1)
   ·exact i x b
 exact all r x b
theorem Quz{kvs:List (List Xo×V)}(ok:Ir P w H h)(e:H a=some (.dT kvs)):kvs.length<=sizeLine/\(a==sysModules)=false/\
  ∃xs,KT H kvs xs/\h.DictOfH (tupleKind (Yh P w)) a xs:=Qht ok (.inl e)
end
def Wk(H:Hp)(a:Addr)(y:V)(r:Option V):Prop:=
 (∃kvs k,Rd H a (.dK kvs)/\y=kV k/\r=Yu kvs k)\/∃kvs k b,Rd H a (.dT kvs)/\y=.ref b/\H b=some (.tup (k.map kV))/\r=Yu kvs k
def Ij(H:Hp)(a:Addr)(y v:V)(H':Hp):Prop:=
 (∃kvs k,H a=some (.dK kvs)/\y=kV k/\kvs.length<sizeLine/\H'=upd H a (.dK (Wo kvs k v)))\/
 ∃kvs k b,H a=some (.dT kvs)/\y=.ref b/\H b=some (.tup (k.map kV))/\kvs.length<sizeLine/\H'=upd H a (.dT (Wo kvs k v))
theorem Wk.k{H:Hp}{a:Addr}{kvs:List (Xo×V)}{k:Xo}(e:H a=some (.dK kvs)):Wk H a (kV k) (Yu kvs k):=.inl ⟨kvs,k,.inl e,Xb,Xb⟩
theorem Wk.t{H:Hp}{a b:Addr}{kvs:List (List Xo×V)}{k:List Xo}(e:H a=some (.dT kvs))(c:H b=some (.tup (k.map kV))):Wk H a (.ref b) (Yu kvs k):=.inr ⟨kvs,k,b,.inl e,Xb,c,Xb⟩
theorem Ij.k{H:Hp}{a:Addr}{kvs:List (Xo×V)}{k:Xo}{v:V}(e:H a=some (.dK kvs))(b:kvs.length<sizeLine):Ij H a (kV k) v (upd H a (.dK (Wo kvs k v))):=.inl ⟨kvs,k,e,Xb,b,Xb⟩
theorem Ij.t{H:Hp}{a b:Addr}{kvs:List (List Xo×V)}{k:List Xo}{v:V}(e:H a=some (.dT kvs))(c:H b=some (.tup (k.map kV)))(d:kvs.length<sizeLine):
  Ij H a (.ref b) v (upd H a (.dT (Wo kvs k v))):=.inr ⟨kvs,k,b,e,Xb,c,d,Xb⟩
section
variable{X:Cx}{pins:List (Addr×Obj)}{σ:St}{H:Hp}{s:Shared}{a:Addr}{y v:V}{u r:Value}{o:Option V}{A:Around}{E:Value->Shared->Prop}
theorem Inv.big(I:Inv X pins σ H s):sysModules<s.heap.objs.size:=by
 have h:mainGlobals<s.heap.objs.size:=(I.mod.glob.keeps I.bk).lt
 exact Nat.lt_trans (by decide) h
theorem Qmr{Q:Value->Shared->Prop}(r:A.units+1<cLine)(I:Inv X pins σ H s)(g:Wk H a y (some v))(m:RelV y u)(h:∀d s',Inv X pins σ H s'->RelV v d->Q d s'):
  wpAny (model X.prog X.w) A (getItem (.ref a) u) Q E s:=by
 rcases g with⟨kvs,k,e,i,l⟩|⟨kvs,k,b,e,i,n,l⟩
 ·subst i
  obtain⟨z,hd,vs,rel,f⟩:=Qen I.Zy e
  obtain⟨d,hw,c⟩:=Jk.some_of (v:=v) (o:=valueAt vs k) (by rw[l];exact rel.val k)
  exact wpAny_getItem_of (Qef m) f.mapOf hw (h d _ (I.tok _) c)
 ·subst i
  cases(show u=Value.ref b from m)
  obtain⟨z,hd,xs,rel,f⟩:=Qht I.Zy e
  obtain⟨d,hw,c⟩:=Jk.some_of (v:=v) (o:=(atKey xs k).map (·.2)) (by rw[l];exact rel.val k)
  obtain⟨p,q,j⟩:=E6.mp hw
  refine wpAny_getItem_heap (EB r) (Qag I.Zy n) f q ?_
  rw[j]
  exact h d _ (I.tok _) c
theorem Q0u{Q:Value->Shared->Prop}(j:A.units+1<cLine)(I:Inv X pins σ H s)(g:Wk H a y o)(f:RelV y u)(h:∀s',Inv X pins σ H s'->Q (.bool o.isSome) s'):
  wpAny (model X.prog X.w) A (compareOp .In u (.ref a)) Q E s:=by
 rcases g with⟨kvs,k,e,d,l⟩|⟨kvs,k,b,e,d,i,l⟩
 ·subst d
  obtain⟨z,hd,vs,rel,c⟩:=Qen I.Zy e
  refine wpAny_in_of (Qef f) hd c.mapOf ?_
  rw[<-(rel.val k).X7,<-l]
  exact h _ (I.tok _)
 ·subst d
  cases(show u=Value.ref b from f)
  obtain⟨z,hd,xs,rel,c⟩:=Qht I.Zy e
  refine wpAny_in_heap (EB j) (Qag I.Zy i) hd c ?_
  have q:=(rel.val k).X7
  rw[Eg]at q
  rw[<-q,<-l]
  exact h _ (I.tok _)
theorem Qtm{Q:Value->Shared->Prop}(j:A.units+1<cLine)(I:Inv X pins σ H s)(g:Wk H a y o)(f:RelV y u)(h:∀s',Inv X pins σ H s'->Q (.bool (!o.isSome)) s'):
  wpAny (model X.prog X.w) A (compareOp .NotIn u (.ref a)) Q E s:=by
 rcases g with⟨kvs,k,e,d,l⟩|⟨kvs,k,b,e,d,i,l⟩
 ·subst d
  obtain⟨z,hd,vs,rel,c⟩:=Qen I.Zy e
  refine wpAny_notIn_of (Qef f) hd c.mapOf ?_
  rw[<-(rel.val k).X7,<-l]
  exact h _ (I.tok _)
 ·subst d
  cases(show u=Value.ref b from f)
  obtain⟨z,hd,xs,rel,c⟩:=Qht I.Zy e
  refine wpAny_notIn_heap (EB j) (Qag I.Zy i) hd c ?_
  have q:=(rel.val k).X7
  rw[Eg]at q
  rw[<-q,<-l]
  exact h _ (I.tok _)
theorem Ig{h':Heap}{t':Nat}{ob:HO}(I:Inv X pins σ H s)(mu:Mut (H a))(d:Heap.SameBut a s.heap h')(c:∃q,h'.get? a=some q)(new:Z0 X.prog X.w (upd H a ob) h' a ob):
  Inv X pins σ (upd H a ob) {s with heap:=h',toks:=t'}:=
 I.write (x:=a) (e:=a) mu (.inl Xb) (λb q hb z=>(d.2 b hb).trans z) c new
theorem Qoz{P:Program}{w:World}{H':Hp}{h':Heap}{kvs:List (Xo×V)}{vs:List (Xo×Value)}(z:kvs.length<=sizeLine)(hd:(a==sysModules)=false)(rel:KV kvs vs)(b:h'.DictOf (Yh P w) a vs):
  Z0 P w H' h' a (.dK kvs):=⟨z,hd,vs,rel,b⟩
theorem Qnz{H':Hp}{Q:Unit->Shared->Prop}(G:A.units+1<cLine)(I:Inv X pins σ H s)(g:Ij H a y v H')(x:RelV y u)(rv:RelV v r)(h:∀s',Inv X pins σ H' s'->Q () s'):
  wpAny (model X.prog X.w) A (setItem (.ref a) u r) Q E s:=by
 rcases g with⟨kvs,k,e,m,l,j⟩|⟨kvs,k,b,e,m,p,l,j⟩
 ·subst m j
  obtain⟨z,hd,vs,rel,i⟩:=Qlj I.Zy e
  have hz:vs.length<=sizeLine:=by rw[<-rel.length];exact z
  have n:(Wo kvs k v).length<=sizeLine:=by have:=X6 kvs k v;omega
  refine wpAny_setItem_pairs (hsz:=hz) (Qef x) i λh' d o=>h _ ?_
  have F:∃q,h'.get? a=some q:=let⟨q,_,_,f,_⟩:=d;⟨q,f⟩
  exact Ig I (by rw[e];exact True.intro) o F (Qoz n hd (rel.put k rv) d)
 ·subst m j
  cases(show u=Value.ref b from x)
  obtain⟨z,hd,xs,rel,i⟩:=Quz I.Zy e
  have hz:xs.length<=sizeLine:=by rw[<-Gs rel];exact z
  have n:(Wo kvs k v).length<=sizeLine:=by have:=X6 kvs k v;omega
  refine wpAny_setItem_heap (hsz:=hz) (EB G) (Qag I.Zy p) i λh' d o=>h _ ?_
  obtain⟨q,es,ep,f,h2,B,C,_,D⟩:=d
  refine Ig I (by rw[e];exact True.intro) o ⟨q,f⟩ ⟨n,hd,_,(rel.put k p rv).keeps λc ys t=>?_,q,es,ep,f,h2,B,C,D⟩
  rw[Qf (Zu t e (λz=>nomatch z))]
  exact t
end
section
variable{X:Cx}{pins:List (Addr×Obj)}{σ:St}{H:Hp}{s:Shared}{a:Addr}{kvs:List (Xo×V)}{k:Xo}{u:Value}{A:Around}{E:Value->Shared->Prop}
theorem Qyo{Q:Value->Shared->Prop}(I:Inv X pins σ H s)(e:Rd H a (.dK kvs))(h:∀t s',Inv X pins σ H s'->Q (.int kvs.length t) s'):wpAny (model X.prog X.w) A (call (.builtin "len") [.ref a]) Q E s:=by
 obtain⟨z,hd,vs,rel,b⟩:=Qen I.Zy e
 refine call_len_dict hd b (by rw[<-rel.length];rw[Td]at z;omega) ?_
 rw[<-rel.length]
 exact h _ _ (I.tok _)
end
def Qx8(i:Expr):Prop:=∀ov a,subscripted i false ov a=operate [ov,a] (getItem ov a)
theorem Qt6{prog:Program}{w:World}{A:Around}{E:Value->Shared->Prop}{s:Shared}{env:Env}{value a:Expr}{pos:Pos}{T id:String}{Q:Value->Shared->Prop}
  (j:typeLookup (.type T) "__getitem__"=pure (some (.builtin id)))(k:Qx8 a)
  (h:wpAny (model prog w) A (eval value env) (λo d=>wpAny (model prog w) A (eval a env) (λi b=>b.TypeIs o T/\wpAny (model prog w) A (getItem o i) Q E b) E d) E s):
  wpAny (model prog w) A (eval (.Subscript value a pos) env) Q E s:=by
 refine Subscript_ (DL h (λo d h₁=>DL h₁ (λi b c=>?_) λ_ _ x=>x) λ_ _ x=>x)
 obtain⟨g,c⟩:=c
 unfold subscriptTail
 refine Ga ?_
 rw[getitemInPython_of_ne g.not_modules]
 refine Ga (DS g j ?_)
 have fin:wpAny (model prog w) A (subscripted a false o i) (λr e=>wpAny (model prog w) A (letTemporaryGo value o r>>=λ_=>pure r) Q E e) E b:=by
  rw[k o i]
  exact wpAny_operating (DL c (λr e f=>Ga (wpAny_letTemporaryGo (Gf f))) λ_ _ x=>x)
 first
  |exact Gf (Ga fin)
  |exact Ga (Gf (Ga fin))
  |exact Ga fin
theorem Qid{X:Cx}{pins:List (Addr×Obj)}{σ:St}{H:Hp}{s:Shared}{a:Addr}{y:V}{o:Option V}(I:Inv X pins σ H s)(g:Wk H a y o):s.TypeIs (.ref a) "dict":=by
 rcases g with⟨kvs,k,e,_,_⟩|⟨kvs,k,b,e,_,_,_⟩
 ·obtain⟨_,_,vs,_,c⟩:=Qen I.Zy e
  exact c.typeIs
 ·obtain⟨_,_,xs,_,c⟩:=Qht I.Zy e
  exact c.typeIs
def Qgv(td ty:TE):TE:=λσ H Q=>td σ H λx H1=>ty σ H1 λy H2=>∃a v,x=.ref a/\Wk H2 a y (some v)/\Q v H2
def Q1c(ty td:TE):TE:=λσ H Q=>ty σ H λy H1=>td σ H1 λx H2=>∃a o,x=.ref a/\Wk H2 a y o/\Q (.bl o.isSome) H2
def Qtx(ty td:TE):TE:=λσ H Q=>ty σ H λy H1=>td σ H1 λx H2=>∃a o,x=.ref a/\Wk H2 a y o/\Q (.bl (!o.isSome)) H2
def Qu3(td ty tv:TE):TS:=λD σ H=>tv σ H λv H1=>td σ H1 λx H2=>ty σ H2 λy c=>∃a b,x=.ref a/\Ij c a y v b/\D.nx σ b
section
variable{X:Cx}{o i e value:Expr}{pos pos' tpos:Pos}{td ty tv:TE}
theorem Zs(k:X.A.units+1<cLine)(f:PE X o td)(hi:PE X i ty)(j:Qx8 i):PE X (.Subscript o i pos) (Qgv td ty):=by
 intro pins s σ H Q I h
 refine Qt6 SY.lookup j (Ys (f pins s σ H _ I h) λu s1⟨x,H1,d,n,l⟩=>Ys (hi pins s1 σ H1 _ d l) λq s2⟨y,H2,c,p,a,v,ex,g,m⟩=>?_)
 subst ex
 obtain rfl:u=Value.ref a:=n
 exact⟨Qid c g,Qmr k c g p λt r e b=>⟨v,H2,e,b,m⟩⟩
theorem Qjp(f:X.A.units+1<cLine)(hi:PE X i ty)(e:PE X o td):PC X .In i o (Q1c ty td):=by
 intro pins s σ H Q I h
 refine Ys (hi pins s σ H _ I h) λn s1⟨y,H1,b,m,j⟩=>Ys (e pins s1 σ H1 _ b j) λu s2⟨x,H2,c,l,a,ov,ex,g,k⟩=>?_
 subst ex
 obtain rfl:u=Value.ref a:=l
 exact Q0u f c g m λp d=>⟨.bl ov.isSome,H2,d,Xb,k⟩
theorem Qn8(f:X.A.units+1<cLine)(hi:PE X i ty)(e:PE X o td):PC X .NotIn i o (Qtx ty td):=by
 intro pins s σ H Q I h
 refine Ys (hi pins s σ H _ I h) λn s1⟨y,H1,b,m,j⟩=>Ys (e pins s1 σ H1 _ b j) λu s2⟨x,H2,c,l,a,ov,ex,g,k⟩=>?_
 subst ex
 obtain rfl:u=Value.ref a:=l
 exact Qtm f c g m λp d=>⟨.bl (!ov.isSome),H2,d,Xb,k⟩
theorem We(l:X.A.units+1<cLine)(j:PE X o td)(hi:PE X i ty)(m:PE X value tv)(k:swapsWith value (some (.Subscript o i pos')) pos.line X.env=pure false):
  PS X (.Assign [.Subscript o i pos'] value pos) (Qu3 td ty tv):=by
 intro pins s σ H D I h
 refine wpAny_Assign_Subscript (Ys (m pins s σ H _ I h) λr s1⟨v,H1,c,rv,n⟩=>Ys (j pins s1 σ H1 _ c n) λu s2⟨x,H2,d,t,p⟩=>Ys (hi pins s2 σ H2 _ d p) λB C⟨y,z,e,w,a,b,ex,g,q⟩=>?_) k
 subst ex
 obtain rfl:u=Value.ref a:=t
 exact Qnz l e g w rv λs4 f=>⟨σ,b,f,q⟩
end
theorem Qqg{P:Program}{w:World}{H:Hp}(h:Heap)(hb:sysModules<h.objs.size):Z0 P w H (h.push {cls:=.type "dict",data:=.dict #[]}) h.objs.size (.dK []):=
 ⟨Ta _,DJ.mpr (Gq (Ts hb)),[],.nil,Heap.DictOf.new h⟩
theorem Qrl{P:Program}{w:World}{H:Hp}(h:Heap)(hb:sysModules<h.objs.size):Z0 P w H (h.push {cls:=.type "dict",data:=.dict #[]}) h.objs.size (.dT []):=
 ⟨Ta _,DJ.mpr (Gq (Ts hb)),[],.nil,_,#[],0,Gz _ Xb,⟨Xb,Xb,Xb⟩,Xb,Xb,Et⟩
def Qwr:TE:=λ_ H Q=>∀p,H p=none->Q (.ref p) (upd H p (.dK []))
def Qxa:TE:=λ_ H Q=>∀p,H p=none->Q (.ref p) (upd H p (.dT []))
section
variable{X:Cx}{pos:Pos}
theorem Up:PE X (.Dict [] [] pos) Qwr:=λpins s σ H Q I h=>
 Lw ⟨.ref s.heap.objs.size,_,I.laid (a:=s.heap.objs.size) (o:=.dK []) (t':=s.toks) (λ_ _ q=>Gh _ q) (Gr _) (Qqg s.heap I.big),Xb,h _ (I.Zy.fresh (Gr _))⟩
theorem Qce:PE X (.Dict [] [] pos) Qxa:=λpins s σ H Q I h=>
 Lw ⟨.ref s.heap.objs.size,_,I.laid (a:=s.heap.objs.size) (o:=.dT []) (t':=s.toks) (λ_ _ q=>Gh _ q) (Gr _) (Qrl s.heap I.big),Xb,h _ (I.Zy.fresh (Gr _))⟩
end
structure M2(X:Cx)(o:Expr)(m:Str)(apos:Pos)(e f:Expr)(cpos:Pos):Prop where
 base:attributeBase o m X.env (eval o X.env)=eval o X.env
 few:((backTo cpos (starEach [e,f] X.env)).all (λx=>!x.1)&&(backToKw cpos (keywordEach [] X.env)).all (λx=>x.1.isSome)
  &&decide (([e,f]:List Expr).length+([]:List Keyword).length+(if([]:List Keyword).isEmpty then 0 else 1)<30))=true
 line:(apos.endLine==cpos.line)=true
 trees:backTo cpos (starEach [e,f] X.env)=[(false,eval e X.env),(false,eval f X.env)]
end L2
namespace Att
open PySem PySem.W PySem.Calls PyProof.Rows
theorem Qa2{P:Params}{h:Heap}:∀(ns:List Int)(vs:List Value),WellAll P h vs (ns.map WData.int)->IntsAre vs ns:=by
 intro ns
 induction ns with
 |nil=>
  intro vs w
  rw[EA]at w
  cases w
  exact .nil
 |cons n ns c=>
  intro vs w
  rw[GO]at w
  cases w with
  |cons a b=>
   cases a
   exact .cons _ _ (c _ b)
theorem Qm6{l:OpenLaw}{n:Nat}(p:l.most=some n){P:Params}{h:Heap}{args:List WData}{c:List Value}
  (b:l.row.toRowW.claim.pre args=true)(k:WellAll P h c args):
  ∃a vs ns,c=[Value.ref a]/\args=[WData.list (ns.map WData.int)]/\h.get? a=some {cls:=.type "list",data:=.seq vs.toArray}/\IntsAre vs ns/\ns.length<=n:=by
 have j:WShape.hasAll [] args [.list .int]=true:=(pre_splitW b).1
 have m:l.pre.holds [] {args:=args}=true:=(pre_splitW b).2
 obtain⟨d,r,rfl,h1,h2⟩:=hasAllW_cons j
 obtain rfl:=hasAllW_nil h2
 obtain⟨xs,rfl,o⟩:=hasW_list h1
 obtain⟨ns,rfl⟩:=items_int o
 have f:ns.length<=n:=by
  unfold OpenLaw.pre at m
  have g:(WTm.not (.lt (.lit (.int (n:Int))) (.len (.arg 0)))).holds [] {args:=[.list (ns.map .int)]}=true:=by
   have g:=(holds_andW m).1
   rw[p]at g
   exact g
  have i:=condW_of g (w_not (w_lt w_lit (w_len_list (w_arg Xb))))
  rw[Gn]at i
  refine Nat.le_of_not_lt λq=>?_
  have t:(n:Int)<((ns.length:Nat):Int):=by omega
  first
   |(rw[Tp t]at i;exact absurd i (by decide))
   |(simp at i;omega)
 cases k with
 |cons u v=>
  cases v
  cases u with
  |list s e=>exact⟨_,_,ns,Xb,Xb,s,Qa2 ns _ e,f⟩
theorem Qne(l:OpenLaw)(args:List WData):l.row.toRowW.claim.post args (.bool true) args=true:=
 postW_of (r:=l.row.toRowW) (X:=(true==true))
  (show WShape.has [] (.bool true) .bool=true by first|rfl|decide|simp[WShape.has,WShape.arms,WShape.armsAll])
  (show(WTm.eq .res (.lit (.bool true))).value [] {args:=args,res:=some (.bool true),after:=args}=some (.bool (true==true))from w_eq_bool (w_res Xb) w_lit) rfl
theorem Qhz{l:OpenLaw}{n:Nat}{q:Program}{c:List Str}{v:(Str->Option Value)->Heap->Prop}{x:World->Heap->Prop}{d:DefRec}
  (I:l.most=some n)(p:d.params.defaults=[])
  (call:∀(w:World)(s₀ b:Shared)(mg u:Str->Option Value)(g:Addr)(o:Obj)(pm k doc:Value)(a:Addr)(vs:List Value)(ns:List Int),
   Ground q c [] v w s₀ mg u b.heap->x w b.heap->
   b.heap.get? g=some o->o.data=.func (docDef d.name d.params d.body d.scope pm k doc)->b.heap.CodeRec k d.name->mg d.name=some (.ref g)->
   b.heap.get? a=some {cls:=.type "list",data:=.seq vs.toArray}->IntsAre vs ns->ns.length<=n->b.gens=#[]->
   codeAny (model l.prog w) callerA (.call (.ref g) ⟨[.ref a],[]⟩) (λr s'=>r=.ok (.ret (.bool true))/\OldK b.heap s'.heap/\s'.os=b.os/\AllBare s'.gens) b):
  WalkO q c v x l.row.toRowW d [] (λf vs=>PySem.call f vs):=by
 intro w s₀ b mg u G Y g o pm k doc B kV J hd m y s E args A M j z L t F
 obtain rfl:B=.none:=Dflts.none y p
 obtain rfl:kV=.none:=Dflts.noKw y
 obtain⟨a,vs,ns,rfl,rfl,i,e,h⟩:=Qm6 I j t
 refine enter_call (LG (call w s₀ b mg u g o pm k doc a vs ns G Y J (fd_plain hd) m s i e h E) λr s' K=>?_)
 obtain⟨rfl,h2,C,D⟩:=K
 exact⟨.inl ⟨.bool true,.bool true,[],Xb,λ_=>rfl,.bool true,Qne l _,λ_=>⟨List.Pairwise.nil,λ_ H=>(nomatch H)⟩⟩,h2,C,D⟩
end Att
namespace L2
open PySem PySem.Spec PyProof.Rows
theorem Qek:∀{vs:List Value}{ns:List Int},IntsAre vs ns->Zv (ns.map V.int) vs
 |_,_,.nil=>.nil
 |_,_,.cons n t h=>.cons ⟨t,Xb⟩ (Qek h)
def Qws(H:Hp):Prop:=∀b,H b=none\/∃o xs,H b=some (.frz o (.lst xs))
theorem Qoq{P:Program}{w:World}{K:Gc}{mg M:Str->Option Value}{CX:CXT}{k:Nat}{E a:Addr}{fd:FuncData}{x:Str}{sp:Sp}{c:Shared}{vs:List Value}{ns:List Int}
  (KX:K.In c.heap)(t:c.heap.Ns mainGlobals mg)(hb:c.heap.Ns builtinsNs M)(I:∀x:Str,x≠"__name__"->M x=bootBuiltins x)(p:c.heap.NoLimit)(hg:c.gens=#[])
  (C:c.heap.get? a=some {cls:=.type "list",data:=.seq vs.toArray})(hi:IntsAre vs ns)(S:ns.length<=sizeLine)(hr:Yc k callerA)
  (F:∀base:Heap,K.In base->base.Ns mainGlobals mg->Qt P w K mg base CX k E fd [x] sp)(j:∀(s:Shared)(u:Value),BindsTo s fd ⟨[u],[]⟩ [(x,u)])
  (L:∀H:Hp,Qws H->Zd K H a (ns.map V.int)->sp [.ref a] H (λv _=>v=.bl true) λ_ _ _=>False)
  (G:∀H e s',CX [] H c (λ_ _ _=>False) e s'->False):
  codeAny (model P w) callerA (.call (.ref E) ⟨[.ref a],[]⟩) (λr s'=>r=.ok (.ret (.bool true))/\OldK c.heap s'.heap/\s'.os=c.os/\AllBare s'.gens) c:=by
 have rv:=Qek hi
 have A:=hi.length
 have i:∀H:Hp,Qws H->Zd K H a (ns.map V.int)->Ir P w H c.heap->(∀b,H b≠none->b=a)->(H a≠none->K.lookup a=none)->
   codeAny (model P w) callerA (.call (.ref E) ⟨[.ref a],[]⟩) (λr s'=>r=.ok (.ret (.bool true))/\OldK c.heap s'.heap/\s'.os=c.os/\AllBare s'.gens) c:=by
  intro H R hS Zy Q Y
  have f:∀{b:Addr}{o:Obj},c.heap.get? b=some o->H b=none->(Qfs c.heap H).get? b=some o:=λe n=>Qq7 e n
  have N:∀{b:Addr}{o:Obj}{es:Array DictEntry}{ep:Nat},c.heap.get? b=some o->o.data=.dict es ep->H b=none:=λ{b o es ep}e d=>by
   cases q:H b with
   |none=>rfl
   |some u=>
    have D:b=a:=Q b (by rw[q];simp)
    subst D
    rw[C]at e;cases e
    have d':Data.seq vs.toArray _=Data.dict es ep:=d
    cases d'
  have g:∀{b:Addr}{m:Str->Option Value},c.heap.Ns b m->(Qfs c.heap H).Ns b m:=λ{b m}⟨o,es,ep,e,d,r⟩=>⟨o,es,ep,f e (N e d),d,r⟩
  have l:K.In (Qfs c.heap H):=λb o e=>f (KX b o e) (by
   cases q:H b with
   |none=>rfl
   |some u=>
    have D:b=a:=Q b (by rw[q];simp)
    subst D
    rw[Y (by rw[q];simp)]at e;cases e)
  have Z:Mod K mg (Qfs c.heap H):=⟨l,g t,⟨M,g hb,I⟩,let⟨mc,h1,h2⟩:=p;⟨mc,g h1,h2⟩⟩
  have T:Qj5 P w K mg (Qfs c.heap H) callerA [] c H:=⟨Xb,Z,λb o e=>Qt4 e,Fk (Qnp _ _),trivial,λb hb=>absurd (show b∈([]:List Addr)from hb) (by simp),Zy,.of_eq hg⟩
  refine LG ((F _ l (g t)).run callerA [] c H ⟨[.ref a],[]⟩ [.ref a] [.ref a] _ _ hr T (j c (.ref a)) (.cons rfl .nil) (L H R hS)) λr s' h=>?_
  cases r with
  |error e=>exact(G H e s' h).elim
  |ok X=>
   cases X with
   |next=>exact False.elim h
   |brk=>exact False.elim h
   |cont=>exact False.elim h
   |ret u=>
    obtain⟨v,H',os,bare,un,y,r',q⟩:=h
    have q':v=.bl true:=q
    subst q'
    obtain rfl:u=Value.bool true:=r'
    refine⟨Xb,OldK.of_keep λb o e=>?_,os,bare⟩
    cases q:H b with
    |none=>exact un.keep b o e q (by intro z;exact absurd (show b∈([]:List Addr)from z) (by simp)) (by simp)
    |some u=>
     rcases R b with z|⟨ob,xs,z⟩
     ·rw[q]at z;cases z
     ·have z2:=un.R1 b ob _ z
      obtain⟨O,_⟩:=Zy b _ z
      obtain⟨U,_⟩:=y b _ z2
      rw[e]at O;cases O
      exact U
 cases J:K.lookup a with
 |some o=>
  have e:=KX a o J
  rw[C]at e
  cases e
  refine i (λ_=>none) (λ_=>.inl Xb) (.inr ⟨_,vs.toArray,_,J,Xb,Xb,Xb,by rw[GF,A];exact S,by simpa using rv⟩) (λb u z=>by have B:(none:Option HO)=some u:=z;cases B) (λb z=>absurd rfl z) λz=>absurd rfl z
 |none=>
  refine i (λb=>if b=a then some (.frz {cls:=.type "list",data:=.seq vs.toArray} (.lst (ns.map V.int)))else none) (λb=>?_) (.inl (.inr ⟨{cls:=.type "list",data:=.seq vs.toArray},Gp Xb⟩)) (λb u z=>?_) (λb z=>?_) λ_=>J
  ·by_cases hb:b=a
   ·exact .inr ⟨_,_,Gp hb⟩
   ·exact .inl (Gj hb)
  ·by_cases hb:b=a
   ·have B:=(Gp hb).symm.trans z
    cases B
    subst hb
    exact⟨C,by rw[Gn];exact S,vs,_,rv,C⟩
   ·have B:=(Gj hb).symm.trans z
    cases B
  ·by_cases hb:b=a
   ·exact hb
   ·exact absurd (Gj hb) z
open PySem PySem.Spec PyProof.Rows
theorem Qst{l:PySem.W.OpenLaw}{n k:Nat}{q:Program}{j:List Str}{D:(Str->Option Value)->Heap->Prop}{C:World->Heap->Prop}{d:DefRec}{K:Params->Gc}{CX:World->CXT}{sp:World->Sp}{x:Str}
  (N:l.most=some n)(A:n<=sizeLine)(y:d.params.defaults=[])(O:Yc k callerA)
  (J:∀(w:World)(h:Heap),C w h->(K w.params).In h)
  (F:∀(w:World)(mg:Str->Option Value)(r:Addr)(h:Heap),(K w.params).In h->h.Ns mainGlobals mg->mg d.name=some (.ref r)->
   ∃fd:FuncData,(∀(s:Shared)(u:Value),BindsTo s fd ⟨[u],[]⟩ [(x,u)])/\
    ∀base:Heap,(K w.params).In base->base.Ns mainGlobals mg->Qt l.prog w (K w.params) mg base (CX w) k r fd [x] (sp w))
  (B:∀(w:World)(H:Hp)(a:Addr)(ns:List Int),ns.length<=n->Qws H->Zd (K w.params) H a (ns.map V.int)->sp w [.ref a] H (λv _=>v=.bl true) λ_ _ _=>False)
  (t:∀(w:World)(H:Hp)(s:Shared)(e:Value)(s':Shared),CX w [] H s (λ_ _ _=>False) e s'->False):
  PySem.W.WalkO q j D C l.row.toRowW d [] (λf vs=>PySem.call f vs):=by
 refine Att.Qhz N y λw s₀ p mg R r o pm P doc a vs ns G Y Q hd L z m i c M=>?_
 have KX:=J w _ Y
 obtain⟨fd,hb,E⟩:=F w mg r _ KX G.T.g z
 exact Qoq KX G.T.g G.T.b G.T.builtins G.T.nolimit M m i (Dg c A) O E hb (λH I hS=>B w H a ns c I hS) λH e s'=>t w H p e s'
open PySem PySem.Spec PyProof.Rows
def Z5(s:Stmt)(j:Nat):Stmt:=match s with
 |.ClassDef _ _ _ a _ _ _ _ _ _ _=>a.getD j (.Pass ⟨0,0,0,0⟩)
 |_=>.Pass ⟨0,0,0,0⟩
def Ie(s:Stmt):Arguments:=match s with
 |.FunctionDef _ a _ _ _ _ _ _ _ _=>a
 |_=>{posonlyargs:=[],args:=[],vararg:=none,kwonlyargs:=[],kw_defaults:=[],kwarg:=none,defaults:=[]}
def Ve(s:Stmt):List Stmt:=match s with
 |.FunctionDef _ _ b _ _ _ _ _ _ _=>b
 |_=>[]
def Qk(s:Stmt):Scope:=match s with
 |.FunctionDef _ _ _ _ _ _ a _ _ _=>a
 |_=>{kind:=.function,names:=[],isGenerator:=false,isCoroutine:=false}
abbrev Z7:CXT:=λ_ _ _ _ _ _=>False
abbrev E0:XK:=λ_ _ _=>False
theorem Q5{X:Cx}:Jn Z7 X E0:=λ_ _ _ _ _ _ _ h=>h.elim
structure W5(K:Gc)(x qual:Str)(st:Stmt)(f:Addr)(fd:FuncData):Prop where
 ex:∃(oc:Value)(od:Option Addr)(kV doc pm:Value)(an:Option Addr)(cdv ct:Value)(osl:Array (Option Value)),
  fd=PySem.W.fnOf x qual (Ie st) (Ve st) (Qk st) .none kV doc pm an cdv ct/\K.lookup f=some ⟨oc,od,.func fd,osl⟩/\PySem.W.codeIn K cdv qual=true
 kp:PySem.W.keepIn K (.ref f)=true
section
variable{P:Program}{w:World}{K:Gc}{mg:Str->Option Value}{base:Heap}
theorem W5.ok{x qual:Str}{st:Stmt}{f:Addr}{fd:FuncData}{N ps:List Str}{k:Nat}{sp:Sp}(F:W5 K x qual st f fd)(S:Qx N ps (Qk st))(len:∀vs H Q E,sp vs H Q E->vs.length=ps.length)
  (a:∀(cdv:Value)(A:Around)(outer:List Env)(s:Shared)(H:Hp)(vs:List V)(Q:VK)(E:XK),Yc k (A.deeper (envOfC qual (Qk st) s.heap.objs.size f cdv))->sp vs H Q E->
   ∃t,PSs (Qh3 Z7 P w K mg base N qual (Qk st) f cdv A outer s H E).nox (Ve st) t/\t {nx:=λ_ H'=>Q .non H',rt:=Q} (start N vs) H):Qt P w K mg base Z7 (k+1) f fd ps sp:=by
 obtain⟨oc,od,kV,doc,pm,an,cdv,ct,osl,rfl,lk,b⟩:=F.ex
 refine Qxt lk b S len λA outer s H vs Q E d c=>?_
 obtain⟨t,h,q⟩:=a cdv A outer s H vs Q E d c
 exact⟨t,h.nox,q⟩
theorem W5.binds{x qual:Str}{st:Stmt}{f:Addr}{fd:FuncData}{ps:List Str}(F:W5 K x qual st f fd)
  (h:∀(kV doc pm:Value)(an:Option Addr)(cdv ct:Value)(us:List Value),us.length=ps.length->bindArgs (PySem.W.fnOf x qual (Ie st) (Ve st) (Qk st) .none kV doc pm an cdv ct) ⟨us,[]⟩=pure (ps.zip us)):Binds K fd ps []:=by
 obtain⟨oc,od,kV,doc,pm,an,cdv,ct,osl,rfl,lk,a⟩:=F.ex
 exact .all (h kV doc pm an cdv ct)
theorem Zf{x qual:Str}{st:Stmt}{f:Addr}{oc:Value}{od an:Option Addr}{osl:Array (Option Value)}{kV doc pm cdv ct:Value}(l:K.lookup f=some ⟨oc,od,.func (PySem.W.fnOf x qual (Ie st) (Ve st) (Qk st) .none kV doc pm an cdv ct),osl⟩)
  (c:PySem.W.codeIn K cdv qual=true)(k:PySem.W.keepIn K (.ref f)=true):W5 K x qual st f (PySem.W.fnOf x qual (Ie st) (Ve st) (Qk st) .none kV doc pm an cdv ct):=⟨⟨oc,od,kV,doc,pm,an,cdv,ct,osl,Xb,l,c⟩,k⟩
end
theorem Ul{A:Around}{k:Nat}(a:Yc k A):A.units+1<cLine:=SQ (Nat.add_le_add_left (by decide:1<=64) _) a.units
section
variable{X:Cx}
theorem pv(i:Nat){x:Str}{pos:Pos}(b:X.N[i]?=some x:=by rfl)(c:Vis X.env.scope x:=by first|exact Or.inl rfl|exact Or.inr (Or.inl Xb)|exact Or.inr (Or.inr Xb))(hd:(x==("__debug__":Str))=false:=by decide)
  (a:(x==("__classdict__":Str))=false:=by decide):PE X (.Name x pos) (V2 i):=Qwd b c hd a
end
theorem Zq{A B:Prop}(h:B):if false=true then A else B:=by
 rw[Gj GV]
 exact h
theorem Y0{A B:Prop}(h:A):if true=true then A else B:=by
 rw[Gp rfl]
 exact h
theorem Ur{c A B:Prop}[Decidable c](h1:c->A)(h2:¬c->B):if c then A else B:=by
 by_cases h:c
 ·rw[Gp h]
  exact h1 h
 ·rw[Gj h]
  exact h2 h
theorem Qey{c A B:Prop}[Decidable c](a:c)(h:B):if(!decide c)=true then A else B:=by
 rw[Tp a]
 exact Zq h
def Q3(H H':Hp):Prop:=∀b o,H b=some o->H' b=some o
theorem Q3.trans{H H1 H2:Hp}(a:Q3 H H1)(b:Q3 H1 H2):Q3 H H2:=λc o h=>b c o (a c o h)
theorem Q3.free{H H':Hp}(e:Q3 H H'){l:Addr}(h:H' l=Option.none):H l=Option.none:=by
 cases q:H l with
 |none=>rfl
 |some o=>
  rw[e l o q]at h
  cases h
theorem Q3.seq{K:Gc}{H H':Hp}{a:Addr}{xs:List V}(e:Q3 H H')(h:Zd K H a xs):Zd K H' a xs:=by
 rcases h with(h|⟨o,h⟩)|h
 ·exact .inl (.inl (e _ _ h))
 ·exact .inl (.inr ⟨o,e _ _ h⟩)
 ·exact .inr h
open PySem PySem.Spec PyProof.Rows
section
variable{X:Cx}
theorem Qng:Vr X (.builtin "len") (λxs H Q=>∃a kvs,xs=[V.ref a]/\H a=some (.dK kvs)/\Q (.int kvs.length) H):=by
 intro pins s σ H xs us Q I r h
 obtain⟨a,kvs,rfl,c,q⟩:=h
 obtain⟨u,rfl,d⟩:=vals1 r
 cases d
 exact Qyo I (.inl c) λt s' b=>⟨.int kvs.length,H,b,⟨t,Xb⟩,q⟩
end
open PySem PySem.Spec PyProof.Rows
def ccx(X:Cx)(N:List Str)(scope:Scope)(cl:List (Str×Addr))(C:Addr)(fp:List Addr)(s:Shared)(H:Hp):Cx where
 prog:=X.prog
 w:=X.w
 K:=X.K
 mg:=X.mg
 base:=X.base
 A:=X.A
 N:=N
 s₀:=s
 H₀:=H
 env:=compEnvC scope cl C X.env
 outer:=X.stack
 stack:=X.stack
 ex:=fp
 calm:=X.calm
 fn:=λ_=>false
 pn:=[]
 xe:=λ_ _=>False
inductive FV(X:Cx)(scope:Scope):List (Nat×Str)->Prop
 |nil:FV X scope []
 |cons {j:Nat} {x:Str} {r:List (Nat×Str)}:X.N[j]?=some x->(X.env.scope.names.lookup x=some .cell\/X.env.scope.names.lookup x=some .free)->scope.names.lookup x=some .free->FV X scope r->FV X scope ((j,x)::r)
theorem FV.get{X:Cx}{scope:Scope}:∀{fv:List (Nat×Str)}{k j:Nat}{x:Str},FV X scope fv->fv[k]?=some (j,x)->
  X.N[j]?=some x/\(X.env.scope.names.lookup x=some .cell\/X.env.scope.names.lookup x=some .free)/\scope.names.lookup x=some .free
 |_,_,_,_,.nil,e=>by simp at e
 |_,0,_,_,.cons a b c _,e=>by
  simp at e
  obtain⟨rfl,rfl⟩:=e
  exact⟨a,b,c⟩
 |_,k+1,_,_,.cons _ _ _ r,e=>FV.get (k:=k) r (by simpa using e)
theorem Va{env:Env}:∀{names:List (Str×NameKind)}{x:Str},names.lookup x=some .free->
  (names.map λ(n,k)=>if(k==NameKind.free&&env.scope.kind==.function&&env.kindOf n==some .cell)then(n,NameKind.cell)else(n,k)).lookup x=some .cell\/
  (names.map λ(n,k)=>if(k==NameKind.free&&env.scope.kind==.function&&env.kindOf n==some .cell)then(n,NameKind.cell)else(n,k)).lookup x=some .free
 |[],_,h=>by simp at h
 |(n,k)::r,x,h=>by
  have c:=@Va env r x
  rw[GO]
  dsimp only
  cases a:x==n with
  |true=>
   simp only[T8,a]at h
   cases h
   by_cases b:(NameKind.free==NameKind.free&&env.scope.kind==.function&&env.kindOf n==some .cell)=true
   ·left;rw[Gp b];simp only[T8,a]
   ·right;rw[Gj b];simp only[T8,a]
  |false=>
   simp only[T8,a]at h
   by_cases b:(k==NameKind.free&&env.scope.kind==.function&&env.kindOf n==some .cell)=true
   ·rw[Gp b];simp only[T8,a];exact c h
   ·rw[Gj b];simp only[T8,a];exact c h
theorem Vx{env:Env}:∀{names:List (Str×NameKind)}{x:Str},
  ((names.map λ(n,k)=>if(k==NameKind.free&&env.scope.kind==.function&&env.kindOf n==some .cell)then(n,NameKind.cell)else(n,k)).lookup x=some .cell\/
  (names.map λ(n,k)=>if(k==NameKind.free&&env.scope.kind==.function&&env.kindOf n==some .cell)then(n,NameKind.cell)else(n,k)).lookup x=some .free)->
  names.lookup x=some .cell\/names.lookup x=some .free
 |[],_,h=>by simp at h
 |(n,k)::r,x,h=>by
  have d:=@Vx env r x
  rw[GO]at h
  dsimp only at h
  cases b:x==n with
  |true=>
   by_cases a:(k==NameKind.free&&env.scope.kind==.function&&env.kindOf n==some .cell)=true
   ·right
    have e:(k==NameKind.free)=true:=(EH.mp (EH.mp a).1).1
    have c:k=.free:=by simpa using e
    simp only[T8,b,c]
   ·rw[Gj a]at h
    simp only[T8,b]at h⊢
    exact h
  |false=>
   by_cases a:(k==NameKind.free&&env.scope.kind==.function&&env.kindOf n==some .cell)=true
   ·rw[Gp a]at h;simp only[T8,b]at h⊢;exact d h
   ·rw[Gj a]at h;simp only[T8,b]at h⊢;exact d h
theorem Iv{env:Env}:∀(names:List (Str×NameKind))(b:List (Str×Addr)),(∀x,(x,NameKind.free)∈names->∃c,env.cells.lookup x=some c)->(∀x c,b.lookup x=some c->env.cells.lookup x=some c)->
  ∃cl:List (Str×Addr),(forIn names b (λ(x:Str×NameKind)(b:List (Str×Addr))=>if x.2==NameKind.free then(cellOf env x.1>>=λc=>pure (ForInStep.yield ((x.1,c)::b)))else pure (ForInStep.yield b)):Sem (List (Str×Addr)))=pure cl/\
   (∀x c,cl.lookup x=some c->env.cells.lookup x=some c)/\(∀x,(∃c,b.lookup x=some c)\/(x,NameKind.free)∈names->∃c,cl.lookup x=some c)
 |[],b,_,h2=>⟨b,Xb,h2,λx h=>h.elim id λz=>nomatch z⟩
 |(n,k)::r,b,h1,h2=>by
  rw[EW]
  by_cases j:k=.free
  ·subst j
   obtain⟨c,l⟩:=h1 n GJ
   have e:cellOf env n=pure c:=by unfold cellOf;rw[l]
   obtain⟨cl,f,g,i⟩:=Iv r ((n,c)::b) (λx a=>h1 x (Gm _ a)) (λx d a=>by
    rw[T8]at a
    cases q:x==n with
    |true=>
     rw[q]at a
     have m:x=n:=by simpa using q
     rw[m,l]
     exact a
    |false=>rw[q]at a;exact h2 x d a)
   refine⟨cl,?_,g,λx a=>i x ?_⟩
   ·simp only[EJ,LI,e,pure_bind]
    exact f
   ·rcases a with⟨d,hd⟩|a
    ·left
     rw[T8]
     cases q:x==n with
     |true=>exact⟨_,Xb⟩
     |false=>exact⟨d,hd⟩
    ·rcases Gu.mp a with z|z
     ·left
      have:x=n:=congrArg Prod.fst z
      subst this
      exact⟨c,by simp[T8]⟩
     ·exact .inr z
  ·have hb:(k==NameKind.free)=false:=by simpa using j
   obtain⟨cl,f,g,i⟩:=Iv r b (λx a=>h1 x (Gm _ a)) h2
   refine⟨cl,?_,g,λx a=>i x ?_⟩
   ·simp only[hb,T4,DE,pure_bind]
    exact f
   ·rcases a with z|z
    ·exact .inl z
    ·rcases Gu.mp z with z|z
     ·exact absurd (congrArg Prod.snd z).symm j
     ·exact .inr z
theorem Qdy{scope:Scope}{env:Env}(h1:∀x,(x,NameKind.free)∈scope.names->∃c,env.cells.lookup x=some c):
  ∃cl:List (Str×Addr),closureFor scope env=pure cl/\(∀x c,cl.lookup x=some c->env.cells.lookup x=some c)/\(∀x,(x,NameKind.free)∈scope.names->∃c,cl.lookup x=some c):=by
 obtain⟨cl,b,d,f⟩:=Iv (env:=env) scope.names [] h1 (λx c h=>by simp at h)
 refine⟨cl,?_,d,λx g=>f x (.inr g)⟩
 have e:closureFor scope env=((forIn scope.names ([]:List (Str×Addr)) (λ(x:Str×NameKind)(a:List (Str×Addr))=>if x.2==NameKind.free then(cellOf env x.1>>=λc=>pure (ForInStep.yield ((x.1,c)::a)))else pure (ForInStep.yield a)):Sem (List (Str×Addr)))>>=λa=>pure a):=rfl
 rw[e,b]
 rfl
def Ux(n:Nat)(fv:List (Nat×Str))(σ:St):St:=List.replicate n none++fv.map λq=>(σ[q.1]?).join
theorem Qrj{X:Cx}{pins:List (Addr×Obj)}{σ:St}{H:Hp}{s:Shared}{own:List Str}{fv:List (Nat×Str)}{scope:Scope}{cl:List (Str×Addr)}{fp:List Addr}{h1:Heap}{ob:Obj}{m:Str->Option Value}{t':Nat}
  (I:Inv X pins σ H s)(N:scope.kind=.function)(F:FV X scope fv)(k:∀x c,cl.lookup x=some c->X.env.cells.lookup x=some c)(E:∀x,(x,NameKind.free)∈scope.names->∃c,cl.lookup x=some c)
  (B:∀y∈scope.names,y.2≠.cell)(g:∀b∈fp,O6 X pins H b)(A:∀b∈fp,b<s.heap.objs.size)
  (O:h1.Ns s.heap.objs.size m)(D:Heap.SameBut s.heap.objs.size (s.heap.push ob) h1):
  Inv (ccx X (own++fv.map (·.2)) scope cl s.heap.objs.size fp s H) [] (Ux own.length fv σ) H {s with heap:=h1,toks:=t'}:=by
 have keep:∀b u,s.heap.get? b=some u->h1.get? b=some u:=λb u e=>(D.2 b (Ts (Gw e))).trans (Gh _ e)
 have f:∀x,(scope.names.lookup x=some .cell\/scope.names.lookup x=some .free)->(x,NameKind.free)∈scope.names:=λx h=>by
  rcases h with h|h
  ·exact absurd rfl (B _ (Dy h))
  ·exact Dy h
 refine⟨⟨I.ok.mod,N,I.ok.glob,I.ok.blt,Gr _,λx y c d a=>I.ok.inj x y c (k x c d) (k y c a),λx h=>E x (f x (Vx (env:=X.env) h)),λ_ _ h _=>(GV h).elim,
   I.ok.hd,I.ok.frames,.inl Xb,λb hb=>⟨Ts (A b hb),λx c e=>(g b hb).2.2.2.2.1 x c (k x c e)⟩,I.bs,Dg I.ok.bsz I.sz,λb o e hb=>?_,λb hb M=>?_,I.stack,I.Qlm⟩,
  Xb,I.bare,Un.kept keep,⟨m,O,λi x v d a U=>?_⟩,λx c e=>?_,I.Zy.fresh (Gr _),λx c e=>I.Je x c (k x c e),λp Q=>absurd (show p∈([]:List (Addr×Obj))from Q) (by simp),I.Zy.kept keep,?_⟩
 ·rcases(g b hb).2.2.2.1 with z|z
  ·exact I.ok.Qpa b o e z
  ·exact absurd (Tv (Gw e) (Dg I.ok.bsz z)) (DW _)
 ·rcases Gu.mp (I.Qfr b M)with z|z
  ·exact(g b hb).2.1 z
  ·exact(g b hb).2.2.1 z
 ·have d:(own++fv.map (·.2))[i]?=some x:=d
  by_cases hi:i<own.length
  ·have a:(Ux own.length fv σ)[i]?=some (some v):=a
   unfold Ux at a
   rw[GQ (by simpa using hi),Lv]at a
   split at a<;>cases a
  ·have a:(Ux own.length fv σ)[i]?=some (some v):=a
   unfold Ux at a
   rw[To (by simpa using hi),D4,GY]at a
   rw[To (by omega),GY]at d
   cases q:fv[i - own.length]? with
   |none=>rw[q]at d;cases d
   |some p=>
    obtain⟨j,y⟩:=p
    rw[q]at d a
    have d:some y=some x:=d
    cases d
    have a:some (σ[j]?).join=some (some v):=a
    have a:=TF a
    obtain⟨L,l,G⟩:=F.get q
    have K:σ[j]?=some (some v):=by
     cases r:σ[j]? with
     |none=>rw[r]at a;cases a
     |some z=>rw[r]at a;exact congrArg some a
    obtain⟨m0,P,w⟩:=I.loc
    obtain⟨u,T,lk⟩:=w j x v L K (.inr l)
    refine⟨u,T,?_⟩
    rcases lk with⟨t,_⟩|⟨t,c,R,S⟩
    ·exfalso
     have t:X.env.scope.names.lookup x=some .local:=t
     rcases l with l|l<;>(rw[t]at l;cases l)
    ·obtain⟨J,n⟩:=E x (Dy G)
     have:=k x J n
     rw[R]at this
     cases this
     refine .inr ⟨Va (env:=X.env) G,c,n,?_⟩
     obtain⟨o,C,hd⟩:=S
     exact⟨o,keep _ _ C,hd⟩
 ·obtain⟨v,o,C,hd⟩:=I.cell x c (k x c e)
  exact⟨v,o,keep _ _ C,hd⟩
 ·show(Ux own.length fv σ).length=(own++fv.map (·.2)).length
  unfold Ux
  simp
def Qkl(X:Cx)(ifs:List Expr)(t:TT):Prop:=
 ∀(pins:List (Addr×Obj))(s:Shared)(σ:St)(H:Hp)(Q:Bool->Hp->Prop),Inv X pins σ H s->t σ H Q->
  wpAny (model X.prog X.w) X.A (forIn ifs true λc r=>if r=true then do let ok<-isTrue c X.env (eval c X.env);pure (ForInStep.yield ok)else pure (ForInStep.yield r)) (TP X pins σ Q) X.xe s
def Qub:TT:=λ_ H Q=>Q true H
theorem Wa{X:Cx}:Qkl X [] Qub:=λpins s σ H Q I h=>wpAny_tests_nil ⟨H,I,h⟩
theorem Qqm{X:Cx}{c:Expr}{t:TT}(h:PT X c t):Qkl X [c] t:=λpins s σ H Q I hw=>wpAny_tests_one (h pins s σ H Q I hw)
section
variable{prog:Program}{w:World}{A:Around}{R:Result->Shared->Prop}{s:Shared}
theorem Qgk{elt a iter:Expr}{ifs:List Expr}{scope:Scope}{pos:Pos}{it acc:Value}{env:Env}(I:Nat->Shared->Prop)
  (turn:∀n s,I n s->wpAny (model prog w) A (pyNext it) (λr b=>match r with
   |none=>R (.ok .next) b
   |some v=>wpAny (model prog w) A (letOwnedTupleGo a it v) (λ_ b=>wpAny (model prog w) A (assign a env v) (λ_ f=>
     wpAny (model prog w) A (forIn ifs true λc r=>if r=true then do let ok<-isTrue c env (eval c env);pure (ForInStep.yield ok)else pure (ForInStep.yield r)) (λok d=>
      if ok=true then wpAny (model prog w) A (eval elt env) (λx g=>
       wpAny (model prog w) A (call (.builtin "list.append") [acc,x]) (λ_ i=>∃m,m<n/\I m i) (λ_ _=>False) g) (λ_ _=>False) d
      else∃m,m<n/\I m d) (λ_ _=>False) f) (λ_ _=>False) b) (λ_ _=>False) b) (λ_ _=>False) s)
  (n:Nat)(h:I n s):
  codeAny (model prog w) A (.compLoop (.ListComp elt [⟨a,iter,ifs,0⟩] scope pos) 0 it acc env) R s:=by
 refine codeAny_loop rfl I (λn s o=>?_) n h
 show wpAny _ A ((compTurn (.ListComp elt [⟨a,iter,ifs,0⟩] scope pos) 0 it acc env).onRaise (λx=>do noteFrame x env;theTreesLotGoes x)) _ _ s
 refine wpAny_noted ?_
 rw[compTurn_list]
 refine Ga (L4 (Ga (DL (turn n s o) (λr b h₁=>?_) λ_ _ h'=>h'.elim)))
 cases r with
 |none=>exact Gf h₁
 |some v=>
  refine Ga (DL h₁ (λ_ b h₁=>?_) λ_ _ h'=>h'.elim)
  refine Ga (DL h₁ (λ_ f j=>Ga (DL j (λok d e=>?_) λ_ _ h'=>h'.elim)) λ_ _ h'=>h'.elim)
  cases ok with
  |false=>exact Gf ⟨Xb,e⟩
  |true=>
   exact Ga (Ga (DL e (λx g k=>Ga (DL k (λ_ i l=>Gf (Gf ⟨Xb,l⟩)) λ_ _ h'=>h'.elim)) λ_ _ h'=>h'.elim))
end
def Qe4(p:Addr)(J:It)(g:TG)(tt:TT)(te:TE)(Q:Hp->Prop)(e:St)(H0:Hp):Prop:=
 ∃W:Nat->Nat->St->Hp->Prop,(∃m,W 0 m e H0)/\∀i m σ H,W i m σ H->
  (J.stop i H/\Q H)\/(J.go i H/\∃(N:V->St->Hp->Prop)(h:St->Hp->Prop),(∀v a H',N v a H'->∃ys,H' p=some (.lst ys)/\ys.length<sizeLine/\∃d,d<m/\W (i+1) d a (upd H' p (.lst (ys++[v]))))/\
   (∀a H',h a H'->∃d,d<m/\W (i+1) d a H')/\
   ∀x H',J.yld i H x H'->g x σ H' λc H2=>tt c H2 λb f=>if b=true then te c f λv j=>N v c j else h c f)
def Qvf(n:Nat)(fv:List (Nat×Str))(wi:TI)(g:TG)(tt:TT)(te:TE):TE:=λσ H Q=>wi σ H λJ H1=>∀p,H1 p=none->Qe4 p J g tt te (λH'=>Q (.ref p) H') (Ux n fv σ) (upd H1 p (.lst []))
section
variable{X:Cx}{elt tg iter:Expr}{ifs:List Expr}{scope:Scope}{pos:Pos}{wi:TI}{g:TG}{tt:TT}{te:TE}
structure Wc(esc scope:Scope):Prop where
 kind:scope.kind=.function
 Qoo:∀y∈scope.names,y.2≠.cell
 loc:∀x∈scope.names,x.2=.local->scope.names.lookup x.1=some .local
 fre:∀y∈scope.names,y.2=.free->esc.names.lookup y.1=some .cell\/esc.names.lookup y.1=some .free
theorem Qdo{pins:List (Addr×Obj)}{σ:St}{H2:Hp}{s2:Shared}{it:Addr}{fp:List Addr}{tn:Nat->Heap->Prop}{J:It}{cl:List (Str×Addr)}{Q:VK}{own:List Str}{fv:List (Nat×Str)}{RR:Value->Addr->Result->Shared->Prop}{E:Value->Shared->Prop}
  (hc:X.calm=true)(S:Wc X.env.scope scope)(F:FV X scope fv)(c1:∀x c,cl.lookup x=some c->X.env.cells.lookup x=some c)(c2:∀x,(x,NameKind.free)∈scope.names->∃c,cl.lookup x=some c)
  (hg:∀cl C fp s H,PG (ccx X (own++fv.map (·.2)) scope cl C fp s H) tg g)(ht:∀cl C fp s H,Qkl (ccx X (own++fv.map (·.2)) scope cl C fp s H) ifs tt)(he:∀cl C fp s H,PE (ccx X (own++fv.map (·.2)) scope cl C fp s H) elt te)
  (I2:Inv X pins σ H2 s2)(T:Qg8 X.prog X.w X.K tg J fp it tn)(P:tn 0 s2.heap)(f2:∀b∈fp,O6 X pins H2 b)
  (q:∀p,H2 p=none->Qe4 p J g tt te (λH'=>Q (.ref p) H') (Ux own.length fv σ) (upd H2 p (.lst [])))
  (ai:∀(p C:Addr)(H':Hp)(s':Shared),Inv X pins σ H' s'->(∃m,s'.heap.Ns C m)->O6 X pins H' C->Q (.ref p) H'->RR (.ref p) C (.ok .next) s'):
  wpAny (model X.prog X.w) X.A (newList []) (λacc ad=>wpAny (model X.prog X.w) X.A (newFunctionEnv scope X.env.globals cl [] X.env.qual none .none (some X.env)) (λD ae=>
   codeAny (model X.prog X.w) X.A (.compStart (.ListComp elt [⟨tg,iter,ifs,0⟩] scope pos) 0 (.ref it) acc {D with scope:=relabel scope X.env}) (RR acc D.locals) ae) E ad) E s2:=by
 have q:=q s2.heap.objs.size (I2.Zy.fresh (Gr _))
 have I3:=I2.Qzj (ys:=[]) (its:=[]) (t':=s2.toks) .nil (Ta _)
 have aj:H2 s2.heap.objs.size=none:=I2.Zy.fresh (Gr _)
 refine TU (wpAny_newFunctionEnv S.Qoo (by intro y hy;simp at hy) (λh₁ t a=>?_) S.kind)
 have l:∀b∈fp,O6 X pins (upd H2 s2.heap.objs.size (.lst [])) b:=λb hb=>by
  obtain⟨o,e,_⟩:=T.obj 0 _ P b hb
  exact⟨by rw[Qf (Ts (Gw e))];exact(f2 b hb).1,(f2 b hb).2⟩
 have O:∀b∈fp,b<(s2.heap.push {cls:=.type "list",data:=.seq ([]:List Value).toArray}).objs.size:=λb hb=>by
  obtain⟨o,e,_⟩:=T.obj 0 _ P b hb
  exact Gw (Gh _ e)
 have ac:tn 0 h₁:=T.keep 0 _ _ P λb hb o e=>(a.2 b (Ts (O b hb))).trans (Gh _ (Gh _ e))
 have I4:=Qrj (own:=own) (fv:=fv) (t':=s2.toks+([]:List (Str×Value)).length) I3 S.kind F c1 c2 S.Qoo l O t a
 obtain⟨W,⟨m0,w0⟩,turn⟩:=q
 generalize hC:(s2.heap.push {cls:=.type "list",data:=.seq ([]:List Value).toArray}).objs.size=C at*
 have G:codeAny (model X.prog X.w) X.A (.compLoop (.ListComp elt [⟨tg,iter,ifs,0⟩] scope pos) 0 (.ref it) (.ref s2.heap.objs.size) (compEnvC scope cl C X.env)) (RR (.ref s2.heap.objs.size) C)
   {s2 with heap:=h₁,toks:=s2.toks+([]:List (Str×Value)).length}:=by
  generalize f:ccx X (own++fv.map (·.2)) scope cl C fp {s2 with heap:=s2.heap.push {cls:=.type "list",data:=.seq ([]:List Value).toArray}} (upd H2 s2.heap.objs.size (.lst []))=Y at I4
  have h:∀{H':Hp},(∀b∈fp,H' b=none)->∀b∈fp,O6 Y [] H' b:=λ{H'}hn b hb=>by
   subst f
   refine⟨hn b hb,Ts (O b hb),λz=>?_,.inl hb,λx c e=>(l b hb).2.2.2.2.1 x c (c1 x c e),λp hp=>absurd (show p∈([]:List (Addr×Obj))from hp) (by simp)⟩
   rcases Gu.mp (I3.Qfr b z)with z|z
   ·exact(l b hb).2.1 z
   ·exact(l b hb).2.2.1 z
  have eP:Y.prog=X.prog:=by subst f;rfl
  have ew:Y.w=X.w:=by subst f;rfl
  have eK:Y.K=X.K:=by subst f;rfl
  have eA:Y.A=X.A:=by subst f;rfl
  have eC:Y.calm=true:=by subst f;exact hc
  have eE:Y.env=compEnvC scope cl C X.env:=by subst f;rfl
  have ex:Y.xe=λ_ _=>False:=by subst f;rfl
  have L:PG Y tg g:=by subst f;exact hg _ _ _ _ _
  have M:Qkl Y ifs tt:=by subst f;exact ht _ _ _ _ _
  have I:PE Y elt te:=by subst f;exact he _ _ _ _ _
  unfold PG at L
  unfold Qkl at M
  unfold PE at I
  rw[eP,ew,eA,eE,ex]at L M I
  refine Qgk (λn s'=>∃i j H',Inv Y [] j H' s'/\tn i s'.heap/\(∀b∈fp,H' b=none)/\W i n j H') ?_ m0 ⟨0,_,_,I4,ac,λb hb=>(l b hb).1,w0⟩
  rintro n s3 ⟨i,B,U,J3,ab,aa,w3⟩
  rcases turn i n B U w3 with⟨stop,qn⟩|⟨go,N,N',hN,ah,step⟩
  ·have d:=T.done Y eP ew eK eC i [] s3 B U (λ_ _=>False) J3 (h aa) ab stop
   rw[eA]at d
   refine Ys d λr s4⟨hr,V⟩=>?_
   subst hr
   show RR _ C (.ok .next) s4
   have u:=V.base
   have Zy:=V.Zy
   have os:=V.os
   have bare:=V.bare
   obtain⟨m4,n4,_⟩:=V.loc
   have fC:=V.free
   subst f
   have I5:Inv X pins σ U s4:=I3.Qyx (ch:=fp) os u Zy bare λb hb=>⟨(l b hb).2.2.2.1,(l b hb).2.1,(l b hb).2.2.2.2.1,(l b hb).2.2.2.2.2⟩
   refine ai _ C U s4 I5 ⟨m4,n4⟩ ?_ qn
   rw[<-hC]
   exact I3.Qkg (Gr _) (by show U _=none;rw[hC];exact fC)
  ·have d:=T.item Y eP ew eK eC i [] s3 B U (λ_ _=>False) J3 (h aa) ab go
   rw[eA]at d
   refine Ys d λr s4⟨u,hr,h4⟩=>?_
   subst hr
   refine Ys h4 λ_ s5⟨x,H5,J5,r5,y5,R,ag⟩=>?_
   have af:=J5.pinned (h ag) (T.obj _ _ R)
   refine Ys (L _ s5 B H5 x u _ af r5 (step x H5 y5)) λ_ s6⟨k,H6,J6,q6⟩=>?_
   refine Ys (M _ s6 k H6 _ J6 q6) λok s7⟨H7,J7,q7⟩=>?_
   have again:∀{s8:Shared}{H8:Hp},Inv Y ([]++Qcc fp s5.heap) k H8 s8->(∃m',m'<n/\W (i+1) m' k H8)->∃m,m<n/\∃i j H',Inv Y [] j H' s8/\tn i s8.heap/\(∀b∈fp,H' b=none)/\W i m j H':=λ{s8 H8}Z⟨m',hm,w8⟩=>by
    refine⟨m',hm,i+1,k,H8,Z.Rq,T.keep _ _ _ R λb hb o e=>(Z.pin (b,o) (Tn _ (Tn _ (Uz hb e)))).1,λb hb=>?_,w8⟩
    obtain⟨o,e,d⟩:=T.obj _ _ R b hb
    exact(Z.pin (b,o) (Tn _ (Tn _ (Uz hb e)))).2.1
   cases ok with
   |false=>
    rw[Gj GV]at q7⊢
    exact again J7 (ah _ _ q7)
   |true=>
    rw[Gp rfl]at q7⊢
    refine Ys (I _ s7 k H7 _ J7 q7) λxv s8⟨v,H8,Z,r8,q8⟩=>?_
    obtain⟨ys,hy,hz,q8⟩:=hN _ _ _ q8
    obtain⟨z,its,n',r,hl,e⟩:=Z.Qj4 hy
    refine Fe Tc ⟨_,e,Xb⟩ PySem.F.entry_list_append (PySem.F.args_list_append_2 _ _) (PySem.list_append s2.heap.objs.size its.toArray n' xv (by rw[GF];omega)) ⟨e,?_⟩
    refine again (Z.Qtl (its':=its++[xv]) (t':=s8.toks) hy e (by simp) (r.append (.cons r8 .nil)) ?_) q8
    rw[Gk,Gv]
    omega
 exact codeAny_compStart_list G (T.self X.A 0 _ _ _ ac G)
theorem Rt{pins:List (Addr×Obj)}{σ:St}{H:Hp}{s:Shared}(S:Wc X.env.scope scope)(I:Inv X pins σ H s):
  ∃cl:List (Str×Addr),closureFor scope X.env=pure cl/\(∀x c,cl.lookup x=some c->X.env.cells.lookup x=some c)/\(∀x,(x,NameKind.free)∈scope.names->∃c,cl.lookup x=some c):=
 Qdy λx a=>I.ok.has x (S.fre (x,.free) a Xb)
theorem Vw{own:List Str}{fv:List (Nat×Str)}(t:X.calm=true)(S:Wc X.env.scope scope)(F:FV X scope fv)(hi:PI X tg iter wi)
  (y:∀cl C fp s H,PG (ccx X (own++fv.map (·.2)) scope cl C fp s H) tg g)(D:∀cl C fp s H,Qkl (ccx X (own++fv.map (·.2)) scope cl C fp s H) ifs tt)(u:∀cl C fp s H,PE (ccx X (own++fv.map (·.2)) scope cl C fp s H) elt te)
  (B:∀x,foldedSetIterable iter X.env x=pure x:=by intro _;rfl):PE X (.ListComp elt [⟨tg,iter,ifs,0⟩] scope pos) (Qvf own.length fv wi g tt te):=by
 intro pins s σ H Q I h
 rw[eval_ListComp]
 obtain⟨cl,c,l,n⟩:=Rt S I
 refine Ll (use:=none) rfl B c S.kind S.loc (Ys (hi pins s σ H _ I h) λv s1 h1=>Ys h1 λE s2 h2=>?_)
 obtain⟨it,fp,tn,J,H2,e,k,T,i,r,q⟩:=h2
 subst e
 refine Qdo (Q:=Q) (RR:=λacc C=>compPost (model X.prog X.w) X.A X.xe none (EP X pins σ Q) acc C) t S F l n y D u k T i r q λp C H' s' j d a z=>?_
 obtain⟨m,d⟩:=d
 refine⟨m,d,λh' f=>⟨.ref p,H',?_,Xb,z⟩⟩
 exact j.turned (t':=s'.toks) (λb o hb e=>(f.2 b hb).trans e) a.1 a.2.1 a.2.2.2.1 a.2.2.2.2.1 a.2.2.2.2.2
theorem Qcd{own:List Str}{fv:List (Nat×Str)}{i:Nat}{y:Str}{f c:Pos}(W:X.N.Nodup)(r:X.N[i]?=some y)(M:X.env.scope.names.lookup y=some .local)(Y:X.calm=true)(S:Wc X.env.scope scope)(F:FV X scope fv)(hi:PI X tg iter wi)
  (hg:∀cl C fp s H,PG (ccx X (own++fv.map (·.2)) scope cl C fp s H) tg g)(ht:∀cl C fp s H,Qkl (ccx X (own++fv.map (·.2)) scope cl C fp s H) ifs tt)(Z:∀cl C fp s H,PE (ccx X (own++fv.map (·.2)) scope cl C fp s H) elt te)
  (E:swapsWith (.ListComp elt [⟨tg,iter,ifs,0⟩] scope pos) (some (.Name y f)) c.line X.env=pure true:=by rfl)
  (hs:∀x,foldedSetIterable iter X.env x=pure x:=by intro _;rfl):PS X (.Assign [.Name y f] (.ListComp elt [⟨tg,iter,ifs,0⟩] scope pos) c) (Qwj (Qvf own.length fv wi g tt te) (V8 i)):=by
 intro pins s σ H D I h
 rw[exec_Assign_Name_used _ _ _ _ E]
 obtain⟨cl,n,R,U⟩:=Rt S I
 refine Ga (L4 (Ga ?_))
 show wpAny _ X.A (do let _<-comprehension (.ListComp elt [⟨tg,iter,ifs,0⟩] scope pos) scope X.env _ (newList []) false (eval iter X.env) (some (assign (.Name y f) X.env))) _ _ s
 refine Ga (DL (Ll (use:=some (assign (.Name y f) X.env)) (Q:=λ_ s'=>SP X pins D .next s') rfl hs n S.kind S.loc (Ys (hi pins s σ H _ I h) λv s1 h1=>Ys h1 λaa s2 h2=>?_)) (λ_ s' u=>Gf (Gf u)) λ_ _ e=>e)
 obtain⟨it,fp,tn,J,H2,e,P,T,L,V,q⟩:=h2
 subst e
 refine Qdo (Q:=λx H1=>V8 i x σ H1 D.nx) (RR:=λacc C=>compPost (model X.prog X.w) X.A X.xe (some (assign (.Name y f) X.env)) (λ_ s'=>SP X pins D .next s') acc C) Y S F R U hg ht Z P T L V q λp C H' s' O t d u=>?_
 obtain⟨m,t⟩:=t
 show wpAny _ X.A (assign (.Name y f) X.env (.ref p)) _ _ _
 refine wpAny_assign_Name (Qee O W r (.inl M) (v:=.ref p) rfl (λG k K=>?_) (.inr M))
 obtain⟨a,K,j⟩:=K
 have l:C≠a:=by
  rcases j with j|j
  ·rw[j];exact d.2.1
  ·exactλz=>d.2.2.2.2.1 y a j z.symm
 refine⟨m,t.sameBut K l,λh' B=>⟨_,H',?_,u⟩⟩
 exact k.turned (t':=G.toks) (λb o hb e=>(B.2 b hb).trans e) d.1 d.2.1 d.2.2.2.1 d.2.2.2.2.1 d.2.2.2.2.2
end
theorem Jy{K:Gc}{a p:Addr}{xs:List V}{g:TG}{te:TE}{Q:Hp->Prop}{d:St}{H0:Hp}(t:xs.length<=sizeLine)(Pv:Nat->List V->St->Hp->Prop)(o:Pv 0 [] d (upd H0 p (.lst [])))
  (r:∀i ys σ H,i<=xs.length->Pv i ys σ H->Z4 K H a xs)
  (s:∀i x ys σ H,xs[i]?=some x->ys.length=i->Pv i ys σ H->H p=some (.lst ys)->g x σ H λf H2=>te f H2 λv j=>j p=some (.lst ys)/\Pv (i+1) (ys++[v]) f (upd j p (.lst (ys++[v]))))
  (hd:∀ys σ H,ys.length=xs.length->Pv xs.length ys σ H->H p=some (.lst ys)->Q H):Qe4 p (Itt K a) g Qub te Q d (upd H0 p (.lst [])):=by
 refine⟨λi m σ H=>m=xs.length - i/\i<=xs.length/\∃ys,ys.length=i/\Pv i ys σ H/\H p=some (.lst ys),⟨xs.length,by simp,Ta _,[],Xb,o,Qb⟩,?_⟩
 rintro i m σ H ⟨rfl,hi,ys,h,pv,k⟩
 have q:=r i ys σ H hi pv
 by_cases b:i<xs.length
 ·refine .inr ⟨⟨xs,xs[i],q,by simp[b]⟩,λv c H'=>H' p=some (.lst ys)/\Pv (i+1) (ys++[v]) c (upd H' p (.lst (ys++[v]))),λ_ _=>False,λv c H'⟨l,n⟩=>⟨ys,l,by omega,xs.length - (i+1),by omega,Xb,b,ys++[v],by simp[h],n,Qb⟩,λ_ _ z=>z.elim,λx H' y=>?_⟩
  obtain⟨e,y⟩:=y
  subst e
  exact s i x ys σ _ (y xs q) h pv k
 ·have e:i=xs.length:=by omega
  subst e
  exact .inl ⟨⟨xs,q,Gr _⟩,hd ys σ H h pv k⟩
theorem Qac{K:Gc}{a p:Addr}{xs:List V}{g:TG}{te:TE}{Q:Hp->Prop}{d:St}{H0:Hp}(t:xs.length<=sizeLine)(Pv:Nat->List V->St->Hp->Prop)(o:Pv 0 [] d (upd H0 p (.lst [])))
  (r:∀i ys σ H,i<=xs.length->Pv i ys σ H->Zd K H a xs)
  (s:∀i x ys σ H,xs[i]?=some x->ys.length=i->Pv i ys σ H->H p=some (.lst ys)->g x σ H λf H2=>te f H2 λv j=>j p=some (.lst ys)/\Pv (i+1) (ys++[v]) f (upd j p (.lst (ys++[v]))))
  (hd:∀ys σ H,ys.length=xs.length->Pv xs.length ys σ H->H p=some (.lst ys)->Q H):Qe4 p (Itl K a) g Qub te Q d (upd H0 p (.lst [])):=by
 refine⟨λi m σ H=>m=xs.length - i/\i<=xs.length/\∃ys,ys.length=i/\Pv i ys σ H/\H p=some (.lst ys),⟨xs.length,by simp,Ta _,[],Xb,o,Qb⟩,?_⟩
 rintro i m σ H ⟨rfl,hi,ys,h,pv,k⟩
 have q:=r i ys σ H hi pv
 by_cases b:i<xs.length
 ·refine .inr ⟨⟨xs,xs[i],q,by simp[b]⟩,λv c H'=>H' p=some (.lst ys)/\Pv (i+1) (ys++[v]) c (upd H' p (.lst (ys++[v]))),λ_ _=>False,λv c H'⟨l,n⟩=>⟨ys,l,by omega,xs.length - (i+1),by omega,Xb,b,ys++[v],by simp[h],n,Qb⟩,λ_ _ z=>z.elim,λx H' y=>?_⟩
  obtain⟨e,y⟩:=y
  subst e
  exact s i x ys σ _ (y xs q) h pv k
 ·have e:i=xs.length:=by omega
  subst e
  exact .inl ⟨⟨xs,q,Gr _⟩,hd ys σ H h pv k⟩
open PySem PySem.Spec PyProof.Rows
mutual
inductive Dt(H:Hp):V->PyData->Prop
 |non:Dt H .non .none
 |bl (b:Bool):Dt H (.bl b) (.bool b)
 |int (i:Int):Dt H (.int i) (.int i)
 |str (x:Str):Dt H (.str x) (.str x)
 |lst {a:Addr} {xs:List V} {ds:List PyData}:H a=some (.lst xs)->Rg H xs ds->Dt H (.ref a) (.list ds)
 |tup {a:Addr} {xs:List V} {ds:List PyData}:H a=some (.tup xs)->Rg H xs ds->Dt H (.ref a) (.tuple ds)
inductive Rg(H:Hp):List V->List PyData->Prop
 |nil:Rg H [] []
 |cons {x:V} {xs:List V} {d:PyData} {ds:List PyData}:Dt H x d->Rg H xs ds->Rg H (x::xs) (d::ds)
end
mutual
theorem Dt.same{H H':Hp}(e:Q3 H H'):∀{v:V}{d:PyData},Dt H v d->Dt H' v d
 |_,_,.non=>.non
 |_,_,.bl b=>.bl b
 |_,_,.int i=>.int i
 |_,_,.str x=>.str x
 |_,_,.lst h t=>.lst (e _ _ h) (Rg.same e t)
 |_,_,.tup h t=>.tup (e _ _ h) (Rg.same e t)
theorem Rg.same{H H':Hp}(e:Q3 H H'):∀{xs:List V}{ds:List PyData},Rg H xs ds->Rg H' xs ds
 |_,_,.nil=>.nil
 |_,_,.cons h t=>.cons (Dt.same e h) (Rg.same e t)
end
theorem Rg.length{H:Hp}:∀{xs:List V}{ds:List PyData},Rg H xs ds->xs.length=ds.length
 |_,_,.nil=>rfl
 |_,_,.cons _ t=>by rw[Tb,Tb,t.length]
theorem Rg.get{H:Hp}:∀{xs:List V}{ds:List PyData}{i:Nat}{x:V},Rg H xs ds->xs[i]?=some x->∃d,ds[i]?=some d/\Dt H x d
 |_,_,_,_,.nil,e=>by simp at e
 |_,_,0,_,.cons h _,e=>by
  simp at e
  subst e
  exact⟨_,Xb,h⟩
 |_,_,i+1,_,.cons _ t,e=>by
  obtain⟨d,h1,h2⟩:=Rg.get (i:=i) t (by simpa using e)
  exact⟨d,by simpa using h1,h2⟩
mutual
theorem Dt.reads{P:Program}{w:World}{H:Hp}{h:Heap}(ok:Ir P w H h):∀{v:V}{d:PyData}{u:Value},Dt H v d->RelV v u->∃c,Reads h u d c
 |_,_,u,.non,r=>⟨[],by cases(show u=Value.none from r);exact .none⟩
 |_,_,u,.bl b,r=>⟨[],by cases(show u=Value.bool b from r);exact .bool b⟩
 |_,_,u,.int i,r=>⟨[],by obtain⟨t,e⟩:=(show∃t,u=Value.int i t from r);cases e;exact .int i t⟩
 |_,_,u,.str x,r=>⟨[],by obtain⟨t,e⟩:=(show∃t,u=Value.str x t from r);cases e;exact .str x t⟩
 |_,_,u,.lst (a:=a) (xs:=xs) e t,r=>by
  obtain⟨_,its,n,rv,f⟩:=(show Z0 P w H h a (.lst xs)from ok a _ e)
  obtain⟨c,g⟩:=Rg.reads ok t rv
  cases(show u=Value.ref a from r)
  exact⟨a::c,.list f rfl rfl (by simpa using g)⟩
 |_,_,u,.tup (a:=a) (xs:=xs) e t,r=>by
  obtain⟨_,its,rv,o,f,j,n,hd⟩:=(show Z0 P w H h a (.tup xs)from ok a _ e)
  obtain⟨c,g⟩:=Rg.reads ok t rv
  cases(show u=Value.ref a from r)
  exact⟨c,.tuple f j hd (by simpa using g)⟩
theorem Rg.reads{P:Program}{w:World}{H:Hp}{h:Heap}(ok:Ir P w H h):∀{xs:List V}{ds:List PyData}{us:List Value},Rg H xs ds->Zv xs us->∃a,ReadsAll h us ds a
 |_,_,_,.nil,.nil=>⟨[],.nil⟩
 |_,_,_,.cons d t,.cons r e=>by
  obtain⟨a,b⟩:=Dt.reads ok d r
  obtain⟨bs,c⟩:=Rg.reads ok t e
  exact⟨a++bs,.cons b c⟩
end
def Qyb(f:Bool->Bool):R2:=λx y H Q=>∃dx a,Dt H x dx/\Dt H y a/\dx.canLay0=true/\a.canLay0=true/\min dx.depth a.depth<=64/\Q (.bl (f (PyData.eqv dx a))) H
section
variable{X:Cx}
theorem Qq6(l:X.A.units+64<cLine):Oh X (compareOp .Eq) (Qyb λb=>b):=by
 intro pins s σ H x y v u Q I f g h
 obtain⟨dx,j,h1,h2,a,c,k,q⟩:=h
 obtain⟨i,d⟩:=h1.reads I.Zy f
 obtain⟨bs,e⟩:=h2.reads I.Zy g
 exact PySem.SeqAt.compareEq_reads d e a c (by omega) ⟨.bl _,H,I,Xb,q⟩
theorem Qpo(l:X.A.units+64<cLine):Oh X (compareOp .NotEq) (Qyb λb=>!b):=by
 intro pins s σ H x y v u Q I f g h
 obtain⟨dx,j,h1,h2,a,c,k,q⟩:=h
 obtain⟨i,d⟩:=h1.reads I.Zy f
 obtain⟨bs,e⟩:=h2.reads I.Zy g
 exact PySem.SeqAt.compareNe_reads d e a c (by omega) ⟨.bl _,H,I,Xb,q⟩
def Q00(K:Gc):List V->Hp->VK->Prop:=λxs H Q=>∃x n t b,xs=[x,.ty n]/\Ik K H x t/\PySem.W.kitOne K t (.type n)=some b/\Q (.bl b) H
theorem Xj:Vr X (.builtin "isinstance") (Q00 X.K):=by
 intro pins s σ H xs us Q I r h
 obtain⟨x,n,t,b,rfl,ty,e,q⟩:=h
 obtain⟨u,d,rfl,a,c⟩:=vals2 r
 cases(show d=Value.type n from c)
 exact Qn9 I a ty e λtk=>⟨.bl b,H,I.tok tk,Xb,q⟩
def Qyg(K:Gc):List V->Hp->VK->Prop:=λxs H Q=>∃x p n m t b,xs=[x,.ref p]/\H p=some (.tup [.ty n,.ty m])/\Ik K H x (.type t)/\PySem.W.kitAny K (.type t) [.type n,.type m]=some b/\Q (.bl b) H
theorem Qnc:Vr X (.builtin "isinstance") (Qyg X.K):=by
 intro pins s σ H xs us Q I r h
 obtain⟨x,p,n,m,t,b,rfl,l,ty,e,q⟩:=h
 obtain⟨u,E,rfl,d,B⟩:=vals2 r
 cases(show E=Value.ref p from B)
 obtain⟨_,its,rv,o,c,j,k,hd⟩:=(show Z0 X.prog X.w H s.heap p (.tup [.ty n,.ty m])from I.Zy p _ l)
 obtain⟨C,D,g,v,A⟩:=vals2 rv
 subst g
 cases(show C=Value.type n from v)
 cases(show D=Value.type m from A)
 obtain⟨oc,od,f,os⟩:=o
 cases(show oc=Value.type "tuple"from j)
 cases(show f=Data.seq _ k from hd)
 have fin:∀tk,EP X pins σ Q (.bool b) {s with toks:=tk}:=λtk=>⟨.bl b,H,I.tok tk,Xb,q⟩
 cases ty with
 |non=>cases(show u=Value.none from d);exact DC PySem.W.kitx_none I.Jh True.intro c e (λz=>nomatch z) fin
 |bl y=>cases(show u=Value.bool y from d);exact DC PySem.W.kitx_bool I.Jh True.intro c e (λz=>nomatch z) fin
 |int i=>obtain⟨t,q⟩:=(show∃t,u=Value.int i t from d);cases q;exact DC PySem.W.kitx_int I.Jh True.intro c e (λz=>nomatch z) fin
 |str y=>obtain⟨t,q⟩:=(show∃t,u=Value.str y t from d);cases q;exact DC PySem.W.kitx_str I.Jh True.intro c e (λz=>nomatch z) fin
 |flt y=>obtain⟨t,q⟩:=(show∃t,u=Value.float y t from d);cases q;exact DC Fc I.Jh True.intro c e (λz=>nomatch z) fin
 |@lst a xs ea=>
  cases(show u=Value.ref a from d)
  obtain⟨_,_,n,_,h1⟩:=(show Z0 X.prog X.w H s.heap a (.lst xs)from I.Zy a _ ea)
  exact DC E2 I.Jh ⟨_,h1,Xb⟩ c e (λz=>nomatch z) fin
 |@frz a ob xs ea=>
  cases(show u=Value.ref a from d)
  obtain⟨_,_,_,n,_,h1⟩:=(show Z0 X.prog X.w H s.heap a (.frz ob (.lst xs))from I.Zy a _ ea)
  exact DC E2 I.Jh ⟨_,h1,Xb⟩ c e (λz=>nomatch z) fin
 |@tup a xs ea=>
  cases(show u=Value.ref a from d)
  obtain⟨_,_,_,p⟩:=(show Z0 X.prog X.w H s.heap a (.tup xs)from I.Zy a _ ea)
  obtain⟨o,h1,h2,_⟩:=p
  exact DC Fd I.Jh ⟨o,h1,h2⟩ c e (λz=>nomatch z) fin
 |@dK a kvs ea=>
  cases(show u=Value.ref a from d)
  obtain⟨_,_,vs,_,p⟩:=(show Z0 X.prog X.w H s.heap a (.dK kvs)from I.Zy a _ ea)
  obtain⟨o,es,ep,h1,h2,_⟩:=p
  exact DC E3 I.Jh ⟨o,h1,h2.1⟩ c e (λz=>nomatch z) fin
 |@dT a kvs ea=>
  cases(show u=Value.ref a from d)
  obtain⟨_,_,xs,_,o,es,ep,h1,h2,_⟩:=(show Z0 X.prog X.w H s.heap a (.dT kvs)from I.Zy a _ ea)
  exact DC E3 I.Jh ⟨o,h1,h2.1⟩ c e (λz=>nomatch z) fin
end
theorem Qo4{K:Gc}:PySem.W.kitOne K (.type "list") (.type "list")=some true:=by rfl
theorem Qq2{K:Gc}:PySem.W.kitOne K (.type "tuple") (.type "tuple")=some true:=by rfl
theorem Qxh{K:Gc}:PySem.W.kitOne K (.type "list") (.type "tuple")=some false:=by kernel_rfl
theorem Qpx{K:Gc}:PySem.W.kitOne K (.type "tuple") (.type "list")=some false:=by kernel_rfl
theorem Qo0{K:Gc}:PySem.W.kitOne K (.type "str") (.type "str")=some true:=by rfl
theorem Qxf{K:Gc}:PySem.W.kitOne K (.type "bool") (.type "str")=some false:=by kernel_rfl
theorem Qw4{K:Gc}:PySem.W.kitOne K (.type "int") (.type "str")=some false:=by kernel_rfl
theorem Qwq{K:Gc}:PySem.W.kitOne K (.type "NoneType") (.type "str")=some false:=by kernel_rfl
theorem Qou{K:Gc}:PySem.W.kitOne K (.type "bool") (.type "bool")=some true:=by rfl
theorem Qp3{K:Gc}:PySem.W.kitOne K (.type "int") (.type "bool")=some false:=by kernel_rfl
theorem Qwl{K:Gc}:PySem.W.kitOne K (.type "NoneType") (.type "bool")=some false:=by kernel_rfl
theorem Qwg{K:Gc}:PySem.W.kitOne K (.type "int") (.type "int")=some true:=by rfl
theorem Qwt{K:Gc}:PySem.W.kitAny K (.type "list") [.type "list",.type "tuple"]=some true:=by rfl
theorem Qwx{K:Gc}:PySem.W.kitAny K (.type "tuple") [.type "list",.type "tuple"]=some true:=by unfold PySem.W.kitAny;rw[Qpx];rfl
theorem Qbq{K:Gc}{t:String}(h1:PySem.W.kitOne K (.type t) (.type "list")=some false)(h2:PySem.W.kitOne K (.type t) (.type "tuple")=some false):PySem.W.kitAny K (.type t) [.type "list",.type "tuple"]=some false:=by
 unfold PySem.W.kitAny;rw[h1];unfold PySem.W.kitAny;rw[h2];rfl
theorem Qv8{K:Gc}:PySem.W.kitOne K (.type "str") (.type "list")=some false:=by kernel_rfl
theorem Qru{K:Gc}:PySem.W.kitOne K (.type "str") (.type "tuple")=some false:=by kernel_rfl
theorem Qv4{K:Gc}:PySem.W.kitOne K (.type "int") (.type "list")=some false:=by kernel_rfl
theorem Qqt{K:Gc}:PySem.W.kitOne K (.type "int") (.type "tuple")=some false:=by kernel_rfl
theorem Qwf{K:Gc}:PySem.W.kitOne K (.type "bool") (.type "list")=some false:=by kernel_rfl
theorem Qv2{K:Gc}:PySem.W.kitOne K (.type "bool") (.type "tuple")=some false:=by kernel_rfl
theorem Qwn{K:Gc}:PySem.W.kitOne K (.type "NoneType") (.type "list")=some false:=by kernel_rfl
theorem Qwk{K:Gc}:PySem.W.kitOne K (.type "NoneType") (.type "tuple")=some false:=by kernel_rfl
end L2
namespace PySem
section
variable{prog:Program}{w:World}{A:Around}{E:Value->Shared->Prop}{s:Shared}
open PyProof.Rows
def Heap.Qi7(h:Heap)(a l:Addr)(i:Int):Prop:=∃o,h.get? a=some o/\o.cls=.type "reversed"/\o.data=.fields #[.ref l,rawInt i]
theorem Heap.Qi7.at{h h':Heap}{a l:Addr}{i:Int}(x:h.Qi7 a l i)(e:∀o,h.get? a=some o->h'.get? a=some o):h'.Qi7 a l i:=let⟨o,b,r⟩:=x;⟨o,e _ b,r⟩
end
section
variable{prog:Program}{w:World}{K:Type}[DecidableEq K]{knd:HeapKind prog w K}{A:Around}{E:Value->Shared->Prop}{s:Shared}
theorem Vs{d a:Addr}{xs:List (K×Addr×Value)}{k:K}{dflt:Value}{Q:Value->Shared->Prop}(u:knd.room A)(b:knd.is s.heap k a)(B:s.heap.DictOfH knd d xs)
  (c:∀p,atKey xs k=some p->Q p.2 {s with toks:=s.toks+knd.draws k})
  (l:atKey xs k=none->∀h',h'.DictOfH knd d (xs++[(k,a,dflt)])->Heap.SameBut d s.heap h'->Q dflt {s with heap:=h',toks:=s.toks+knd.draws k})
  (hsz:xs.length<=sizeLine):
  wpAny (model prog w) A (dictSetDefault d (.ref a) dflt) Q E s:=by
 obtain⟨o,es,ep,h,z,hd,q,i,r⟩:=B
 unfold dictSetDefault
 try with_reducible refine Dj ?_
 refine Ga (knd.pyHash u b ?_)
 refine Ga (wpAny_dictFind_heap (s:={s with toks:=s.toks+knd.draws k}) u b h hd q i r ?_ ?_)
 ·intro m
  have n:k∉xs.map (·.1):=not_mem_keys_of_get m
  have g:=atKey_none_of_get m
  refine Ga (Si (Ga (wpAny_updateDictKeys (hz:=by have e:=size_of_entries q;omega) (s:={s with toks:=s.toks+knd.draws k}) h hd (Gf (l g _ ⟨_,_,ep+1,T9 _ h (Obj.isFreed_of_dict (Obj.data_mapDictKeys hd _)),
   z.mapDictKeys _,Obj.data_mapDictKeys hd _,?_,?_,?_⟩ (Dk ..))))))
  ·simp[q,entryOfKey]
  ·intro x f
   rcases Gd.mp f with f|f
   ·exact knd.keeps (i x f) h hd (Dk ..)
   ·simp only[Gx]at f
    subst f
    exact knd.keeps b h hd (Dk ..)
  ·rw[Tt,Df]
   refine⟨r,by simp,?_⟩
   intro x f y v
   simp only[GO,EA,Gx]at v
   subst v
   exactλe=>n (e▸f)
 ·intro j p t
  have g:=atKey_of_get r t
  refine Ga (DG (s:={s with toks:=s.toks+knd.draws k}) h hd ?_)
  rw[entry_at q j,t]
  exact Ga (Si (Gf (c p g)))
theorem Wj(knd:HeapKind prog w K)(d a:Addr)(hd:(d==sysModules)=false)(dflt:Value):
  MeetsIn prog w (Builtin.«dict.setdefault» ⟨[.ref d,.ref a,dflt],[]⟩) (λA R s=>knd.room A.in1/\∃k xs,knd.is s.heap k a/\s.heap.DictOfH knd d xs/\xs.length<=sizeLine/\
   (∀p,atKey xs k=some p->R (.ok (.ret p.2)) {s with toks:=s.toks+knd.draws k})/\
   (atKey xs k=none->∀h',h'.DictOfH knd d (xs++[(k,a,dflt)])->Heap.SameBut d s.heap h'->R (.ok (.ret dflt)) {s with heap:=h',toks:=s.toks+knd.draws k})):=
 .of_wp λA R s⟨h,k,xs,b,f,hz,h1,h2⟩=>by
  unfold Builtin.«dict.setdefault»
  refine Ga ?_
  unfold Builtin.Dict.keyAndDefault
  refine Ga (Sf f.typeIs ?_)
  show wpAny _ _ (pure (d,Value.ref a,some dflt)) _ _ s
  refine Gf ?_
  show wpAny _ _ (if(d==sysModules)=true then _ else(dictSetDefault d (.ref a) dflt>>=_)) _ _ s
  rw[Gj (by rw[hd];exact GV)]
  exact Ga (Vs h b f (λp i=>Gf ⟨p.2,Xb,h1 p i⟩) (λg h' c e=>Gf ⟨dflt,Xb,h2 g h' c e⟩) hz)
end
end PySem
namespace L2
open PySem PySem.Spec PyProof.Rows
section
variable{X:Cx}{tg:Expr}
def Qtf:V->List V->Hp->VK->Prop:=λx vs H Q=>∃d b a kvs k,x=.ref d/\vs=[.ref b,a]/\H d=some (.dT kvs)/\H b=some (.tup (k.map kV))/\kvs.length<sizeLine/\
 (∀v,Yu kvs k=some v->Q v H)/\(Yu kvs k=none->Q a (upd H d (.dT (kvs++[(k,a)]))))
theorem Qnm(G:X.A.units+1<cLine):MtR X "dict.setdefault" Qtf:=by
 intro pins s σ H x vs v us Q I N rv h
 obtain⟨d,b,i,kvs,k,rfl,rfl,e,l,hz,K,L⟩:=h
 cases(show v=Value.ref d from N)
 obtain⟨O,r,rfl,M,o⟩:=vals2 rv
 cases(show O=Value.ref b from M)
 obtain⟨z,hd,xs,rel,j⟩:=Quz I.Zy e
 have J:kvs.length=xs.length:=Gs rel
 refine call_meetsIn E7 j.typeIs E1 (ER _ _ _) (Wj (tupleKind (Yh X.prog X.w)) d b hd r) ⟨EB G,k,xs,Qag I.Zy l,j,by omega,λp D=>?_,λC h' g E=>?_⟩
 ·have a:=rel.val k
  rw[D]at a
  cases q:Yu kvs k with
  |none=>rw[q]at a;exact(show False from a).elim
  |some y=>
   rw[q]at a
   exact⟨y,H,I.tok _,a,K y q⟩
 ·have a:=rel.val k
  rw[C]at a
  cases q:Yu kvs k with
  |some y=>rw[q]at a;exact(show False from a).elim
  |none=>
   obtain⟨ob,es,ep,n,h2,t,u,_,B⟩:=g
   have f:KT H (kvs++[(k,i)]) (xs++[(k,b,r)]):=DO rel ⟨Xb,l,o⟩
   refine⟨i,_,Ig (ob:=.dT (kvs++[(k,i)])) I (by rw[e];exact True.intro) E ⟨ob,n⟩ ⟨by rw[Gk,Gv];omega,hd,_,f.keeps λc ys m=>?_,ob,es,ep,n,h2,t,u,B⟩,o,L q⟩
   rw[Qf (Zu m e (λz=>nomatch z))]
   exact m
end
theorem Qg{H:Hp}{p:Addr}(h:H p=none)(o:HO):Q3 H (upd H p o):=λb u q=>by rw[Qf (Qc q h)];exact q
theorem nd1(x:Str):[x].Nodup:=by simp
theorem small{n:Nat}(h:n<=16000000):n<=sizeLine:=by rw[Td];omega
end L2
namespace Sb
open PySem
inductive Th where
 |mk (w:Str) (ps:List Th)
mutual
def Th.size:Th->Nat
 |.mk _ ps=>Qw ps+1
def Qw:List Th->Nat
 |[]=>0
 |p::r=>p.size+Qw r
end
mutual
def Th.depth:Th->Nat
 |.mk _ ps=>X5 ps+1
def X5:List Th->Nat
 |[]=>0
 |p::r=>max p.depth (X5 r)
end
mutual
def Th.inside:Th->List Th
 |.mk w ps=>Zo ps++[.mk w ps]
def Zo:List Th->List Th
 |[]=>[]
 |p::r=>p.inside++Zo r
end
mutual
def Th.toD:Th->PyData
 |.mk w ps=>.tuple (.str w::X0 ps)
def X0:List Th->List PyData
 |[]=>[]
 |p::r=>p.toD::X0 r
end
mutual
def Th.ok:Th->Bool
 |.mk w ps=>PyData.strOk w&&okL ps
def okL:List Th->Bool
 |[]=>true
 |p::r=>p.ok&&okL r
end
def Iq(w:Str):Bool:=PyData.strOk w&&decide (w.length<=200)
theorem Iq.str{w:Str}(h:Iq w=true):PyData.strOk w=true:=(EH.mp h).1
theorem Iq.len{w:Str}(h:Iq w=true):w.length<=200:=T3 (EH.mp h).2
mutual
def Th.short:Th->Bool
 |.mk w ps=>decide (w.length<=200)&&Oz ps
def Oz:List Th->Bool
 |[]=>true
 |p::r=>p.short&&Oz r
end
def Th.word:Th->Str
 |.mk w _=>w
def Th.parts:Th->List Th
 |.mk _ ps=>ps
theorem Qa8:∀ts:List Th,okL ts=ts.all Th.ok
 |[]=>by simp[okL]
 |t::r=>by simp[okL,Qa8 r]
mutual
theorem Qj6:∀t:Th,t.inside.length=t.size
 |.mk w ps=>by simp[Th.inside,Th.size,Vv ps]
theorem Vv:∀ts:List Th,(Zo ts).length=Qw ts
 |[]=>by simp[Zo,Qw]
 |p::r=>by simp[Zo,Qw,Qj6 p,Vv r]
end
theorem Qcg(t:Th):1<=t.size:=by cases t;simp[Th.size]
theorem O9(t:Th):1<=t.depth:=by cases t;simp[Th.depth]
theorem Vh:∀{ts:List Th}{t:Th},t∈ts->t.depth<=X5 ts
 |p::r,t,h=>by
  rcases Gu.mp h with rfl|h
  ·simp only[X5];omega
  ·have:=Vh h
   simp only[X5]
   omega
theorem Zz:∀ts:List Th,ts.length<=Qw ts
 |[]=>by simp[Qw]
 |p::r=>by
  have:=Qcg p
  have:=Zz r
  simp only[Qw,Tb]
  omega
mutual
theorem Qhd:∀(t:Th){s:Th},s∈t.inside->s.size<=t.size
 |.mk w ps,s,h=>by
  simp only[Th.inside,Gd,Gx]at h
  rcases h with h|rfl
  ·have:=Ru ps h
   simp only[Th.size]
   omega
  ·exact Gr _
theorem Ru:∀(ts:List Th){s:Th},s∈Zo ts->s.size<=Qw ts
 |p::r,s,h=>by
  simp only[Zo,Gd]at h
  rcases h with h|h
  ·have:=Qhd p h
   simp only[Qw]
   omega
  ·have:=Ru r h
   simp only[Qw]
   omega
 |[],s,h=>by simp[Zo]at h
end
theorem Ql1(t:Th):t∈t.inside:=by cases t;simp[Th.inside]
theorem Xi:∀ts:List Th,Zo ts=ts.flatMap Th.inside
 |[]=>by simp[Zo]
 |p::r=>by simp[Zo,Xi r]
theorem Que{x y:Str}:(x==y)=decide (x=y):=by
 by_cases h:x=y
 ·subst h;simp
 ·simp[h]
mutual
theorem U3:∀s t:Th,PyData.eqv s.toD t.toD=true↔s=t
 |.mk w ps,.mk v a=>by
  simp only[Th.toD,PyData.eqv,PyData.eqvAll,TD,Th.mk.injEq]
  rw[Qij ps a,Que,decide_eq_true_iff]
theorem Qij:∀a ts:List Th,PyData.eqvAll (X0 a) (X0 ts)=true↔a=ts
 |[],[]=>by simp[X0,PyData.eqvAll]
 |[],t::r=>by simp[X0,PyData.eqvAll]
 |s::r,[]=>by simp[X0,PyData.eqvAll]
 |s::r,t::q=>by
  simp only[X0,PyData.eqvAll,TD,Tx]
  rw[U3 s t,Qij r q]
end
instance:DecidableEq Th:=λs t=>if h:PyData.eqv s.toD t.toD=true then .isTrue ((U3 s t).mp h)else .isFalse λe=>h ((U3 s t).mpr e)
theorem Qs5(s t:Th):PyData.eqv s.toD t.toD=decide (s=t):=by
 by_cases h:s=t
 ·rw[Tp h];exact(U3 s t).mpr h
 ·rw[Tg h]
  exact Lb.mpr λe=>h ((U3 s t).mp e)
mutual
theorem Qab:∀t:Th,t.ok=true->t.toD.canLay0=true
 |.mk w ps,h=>by
  simp only[Th.ok,TD]at h
  simp only[Th.toD,PyData.canLay0,PyData.canLayAll0,TD]
  exact⟨h.1,Qf5 ps h.2⟩
theorem Qf5:∀ts:List Th,okL ts=true->PyData.canLayAll0 (X0 ts)=true
 |[],_=>by simp[X0,PyData.canLayAll0]
 |t::r,h=>by
  simp only[okL,TD]at h
  simp only[X0,PyData.canLayAll0,TD]
  exact⟨Qab t h.1,Qf5 r h.2⟩
end
mutual
theorem Vg:∀t:Th,t.toD.depth=t.depth
 |.mk w ps=>by
  simp only[Th.toD,PyData.depth,PyData.depthAll,Th.depth,Qb2 ps]
  omega
theorem Qb2:∀ts:List Th,PyData.depthAll (X0 ts)=X5 ts
 |[]=>by simp[X0,PyData.depthAll,X5]
 |t::r=>by simp[X0,PyData.depthAll,X5,Vg t,Qb2 r]
end
def Xg(acc:List Th)(xs:List Th):List Th:=xs.foldl (λacc x=>if x∈acc then acc else acc++[x]) acc
theorem Jp(acc:List Th):Xg acc []=acc:=rfl
theorem Ia(acc:List Th)(x:Th)(r:List Th):Xg acc (x::r)=Xg (if x∈acc then acc else acc++[x]) r:=rfl
theorem Vu(acc xs ys:List Th):Xg acc (xs++ys)=Xg (Xg acc xs) ys:=by
 unfold Xg;rw[List.foldl_append]
theorem Qnt(acc xs:List Th)(y:Th):Xg acc (xs++[y])=if y∈Xg acc xs then Xg acc xs else Xg acc xs++[y]:=by
 rw[Vu];rfl
theorem Qcw:∀(xs acc:List Th)(y:Th),y∈Xg acc xs↔y∈acc\/y∈xs
 |[],acc,y=>by simp[Jp]
 |x::r,acc,y=>by
  rw[Ia,Qcw r]
  by_cases h:x∈acc
  ·rw[Gp h]
   constructor
   ·rintro(h1|h1)
    ·exact .inl h1
    ·exact .inr (Gm _ h1)
   ·rintro(h1|h1)
    ·exact .inl h1
    ·rcases Gu.mp h1 with rfl|h1
     ·exact .inl h
     ·exact .inr h1
  ·rw[Gj h]
   simp only[Gd,Gu,T1,Eu]
   constructor
   ·rintro((h1|h1)|h1)
    ·exact .inl h1
    ·exact .inr (.inl h1)
    ·exact .inr (.inr h1)
   ·rintro(h1|h1|h1)
    ·exact .inl (.inl h1)
    ·exact .inl (.inr h1)
    ·exact .inr h1
theorem Qe3:∀(xs acc:List Th),(∀x∈xs,x∈acc)->Xg acc xs=acc
 |[],_,_=>rfl
 |x::r,acc,h=>by
  rw[Ia,Gp (h x GJ)]
  exact Qe3 r acc λy a=>h y (Gm _ a)
theorem Qdp:∀(xs acc:List Th),(Xg acc xs).length<=acc.length+xs.length
 |[],acc=>by simp[Jp]
 |x::r,acc=>by
  rw[Ia]
  have:=Qdp r (if x∈acc then acc else acc++[x])
  split at this
  ·rename_i h
   rw[Gp h]
   simp only[Tb]
   omega
  ·rename_i h
   rw[Gj h]
   simp only[Gk,Tb,Sw]at this⊢
   omega
def Vi(ts:List Th):Prop:=∀t∈ts,∀s∈t.inside,s∈ts
theorem Qjo:Vi []:=λ_ h=>by simp at h
theorem Quj{ts:List Th}{t:Th}(h:Vi ts)(a:t∈ts):Xg ts t.inside=ts:=Qe3 _ _ λx b=>h t a x b
theorem W3:∀(xs acc:List Th),∃m,Xg acc xs=acc++m
 |[],acc=>⟨[],by simp[Jp]⟩
 |x::r,acc=>by
  rw[Ia]
  split
  ·exact W3 r acc
  ·obtain⟨m,e⟩:=W3 r (acc++[x])
   exact⟨x::m,by rw[e];simp⟩
def Qcu(t:Th):List Str:=t.word::t.parts.map Th.word
end Sb
namespace L2
open PySem PySem.Spec PyProof.Rows
theorem Qjw(x:V)(vs:List V):Uj (x::vs) (some 1) none=vs:=by
 have e:HT.Wb (x::vs).length 0 (some 1)=1:=by
  have q:=HT.Rz (x::vs).length 0 1
  rw[Tb]at q⊢
  refine q.trans ?_
  omega
 unfold Uj
 rw[e,HT.Ro]
 simp
theorem V7(x:V)(vs:List V):¬(HT.Wb (x::vs).length 0 (some 1)=0/\HT.Wb (x::vs).length (x::vs).length none=(x::vs).length):=by
 have e:HT.Wb (x::vs).length 0 (some 1)=1:=by
  have q:=HT.Rz (x::vs).length 0 1
  rw[Tb]at q⊢
  refine q.trans ?_
  omega
 rw[e]
 rintro⟨h,_⟩
 exact absurd h (by decide)
end L2
namespace Sb
open PySem PySem.Spec PyProof.Rows L2
mutual
inductive Yl(H:Hp):V->Th->Prop
 |mk {a:Addr} {w:Str} {vs:List V} {ps:List Th}:H a=some (.tup (.str w::vs))->Zn H vs ps->Yl H (.ref a) (.mk w ps)
inductive Zn(H:Hp):List V->List Th->Prop
 |nil:Zn H [] []
 |cons {v:V} {vs:List V} {t:Th} {ts:List Th}:Yl H v t->Zn H vs ts->Zn H (v::vs) (t::ts)
end
def Qu(H H':Hp):Prop:=∀b xs,H b=some (.tup xs)->H' b=some (.tup xs)
theorem Qu.of{H H':Hp}(e:Q3 H H'):Qu H H':=λb xs h=>e b _ h
theorem Qu.trans{H H1 H2:Hp}(a:Qu H H1)(b:Qu H1 H2):Qu H H2:=λc xs h=>b c xs (a c xs h)
theorem Zr{H:Hp}{a:Addr}{o:HO}(h:∀xs,H a≠some (.tup xs)):Qu H (upd H a o):=λb xs e=>by
 by_cases hb:b=a
 ·subst hb;exact absurd e (h xs)
 ·rw[Qf hb];exact e
mutual
theorem Yl.Qm{H H':Hp}(e:Qu H H'):∀{v:V}{t:Th},Yl H v t->Yl H' v t
 |_,_,.mk h r=>.mk (e _ _ h) (Zn.Qm e r)
theorem Zn.Qm{H H':Hp}(e:Qu H H'):∀{vs:List V}{ts:List Th},Zn H vs ts->Zn H' vs ts
 |_,_,.nil=>.nil
 |_,_,.cons h r=>.cons (Yl.Qm e h) (Zn.Qm e r)
end
theorem Yl.same{H H':Hp}(e:Q3 H H'){v:V}{t:Th}(h:Yl H v t):Yl H' v t:=h.Qm (Qu.of e)
theorem Zn.same{H H':Hp}(e:Q3 H H'){vs:List V}{ts:List Th}(h:Zn H vs ts):Zn H' vs ts:=h.Qm (Qu.of e)
mutual
theorem Yl.dt{H:Hp}:∀{v:V}{t:Th},Yl H v t->Dt H v t.toD
 |_,_,.mk (w:=w) (ps:=ps) h r=>by
  have e:(Th.mk w ps).toD=.tuple (.str w::X0 ps):=by simp[Th.toD]
  rw[e]
  exact .tup h (.cons (.str w) (Zn.dts r))
theorem Zn.dts{H:Hp}:∀{vs:List V}{ts:List Th},Zn H vs ts->Rg H vs (X0 ts)
 |_,_,.nil=>by simp only[X0];exact .nil
 |_,_,.cons h r=>by simp only[X0];exact .cons (Yl.dt h) (Zn.dts r)
end
theorem Yl.inv{H:Hp}{v:V}{t:Th}(h:Yl H v t):∃a w vs ps,v=.ref a/\t=.mk w ps/\H a=some (.tup (.str w::vs))/\Zn H vs ps:=by
 cases h with
 |mk h r=>exact⟨_,_,_,_,Xb,Xb,h,r⟩
theorem Zn.length{H:Hp}:∀{vs:List V}{ts:List Th},Zn H vs ts->vs.length=ts.length
 |_,_,.nil=>rfl
 |_,_,.cons _ t=>by rw[Tb,Tb,t.length]
theorem Zn.append{H:Hp}:∀{vs us:List V}{ts a:List Th},Zn H vs ts->Zn H us a->Zn H (vs++us) (ts++a)
 |_,_,_,_,.nil,t=>t
 |_,_,_,_,.cons h r,t=>.cons h (r.append t)
theorem Zn.one{H:Hp}{v:V}{t:Th}(h:Yl H v t):Zn H [v] [t]:=.cons h .nil
theorem Zn.get{H:Hp}:∀{vs:List V}{ts:List Th}{i:Nat}{v:V},Zn H vs ts->vs[i]?=some v->∃t,ts[i]?=some t/\Yl H v t
 |_,_,_,_,.nil,e=>by simp at e
 |_,_,0,_,.cons h _,e=>by
  simp at e
  subst e
  exact⟨_,Xb,h⟩
 |_,_,i+1,_,.cons _ t,e=>by
  obtain⟨d,h1,h2⟩:=Zn.get (i:=i) t (by simpa using e)
  exact⟨d,by simpa using h1,h2⟩
theorem Zn.at{H:Hp}{vs:List V}{ts:List Th}{i:Nat}{t:Th}(h:Zn H vs ts)(e:ts[i]?=some t):∃v,vs[i]?=some v/\Yl H v t:=by
 have hi:i<ts.length:=(Ge.mp e).1
 have a:i<vs.length:=by rw[h.length];exact hi
 obtain⟨t',h1,h2⟩:=h.get (Gg a)
 rw[e]at h1
 cases h1
 exact⟨_,Gg a,h2⟩
mutual
def Wn:PyData->Nat
 |.none=>1|.bool _=>1|.int _=>1|.str _=>1
 |.list xs=>Zl xs+1
 |.tuple xs=>Zl xs+1
 |.dict _=>1
def Zl:List PyData->Nat
 |[]=>0
 |x::r=>Wn x+Zl r
end
theorem Qd6(d:PyData):1<=Wn d:=by cases d<;>simp[Wn]
theorem Xu:∀xs ys:List PyData,Zl (xs++ys)=Zl xs+Zl ys
 |[],ys=>by simp[Zl]
 |x::r,ys=>by simp only[TM,Zl,Xu r ys];omega
theorem V4:∀xs:List PyData,xs.length<=Zl xs
 |[]=>by simp[Zl]
 |x::r=>by
  have:=Qd6 x
  have:=V4 r
  simp only[Zl,Tb]
  omega
mutual
theorem Qbz:∀t:Th,Wn t.toD=2*t.size
 |.mk w ps=>by simp only[Th.toD,Wn,Zl,Th.size,Qes ps];omega
theorem Qes:∀ts:List Th,Zl (X0 ts)=2*Qw ts
 |[]=>by simp[X0,Zl,Qw]
 |t::r=>by simp only[X0,Zl,Qw,Qbz t,Qes r];omega
end
theorem Jl:∀(ts:List Th)(n:Nat),(∀t∈ts,t.size<=n)->Qw ts<=ts.length*n
 |[],n,_=>by simp[Qw]
 |t::r,n,h=>by
  have h1:=h t GJ
  have h2:=Jl r n λs a=>h s (Gm _ a)
  simp only[Qw,Tb]
  rw[Ew]
  omega
structure Drawn(ts:List Th)(m:Nat):Prop where
 len:ts.length=3+m
 ok:∀t∈ts,t.ok=true
 dep:∀(j:Nat)t,ts[j]?=some t->t.depth<=j+1
 one:∀(j:Nat)t,ts[j]?=some t->j<=2->t.size<=1
 two:∀(j:Nat)t,ts[j]?=some t->j<=3->t.size<=4
 tri:∀(j:Nat)t,ts[j]?=some t->j<=4->t.size<=10
 any:∀(j:Nat)t,ts[j]?=some t->t.size<=12*j+1
 sh:∀t∈ts,t.short=true
 tab:ts[1]?=some (.mk "tab" [])
 cl:∀t∈ts,∀p∈t.parts,p∈ts
def Qlx(K:Gc):Sp:=λvs H Q _=>∃(a:Addr)(ns:List Int),vs=[.ref a]/\Zd K H a (ns.map V.int)/\ns.length<=63/\
 ∀(r:Addr)(us:List V)(ts:List Th)(H':Hp),Q3 H H'->H r=none->H' r=some (.lst us)->Zn H' us ts->Drawn ts ns.length->Q (.ref r) H'
def Qqa:Sp:=λvs H Q _=>∃(n:Int),vs=[.int n]/\∀(x:Str),Iq x=true->Q (.str x) H
def Qye:Sp:=λvs H Q _=>∃(x y:V)(d:PyData),vs=[x,y]/\Dt H x d/\Dt H y d/\d.canLay0=true/\Wn d<=1000000/\d.depth<=60/\
 ∀(H':Hp),Q3 H H'->Q (.bl true) H'
def Qk1(K:Gc):Sp:=λvs H Q _=>∃(a:Addr)(ns:List Int),vs=[.ref a]/\Zd K H a (ns.map V.int)/\ns.length<=63/\∀H',Q (.bl true) H'
end Sb
namespace L2
open PySem PySem.Spec PyProof.Rows
inductive KD where
 |int (i:Int)
 |str (x:Str)
 |tup (xs:List KD)
mutual
def KD.toD:KD->PyData
 |.int i=>.int i
 |.str x=>.str x
 |.tup xs=>.tuple (V5 xs)
def V5:List KD->List PyData
 |[]=>[]
 |x::r=>x.toD::V5 r
end
mutual
def KD.depth:KD->Nat
 |.int _=>0
 |.str _=>0
 |.tup xs=>Jw xs+1
def Jw:List KD->Nat
 |[]=>0
 |x::r=>max x.depth (Jw r)
end
mutual
def KD.hash(w:World):KD->Int
 |.int i=>hashInt i
 |.str x=>hashStr w x
 |.tup xs=>reduceHash (Builtin.Tuple.tupleHashOf (Vq w xs))
def Vq(w:World):List KD->List Int
 |[]=>[]
 |x::r=>x.hash w::Vq w r
end
mutual
def KD.draws:KD->Nat
 |.int _=>1
 |.str _=>1
 |.tup xs=>Xp xs+1
def Xp:List KD->Nat
 |[]=>0
 |x::r=>x.draws+Xp r
end
theorem Qs2:∀xs:List KD,V5 xs=xs.map KD.toD
 |[]=>by simp[V5]
 |x::r=>by simp[V5,Qs2 r]
theorem Qdd(w:World):∀xs:List KD,Vq w xs=xs.map (KD.hash w)
 |[]=>by simp[Vq]
 |x::r=>by simp[Vq,Qdd w r]
theorem Jx:∀xs ys:List KD,Xp (xs++ys)=Xp xs+Xp ys
 |[],ys=>by simp[Xp]
 |x::r,ys=>by simp only[TM,Xp,Jx r ys];omega
theorem Qae:∀{xs:List KD}{x:KD},x∈xs->x.depth<=Jw xs
 |y::r,x,h=>by
  simp only[Jw]
  rcases Gu.mp h with rfl|h
  ·omega
  ·have:=Qae h
   omega
mutual
theorem Qdr:∀a b:KD,PyData.eqv a.toD b.toD=true↔a=b
 |.int i,.int j=>by simp[KD.toD,PyData.eqv]
 |.int i,.str y=>by simp[KD.toD,PyData.eqv]
 |.int i,.tup ys=>by simp[KD.toD,PyData.eqv]
 |.str x,.int j=>by simp[KD.toD,PyData.eqv]
 |.str x,.str y=>by simp[KD.toD,PyData.eqv]
 |.str x,.tup ys=>by simp[KD.toD,PyData.eqv]
 |.tup xs,.int j=>by simp[KD.toD,PyData.eqv]
 |.tup xs,.str y=>by simp[KD.toD,PyData.eqv]
 |.tup xs,.tup ys=>by simp only[KD.toD,PyData.eqv,KD.tup.injEq];exact Qly xs ys
theorem Qly:∀xs ys:List KD,PyData.eqvAll (V5 xs) (V5 ys)=true↔xs=ys
 |[],[]=>by simp[V5,PyData.eqvAll]
 |[],_::_=>by simp[V5,PyData.eqvAll]
 |_::_,[]=>by simp[V5,PyData.eqvAll]
 |x::r,y::q=>by
  simp only[V5,PyData.eqvAll,TD,Tx]
  rw[Qdr x y,Qly r q]
end
instance:DecidableEq KD:=λa b=>if h:PyData.eqv a.toD b.toD=true then .isTrue ((Qdr a b).mp h)else .isFalse λe=>h ((Qdr a b).mpr e)
theorem Qjh(a b:KD):PyData.eqv a.toD b.toD=decide (a=b):=by
 by_cases h:a=b
 ·rw[Tp h];exact(Qdr a b).mpr h
 ·rw[Tg h]
  exact Lb.mpr λe=>h ((Qdr a b).mp e)
mutual
theorem Rw:∀a:KD,a.toD.depth=a.depth
 |.int _=>by simp[KD.toD,PyData.depth,KD.depth]
 |.str _=>by simp[KD.toD,PyData.depth,KD.depth]
 |.tup xs=>by simp only[KD.toD,PyData.depth,KD.depth,Qe9 xs]
theorem Qe9:∀xs:List KD,PyData.depthAll (V5 xs)=Jw xs
 |[]=>by simp[V5,PyData.depthAll,Jw]
 |x::r=>by simp only[V5,PyData.depthAll,Jw,Rw x,Qe9 r]
end
theorem Ih{h:Heap}{v:Value}{xs:List PyData}{b:List Addr}(r:Reads h v (.tuple xs) b):∃a o vs n,v=.ref a/\h.get? a=some o/\o.cls=.type "tuple"/\o.data=.seq vs n/\ReadsAll h vs.toList xs b:=by
 cases r with
 |tuple h1 h2 c d=>exact⟨_,_,_,_,Xb,h1,h2,c,d⟩
mutual
theorem Qfb{h h':Heap}{d:Addr}{o:Obj}{es:Array DictEntry}{ep:Nat}(f:h.get? d=some o)(hd:o.data=.dict es ep)(g:Heap.SameBut d h h'):∀{v:Value}{x:PyData}{k:List Addr},Reads h v x k->x.canLay0=true->Reads h' v x k
 |_,_,_,.none,_=>.none
 |_,_,_,.bool b,_=>.bool b
 |_,_,_,.int i t,_=>.int i t
 |_,_,_,.str x t,_=>.str x t
 |_,_,_,.list (a:=a) h1 h2 c j,e=>by
  simp only[PyData.canLay0]at e
  refine .list ((g.2 a ?_).trans h1) h2 c (Uy f hd g j e)
  rintro rfl
  rw[f]at h1;cases h1;rw[hd]at c;cases c
 |_,_,_,.tuple (a:=a) h1 h2 c j,e=>by
  simp only[PyData.canLay0]at e
  refine .tuple ((g.2 a ?_).trans h1) h2 c (Uy f hd g j e)
  rintro rfl
  rw[f]at h1;cases h1;rw[hd]at c;cases c
 |_,_,_,.dict _ _ _ _ _,e=>by simp[PyData.canLay0]at e
theorem Uy{h h':Heap}{d:Addr}{o:Obj}{es:Array DictEntry}{ep:Nat}(c:h.get? d=some o)(hd:o.data=.dict es ep)(e:Heap.SameBut d h h'):∀{vs:List Value}{xs:List PyData}{b:List Addr},ReadsAll h vs xs b->PyData.canLayAll0 xs=true->ReadsAll h' vs xs b
 |_,_,_,.nil,_=>.nil
 |_,_,_,.cons h1 h2,a=>by
  simp only[PyData.canLayAll0,TD]at a
  exact .cons (Qfb c hd e h1 a.1) (Uy c hd e h2 a.2)
end
mutual
theorem Qe0{h:Heap}:∀(a b:KD){v:Value}{f bs:List Addr},Reads h v a.toD f->Reads h v b.toD bs->a=b
 |.int i,.int j,_,_,_,r,q=>by simp only[KD.toD]at r q;cases r;cases q;rfl
 |.int i,.str y,_,_,_,r,q=>by simp only[KD.toD]at r q;cases r;cases q
 |.int i,.tup ys,_,_,_,r,q=>by simp only[KD.toD]at r q;cases r;cases q
 |.str x,.int j,_,_,_,r,q=>by simp only[KD.toD]at r q;cases r;cases q
 |.str x,.str y,_,_,_,r,q=>by simp only[KD.toD]at r q;cases r;cases q;rfl
 |.str x,.tup ys,_,_,_,r,q=>by simp only[KD.toD]at r q;cases r;cases q
 |.tup xs,.int j,_,_,_,r,q=>by simp only[KD.toD]at r q;cases q;cases r
 |.tup xs,.str y,_,_,_,r,q=>by simp only[KD.toD]at r q;cases q;cases r
 |.tup xs,.tup ys,_,_,_,r,q=>by
  simp only[KD.toD]at r q
  obtain⟨a,o,vs,n,rfl,h1,h2,g,k⟩:=Ih r
  obtain⟨p,o',m,t,e,c,s,d,l⟩:=Ih q
  cases e
  rw[h1]at c;cases c
  rw[g]at d;cases d
  rw[R4 xs ys k l]
theorem R4{h:Heap}:∀(xs ys:List KD){vs:List Value}{b bs:List Addr},ReadsAll h vs (V5 xs) b->ReadsAll h vs (V5 ys) bs->xs=ys
 |[],[],_,_,_,_,_=>rfl
 |[],y::q,_,_,_,r,t=>by simp only[V5]at r t;cases r;cases t
 |x::a,[],_,_,_,r,t=>by simp only[V5]at r t;cases t;cases r
 |x::a,y::q,_,_,_,r,t=>by
  simp only[V5]at r t
  cases r with
  |cons h1 h2=>
   cases t with
   |cons c d=>rw[Qe0 x y h1 c,R4 a q h2 d]
end
section
variable{prog:Program}{w:World}
mutual
theorem Qeb:∀(k:KD){A:Around}{E:Value->Shared->Prop}{s:Shared}{v:Value}{j:List Addr}{Q:Int->Shared->Prop},A.units+k.depth<cLine->Reads s.heap v k.toD j->Q (k.hash w) {s with toks:=s.toks+k.draws}->
  wpAny (model prog w) A (pyHash v) Q E s
 |.int i,A,E,s,v,j,Q,_,r,h=>by
  simp only[KD.toD]at r
  cases r
  simp only[KD.hash,KD.draws]at h
  exact wpAny_pyHash_int h
 |.str x,A,E,s,v,j,Q,_,r,h=>by
  simp only[KD.toD]at r
  cases r
  simp only[KD.hash,KD.draws]at h
  exact wpAny_pyHash_str h
 |.tup xs,A,E,s,v,j,Q,D,r,h=>by
  simp only[KD.toD]at r
  simp only[KD.depth]at D
  simp only[KD.hash,KD.draws]at h
  obtain⟨a,o,u,n,rfl,z,C,hd,hi⟩:=Ih r
  have p:s.TypeIs (.ref a) "tuple":=⟨o,z,C⟩
  have m:=λ(k:KD)(y:k∈xs)=>@Qdh xs k y
  unfold pyHash
  first|unfold pyHashByItsType|skip
  first|refine Ga (wpAny_cRoomFor_or (.inr (by omega)) ?_)|skip
  refine Ga (DS p E8.lookup ?_)
  show wpAny _ _ (if(some (Value.builtin "tuple.__hash__")==some Value.none)=true then _ else _) Q E s
  rw[Gj (by rw[beq_builtin_none];exact GV)]
  refine Ga (DS p E8.lookup ?_)
  show wpAny _ _ (callSpecialIfBoundUnlessNone? (.ref a) "__hash__" _>>=_) Q E s
  refine Ga (wpAny_callSpecialIfBoundUnlessNone?_slot p E8 (TR E8 p F.entry_tuple_hash ?_ (F.args_tuple_hash_1 _)))
  show wpAny _ _ (Builtin.Tuple.tupleItemsOf (.ref a)>>=_) _ _ s
  refine Ga (wpAny_tupleItemsOf z hd ?_)
  refine Ga ?_
  rw[<-EY]
  refine wpAny_forIn_list _
   (λWz(b:Array Int)s'=>∃done left f,xs=done++left/\ReadsAll s.heap Wz (V5 left) f/\b.toList=Vq w done/\s'={s with toks:=s.toks+Xp done})
   _ ?_ ?_ _ _ ⟨[],xs,j,Xb,hi,Xb,Xb⟩
  ·rintro x Wz b s' ⟨done,left,f,rfl,g,hb,rfl⟩
   cases left with
   |nil=>simp only[V5]at g;cases g
   |cons k e=>
    simp only[V5]at g
    cases g with
    |cons h1 t=>
     have y:=Qae (xs:=done++k::e) (x:=k) (by simp)
     refine Ga (m k (by simp) (A:=A.in1) (s:={s with toks:=s.toks+Xp done}) (by show A.units+1+k.depth<cLine;omega) h1 ?_)
     have B:s.toks+Xp done+k.draws=s.toks+Xp (done++[k]):=by rw[Jx];simp only[Xp];omega
     have fin:∃c d l,done++k::e=c++d/\ReadsAll s.heap Wz (V5 d) l/\(b.push (k.hash w)).toList=Vq w c/\({s with toks:=s.toks+Xp done+k.draws}:Shared)={s with toks:=s.toks+Xp c}:=
      ⟨done++[k],e,_,by simp,t,by simp[hb,Qdd],by rw[B]⟩
     first
      |exact Gf fin
      |exact Ga (Gf (Gf fin))
  ·rintro b s' ⟨done,left,f,rfl,g,hb,rfl⟩
   cases left with
   |cons k e=>simp only[V5]at g;cases g
   |nil=>
    rw[Db]at h
    show wpAny _ _ (retInt (Builtin.Tuple.tupleHashOf b.toList)) _ _ _
    rw[hb]
    refine wpAny_ret_mkInt ?_
    show wpAny _ _ (if(decide (-(2:Int)^63<=Builtin.Tuple.tupleHashOf (Vq w done))&&decide (Builtin.Tuple.tupleHashOf (Vq w done)<2^63))=true then _ else _) Q E _
    unfold reduceHash at h
    by_cases q:(decide (-(2:Int)^63<=Builtin.Tuple.tupleHashOf (Vq w done))&&decide (Builtin.Tuple.tupleHashOf (Vq w done)<2^63))=true
    ·rw[Gp q]
     rw[Gp q]at h
     exact Gf (by simpa[Nat.add_assoc]using h)
    ·rw[Gj q]
     rw[Gj q]at h
     exact Ga (Si (Gf (by simpa[Nat.add_assoc]using h)))
theorem Qdh:∀(xs:List KD)(k:KD),k∈xs->∀{A:Around}{E:Value->Shared->Prop}{s:Shared}{v:Value}{b:List Addr}{Q:Int->Shared->Prop},A.units+k.depth<cLine->Reads s.heap v k.toD b->Q (k.hash w) {s with toks:=s.toks+k.draws}->
  wpAny (model prog w) A (pyHash v) Q E s
 |[],_,h=>by simp at h
 |x::r,k,h=>by
  intro h1 h2 a
  by_cases e:k=x
  ·rw[e]at h1 h2 a
   exact Qeb x h1 h2 a
  ·exact Qdh r k ((Gu.mp h).resolve_left e) h1 h2 a
end
mutual
theorem Qg0:∀(k:KD)(n:Nat){A:Around}{E:Value->Shared->Prop}{s:Shared}{v:Value}{d:List Addr}{Q:Bool->Shared->Prop},k.depth<=n->Reads s.heap v k.toD d->Q true s->wpAny (model prog w) A (eqIsQuiet n v) Q E s
 |.int i,n,A,E,s,v,d,Q,_,r,h=>by
  simp only[KD.toD]at r
  cases r
  rw[eqIsQuiet_byValue n rfl]
  exact Gf h
 |.str x,n,A,E,s,v,d,Q,_,r,h=>by
  simp only[KD.toD]at r
  cases r
  rw[eqIsQuiet_byValue n rfl]
  exact Gf h
 |.tup xs,0,A,E,s,v,d,Q,l,r,h=>by simp[KD.depth]at l
 |.tup xs,n+1,A,E,s,v,d,Q,l,r,h=>by
  simp only[KD.toD]at r
  simp only[KD.depth]at l
  obtain⟨a,o,c,m,rfl,y,B,hd,hi⟩:=Ih r
  have t:s.TypeIs (.ref a) "tuple":=⟨o,y,B⟩
  have f:=λ(k:KD)(u:k∈xs)(n:Nat)=>@Qe7 xs k u n
  unfold eqIsQuiet
  refine Ga (DS t F.slot_tuple_eq.lookup ?_)
  show wpAny _ _ (isInstance (.ref a) (.type "tuple")>>=_) _ _ s
  refine Ga (EK t isSubtype_tuple_tuple ?_)
  simp only[Bool.not_true,T4,DE]
  refine Ga (Do y hd ?_)
  refine Ga ?_
  show wpAny _ _ (forIn c _ _) _ _ s
  rw[<-EY]
  refine wpAny_forIn_list _ (λWz r s'=>r.1=none/\s'=s/\∃left e,(∀k∈left,k∈xs)/\ReadsAll s.heap Wz (V5 left) e) _ ?_ ?_ _ _ ⟨Xb,Xb,xs,d,λ_ z=>z,hi⟩
  ·rintro v Wz r s' ⟨p,rfl,left,e,b,g⟩
   cases left with
   |nil=>simp only[V5]at g;cases g
   |cons k q=>
    simp only[V5]at g
    cases g with
    |cons h1 j=>
     have u:=Qae (b k (by simp))
     refine Ga (f k (b k (by simp)) n (by omega) h1 ?_)
     simp only[Bool.not_true,T4,DE]
     exact Gf ⟨Xb,Xb,q,_,λz hz=>b z (Gm _ hz),j⟩
  ·rintro⟨C,D⟩ s' ⟨p,rfl,_⟩
   simp only at p
   subst p
   exact Gf h
theorem Qe7:∀(xs:List KD)(k:KD),k∈xs->∀(n:Nat){A:Around}{E:Value->Shared->Prop}{s:Shared}{v:Value}{b:List Addr}{Q:Bool->Shared->Prop},k.depth<=n->Reads s.heap v k.toD b->Q true s->wpAny (model prog w) A (eqIsQuiet n v) Q E s
 |[],_,h=>by simp at h
 |x::r,k,h=>by
  intro n _ _ _ _ _ _ h1 h2 a
  by_cases e:k=x
  ·rw[e]at h1 h2
   exact Qg0 x n h1 h2 a
  ·exact Qe7 r k ((Gu.mp h).resolve_left e) n h1 h2 a
end
def W6(prog:Program)(w:World):HeapKind prog w KD where
 is:=λh k a=>(∃c,Reads h (.ref a) k.toD c)/\k.toD.canLay0=true/\k.depth<=8
 hash:=KD.hash w
 draws:=KD.draws
 room:=λA=>A.units+10<cLine
 inj:=λ⟨⟨_,h1⟩,_⟩⟨⟨_,h2⟩,_⟩=>Qe0 _ _ h1 h2
 keeps:=λ⟨⟨c,h1⟩,h2,d⟩e hd f=>⟨⟨c,Qfb e hd f h1 h2⟩,h2,d⟩
 pyHash:=λ{A E s k a Q}g⟨⟨c,h1⟩,_,d⟩h=>Qeb k (by omega) h1 h
 eqBool:=λ{A E s x y a b Q}g⟨⟨c,h1⟩,h2,d⟩⟨⟨bs,i⟩,j,l⟩h=>PySem.SeqAt.eqAt_reads x.toD y.toD A s _ _ _ _ h1 i h2 j (by rw[Rw,Rw];omega) prog w E Q (by rw[Qjh];exact h)
 quiet:=λ{A E s k a Q}⟨⟨c,h1⟩,_,d⟩h=>Qg0 k 8 d h1 h
end
end L2
namespace PySem
def Heap.Jg(h:Heap)(d:Addr)(es:Array DictEntry)(ep:Nat):Prop:=∃o,h.get? d=some o/\o.ExactDict/\o.data=.dict es ep
section
variable{prog:Program}{w:World}{A:Around}{E:Value->Shared->Prop}{s:Shared}{d:Addr}{es:Array DictEntry}{ep:Nat}
theorem Heap.Jg.typeIs(x:s.heap.Jg d es ep):s.TypeIs (.ref d) "dict":=let⟨o,b,a,_⟩:=x;⟨o,b,a.1⟩
theorem Heap.Jg.at{h h':Heap}(x:h.Jg d es ep)(e:∀o,h.get? d=some o->h'.get? d=some o):h'.Jg d es ep:=let⟨o,a,r⟩:=x;⟨o,e _ a,r⟩
theorem Heap.Jg.lt{h:Heap}(x:h.Jg d es ep):d<h.objs.size:=let⟨_,a,_⟩:=x;Gw a
theorem Qo6{Q:Value->Shared->Prop}(hd:(d==sysModules)=false)(b:s.heap.Jg d es ep)(c:(es.size:Int)<2^63)
  (h:Q (.int es.size (s.toks+1)) {s with toks:=s.toks+1+1}):wpAny (model prog w) A (call (.builtin "len") [.ref d]) Q E s:=by
 obtain⟨o,e,f,a⟩:=id b
 refine S0 kind_len plain_len entry_len (args_len1 _) ?_
 unfold Builtin.«len»
 refine Ga (m:=oneArg "len" _) (Gf ?_)
 refine Ga (m:=callSpecial? (.ref d) (Str.ofString "__len__")) (T5 (name:=Str.ofString "__len__") b.typeIs F.slot_dict_len
  (TR F.slot_dict_len b.typeIs F.entry_dict_len ?_ (F.args_dict_len_1 _)))
 show wpAny _ _ (dictSize d>>=_) _ _ s
 unfold dictSize
 refine Ga (Ga (DG e a (Gf ?_)))
 show wpAny _ _ (Builtin.Dict.pendingCount d>>=_) _ _ s
 refine Ga (wpAny_pendingCount_other hd ?_)
 refine wpAny_ret_mkInt ?_
 rw[Fn]
 show wpAny _ _ _ _ _ {s with toks:=s.toks+1}
 refine Ga (Dj (Gf ?_))
 refine Ga (Lc ?_)
 show wpAny _ _ (if((es.size:Nat):Int)<0 then _ else _) _ _ _
 rw[Gj (by omega)]
 show wpAny _ _ (if((es.size:Nat):Int)>=2^63 then _ else _) _ _ _
 rw[Gj (by omega)]
 exact Ga (wpAny_mkInt (Gf ⟨_,Xb,h⟩))
theorem Qml{Q:Value->Shared->Prop}(hd:(d==sysModules)=false)(c:s.heap.Jg d es ep)
  (f:Q (.ref s.heap.objs.size) {s with heap:=s.heap.push {cls:=.type "dict_keyiterator",data:=.fields #[.ref d,.int 0 0,.int es.size 0,.int ep 0]}}):
  wpAny (model prog w) A (pyIter (.ref d)) Q E s:=by
 obtain⟨o,e,g,a⟩:=id c
 have b:=c.typeIs
 refine Le b F.slot_dict_iter (TR F.slot_dict_iter b F.entry_dict_iter ?_ (F.args_dict_iter_1 _))
 unfold Builtin.«dict.__iter__»
 refine Ga ?_
 unfold Builtin.Dict.dictSlotNone
 refine Ga (Sf b ?_)
 show wpAny _ _ (pure (Value.ref d)) _ _ s
 refine Gf ?_
 show wpAny _ _ (Builtin.Dict.showsAll d>>=_) _ _ s
 unfold Builtin.Dict.showsAll
 rw[Gj (by rw[hd];exact GV)]
 refine Ga (Gf ?_)
 refine Ga (DG e a ?_)
 refine Ga (EC e a ?_)
 refine Ga (TU (Gf ⟨_,Xb,"dict_keyiterator",_,⟨_,Gz _ Xb,Xb⟩,DD.lookup,?_⟩))
 simpa[rawInt]using f
theorem Qno{it:Addr}{i:Nat}{e:DictEntry}{Q:Option Value->Shared->Prop}(a:s.heap.IsKeyIter it d i es.size ep)(r:s.heap.Jg d es ep)(k:es[i]?=some e)
  (m:∀h',h'.IsKeyIter it d (i+1) es.size ep->Heap.SameBut it s.heap h'->Q (some e.key) {s with heap:=h'}):
  wpAny (model prog w) A (pyNext (.ref it)) Q E s:=by
 obtain⟨o,l,n,hd⟩:=id a
 obtain⟨od,g,p,f⟩:=id r
 unfold pyNext
 refine Ga (Sn (T5 (name:=Str.ofString "__next__") a.typeIs DD
  (TR DD a.typeIs So ?_ (Sj _))))
 refine Ga (Gf ?_)
 refine Ga ?_
 refine Ga ?_
 first|refine Ga (DP a.typeIs (Gf ?_))|refine Ga (Em a.typeIs (Gf ?_))
 refine Ga (SR l hd ?_)
 have j:Builtin.Dict_items.ownsTuple "dict_keyiterator"=false:=by decide
 simp only[j,T4,DE]
 show wpAny _ _ (if(Value.ref d==Value.none)=true then _ else _) _ _ s
 rw[Gj (show¬((Value.ref d==Value.none)=true)from GV)]
 refine Ga (Gf ?_)
 refine Ga (DG g f ?_)
 rw[Gj (by simp)]
 refine Ga (Gf ?_)
 refine Ga (EC g f ?_)
 rw[Gj (by simp)]
 refine Gf ?_
 have c:i<es.size:=by
  rcases TC i es.size with h|h
  ·exact h
  ·rw[Du h]at k;cases k
 have q:es[i]=e:=by rw[Tu c]at k;exact TF k
 simp only[show¬((i:Int)<0)from by omega,DE,Dz,Tu c]
 refine Ga ?_
 first|refine Ga (DP a.typeIs (Gf ?_))|refine Ga (Em a.typeIs (Gf ?_))
 refine Ga (wpAny_isOneOf_keyiter a.typeIs ?_)
 show wpAny _ _ (setField (.ref it) 1 (rawInt ((i:Int)+1))>>=_) _ _ s
 refine Ga (EI l hd (by simp) ?_)
 have b:(s.heap.update it (Obj.mapFields (·.setIfInBounds 1 (rawInt ((i:Int)+1))))).IsKeyIter it d (i+1) es.size ep:=
  ⟨_,T9 _ l (Sg (D0 hd _)),(Lf ..).trans n,by rw[D0 hd];simp[rawInt]⟩
 refine Ga (Dj ?_)
 refine Ga (wpAny_isOneOf_keyiter (s:={s with heap:=s.heap.update it (Obj.mapFields (·.setIfInBounds 1 (rawInt ((i:Int)+1))))}) b.typeIs ?_)
 show wpAny _ _ (pure es[i].key) _ _ _
 rw[q]
 exact Gf (Gf ⟨_,Xb,Gf (m _ b (Dk ..))⟩)
theorem Qqe{it:Addr}{i:Nat}{Q:Option Value->Shared->Prop}(n:A.handled=none)(c:s.heap.IsKeyIter it d i es.size ep)(p:s.heap.Jg d es ep)(h:es.size<=i)
  (k:∀h',Heap.ExtBut it s.heap h'->Q none {s with heap:=h'}):wpAny (model prog w) A (pyNext (.ref it)) Q E s:=by
 obtain⟨o,j,q,hd⟩:=id c
 obtain⟨od,f,l,e⟩:=id p
 unfold pyNext
 refine Ga (Sn (T5 (name:=Str.ofString "__next__") c.typeIs DD
  (TR DD c.typeIs So ?_ (Sj _))))
 refine Ga (Gf ?_)
 refine Ga ?_
 refine Ga ?_
 first|refine Ga (DP c.typeIs (Gf ?_))|refine Ga (Em c.typeIs (Gf ?_))
 refine Ga (SR j hd ?_)
 have g:Builtin.Dict_items.ownsTuple "dict_keyiterator"=false:=by decide
 simp only[g,T4,DE]
 show wpAny _ _ (if(Value.ref d==Value.none)=true then _ else _) _ _ s
 rw[Gj (show¬((Value.ref d==Value.none)=true)from GV)]
 refine Ga (Gf ?_)
 refine Ga (DG f e ?_)
 rw[Gj (by simp)]
 refine Ga (Gf ?_)
 refine Ga (EC f e ?_)
 rw[Gj (by simp)]
 refine Gf ?_
 simp only[show¬((i:Int)<0)from by omega,DE,Dz,Du h]
 refine Ga ?_
 first|refine Ga (DP c.typeIs (Gf ?_))|refine Ga (Em c.typeIs (Gf ?_))
 show wpAny _ _ (setField (.ref it) 0 .none>>=_) _ _ s
 refine Ga (EI j hd (by simp) ?_)
 show wpAny _ _ (newExc (.type "StopIteration") []>>=_) _ _ _
 refine Ga ?_
 simp only[newExc,newTuple]
 refine Ga (TU ?_ (by size_fits))
 refine Ga (m:=firstArgMember _ _) (wpAny_of_eq (a:=Value.none) (by first|rfl|(simp only[firstArgMember];rfl)) ?_)
 refine TU ?_ (by size_fits)
 simp only[raiseNew]
 refine Ga (L8 ?_)
 rw[show A.in1.handled=none from n]
 refine Ga (Gf (wpAny_throw ?_))
 refine Ga (EK (T:="StopIteration") (b:=true) ⟨_,Gz _ Xb,Xb⟩ LQ ?_)
 exact Gf (k _ (((Dk ..).extBut.push _).push _))
theorem Walks.Qt7(m:A.handled=none)(I d:Addr)(j:d≠I)(es:Array DictEntry)(ep:Nat):
  Walks prog w A I [I,d] [I] es.size (λi v=>∃e,es[i]?=some e/\v=e.key) (λi h=>h.IsKeyIter I d i es.size ep/\h.Jg d es ep) where
 sub:=λb hb=>by simp at hb;simp[hb]
 frame:=λ_ _ _ st k=>⟨st.1.at λo e=>k I (by simp) o e,st.2.at λo e=>k d (by simp) o e⟩
 item:=λi s Q E hi st a=>by
  have l:es[i]?=some es[i]:=Tu hi
  refine Qno st.1 st.2 l λh' c f=>?_
  exact a _ h' s.toks ⟨_,l,Xb⟩ ⟨c,st.2.at λo e=>(f.2 d j).trans e⟩ λb o hb e=>f.extBut b o (λh=>hb (by simp[h])) e
 done:=λs Q E st a=>Qqe m st.1 st.2 (Gr _) λh' g=>a h' s.toks λb o hb e=>g b o (λh=>hb (by simp[h])) e
 self:=λ_ _ _ _ st a=>wpAny_pyIter_keyiter st.1 a
theorem Qsk(lo:(d==sysModules)=false):PySem.W.KdlSrc prog w "dict" d d es.size (λi v=>∃e,es[i]?=some e/\v=e.key) (λh=>h.Jg d es ep) where
 type:=λ_ a=>a.typeIs
 there:=λ_ a=>⟨a.lt,a.lt⟩
 keep:=λ_ _ a f=>a.at λo e=>f d (.inl Xb) o e
 notList:=by decide
 notTuple:=by decide
 hint:=λ_ _ _ _ a b=>PySem.W.kdl_hint_dict a.typeIs b
 iter:=λ_ _ c a=>⟨_,_,(λ_ _ b=>Qml lo a b),Walks.Qt7 c _ d (Ts a.lt) es ep,⟨⟨_,Gz _ Xb,Xb,Xb⟩,a.at λo e=>Gh _ e⟩⟩
end
end PySem
namespace L2
open PySem PySem.Spec PyProof.Rows
abbrev KE:=KD×Addr×V
def Yd(kvs:List KE)(k:KD):Option V:=(kvs.find? λp=>decide (p.1=k)).map (·.2.2)
def Wl(kvs:List KE)(k:KD)(b:Addr)(v:V):List KE:=if(Yd kvs k).isSome=true then kvs.map (λp=>if p.1=k then(p.1,p.2.1,v)else p)else kvs++[(k,b,v)]
abbrev KX:List KE->List (KD×Addr×Value)->Prop:=Paired λp q=>p.1=q.1/\p.2.1=q.2.1/\RelV p.2.2 q.2.2
def DKD(P:Program)(w:World)(a:Addr)(kvs:List KE)(h:Heap):Prop:=
 kvs.length<=sizeLine/\(a==sysModules)=false/\∃xs,KX kvs xs/\∃o es ep,h.get? a=some o/\o.ExactDict/\o.data=.dict es ep/\es.toList=xs.map (entryOfKey (W6 P w))/\(xs.map (·.1)).Nodup
def Uq(P:Program)(w:World)(a:Addr)(kvs:List KE):HO:=.ext (DKD P w a kvs)
def Vz(H:Hp)(kvs:List KE):Prop:=∀p∈kvs,Dt H (.ref p.2.1) p.1.toD/\p.1.toD.canLay0=true/\p.1.depth<=8
def Ox(H:Hp)(b:Addr)(k:KD):Prop:=Dt H (.ref b) k.toD/\k.toD.canLay0=true/\k.depth<=8
theorem Qi4{P:Program}{w:World}{H:Hp}{h:Heap}{a:Addr}{kvs:List KE}(x:DKD P w a kvs h):Z0 P w H h a (Uq P w a kvs):=by
 refine⟨x,?_,?_⟩
 ·obtain⟨_,_,_,_,o,_,_,e,_⟩:=x
  exact⟨o,e⟩
 ·rintro h1 h2 ⟨b,c,xs,r,o,es,ep,e,q⟩ k
  exact⟨b,c,xs,r,o,es,ep,k o e,q⟩
theorem KX.val{kvs:List KE}{xs:List (KD×Addr×Value)}(r:KX kvs xs)(k:KD):Jk (Yd kvs k) ((atKey xs k).map (·.2)):=by
 induction r with
 |nil=>exact True.intro
 |@cons p q ps d h t f=>
  obtain⟨h1,_,h2⟩:=h
  by_cases e:p.1=k
  ·have a:q.1=k:=h1.symm.trans e
   have b:atKey (q::d) k=some q.2:=by simp[atKey,Dh,a]
   have c:Yd (p::ps) k=some p.2.2:=by simp[Yd,Dh,e]
   rw[c,b];exact h2
  ·have a:¬q.1=k:=λz=>e (h1.trans z)
   have b:atKey (q::d) k=atKey d k:=by simp[atKey,Dh,a]
   have c:Yd (p::ps) k=Yd ps k:=by simp[Yd,Dh,e]
   rw[c,b];exact f
theorem KX.put{kvs:List KE}{xs:List (KD×Addr×Value)}(r:KX kvs xs)(k:KD)(b:Addr){v:V}{u:Value}(a:RelV v u):KX (Wl kvs k b v) (storedH xs k b u):=by
 have e:(Yd kvs k).isSome=(atKey xs k).isSome:=by
  rw[(r.val k).X7,Eg]
 unfold Wl storedH
 rw[e]
 by_cases q:(atKey xs k).isSome=true
 ·rw[Gp q,Gp q]
  clear q e
  induction r with
  |nil=>exact .nil
  |@cons p q ps f h t d=>
   rw[GO,GO]
   refine .cons ?_ d
   obtain⟨h1,h2,c⟩:=h
   unfold putAt
   by_cases e:p.1=k
   ·rw[Gp e,Gp (h1.symm.trans e)];exact⟨h1,h2,a⟩
   ·rw[Gj e,Gj (λz=>e (h1.trans z))];exact⟨h1,h2,c⟩
 ·rw[Gj q,Gj q];exact DO r ⟨Xb,Xb,a⟩
theorem Qct(kvs:List KE)(k:KD)(b:Addr)(v:V):(Wl kvs k b v).length<=kvs.length+1:=by
 unfold Wl
 split
 ·rw[Gn];omega
 ·rw[Gk,Gv];omega
theorem Qgx{kvs:List KE}{k:KD}(b:Addr)(v:V)(h:Yd kvs k=none):Wl kvs k b v=kvs++[(k,b,v)]:=by
 unfold Wl
 rw[h]
 exact Gj (by decide)
theorem Qhb{kvs:List KE}{k:KD}{u:V}(b:Addr)(v:V)(h:Yd kvs k=some u):Wl kvs k b v=kvs.map (λp=>if p.1=k then(p.1,p.2.1,v)else p):=by
 unfold Wl
 rw[h]
 exact Gp rfl
theorem Yi{p:KE}{r:List KE}{k:KD}(e:p.1=k):Yd (p::r) k=some p.2.2:=by simp[Yd,Dh,e]
theorem Yj{p:KE}{r:List KE}{k:KD}(e:¬p.1=k):Yd (p::r) k=Yd r k:=by simp[Yd,Dh,e]
theorem Ol(k j:KD)(b:Addr)(y:V):∀kvs:List KE,Yd kvs k=none->Yd (kvs++[(k,b,y)]) j=if j=k then some y else Yd kvs j
 |[],_=>by
  by_cases e:k=j
  ·rw[Gp e.symm];exact Yi (p:=(k,b,y)) e
  ·rw[Gj (λz=>e z.symm)];exact Yj (p:=(k,b,y)) e
 |p::r,a=>by
  rw[TM]
  have c:¬p.1=k:=λz=>by rw[Yi z]at a;cases a
  rw[Yj c]at a
  have d:=Ol k j b y r a
  by_cases e:p.1=j
  ·rw[Yi e,Yi e,Gj (λz=>c (e.trans z))]
  ·rw[Yj e,Yj e,d]
theorem Qhe(k j:KD)(y:V):∀kvs:List KE,Yd (kvs.map λp=>if p.1=k then(p.1,p.2.1,y)else p) j=(Yd kvs j).map λx=>if j=k then y else x
 |[]=>rfl
 |p::r=>by
  have a:=Qhe k j y r
  rw[GO]
  by_cases h:p.1=k
  ·rw[Gp h]
   by_cases e:p.1=j
   ·rw[Yi (p:=(p.1,p.2.1,y)) e,Yi e,Di,Gp (e.symm.trans h)]
   ·rw[Yj (p:=(p.1,p.2.1,y)) e,Yj e,a]
  ·rw[Gj h]
   by_cases e:p.1=j
   ·rw[Yi (p:=p) e,Yi e,Di,Gj (λz=>h (e.trans z))]
   ·rw[Yj (p:=p) e,Yj e,a]
theorem Jt(kvs:List KE)(k j:KD)(b:Addr)(y:V):Yd (Wl kvs k b y) j=if j=k then some y else Yd kvs j:=by
 cases q:Yd kvs k with
 |none=>rw[Qgx b y q,Ol k j b y kvs q]
 |some u=>
  rw[Qhb b y q,Qhe]
  by_cases e:j=k
  ·rw[Gp e,e,q,Di,Gp rfl]
  ·rw[Gj e]
   cases Yd kvs j with
   |none=>rfl
   |some x=>rw[Di,Gj e]
theorem Qm7(kvs:List KE)(k:KD)(b:Addr)(v:V):∀p∈Wl kvs k b v,(p.1=k/\p.2.1=b)\/∃u,(p.1,p.2.1,u)∈kvs:=λp a=>by
 unfold Wl at a
 split at a
 ·obtain⟨q,c,e⟩:=Ti.mp a
  right
  split at e
  ·subst e
   exact⟨q.2.2,c⟩
  ·subst e
   exact⟨q.2.2,c⟩
 ·rcases Gd.mp a with h|h
  ·exact .inr ⟨p.2.2,h⟩
  ·rw[Gx]at h
   subst h
   exact .inl ⟨Xb,Xb⟩
theorem Vz.put{H:Hp}{kvs:List KE}{k:KD}{b:Addr}{v:V}(h:Vz H kvs)(d:Ox H b k):Vz H (Wl kvs k b v):=λp e=>by
 rcases Qm7 kvs k b v p e with⟨a,c⟩|⟨u,f⟩
 ·rw[a,c];exact d
 ·exact h (p.1,p.2.1,u) f
section
variable{X:Cx}{pins:List (Addr×Obj)}{σ:St}{H:Hp}{s:Shared}{a b:Addr}{kvs:List KE}{k:KD}
theorem Ox.is(I:Inv X pins σ H s)(h:Ox H b k):(W6 X.prog X.w).is s.heap k b:=by
 obtain⟨h1,h2,c⟩:=h
 obtain⟨a,r⟩:=h1.reads I.Zy (u:=.ref b) rfl
 exact⟨⟨a,r⟩,h2,c⟩
theorem On(I:Inv X pins σ H s)(e:H a=some (Uq X.prog X.w a kvs)):DKD X.prog X.w a kvs s.heap:=(I.Zy a _ e).1
theorem Qir(I:Inv X pins σ H s)(e:H a=some (Uq X.prog X.w a kvs))(i:Vz H kvs):kvs.length<=sizeLine/\(a==sysModules)=false/\∃xs,KX kvs xs/\s.heap.DictOfH (W6 X.prog X.w) a xs:=by
 obtain⟨z,y,xs,r,o,es,ep,h1,h2,d,f,g⟩:=On I e
 refine⟨z,y,xs,r,o,es,ep,h1,h2,d,f,λx b=>?_,g⟩
 have all:∀{l:List KE}{m:List (KD×Addr×Value)},KX l m->(∀p∈l,p∈kvs)->∀x∈m,(W6 X.prog X.w).is s.heap x.1 x.2.1:=by
  intro l m q
  induction q with
  |nil=>intro _ x b;exact nomatch b
  |@cons p q ps n c t k=>
   intro sub x b
   rcases Gu.mp b with e|b
   ·subst e
    rw[<-c.1,<-c.2.1]
    exact Ox.is I (i p (sub p (by simp)))
   ·exact k (λp j=>sub p (Gm _ j)) x b
 exact all r (λ_ h=>h) x b
end
def Qkt(P:Program)(w:World):TE:=λ_ H Q=>∀p,H p=none->Q (.ref p) (upd H p (Uq P w p []))
structure DH(P:Program)(w:World)(H:Hp)(d:Addr)(kvs:List KE):Prop where
 at_:H d=some (Uq P w d kvs)
 keys:Vz H kvs
section
variable{X:Cx}
theorem R5{pos:Pos}:PE X (.Dict [] [] pos) (Qkt X.prog X.w):=λpins s σ H Q I h=>
 Lw ⟨.ref s.heap.objs.size,_,I.laid (a:=s.heap.objs.size) (o:=Uq X.prog X.w s.heap.objs.size []) (t':=s.toks) (λ_ _ q=>Gh _ q) (Gr _)
  (Qi4 ⟨Ta _,DJ.mpr (Gq (Ts I.big)),[],.nil,_,#[],0,Gz _ Xb,⟨Xb,Xb,Xb⟩,Xb,Xb,Et⟩),Xb,h _ (I.Zy.fresh (Gr _))⟩
def Qrd(P:Program)(w:World)(f:Bool->Bool):R2:=λx y H Q=>∃b d k kvs,x=.ref b/\y=.ref d/\DH P w H d kvs/\Ox H b k/\Q (.bl (f (Yd kvs k).isSome)) H
theorem Qzl(i:X.A.units+64<cLine):Oh X (compareOp .In) (Qrd X.prog X.w λb=>b):=by
 intro pins s σ H x y v u Q I f g h
 obtain⟨b,d,k,kvs,rfl,rfl,D,c,q⟩:=h
 cases(show v=Value.ref b from f)
 cases(show u=Value.ref d from g)
 obtain⟨z,hd,xs,rel,a⟩:=Qir I D.at_ D.keys
 refine wpAny_in_heap (knd:=W6 X.prog X.w) (show X.A.units+1+10<cLine by omega) (c.is I) hd a ?_
 have e:=(rel.val k).X7
 rw[Eg]at e
 rw[<-e]
 exact⟨.bl _,H,I.tok _,Xb,q⟩
theorem Qb0(i:X.A.units+64<cLine):Oh X (compareOp .NotIn) (Qrd X.prog X.w λb=>!b):=by
 intro pins s σ H x y v u Q I f g h
 obtain⟨b,d,k,kvs,rfl,rfl,D,c,q⟩:=h
 cases(show v=Value.ref b from f)
 cases(show u=Value.ref d from g)
 obtain⟨z,hd,xs,rel,a⟩:=Qir I D.at_ D.keys
 refine wpAny_notIn_heap (knd:=W6 X.prog X.w) (show X.A.units+1+10<cLine by omega) (c.is I) hd a ?_
 have e:=(rel.val k).X7
 rw[Eg]at e
 rw[<-e]
 exact⟨.bl _,H,I.tok _,Xb,q⟩
def Qho(P:Program)(w:World):R2:=λx y H Q=>∃d b k kvs v,x=.ref d/\y=.ref b/\DH P w H d kvs/\Ox H b k/\Yd kvs k=some v/\Q v H
theorem Ug(m:X.A.units+64<cLine):IxR X (Qho X.prog X.w):=by
 intro value a pins s σ H x y v u Q I j l h g
 obtain⟨d,b,k,kvs,r,rfl,rfl,D,f,i,q⟩:=h
 cases(show v=Value.ref d from j)
 cases(show u=Value.ref b from l)
 obtain⟨z,hd,xs,rel,c⟩:=Qir I D.at_ D.keys
 have rv:=rel.val k
 rw[i]at rv
 cases e:atKey xs k with
 |none=>rw[e]at rv;exact(show False from rv).elim
 |some p=>
  rw[e]at rv
  refine E5 (x:=p.2) c.typeIs SY.lookup ?_ g
  exact wpAny_getItem_heap (knd:=W6 X.prog X.w) (show X.A.units+1+10<cLine by omega) (f.is I) c e ⟨Xb,r,H,I.tok _,rv,q⟩
def Qkf(P:Program)(w:World):Qtu:=λo i v H Q=>∃d b k kvs,o=.ref d/\i=.ref b/\DH P w H d kvs/\Ox H b k/\kvs.length<sizeLine/\Q (upd H d (Uq P w d (Wl kvs k b v)))
theorem Qdn(x:X.A.units+64<cLine):Qyd X (Qkf X.prog X.w):=by
 intro pins s σ H o i v ov p u Q I t r rv h
 obtain⟨d,b,k,kvs,rfl,rfl,D,l,hz,q⟩:=h
 cases(show ov=Value.ref d from t)
 cases(show p=Value.ref b from r)
 obtain⟨z,hd,xs,rel,e⟩:=Qir I D.at_ D.keys
 have m:(Wl kvs k b v).length<=sizeLine:=by have:=Qct kvs k b v;omega
 refine wpAny_setItem_heap (knd:=W6 X.prog X.w) (hsz:=by rw[<-Gs rel];exact z) (show X.A.units+1+10<cLine by omega) (l.is I) e λh' a n=>?_
 obtain⟨ob,es,ep,c,h2,f,g,_,j⟩:=a
 refine⟨_,Ig (ob:=Uq X.prog X.w d (Wl kvs k b v)) I (by rw[D.at_];exact True.intro) n ⟨ob,c⟩ (Qi4 ⟨m,hd,_,rel.put k b rv,ob,es,ep,c,h2,f,g,j⟩),q⟩
theorem Qjd:Vr X (.builtin "len") (λxs H Q=>∃d kvs,xs=[.ref d]/\DH X.prog X.w H d kvs/\Q (.int kvs.length) H):=by
 intro pins s σ H xs us Q I r h
 obtain⟨d,kvs,rfl,D,q⟩:=h
 obtain⟨u,rfl,c⟩:=vals1 r
 cases(show u=Value.ref d from c)
 obtain⟨z,hd,ys,rel,o,es,ep,h1,h2,a,b,_⟩:=On I D.at_
 have g:=Rh
 have e:es.size=kvs.length:=by rw[Gs rel,<-Gn (f:=entryOfKey (W6 X.prog X.w)),<-b,TX]
 refine Qo6 hd ⟨o,h1,h2,a⟩ (by omega) ?_
 rw[e]
 exact⟨.int kvs.length,H,I.tok _,⟨_,Xb⟩,q⟩
theorem Qh0(y:X.calm=true):Vr X (.type "list") (λxs H Q=>∃d kvs,xs=[.ref d]/\DH X.prog X.w H d kvs/\∀l,H l=none->Q (.ref l) (upd H l (.lst (kvs.map λp=>.ref p.2.1)))):=by
 intro pins s σ H xs us Q I r h
 obtain⟨d,kvs,rfl,D,q⟩:=h
 obtain⟨u,rfl,E⟩:=vals1 r
 cases(show u=Value.ref d from E)
 obtain⟨z,hd,ys,rel,o,es,ep,h1,h2,x,k,nodup⟩:=On I D.at_
 have e:es.size=kvs.length:=by rw[Gs rel,<-Gn (f:=entryOfKey (W6 X.prog X.w)),<-k,TX]
 refine PySem.W.kdl_call (Qsk (es:=es) (ep:=ep) hd) (I.ok.hd y) ⟨o,h1,h2,x⟩ (by rw[e];exact z) λh' tk a v kp hS b=>?_
 have g:(kvs.map λp=>V.ref p.2.1).length<=sizeLine:=by rw[Gn];exact z
 have m:Zv (kvs.map λp=>V.ref p.2.1) a.toList:=by
  have j:es.toList.map (·.key)=ys.map λq=>Value.ref q.2.1:=by rw[k,TJ];rfl
  have c:a.toList=es.toList.map (·.key):=by
   refine E9 λi=>?_
   by_cases hi:i<a.size
   ·obtain⟨en,A,m⟩:=b.2 i a[i] (Tu hi)
    rw[Dl,Tu hi,GY,Dl,A,m]
    rfl
   ·have hsz:=b.1
    rw[Tz (by simp;omega),Tz (by simp;omega)]
  rw[c,j]
  clear q z k j c g e b D nodup
  induction rel with
  |nil=>exact .nil
  |@cons p q ps F B t C=>
   rw[GO,GO]
   refine .cons ?_ C
   show Value.ref q.2.1=Value.ref p.2.1
   rw[B.2.1]
 have n:Inv X pins σ (upd H s.heap.objs.size (.lst (kvs.map λp=>.ref p.2.1))) {s with heap:=h',toks:=tk}:=
  I.laid (t':=tk) kp (Gr _) (show Z0 X.prog X.w _ h' _ (.lst _)from⟨g,a.toList,v,m,by rw[Eh];exact hS⟩)
 exact⟨.ref s.heap.objs.size,_,n,Xb,q _ (I.Zy.fresh (Gr _))⟩
end
end L2
namespace Sb
open PySem
abbrev Tl:=List (Bool×Th×Th)
mutual
inductive Cg(tl:Tl):Th->Th->Prop
 |refl (t:Th):Cg tl t t
 |symm {s t:Th}:Cg tl s t->Cg tl t s
 |trans {r s t:Th}:Cg tl r s->Cg tl s t->Cg tl r t
 |told {s t:Th}:(true,s,t)∈tl->Cg tl s t
 |cong {w:Str} {ps qs:List Th}:CgL tl ps qs->Cg tl (.mk w ps) (.mk w qs)
inductive CgL(tl:Tl):List Th->List Th->Prop
 |nil:CgL tl [] []
 |cons {p q:Th} {ps qs:List Th}:Cg tl p q->CgL tl ps qs->CgL tl (p::ps) (q::qs)
end
theorem CgL.of{tl:Tl}:∀{ps c:List Th},ps.length=c.length->(∀(i:Nat)p q,ps[i]?=some p->c[i]?=some q->Cg tl p q)->CgL tl ps c
 |[],[],_,_=>.nil
 |[],_::_,h,_=>by simp at h
 |_::_,[],h,_=>by simp at h
 |p::ps,q::c,h,f=>.cons (f 0 p q rfl rfl) (CgL.of (by simpa using h) λi a b d hb=>f (i+1) a b (by simpa using d) (by simpa using hb))
mutual
theorem Cg.mono{tl e:Tl}(h:∀a b,(true,a,b)∈tl->(true,a,b)∈e):∀{s t:Th},Cg tl s t->Cg e s t
 |_,_,.refl t=>.refl t
 |_,_,.symm c=>.symm (Cg.mono h c)
 |_,_,.trans c d=>.trans (Cg.mono h c) (Cg.mono h d)
 |_,_,.told m=>.told (h _ _ m)
 |_,_,.cong c=>.cong (CgL.mono h c)
theorem CgL.mono{tl e:Tl}(h:∀a b,(true,a,b)∈tl->(true,a,b)∈e):∀{s t:List Th},CgL tl s t->CgL e s t
 |_,_,.nil=>.nil
 |_,_,.cons c d=>.cons (Cg.mono h c) (CgL.mono h d)
end
inductive Dv where
 |cls (i:Int)
 |node (w:Str) (ds:List Dv)
open Classical in
noncomputable def act(S:List Th)(L:Th->Int)(w:Str)(ds:List Dv):Dv:=
 if h:∃a,Th.mk w a∈S/\a.map (λq=>Dv.cls (L q))=ds then .cls (L (.mk w (Classical.choose h)))else .node w ds
mutual
noncomputable def ev(S:List Th)(L:Th->Int):Th->Dv
 |.mk w ps=>act S L w (evL S L ps)
noncomputable def evL(S:List Th)(L:Th->Int):List Th->List Dv
 |[]=>[]
 |p::r=>ev S L p::evL S L r
end
structure Ip(tl:Tl)(S:List Th)(L:Th->Int):Prop where
 closed:∀w ps,Th.mk w ps∈S->∀p∈ps,p∈S
 told:∀a b,(true,a,b)∈tl->a∈S/\b∈S/\L a=L b
 cong:∀w ps qs,Th.mk w ps∈S->Th.mk w qs∈S->ps.map L=qs.map L->L (.mk w ps)=L (.mk w qs)
theorem Qlb{L:Th->Int}:∀{ps a:List Th},ps.map (λq=>Dv.cls (L q))=a.map (λq=>Dv.cls (L q))->ps.map L=a.map L
 |[],[],_=>rfl
 |[],_::_,h=>by simp at h
 |_::_,[],h=>by simp at h
 |p::ps,q::a,h=>by
  simp only[GO,Tx,Dv.cls.injEq]at h⊢
  exact⟨h.1,Qlb h.2⟩
mutual
theorem Qpf{tl:Tl}{S:List Th}{L:Th->Int}(T:Ip tl S L):∀t:Th,t∈S->ev S L t=.cls (L t)
 |.mk w ps,h=>by
  have e:evL S L ps=ps.map (λq=>Dv.cls (L q)):=Qve T ps (T.closed w ps h)
  have ex:∃a,Th.mk w a∈S/\a.map (λq=>Dv.cls (L q))=ps.map (λq=>Dv.cls (L q)):=⟨ps,h,Xb⟩
  have b:ev S L (.mk w ps)=act S L w (evL S L ps):=by simp only[ev]
  rw[b,e]
  unfold act
  rw[dif_pos ex]
  have c:=LM ex
  rw[T.cong w _ ps c.1 h (Qlb c.2)]
theorem Qve{tl:Tl}{S:List Th}{L:Th->Int}(T:Ip tl S L):∀ps:List Th,(∀p∈ps,p∈S)->evL S L ps=ps.map (λq=>Dv.cls (L q))
 |[],_=>by simp[evL]
 |p::r,h=>by
  simp only[evL,GO]
  rw[Qpf T p (h p GJ),Qve T r λq a=>h q (Gm _ a)]
end
mutual
theorem Qil{tl:Tl}{S:List Th}{L:Th->Int}(T:Ip tl S L):∀{s t:Th},Cg tl s t->ev S L s=ev S L t
 |_,_,.refl _=>rfl
 |_,_,.symm c=>(Qil T c).symm
 |_,_,.trans c d=>(Qil T c).trans (Qil T d)
 |_,_,.told m=>by
  obtain⟨h1,h2,a⟩:=T.told _ _ m
  rw[Qpf T _ h1,Qpf T _ h2,a]
 |_,_,.cong c=>by simp only[ev,Qqj T c]
theorem Qqj{tl:Tl}{S:List Th}{L:Th->Int}(T:Ip tl S L):∀{s t:List Th},CgL tl s t->evL S L s=evL S L t
 |_,_,.nil=>rfl
 |_,_,.cons c d=>by simp only[evL,Qil T c,Qqj T d]
end
theorem Ip.complete{tl:Tl}{S:List Th}{L:Th->Int}(T:Ip tl S L){x y:Th}(a:x∈S)(b:y∈S)(c:Cg tl x y):L x=L y:=by
 have e:=Qil T c
 rw[Qpf T x a,Qpf T y b]at e
 injection e
structure Tells(tl:Tl)(S:List Th)(L:Th->Int):Prop where
 tab:Ip tl S L
 sound:∀x∈S,∀y∈S,L x=L y->Cg tl x y
theorem Tells.iff{tl:Tl}{S:List Th}{L:Th->Int}(T:Tells tl S L){x y:Th}(a:x∈S)(b:y∈S):L x=L y↔Cg tl x y:=⟨T.sound x a y b,T.tab.complete a b⟩
def mrg(L:Th->Int)(o n:Int):Th->Int:=λt=>if L t=o then n else L t
theorem Qp4{L:Th->Int}{o n:Int}{x y:Th}(h:L x=L y):mrg L o n x=mrg L o n y:=by unfold mrg;rw[h]
theorem Qnj{tl:Tl}{S:List Th}{L:Th->Int}{a b:Th}(g:a∈S)(hb:b∈S)(s:∀x∈S,∀y∈S,L x=L y->Cg tl x y)(c:Cg tl a b):∀x∈S,∀y∈S,mrg L (L a) (L b) x=mrg L (L a) (L b) y->Cg tl x y:=by
 intro x d y f e
 unfold mrg at e
 by_cases h1:L x=L a
 ·by_cases h2:L y=L a
  ·exact s x d y f (h1.trans h2.symm)
  ·rw[Gp h1,Gj h2]at e
   exact .trans (s x d a g h1) (.trans c (s b hb y f e))
 ·by_cases h2:L y=L a
  ·rw[Gj h1,Gp h2]at e
   exact .trans (s x d b hb e) (.trans (.symm c) (.symm (s y f a g h2)))
  ·rw[Gj h1,Gj h2]at e
   exact s x d y f e
open PySem PySem.Spec PyProof.Rows L2
mutual
def kd:Th->KD
 |.mk w ps=>.tup (.str w::kds ps)
def kds:List Th->List KD
 |[]=>[]
 |p::r=>kd p::kds r
end
mutual
theorem Rb:∀t:Th,(kd t).toD=t.toD
 |.mk w ps=>by simp only[kd,KD.toD,V5,Th.toD,Ql3 ps]
theorem Ql3:∀ts:List Th,V5 (kds ts)=X0 ts
 |[]=>by simp[kds,V5,X0]
 |t::r=>by simp only[kds,V5,X0,Rb t,Ql3 r]
end
theorem Qhx(t:Th):(kd t).depth=t.depth:=by rw[<-Rw,Rb,Vg]
theorem Qbl{s t:Th}(h:kd s=kd t):s=t:=by
 have e:s.toD=t.toD:=by rw[<-Rb,<-Rb,h]
 exact(U3 s t).mp (by rw[e];exact(U3 t t).mpr Xb)
mutual
theorem Qiy{H:Hp}:∀(t:Th){v:V},Dt H v t.toD->Yl H v t
 |.mk w ps,v,h=>by
  simp only[Th.toD]at h
  cases h with
  |tup e r=>
   cases r with
   |cons h1 h2=>
    cases h1
    exact .mk e (Qdk ps h2)
theorem Qdk{H:Hp}:∀(ts:List Th){vs:List V},Rg H vs (X0 ts)->Zn H vs ts
 |[],vs,h=>by simp only[X0]at h;cases h;exact .nil
 |t::r,vs,h=>by
  simp only[X0]at h
  cases h with
  |cons h1 h2=>exact .cons (Qiy t h1) (Qdk r h2)
end
theorem Qfv{H:Hp}{b:Addr}{t:Th}(h:Yl H (.ref b) t)(ok:t.ok=true)(dp:t.depth<=8):Ox H b (kd t):=⟨by rw[Rb];exact h.dt,by rw[Rb];exact Qab t ok,by rw[Qhx];exact dp⟩
mutual
theorem Qk7{H H':Hp}(e:Qu H H'):∀(k:KD){v:V},Dt H v k.toD->Dt H' v k.toD
 |.int i,v,h=>by simp only[KD.toD]at h⊢;cases h;exact .int i
 |.str x,v,h=>by simp only[KD.toD]at h⊢;cases h;exact .str x
 |.tup xs,v,h=>by
  simp only[KD.toD]at h⊢
  cases h with
  |tup h1 h2=>exact .tup (e _ _ h1) (Qhr e xs h2)
theorem Qhr{H H':Hp}(e:Qu H H'):∀(a:List KD){vs:List V},Rg H vs (V5 a)->Rg H' vs (V5 a)
 |[],vs,h=>by simp only[V5]at h⊢;cases h;exact .nil
 |k::r,vs,h=>by
  simp only[V5]at h⊢
  cases h with
  |cons h1 h2=>exact .cons (Qk7 e k h1) (Qhr e r h2)
end
theorem Ze{H H':Hp}(e:Qu H H'){kvs:List KE}(h:Vz H kvs):Vz H' kvs:=λp a=>⟨Qk7 e p.1 (h p a).1,(h p a).2⟩
structure Num(P:Program)(w:World)(H:Hp)(d:Addr)(S:List Th)(L:Th->Int):Prop where
 ex:∃kvs:List KE,H d=some (Uq P w d kvs)/\Vz H kvs/\kvs.map (·.1)=S.map kd/\∀t∈S,Yd kvs (kd t)=some (.int (L t))
 ok:∀t∈S,t.ok=true/\t.depth<=8
theorem Num.at{P:Program}{w:World}{H:Hp}{d:Addr}{S:List Th}{L:Th->Int}(N:Num P w H d S L):∃o,H d=some (.ext o):=by
 obtain⟨kvs,h,_⟩:=N.ex
 exact⟨_,h⟩
theorem Num.keep{P:Program}{w:World}{H H':Hp}{d:Addr}{S:List Th}{L:Th->Int}(N:Num P w H d S L)(hd:∀o,H d=some o->H' d=some o)(e:Qu H H'):Num P w H' d S L:=by
 obtain⟨kvs,h1,h2,a,b⟩:=N.ex
 exact⟨⟨kvs,hd _ h1,Ze e h2,a,b⟩,N.ok⟩
theorem Num.same{P:Program}{w:World}{H H':Hp}{d:Addr}{S:List Th}{L:Th->Int}(N:Num P w H d S L)(e:Q3 H H'):Num P w H' d S L:=N.keep (λo h=>e d o h) (Qu.of e)
theorem Num.get{P:Program}{w:World}{H:Hp}{d b:Addr}{S:List Th}{L:Th->Int}{t:Th}{Q:VK}(N:Num P w H d S L)(a:t∈S)(h:Yl H (.ref b) t)(q:Q (.int (L t)) H):Qho P w (.ref d) (.ref b) H Q:=by
 obtain⟨kvs,h1,h2,e,c⟩:=N.ex
 exact⟨d,b,kd t,kvs,_,Xb,Xb,⟨h1,h2⟩,Qfv h (N.ok t a).1 (N.ok t a).2,c t a,q⟩
theorem Num.put{P:Program}{w:World}{H:Hp}{d b:Addr}{S:List Th}{L:Th->Int}{t:Th}{i:Int}{Q:Hp->Prop}(N:Num P w H d S L)(n:S.length<=1000000)(a:t∈S)(h:Yl H (.ref b) t)
  (q:∀H',(∀c o,H c=some o->c≠d->H' c=some o)->Num P w H' d S (λu=>if u=t then i else L u)->Q H'):Qkf P w (.ref d) (.ref b) (.int i) H Q:=by
 obtain⟨kvs,h1,h2,f,g⟩:=N.ex
 have lk:kvs.length=S.length:=by have:=congrArg List.length f;simpa using this
 have j:=Qfv h (N.ok t a).1 (N.ok t a).2
 refine⟨d,b,kd t,kvs,Xb,Xb,⟨h1,h2⟩,j,by rw[Td];omega,q _ (λc o e k=>by rw[Qf k];exact e) ?_⟩
 have m:Qu H (upd H d (Uq P w d (Wl kvs (kd t) b (.int i)))):=Zr λxs e=>by rw[h1]at e;cases e
 refine⟨⟨_,Qb,Ze m (h2.put j),?_,λu l=>?_⟩,N.ok⟩
 ·rw[Qhb b _ (g t a),TJ]
  rw[<-f]
  refine Tw λp _=>?_
  show(if p.1=kd t then(p.1,p.2.1,V.int i)else p).1=p.1
  split<;>rfl
 ·rw[Jt]
  by_cases e:u=t
  ·subst e;rw[Gp Xb,Gp rfl]
  ·rw[Gj (λz=>e (Qbl z)),Gj e]
   exact g u l
theorem Num.add{P:Program}{w:World}{H:Hp}{d b:Addr}{S:List Th}{L:Th->Int}{t:Th}{i:Int}{Q:Hp->Prop}(N:Num P w H d S L)(B:S.length<=1000000)(y:¬t∈S)(ok:t.ok=true)(dp:t.depth<=8)(h:Yl H (.ref b) t)
  (q:∀H',(∀c o,H c=some o->c≠d->H' c=some o)->Num P w H' d (S++[t]) (λu=>if u=t then i else L u)->Q H'):Qkf P w (.ref d) (.ref b) (.int i) H Q:=by
 obtain⟨kvs,h1,h2,g,n⟩:=N.ex
 have lk:kvs.length=S.length:=by have:=congrArg List.length g;simpa using this
 have l:=Qfv h ok dp
 have f:Yd kvs (kd t)=none:=by
  cases e:Yd kvs (kd t)with
  |none=>rfl
  |some v=>
   exfalso
   unfold Yd at e
   obtain⟨p,k,_⟩:=E6.mp e
   have r:=Sx k
   have s:p.1=kd t:=T3 r
   have j:kd t∈kvs.map (·.1):=Ti.mpr ⟨p,Eb k,s⟩
   rw[g]at j
   obtain⟨u,a,m⟩:=Ti.mp j
   exact y (Qbl m▸a)
 refine⟨d,b,kd t,kvs,Xb,Xb,⟨h1,h2⟩,l,by rw[Td];omega,q _ (λc o e x=>by rw[Qf x];exact e) ?_⟩
 have A:Qu H (upd H d (Uq P w d (Wl kvs (kd t) b (.int i)))):=Zr λxs e=>by rw[h1]at e;cases e
 refine⟨⟨_,Qb,Ze A (h2.put l),?_,λu a=>?_⟩,λu a=>?_⟩
 ·rw[Qgx b _ f,Tt,g,Tt]
  rfl
 ·rw[Jt]
  by_cases e:u=t
  ·subst e;rw[Gp Xb,Gp rfl]
  ·rw[Gj (λz=>e (Qbl z)),Gj e]
   rcases Gd.mp a with a|a
   ·exact n u a
   ·rw[Gx]at a
    exact absurd a e
 ·rcases Gd.mp a with a|a
  ·exact N.ok u a
  ·rw[Gx]at a
   subst a
   exact⟨ok,dp⟩
theorem Num.Qze{P:Program}{w:World}{H:Hp}{d b:Addr}{S:List Th}{L:Th->Int}{t:Th}{Q:VK}(N:Num P w H d S L)(ok:t.ok=true)(dp:t.depth<=8)(h:Yl H (.ref b) t)(q:Q (.bl (!decide (t∈S))) H):Qrd P w (λb=>!b) (.ref b) (.ref d) H Q:=by
 obtain⟨kvs,h1,h2,i,j⟩:=N.ex
 refine⟨b,d,kd t,kvs,Xb,Xb,⟨h1,h2⟩,Qfv h ok dp,?_⟩
 have e:(Yd kvs (kd t)).isSome=decide (t∈S):=by
  by_cases a:t∈S
  ·rw[Tp a,j t a];rfl
  ·rw[Tg a]
   cases e:Yd kvs (kd t)with
   |none=>rfl
   |some v=>
    exfalso
    unfold Yd at e
    obtain⟨p,f,_⟩:=E6.mp e
    have k:=Sx f
    have l:p.1=kd t:=T3 k
    have c:kd t∈kvs.map (·.1):=Ti.mpr ⟨p,Eb f,l⟩
    rw[i]at c
    obtain⟨u,m,g⟩:=Ti.mp c
    exact a (Qbl g▸m)
 rw[e]
 exact q
theorem Num.names{P:Program}{w:World}{H:Hp}{d:Addr}{S:List Th}{L:Th->Int}(N:Num P w H d S L):∃kvs,DH P w H d kvs/\kvs.length=S.length/\Zn H (kvs.map λp=>V.ref p.2.1) S:=by
 obtain⟨kvs,h1,h2,a,f⟩:=N.ex
 have lk:kvs.length=S.length:=by have:=congrArg List.length a;simpa using this
 refine⟨kvs,⟨h1,h2⟩,lk,?_⟩
 have all:∀(l:List KE)(S:List Th),(∀p∈l,p∈kvs)->l.map (·.1)=S.map kd->Zn H (l.map λp=>V.ref p.2.1) S:=by
  intro l
  induction l with
  |nil=>intro S _ e;cases S with
   |nil=>exact .nil
   |cons t r=>simp at e
  |cons p l c=>intro S sub e;cases S with
   |nil=>simp at e
   |cons t r=>
    simp only[GO,Tx]at e
    refine .cons (Qiy t ?_) (c r (λq b=>sub q (Gm _ b)) e.2)
    have:=(h2 p (sub p GJ)).1
    rw[e.1,Rb]at this
    exact this
 exact all kvs S (λ_ h=>h) a
def tw(b:Bool):Str:=if b then"same"else"unlike"
def Ub(H:Hp):List V->Tl->Prop:=Paired λx p=>∃a v u,x=.ref a/\H a=some (.tup [.str (tw p.1),v,u])/\Yl H v p.2.1/\Yl H u p.2.2
theorem Ub.Qm{H H':Hp}(e:Qu H H'){xs:List V}{tl:Tl}(h:Ub H xs tl):Ub H' xs tl:=L2.Paired.Z8 h λx p⟨a,v,u,h1,h2,b,c⟩=>⟨a,v,u,h1,e _ _ h2,b.Qm e,c.Qm e⟩
def Ot(H:Hp):List V->List (Th×Th)->Prop:=Paired λx p=>∃a v u,x=.ref a/\H a=some (.tup [v,u])/\Yl H v p.1/\Yl H u p.2
theorem Ot.Qm{H H':Hp}(e:Qu H H'){xs:List V}{l:List (Th×Th)}(h:Ot H xs l):Ot H' xs l:=L2.Paired.Z8 h λx p⟨a,v,u,h1,h2,b,c⟩=>⟨a,v,u,h1,e _ _ h2,b.Qm e,c.Qm e⟩
theorem Qv{α β:Type}{F:α->β->Prop}:∀{xs:List α}{ys:List β}{i:Nat}{x:α},Paired F xs ys->xs[i]?=some x->∃y,ys[i]?=some y/\F x y
 |_,_,_,_,.nil,e=>by simp at e
 |_,_,0,_,.cons h _,e=>by
  simp at e
  subst e
  exact⟨_,Xb,h⟩
 |_,_,i+1,_,.cons _ t,e=>by
  obtain⟨y,h1,h2⟩:=Qv (i:=i) t (by simpa using e)
  exact⟨y,by simpa using h1,h2⟩
theorem Ym{α β:Type}{F:α->β->Prop}:∀{a b:List α}{c d:List β},Paired F a c->Paired F b d->Paired F (a++b) (c++d)
 |_,_,_,_,.nil,t=>t
 |_,_,_,_,.cons h r,t=>.cons h (Ym r t)
def Io(tl:Tl):List (Th×Th):=(tl.filter (·.1)).map (·.2)
theorem Qet{tl:Tl}{a b:Th}:(a,b)∈Io tl↔(true,a,b)∈tl:=by
 unfold Io
 rw[Ti]
 constructor
 ·rintro⟨⟨c,x⟩,h,e⟩
  rw[Ss]at h
  obtain⟨h1,h2⟩:=h
  have:c=true:=h2
  subst this
  cases e
  exact h1
 ·intro h
  exact⟨(true,a,b),Ss.mpr ⟨h,Xb⟩,Xb⟩
def Qad(P:Program)(w:World):Sp:=λvs H Q _=>∃(a b:Addr)(us c:List V)(tl:Tl)(ts:List Th),vs=[.ref a,.ref b]/\H a=some (.lst us)/\Ub H us tl/\H b=some (.lst c)/\Zn H c ts/\
 (∀t∈ts,t.ok=true/\t.depth<=8)/\(∀p∈tl,(p.2.1.ok=true/\p.2.1.depth<=8)/\p.2.2.ok=true/\p.2.2.depth<=8)/\Qw ts+Qw (tl.map (·.2.1))+Qw (tl.map (·.2.2))<=3000/\
 ∀(d:Addr)(S:List Th)(L:Th->Int)(H':Hp),Q3 H H'->H d=none->Num P w H' d S L->Tells tl S L->(∀t∈ts,t∈S)->(∀p∈tl,p.2.1∈S/\p.2.2∈S)->Q (.ref d) H'
end Sb
namespace L2
open PySem PySem.Spec PyProof.Rows
theorem Qiv{K:Gc}{a p:Addr}{xs:List V}{g:TG}{tt:TT}{te:TE}{Q:Hp->Prop}{h:St}{H0:Hp}(u:xs.length<=sizeLine)(Pv:Nat->List V->St->Hp->Prop)(r:Pv 0 [] h (upd H0 p (.lst [])))
  (s:∀i ys σ H,i<=xs.length->Pv i ys σ H->Zd K H a xs)
  (t:∀i x ys σ H,xs[i]?=some x->Pv i ys σ H->H p=some (.lst ys)->g x σ H λd H2=>tt d H2 λb j=>if b=true then te d j λv n=>n p=some (.lst ys)/\Pv (i+1) (ys++[v]) d (upd n p (.lst (ys++[v])))else j p=some (.lst ys)/\Pv (i+1) ys d j)
  (hd:∀ys σ H,Pv xs.length ys σ H->H p=some (.lst ys)->Q H):Qe4 p (Itl K a) g tt te Q h (upd H0 p (.lst [])):=by
 refine⟨λi m σ H=>m=xs.length - i/\i<=xs.length/\∃ys,ys.length<=i/\Pv i ys σ H/\H p=some (.lst ys),⟨xs.length,by simp,Ta _,[],Gr _,r,Qb⟩,?_⟩
 rintro i m σ H ⟨rfl,hi,ys,w,pv,o⟩
 have q:=s i ys σ H hi pv
 by_cases f:i<xs.length
 ·refine .inr ⟨⟨xs,xs[i],q,by simp[f]⟩,λv c H'=>H' p=some (.lst ys)/\Pv (i+1) (ys++[v]) c (upd H' p (.lst (ys++[v]))),λc H'=>H' p=some (.lst ys)/\Pv (i+1) ys c H',
   λv c H'⟨k,l⟩=>⟨ys,k,by omega,xs.length - (i+1),by omega,Xb,f,ys++[v],by simp[w],l,Qb⟩,λc H'⟨k,l⟩=>⟨xs.length - (i+1),by omega,Xb,f,ys,by omega,l,k⟩,λx H' y=>?_⟩
  obtain⟨e,y⟩:=y
  subst e
  exact t i x ys σ _ (y xs q) pv o
 ·have e:i=xs.length:=by omega
  subst e
  exact .inl ⟨⟨xs,q,Gr _⟩,hd ys σ H pv o⟩
def Tr(t:TS)(pre a:St->Hp->Prop):Prop:=∀D σ H,pre σ H->(∀b H',a b H'->D.nx b H')->t D σ H
def Jm(d:Addr)(H H':Hp):Prop:=∀c o,H c=some o->c≠d->H' c=some o
theorem Jm.refl{d:Addr}{H:Hp}:Jm d H H:=λ_ _ e _=>e
theorem Jm.trans{d:Addr}{H H1 H2:Hp}(a:Jm d H H1)(b:Jm d H1 H2):Jm d H H2:=λc o e h=>b c o (a c o e h) h
theorem Jm.of{d:Addr}{H H1:Hp}(e:Q3 H H1):Jm d H H1:=λc o h _=>e c o h
end L2
namespace Sb
open PySem PySem.Spec PyProof.Rows L2
theorem _root_.L2.Jm.Qm{d:Addr}{H H':Hp}{o:HO}(b:Jm d H H')(h:H d=some o)(a:∀xs,o≠.tup xs):Qu H H':=λc xs e=>b c _ e λz=>by subst z;rw[h]at e;exact a xs (TF e)
theorem Qe6{α:Type}{p q:α->Bool}:∀{l:List α},(∀x∈l,p x=true->q x=true)->l.countP p<=l.countP q
 |[],_=>by simp
 |x::l,h=>by
  have c:=Qe6 (l:=l) λy b=>h y (Gm _ b)
  have h1:=h x GJ
  rw[DM,DM]
  cases a:p x with
  |true=>rw[h1 a];simp;exact c
  |false=>simp;omega
theorem Qd7{α:Type}{p q:α->Bool}:∀{l:List α},(∀x∈l,p x=true->q x=true)->(∃x∈l,q x=true/\p x=false)->l.countP p<l.countP q
 |[],_,⟨x,f,_⟩=>nomatch f
 |x::l,h,⟨y,a,b,c⟩=>by
  have d:∀y∈l,p y=true->q y=true:=λy a=>h y (Gm _ a)
  have le:=Qe6 d
  rw[DM,DM]
  rcases Gu.mp a with z|z
  ·subst z
   rw[b,c]
   simp
   omega
  ·have g:=Qd7 d ⟨y,z,b,c⟩
   have h1:=h x GJ
   cases e:p x with
   |true=>rw[h1 e];simp;exact g
   |false=>simp;omega
def dis(S:List Th)(L:Th->Int):Nat:=(S.flatMap λx=>S.map λy=>(x,y)).countP λp=>decide (L p.1≠L p.2)
theorem Qvy{S:List Th}{L a:Th->Int}(h:∀x∈S,∀y∈S,L x=L y->a x=a y)(h2:∃x∈S,∃y∈S,L x≠L y/\a x=a y):dis S a<dis S L:=by
 obtain⟨x,c,y,d,f,g⟩:=h2
 refine Qd7 (λp b e=>?_) ⟨(x,y),?_,Tp f,by simp[g]⟩
 ·rw[DF]at b
  obtain⟨x,c,b⟩:=b
  obtain⟨y,d,rfl⟩:=Ti.mp b
  exact Tp λz=>(T3 e) (h x c y d z)
 ·rw[DF]
  exact⟨x,c,Ti.mpr ⟨y,d,Xb⟩⟩
open PySem PySem.Spec PyProof.Rows L2
theorem Qb6{H:Hp}:∀l:List Int,Rg H (l.map V.int) (l.map PyData.int)
 |[]=>.nil
 |i::r=>.cons (.int i) (Qb6 r)
theorem Qde:∀l:List Int,PyData.canLayAll0 (l.map PyData.int)=true
 |[]=>by simp[PyData.canLayAll0]
 |i::r=>by simp[PyData.canLayAll0,PyData.canLay0,Qde r]
theorem Qci:∀l:List Int,PyData.depthAll (l.map PyData.int)<=1
 |[]=>by simp[PyData.depthAll]
 |i::r=>by
  have:=Qci r
  simp only[GO,PyData.depthAll,PyData.depth]
  omega
theorem Qic:∀l m:List Int,PyData.eqvAll (l.map PyData.int) (m.map PyData.int)=decide (l=m)
 |[],[]=>by simp[PyData.eqvAll]
 |[],_::_=>by simp[PyData.eqvAll]
 |_::_,[]=>by simp[PyData.eqvAll]
 |i::l,j::m=>by
  simp only[GO,PyData.eqvAll,PyData.eqv,Qic l m]
  by_cases h:i=j
  ·subst h;simp
  ·simp[h]
theorem Qex{P:Program}{w:World}{K:Gc}{r p d:Addr}{us:List V}{ps S:List Th}{L:Th->Int}{H:Hp}{Q:Hp->Prop}(o:H r=some (.tup us))(g:Zn H us ps)(f:∀t∈ps,t∈S)(N:Num P w H d S L)(h:H p=none)(k:us.length<=3000)
  (q:∀H',Q3 H H'->H' p=some (.lst ((ps.map L).map V.int))->Q H'):Qe4 p (Itt K r) (V8 0) Qub (tOp (Qho P w) (V2 1) (V2 0)) Q [none,some (.ref d)] (upd H p (.lst [])):=by
 refine Jy (K:=K) (a:=r) (xs:=us) (small (by omega)) (λi ys σ H1=>(∃n,σ=[n,some (.ref d)])/\ys=((ps.take i).map L).map V.int/\H1=upd H p (.lst ys)) ⟨⟨_,Xb⟩,by simp,Xb⟩ (λi ys σ H1 _⟨_,_,e⟩=>Z4.of (by rw[e];exact Qg h _ _ _ o)) ?_ ?_
 ·rintro i x ys σ H1 hi j ⟨⟨n,rfl⟩,rfl,rfl⟩ c
  obtain⟨t,l,m⟩:=g.get hi
  obtain⟨b,_,_,_,rfl,_,_,_⟩:=m.inv
  have s1:=Qg h (.lst (((ps.take i).map L).map V.int))
  refine⟨_,Xb,_,Xb,(N.same s1).get (f t (Gb l)) (m.same s1) ⟨c,⟨_,Xb⟩,?_,?_⟩⟩
  ·rw[Tf,l];simp
  ·rw[U1]
 ·rintro ys σ H1 j ⟨_,rfl,rfl⟩ c
  rw[g.length,Te]at c⊢
  exact q _ (Qg h _) c
open PySem PySem.Spec PyProof.Rows L2
inductive Dd where
 |tell (b:Bool) (x y:Th)
 |ask (x y:Th)
 |back (i:Int)
def Dd.fits(ts:List Th):Dd->Prop
 |.tell _ x y=>x∈ts/\y∈ts
 |.ask x y=>x∈ts/\y∈ts
 |.back _=>True
def Qa3(H:Hp)(x:V):Dd->Prop
 |.tell b t u=>∃a c d,x=.ref a/\H a=some (.tup [.str (tw b),c,d])/\Yl H c t/\Yl H d u
 |.ask t u=>∃a c d,x=.ref a/\H a=some (.tup [.str "ask",c,d])/\Yl H c t/\Yl H d u
 |.back i=>∃a,x=.ref a/\H a=some (.tup [.str "back",.int i])
theorem Qa3.Qm{H H':Hp}(e:Qu H H'){x:V}:∀{d:Dd},Qa3 H x d->Qa3 H' x d
 |.tell _ _ _,⟨a,f,g,h1,h2,b,c⟩=>⟨a,f,g,h1,e _ _ h2,b.Qm e,c.Qm e⟩
 |.ask _ _,⟨a,f,g,h1,h2,b,c⟩=>⟨a,f,g,h1,e _ _ h2,b.Qm e,c.Qm e⟩
 |.back _,⟨a,h1,h2⟩=>⟨a,h1,e _ _ h2⟩
def Xx(H:Hp):List V->List Dd->Prop:=Paired λx d=>Qa3 H x d
theorem Xx.Qm{H H':Hp}(e:Qu H H'){xs:List V}{ds:List Dd}(h:Xx H xs ds):Xx H' xs ds:=L2.Paired.Z8 h λ_ _ h=>h.Qm e
theorem Xx.same{H H':Hp}(e:Q3 H H'){xs:List V}{ds:List Dd}(h:Xx H xs ds):Xx H' xs ds:=h.Qm (Qu.of e)
def Qmd(K:Gc):Sp:=λvs H Q _=>∃(a b:Addr)(ns:List Int)(us:List V)(ts:List Th),vs=[.ref a,.ref b]/\Zd K H a (ns.map V.int)/\ns.length<=63/\H b=some (.lst us)/\Zn H us ts/\0<ts.length/\ts.length<=1000/\
 ∀(r:Addr)(es:List V)(dl:List Dd)(H':Hp),Q3 H H'->H r=none->H' r=some (.lst es)->Xx H' es dl->dl.length=ns.length->(∀d∈dl,d.fits ts)->Q (.ref r) H'
def Qvk:Sp:=λvs H Q _=>∃n:Int,vs=[.int n]/\∀(m:Int)(H':Hp),Q3 H H'->Q (.int m) H'
def Qq0(K:Gc):Sp:=λvs H Q _=>∃(a:Addr)(ns:List Int)(m b:Int),vs=[.ref a,.int m,.int b]/\Zd K H a (ns.map V.int)/\ns.length<=63/\Q (.int m) H
open PySem PySem.Spec PyProof.Rows L2
def Qj8(tl:Tl)(x y:Th)(k:Str):Prop:=(k="equal"/\Cg tl x y)\/(k="unlike"/\¬Cg tl x y/\∃a b,(false,a,b)∈tl/\Cg (tl++[(true,x,y)]) a b)\/(k="open"/\¬Cg tl x y/\∀a b,(false,a,b)∈tl->¬Cg (tl++[(true,x,y)]) a b)
def Iy(tl:Tl):Prop:=∃a b,(false,a,b)∈tl/\Cg tl a b
def Qi5:Sp:=λvs H Q _=>∃(a:Addr)(us:List V)(tl:Tl)(b c:V)(x y:Th),vs=[.ref a,b,c]/\H a=some (.lst us)/\Ub H us tl/\Yl H b x/\Yl H c y/\(x.ok=true/\x.depth<=8)/\(y.ok=true/\y.depth<=8)/\
 (∀p∈tl,(p.2.1.ok=true/\p.2.1.depth<=8)/\p.2.2.ok=true/\p.2.2.depth<=8)/\Qw (tl.map (·.2.1))+Qw (tl.map (·.2.2))+x.size+y.size<=3000/\∀(k:Str)(H':Hp),Q3 H H'->Qj8 tl x y k->Q (.str k) H'
def Qc3:Sp:=λvs H Q _=>∃(a e:Addr)(us:List V)(tl:Tl)(c d:V)(b:Bool)(x y:Th),vs=[.ref a,.ref e]/\H a=some (.lst us)/\Ub H us tl/\H e=some (.tup [.str (tw b),c,d])/\Yl H c x/\Yl H d y/\(x.ok=true/\x.depth<=8)/\(y.ok=true/\y.depth<=8)/\
 (∀p∈tl,(p.2.1.ok=true/\p.2.1.depth<=8)/\p.2.2.ok=true/\p.2.2.depth<=8)/\Qw (tl.map (·.2.1))+Qw (tl.map (·.2.2))+x.size+y.size<=3000/\∀(r:Bool)(H':Hp),Q3 H H'->(r=true↔Iy (tl++[(b,x,y)]))->Q (.bl r) H'
open Classical in
noncomputable def kindOf(tl:Tl)(x y:Th):Str:=if Cg tl x y then"equal"else if∃a b,(false,a,b)∈tl/\Cg (tl++[(true,x,y)]) a b then"unlike"else"open"
theorem Qj8.eq{tl:Tl}{x y:Th}{k:Str}(h:Qj8 tl x y k):k=kindOf tl x y:=by
 unfold kindOf
 rcases h with⟨e,c⟩|⟨e,c,d⟩|⟨e,c,d⟩
 ·rw[Gp c,e]
 ·rw[Gj c,Gp d,e]
 ·rw[Gj c,Gj (λ⟨a,b,h1,h2⟩=>d a b h1 h2),e]
open Classical in
noncomputable def W4(tl:Tl):Dd->Tl×V
 |.ask x y=>(tl,.str (kindOf tl x y))
 |.back i=>if 0<=i/\i<=(tl.length:Int)then(tl.take i.toNat,.int ((tl.length:Int) - i))else(tl,.str "no moment")
 |.tell b x y=>if Iy (tl++[(b,x,y)])then(tl,.str "clash")else(tl++[(b,x,y)],.int ((tl.length:Int)+1))
noncomputable def after(tl:Tl):List Dd->Tl
 |[]=>tl
 |d::ds=>after (W4 tl d).1 ds
noncomputable def Rr(tl:Tl):List Dd->List V
 |[]=>[]
 |d::ds=>(W4 tl d).2::Rr (W4 tl d).1 ds
theorem Rx(tl:Tl):∀(ds es:List Dd),after tl (ds++es)=after (after tl ds) es
 |[],es=>rfl
 |d::ds,es=>Rx (W4 tl d).1 ds es
theorem I9{tl:Tl}{ds:List Dd}{k:Nat}{d:Dd}(h:ds[k]?=some d):after tl (ds.take (k+1))=(W4 (after tl (ds.take k)) d).1:=by
 rw[Tf,h,Rx]
 rfl
theorem Os(tl:Tl):∀ds:List Dd,(Rr tl ds).length=ds.length
 |[]=>rfl
 |d::ds=>by simp only[Rr,Tb,Os (W4 tl d).1 ds]
theorem O0:∀{ds:List Dd}{tl:Tl}{k:Nat}{d:Dd},ds[k]?=some d->(Rr tl ds)[k]?=some (W4 (after tl (ds.take k)) d).2
 |[],_,_,_,h=>by simp at h
 |e::ds,tl,0,d,h=>by
  simp at h
  subst h
  rfl
 |e::ds,tl,k+1,d,h=>by
  have a:=O0 (ds:=ds) (tl:=(W4 tl e).1) (k:=k) (d:=d) (by simpa using h)
  simp only[Rr,Lx,Er,after]
  exact a
def Th.good(t:Th):Prop:=t.ok=true/\t.depth<=8/\t.size<=100
def Dd.good:Dd->Prop
 |.tell _ x y=>x.good/\y.good
 |.ask x y=>x.good/\y.good
 |.back _=>True
def Tlg(tl:Tl):Prop:=∀p∈tl,p.2.1.good/\p.2.2.good
theorem Qo3{tl:Tl}{d:Dd}(h:Tlg tl)(g:d.good):Tlg (W4 tl d).1:=by
 cases d with
 |ask x y=>exact h
 |back i=>
  simp only[W4]
  split
  ·exactλp a=>h p (Dp a)
  ·exact h
 |tell b x y=>
  simp only[W4]
  split
  ·exact h
  ·intro p a
   rcases Gd.mp a with z|z
   ·exact h p z
   ·rw[Gx]at z
    subst z
    exact g
theorem Qt1{tl:Tl}{d:Dd}:(W4 tl d).1.length<=tl.length+1:=by
 cases d with
 |ask x y=>exact EZ _
 |back i=>
  simp only[W4]
  split
  ·rw[T6];omega
  ·exact EZ _
 |tell b x y=>
  simp only[W4]
  split
  ·exact EZ _
  ·rw[Gk,Gv];omega
theorem I8:∀{ds:List Dd}{tl:Tl},Tlg tl->(∀d∈ds,d.good)->Tlg (after tl ds)
 |[],_,h,_=>h
 |d::ds,tl,h,g=>by
  have:=I8 (ds:=ds) (tl:=(W4 tl d).1) (Qo3 h (g d GJ)) λe a=>g e (Gm _ a)
  simp only[after]
  exact this
theorem Ii:∀{ds:List Dd}{tl:Tl},(after tl ds).length<=tl.length+ds.length
 |[],tl=>Gr _
 |d::ds,tl=>by
  have h1:=Ii (ds:=ds) (tl:=(W4 tl d).1)
  have h2:=Qt1 (tl:=tl) (d:=d)
  simp only[after,Tb]
  omega
theorem Qqh{tl:Tl}(h:Tlg tl):Qw (tl.map (·.2.1))<=tl.length*100/\Qw (tl.map (·.2.2))<=tl.length*100:=by
 have h1:=Jl (tl.map (·.2.1)) 100 λt b=>by
  obtain⟨p,a,rfl⟩:=Ti.mp b
  exact(h p a).1.2.2
 have h2:=Jl (tl.map (·.2.2)) 100 λt b=>by
  obtain⟨p,a,rfl⟩:=Ti.mp b
  exact(h p a).2.2.2
 rw[Gn]at h1 h2
 exact⟨h1,h2⟩
def tlD(p:Bool×Th×Th):PyData:=.tuple [.str (tw p.1),p.2.1.toD,p.2.2.toD]
def ddD:Dd->PyData
 |.tell b x y=>tlD (b,x,y)
 |.ask x y=>.tuple [.str "ask",x.toD,y.toD]
 |.back i=>.tuple [.str "back",.int i]
theorem Qa3.dt{H:Hp}{x:V}:∀{d:Dd},Qa3 H x d->Dt H x (ddD d)
 |.tell _ _ _,⟨a,e,f,h1,h2,b,c⟩=>by subst h1;exact .tup h2 (.cons (.str _) (.cons b.dt (.cons c.dt .nil)))
 |.ask _ _,⟨a,e,f,h1,h2,b,c⟩=>by subst h1;exact .tup h2 (.cons (.str _) (.cons b.dt (.cons c.dt .nil)))
 |.back _,⟨a,h1,h2⟩=>by subst h1;exact .tup h2 (.cons (.str _) (.cons (.int _) .nil))
theorem Xx.dts{H:Hp}{xs:List V}{ds:List Dd}(h:Xx H xs ds):Rg H xs (ds.map ddD):=by
 unfold Xx at h
 induction h with
 |nil=>exact .nil
 |cons h r a=>exact .cons h.dt a
theorem Ub.dts{H:Hp}{xs:List V}{tl:Tl}(h:Ub H xs tl):Rg H xs (tl.map tlD):=by
 unfold Ub at h
 induction h with
 |nil=>exact .nil
 |cons h r f=>
  obtain⟨a,v,u,b,c,d,e⟩:=h
  subst b
  exact .cons (.tup c (.cons (.str _) (.cons d.dt (.cons e.dt .nil)))) f
def Rdy(d:PyData):Prop:=d.canLay0=true/\Wn d<=1000/\d.depth<=20
theorem Qhl{ds:List PyData}(h:∀d∈ds,Rdy d)(b:ds.length<=100):(PyData.list ds).canLay0=true/\Wn (PyData.list ds)<=1000000/\(PyData.list ds).depth<=60:=by
 have all:PyData.canLayAll0 ds=true/\Zl ds<=ds.length*1000/\PyData.depthAll ds<=20:=by
  clear b
  induction ds with
  |nil=>simp[PyData.canLayAll0,Zl,PyData.depthAll]
  |cons d r c=>
   obtain⟨h1,h2,f⟩:=h d GJ
   obtain⟨i1,i2,g⟩:=c λe a=>h e (Gm _ a)
   refine⟨by simp[PyData.canLayAll0,h1,i1],?_,?_⟩
   ·simp only[Zl,Tb];omega
   ·simp only[PyData.depthAll];omega
 refine⟨by simp only[PyData.canLay0];exact all.1,?_,?_⟩
 ·simp only[Wn];omega
 ·simp only[PyData.depth];omega
theorem Qvi(b:Bool):PyData.strOk (tw b)=true:=by cases b<;>decide+kernel
theorem Qah{s:Str}{x y:Th}(c:PyData.strOk s=true)(a:x.good)(b:y.good):Rdy (.tuple [.str s,x.toD,y.toD]):=by
 have h1:=Qab x a.1
 have h2:=Qab y b.1
 have n1:=Qbz x
 have n2:=Qbz y
 have d:=Vg x
 have e:=Vg y
 have:=a.2
 have:=b.2
 refine⟨by simp[PyData.canLay0,PyData.canLayAll0,h1,h2,c],?_,?_⟩
 ·simp only[Wn,Zl];omega
 ·simp only[PyData.depth,PyData.depthAll];omega
theorem Qtb:∀{d:Dd},d.good->Rdy (ddD d)
 |.tell b x y,h=>Qah (Qvi b) h.1 h.2
 |.ask x y,h=>Qah (by decide+kernel) h.1 h.2
 |.back i,_=>⟨by simp[ddD,PyData.canLay0,PyData.canLayAll0];decide+kernel,by simp[ddD,Wn,Zl],by simp[ddD,PyData.depth,PyData.depthAll]⟩
theorem Qti{tl:Tl}(h:Tlg tl):∀d∈tl.map tlD,Rdy d:=λd hd=>by
 obtain⟨p,a,rfl⟩:=Ti.mp hd
 exact Qah (Qvi p.1) (h p a).1 (h p a).2
def Qc8(H:Hp)(v:V)(h:V):Prop:=v=h\/∃a xs,v=.ref a/\H a=some (.tup (h::xs))
structure Qfg(U:List Th):Prop where
 cl:Vi U
 good:∀t∈U,t.good
 len:U.length<=60
theorem Qfg.Qz1{U:List Th}(h:Qfg U){d:Dd}(f:d.fits U):d.good:=by
 cases d with
 |tell b x y=>exact⟨h.good x f.1,h.good y f.2⟩
 |ask x y=>exact⟨h.good x f.1,h.good y f.2⟩
 |back i=>exact True.intro
def O3:Sp:=λvs H Q _=>∃(a:Addr)(es:List V)(dl:List Dd)(U:List Th),vs=[.ref a]/\H a=some (.lst es)/\Xx H es dl/\Qfg U/\(∀d∈dl,d.fits U)/\dl.length<=10/\
 ∀(r:Addr)(b:List V)(H':Hp),Q3 H H'->H' r=some (.lst b)->Paired (Qc8 H') b (Rr [] dl)->Q (.ref r) H'
def Qj1:Sp:=λvs H Q _=>∃(a:Addr)(es:List V)(dl:List Dd)(U:List Th),vs=[.ref a]/\H a=some (.lst es)/\Xx H es dl/\Qfg U/\(∀d∈dl,d.fits U)/\dl.length<=10/\
 ∀(r:Addr)(b:List V)(H':Hp),Q3 H H'->H' r=some (.lst b)->Ub H' b (after [] dl)->Q (.ref r) H'
theorem R7{ts:List Th}(h:∀t∈ts,∀p∈t.parts,p∈ts):Vi ts:=by
 have key:∀n:Nat,∀t∈ts,t.depth<=n->∀s∈t.inside,s∈ts:=by
  intro n
  induction n with
  |zero=>intro t _ hd;have:=O9 t;omega
  |succ n d=>
   intro t b hd s a
   cases t with
   |mk u ps=>
    simp only[Th.inside,Gd,Gx]at a
    rcases a with a|rfl
    ·rw[Xi,DF]at a
     obtain⟨p,c,a⟩:=a
     have:=Vh c
     simp only[Th.depth]at hd
     exact d p (h _ b p c) (by omega) s a
    ·exact b
 exactλt b=>key _ t b (Gr _)
open PySem PySem.Spec PyProof.Rows L2
def Sub(tl a:Tl):Prop:=∀b x y,(b,x,y)∈tl->(b,x,y)∈a\/(b,y,x)∈a
mutual
theorem Cg.sub{tl a:Tl}(h:Sub tl a):∀{s t:Th},Cg tl s t->Cg a s t
 |_,_,.refl t=>.refl t
 |_,_,.symm c=>.symm (Cg.sub h c)
 |_,_,.trans c d=>.trans (Cg.sub h c) (Cg.sub h d)
 |_,_,.told m=>by
  rcases h _ _ _ m with z|z
  ·exact .told z
  ·exact .symm (.told z)
 |_,_,.cong c=>.cong (CgL.sub h c)
theorem CgL.sub{tl a:Tl}(h:Sub tl a):∀{s t:List Th},CgL tl s t->CgL a s t
 |_,_,.nil=>.nil
 |_,_,.cons c d=>.cons (Cg.sub h c) (CgL.sub h d)
end
open PySem PySem.Spec PyProof.Rows L2
structure Mp(P:Program)(w:World)(H:Hp)(d:Addr)(S:Th->Prop)(F:Th->Th):Prop where
 ex:∃kvs:List KE,H d=some (Uq P w d kvs)/\Vz H kvs/\∀t,S t->∃b,Yd kvs (kd t)=some (.ref b)/\Yl H (.ref b) (F t)
theorem Mp.at{P:Program}{w:World}{H:Hp}{d:Addr}{S:Th->Prop}{F:Th->Th}(N:Mp P w H d S F):∃o,H d=some (.ext o):=by
 obtain⟨kvs,h,_⟩:=N.ex
 exact⟨_,h⟩
end Sb
namespace K05
open PySem L2 Sb
def top(i:Nat):Stmt:=PySem.Challenge.pw_samebook_k05_equal_unlike_or_open.main.body.getD i (.Pass ⟨0,0,0,0⟩)
abbrev Qga:Stmt:=top 1
abbrev R6:Stmt:=Z5 (top 2) 0
abbrev Ob:Stmt:=Z5 (top 2) 1
abbrev Ri:Stmt:=Z5 (top 2) 2
abbrev Qft:Stmt:=Z5 (top 2) 3
abbrev Qfe:Stmt:=Z5 (top 2) 4
abbrev U8:Stmt:=Z5 (top 2) 5
abbrev Qk3:Stmt:=Z5 (top 2) 6
abbrev Ib:Stmt:=Z5 (top 2) 7
abbrev Qt3:Stmt:=Z5 (top 2) 8
abbrev Qff:Stmt:=Z5 (top 2) 9
abbrev Qig:Stmt:=Z5 (top 2) 10
abbrev Qgj:Stmt:=top 4
abbrev Qbk:Stmt:=top 5
abbrev Qf6:Stmt:=top 6
abbrev Qa7:Stmt:=Z5 (top 7) 0
abbrev Qf2:Stmt:=Z5 (top 7) 1
abbrev Vj:Stmt:=Z5 (top 7) 2
abbrev Ji:Stmt:=Z5 (top 7) 3
abbrev Qbr:Stmt:=Z5 (top 9) 0
abbrev Oe:Stmt:=Z5 (top 9) 1
abbrev J0:Stmt:=Z5 (top 9) 2
abbrev Qba:Stmt:=Z5 (top 9) 3
abbrev Qo9:Stmt:=top 10
abbrev J1:Stmt:=top 13
abbrev Uv:Stmt:=top 14
abbrev U7:Stmt:=top 15
abbrev Qbb:Stmt:=Z5 (top 16) 0
abbrev Qbn:Stmt:=Z5 (top 16) 1
abbrev Qbp:Stmt:=Z5 (top 16) 2
abbrev Qme:Stmt:=Z5 (top 16) 3
abbrev Quc:Stmt:=Z5 (top 16) 4
abbrev J9:Stmt:=Z5 (top 16) 5
abbrev Qfh:Stmt:=top 17
abbrev Qfz:Stmt:=top 19
abbrev Qfc:Stmt:=top 20
abbrev Wg:Stmt:=top 21
abbrev Qk0:Stmt:=top 22
abbrev Qbj:Stmt:=top 23
abbrev Qk4:Stmt:=top 24
abbrev Qkz:Stmt:=top 25
abbrev Qss:Stmt:=top 26
abbrev sSo:Stmt:=top 27
abbrev Qfj:Stmt:=top 28
end K05
namespace Sb
open PySem PySem.Spec PyProof.Rows L2
def jv(j:Nat):V:=.int (j:Int)
theorem Qwi{i j:Nat}(h:jv i=jv j):i=j:=by
 unfold jv at h
 injection h with h
 omega
abbrev Fm:=Str×List Nat
def fm(ts:List Th)(t:Th):Fm:=(t.word,t.parts.map λp=>ts.idxOf p)
def ik(i:Nat):KD:=.int (i:Int)
def Yt(f:Fm):KD:=.tup [.str f.1,.tup (f.2.map ik)]
theorem Qaw:∀{a b:List Nat},a.map ik=b.map ik->a=b
 |[],[],_=>rfl
 |[],_::_,h=>by simp at h
 |_::_,[],h=>by simp at h
 |x::a,y::b,h=>by
  simp only[GO,Tx]at h
  have e:(x:Int)=(y:Int):=by have:=h.1;unfold ik at this;injection this
  have t:=Qaw h.2
  rw[t,show x=y by omega]
theorem Ui{f g:Fm}(h:Yt f=Yt g):f=g:=by
 unfold Yt at h
 simp only[KD.tup.injEq,Tx,KD.str.injEq,Fp]at h
 exact Fl h.1 (Qaw h.2)
theorem Ic{ts:List Th}{t:Th}(h:t∈ts):ts[ts.idxOf t]?=some t:=by
 have a:ts.idxOf t<ts.length:=DV h
 rw[Gg a,SS a]
theorem Rf{ts:List Th}{t:Th}{j:Nat}(nd:ts.Nodup)(h:ts[j]?=some t):ts.idxOf t=j:=by
 obtain⟨a,e⟩:=Ge.mp h
 subst e
 exact nd.idxOf_getElem j a
theorem Qf7{ts:List Th}{s t:Th}(a:s∈ts)(b:t∈ts)(e:ts.idxOf s=ts.idxOf t):s=t:=by
 have h1:=Ic a
 have h2:=Ic b
 rw[e,h2]at h1
 exact(TF h1).symm
theorem Qs3{ts us:List Th}{t:Th}(h:t∈ts):(ts++us).idxOf t=ts.idxOf t:=by
 rw[List.idxOf_append,Gp h]
theorem Qap{ts:List Th}:∀{a b:List Th},(∀x∈a,x∈ts)->(∀x∈b,x∈ts)->a.map (λp=>ts.idxOf p)=b.map (λp=>ts.idxOf p)->a=b
 |[],[],_,_,_=>rfl
 |[],_::_,_,_,h=>by simp at h
 |_::_,[],_,_,h=>by simp at h
 |x::a,y::b,h1,h2,h=>by
  simp only[GO,Tx]at h
  rw[Qf7 (h1 x GJ) (h2 y GJ) h.1,Qap (λz hz=>h1 z (Gm _ hz)) (λz hz=>h2 z (Gm _ hz)) h.2]
theorem Xl{ts:List Th}(cl:Vi ts){t:Th}(h:t∈ts):∀p∈t.parts,p∈ts:=λp a=>by
 refine cl t h p ?_
 cases t with
 |mk w ps=>
  simp only[Th.parts]at a
  simp only[Th.inside,Gd]
  left
  rw[Xi,DF]
  exact⟨p,a,Ql1 p⟩
theorem Qjt{ts:List Th}{s t:Th}(a:∀p∈s.parts,p∈ts)(b:∀p∈t.parts,p∈ts)(e:fm ts s=fm ts t):s=t:=by
 cases s with
 |mk w ps=>
  cases t with
  |mk v c=>
   unfold fm at e
   simp only[Th.word,Th.parts,Ds]at e a b
   rw[e.1,Qap a b e.2]
theorem Qke{ts us:List Th}{t:Th}(h:∀p∈t.parts,p∈ts):fm (ts++us) t=fm ts t:=by
 unfold fm
 refine Fl rfl (Tw λp a=>Qs3 (h p a))
def I0(H:Hp)(x:V)(f:Fm):Prop:=∃c e,x=.ref c/\H c=some (.tup [.str f.1,.ref e])/\H e=some (.tup (f.2.map jv))
theorem I0.Qm{H H':Hp}{x:V}{f:Fm}(e:Qu H H')(h:I0 H x f):I0 H' x f:=by
 obtain⟨c,d,h1,h2,a⟩:=h
 exact⟨c,d,h1,e _ _ h2,e _ _ a⟩
theorem Qpw{H:Hp}:∀l:List Nat,Rg H (l.map jv) (V5 (l.map ik))
 |[]=>by simp only[EA,V5];exact .nil
 |i::r=>by simp only[GO,V5,ik,KD.toD];exact .cons (.int _) (Qpw r)
theorem Qrm:∀l:List Nat,PyData.canLayAll0 (V5 (l.map ik))=true
 |[]=>by simp[V5,PyData.canLayAll0]
 |i::r=>by simp only[GO,V5];simp only[PyData.canLayAll0,Qrm r,Bool.and_true];simp[ik,KD.toD,PyData.canLay0]
theorem Qqi:∀l:List Nat,Jw (l.map ik)=0
 |[]=>by simp[Jw]
 |i::r=>by simp only[GO,Jw,Qqi r];simp[ik,KD.depth]
theorem I0.key{H:Hp}{c:Addr}{f:Fm}(h:I0 H (.ref c) f)(ok:PyData.strOk f.1=true):Ox H c (Yt f):=by
 obtain⟨b,e,h1,h2,a⟩:=h
 cases h1
 unfold Yt
 refine⟨?_,?_,?_⟩
 ·simp only[KD.toD,V5]
  exact .tup h2 (.cons (.str _) (.cons (.tup a (Qpw f.2)) .nil))
 ·simp only[KD.toD,V5,PyData.canLay0,PyData.canLayAll0,ok,Qrm,Bool.and_self]
 ·simp only[KD.depth,Jw,Qqi]
  decide
def Il(a f d:Addr):List (Str×V):=[("things",.ref a),("forms",.ref f),("known",.ref d)]
structure Pl(P:Program)(w:World)(C:Addr)(H:Hp)(p a f d:Addr)(ts:List Th):Prop where
 ob:∃dx,H p=some (.ins C dx (Il a f d))
 th:∃us,H a=some (.lst us)/\Zn H us ts
 fo:∃ws,H f=some (.lst ws)/\Paired (I0 H) ws (ts.map (fm ts))
 kn:∃kvs,DH P w H d kvs/\kvs.length<=ts.length/\(∀(j:Nat)t,ts[j]?=some t->Yd kvs (Yt (fm ts t))=some (jv j))/\∀k v,Yd kvs k=some v->∃t∈ts,k=Yt (fm ts t)
 af:a≠f
 nd:ts.Nodup
 cl:Vi ts
 ok:∀t∈ts,t.ok=true/\t.depth<=50
structure Fr3(a f d:Addr)(H H':Hp):Prop where
 keep:∀b o,H b=some o->b≠a->b≠f->b≠d->H' b=some o
 there:∀b,H' b=none->H b=none
theorem Fr3.refl{a f d:Addr}{H:Hp}:Fr3 a f d H H:=⟨λ_ _ e _ _ _=>e,λ_ h=>h⟩
theorem Fr3.trans{a f d:Addr}{H H1 H2:Hp}(x:Fr3 a f d H H1)(y:Fr3 a f d H1 H2):Fr3 a f d H H2:=⟨λb o e h1 h2 c=>y.keep b o (x.keep b o e h1 h2 c) h1 h2 c,λb h=>x.there b (y.there b h)⟩
theorem Fr3.of{a f d:Addr}{H H':Hp}(g:Q3 H H'):Fr3 a f d H H':=⟨λb o e _ _ _=>g b o e,λb h=>g.free h⟩
section
variable{P:Program}{w:World}{C:Addr}{H H':Hp}{p a f d:Addr}{ts:List Th}
theorem Fr3.Qm(x:Fr3 a f d H H')(y:Pl P w C H p a f d ts):Qu H H':=λb xs e=>by
 obtain⟨us,g,_⟩:=y.th
 obtain⟨h,c,_⟩:=y.fo
 obtain⟨kvs,n1,_⟩:=y.kn
 exact x.keep b _ e (Zu e g (by intro z;cases z)) (Zu e c (by intro z;cases z)) (Zu e n1.at_ (by intro z;cases z))
theorem Pl.keep(x:Pl P w C H p a f d ts)(j:∀o,H p=some o->H' p=some o)(g:∀o,H a=some o->H' a=some o)(i:∀o,H f=some o->H' f=some o)(hd:∀o,H d=some o->H' d=some o)(b:Qu H H'):Pl P w C H' p a f d ts:=by
 obtain⟨dx,l⟩:=x.ob
 obtain⟨us,m,n⟩:=x.th
 obtain⟨q,c,e⟩:=x.fo
 obtain⟨kvs,n1,n2,n3,k⟩:=x.kn
 exact⟨⟨dx,j _ l⟩,⟨us,g _ m,n.Qm b⟩,⟨q,i _ c,L2.Paired.Z8 e λ_ _ h=>h.Qm b⟩,⟨kvs,⟨hd _ n1.at_,Ze b n1.keys⟩,n2,n3,k⟩,x.af,x.nd,x.cl,x.ok⟩
theorem Pl.same(g:Q3 H H')(x:Pl P w C H p a f d ts):Pl P w C H' p a f d ts:=x.keep (g _) (g _) (g _) (g _) (Qu.of g)
theorem Pl.but{b:Addr}{zs c:List V}(x:Pl P w C H p a f d ts)(hb:H b=some (.lst zs))(g:b≠a)(h:b≠f):Pl P w C (upd H b (.lst c)) p a f d ts:=by
 obtain⟨dx,i⟩:=x.ob
 obtain⟨kvs,n1,_⟩:=x.kn
 refine x.keep (λo e=>?_) (λo e=>by rw[Qf (Gq g)];exact e) (λo e=>by rw[Qf (Gq h)];exact e) (λo e=>?_) (Zr λxs e=>by rw[hb]at e;cases e)
 ·rw[Qf (Zu i hb (by intro z;cases z))];exact e
 ·rw[Qf (Zu n1.at_ hb (by intro z;cases z))];exact e
end
structure Nrr(H:Hp)(dn:Addr)(S:List Addr)(m:Nat)(ts:List Th):Prop where
 at_:∃kvs,H dn=some (.dT kvs)/\kvs.length<=m/\∀k v,Yu kvs k=some v->∃l∈S,v=.ref l
 ls:∀l∈S,∃es,H l=some (.lst es)/\es.length<=m/\∀e∈es,∃c v,∃(j:Nat)(t:Th),e=.ref c/\H c=some (.tup [v,jv j])/\Yl H v t/\ts[j]?=some t
theorem Nrr.keep{H H':Hp}{b:Addr}{S:List Addr}{m f:Nat}{ts a:List Th}(x:Nrr H b S m ts)(hd:∀o,H b=some o->H' b=some o)(p:∀l∈S,∀o,H l=some o->H' l=some o)(g:Qu H H')(d:∀(j:Nat)t,ts[j]?=some t->a[j]?=some t)(y:m<=f):Nrr H' b S f a:=by
 obtain⟨kvs,h1,h2,k⟩:=x.at_
 refine⟨⟨kvs,hd _ h1,by omega,k⟩,λl hS=>?_⟩
 obtain⟨es,h,w,i⟩:=x.ls l hS
 refine⟨es,p l hS _ h,by omega,λe n=>?_⟩
 obtain⟨c,v,j,t,q,r,s,u⟩:=i e n
 exact⟨c,v,j,t,q,g _ _ r,s.Qm g,d j t u⟩
theorem Nrr.same{H H':Hp}{a:Addr}{S:List Addr}{m:Nat}{ts:List Th}(g:Q3 H H')(x:Nrr H a S m ts):Nrr H' a S m ts:=x.keep (g _) (λl _=>g l) (Qu.of g) (λ_ _ h=>h) (Gr _)
structure Fra(a f d dn:Addr)(S S':List Addr)(H H':Hp):Prop where
 keep:∀b o,H b=some o->b≠a->b≠f->b≠d->b≠dn->b∉S->H' b=some o
 own:∀b∈S',b∈S\/H b=none
 sub:∀b∈S,b∈S'
 there:∀b,H' b=none->H b=none
theorem Fra.of{a f d c:Addr}{S:List Addr}{H H':Hp}(g:Q3 H H'):Fra a f d c S S H H':=⟨λb o e _ _ _ _ _=>g b o e,λ_ h=>.inl h,λ_ h=>h,λb h=>g.free h⟩
theorem Fra.trans{a f d c:Addr}{S S1 S2:List Addr}{H H1 H2:Hp}(x:Fra a f d c S S1 H H1)(y:Fra a f d c S1 S2 H1 H2):Fra a f d c S S2 H H2:=by
 refine⟨λb o e h1 h2 g i j=>y.keep b o (x.keep b o e h1 h2 g i j) h1 h2 g i λz=>?_,λb hb=>?_,λb h=>y.sub b (x.sub b h),λb h=>x.there b (y.there b h)⟩
 ·rcases x.own b z with z|z
  ·exact j z
  ·rw[e]at z;cases z
 ·rcases y.own b hb with h|h
  ·exact x.own b h
  ·exact .inr (x.there b h)
theorem Fra.Qm{P:Program}{w:World}{C:Addr}{H H':Hp}{p a f d c:Addr}{S g:List Addr}{ts:List Th}{m:Nat}(x:Fra a f d c S g H H')(y:Pl P w C H p a f d ts)(z:Nrr H c S m ts):Qu H H':=λb xs e=>by
 obtain⟨us,k,_⟩:=y.th
 obtain⟨n,i,_⟩:=y.fo
 obtain⟨kvs,n1,_⟩:=y.kn
 obtain⟨l,j,_⟩:=z.at_
 refine x.keep b _ e (Zu e k (by intro z;cases z)) (Zu e i (by intro z;cases z)) (Zu e n1.at_ (by intro z;cases z)) (Zu e j (by intro z;cases z)) λhb=>?_
 obtain⟨es,h,_⟩:=z.ls b hb
 rw[e]at h
 cases h
def Qhg(P:Program)(w:World)(C:Addr):Sp:=λvs H Q _=>∃(p dx:Addr),vs=[.ref p]/\H p=some (.ins C dx [])/\
 ∀(a f d:Addr)(H':Hp),Pl P w C H' p a f d []->(∀b o,H b=some o->b≠p->H' b=some o)->H a=none->H f=none->H d=none->Q .non H'
def Qck(P:Program)(w:World)(C:Addr):Sp:=λvs H Q _=>∃(p c:Addr)(v:V)(t:Th)(a f d:Addr)(ts:List Th),vs=[.ref p,v,.ref c]/\Pl P w C H p a f d ts/\Yl H v t/\t.ok=true/\t.depth<=50/\
 (∀q∈t.parts,q∈ts)/\I0 H (.ref c) (fm ts t)/\ts.length<1000000/\
 ∀(j:Nat)(H':Hp),Pl P w C H' p a f d (if t∈ts then ts else ts++[t])->(if t∈ts then ts else ts++[t])[j]?=some t->Fr3 a f d H H'->Q (jv j) H'
def Uh(P:Program)(w:World)(C:Addr)(n:Nat):Sp:=λvs H Q _=>∃(p b:Addr)(v:V)(t:Th)(a f d:Addr)(S:List Addr)(m:Nat)(ts:List Th),vs=[.ref p,v,.ref b]/\Pl P w C H p a f d ts/\Nrr H b S m ts/\a∉S/\f∉S/\
 Yl H v t/\t.ok=true/\t.depth<=n/\t.depth<=50/\m+2*t.size<=1000000/\ts.length+t.size<=1000000/\
 ∀(j:Nat)(c:List Addr)(H':Hp),Pl P w C H' p a f d (Xg ts t.inside)->Nrr H' b c (m+2*t.size) (Xg ts t.inside)->(Xg ts t.inside)[j]?=some t->Fra a f d b S c H H'->Q (jv j) H'
def Qej(P:Program)(w:World)(C:Addr):Sp:=λvs H Q _=>∃(p:Addr)(v:V)(t:Th)(a f d:Addr)(ts:List Th),vs=[.ref p,v]/\Pl P w C H p a f d ts/\Yl H v t/\t.ok=true/\t.depth<=50/\ts.length+t.size<=500000/\
 ∀(j:Nat)(H':Hp),Pl P w C H' p a f d (Xg ts t.inside)->(Xg ts t.inside)[j]?=some t->Fr3 a f d H H'->Q (jv j) H'
end Sb
namespace L2
open PySem PySem.Spec PyProof.Rows
def Qom:V->List V->Hp->VK->Prop:=λx vs H Q=>∃d b a kvs k,x=.ref d/\vs=[.ref b,a]/\H d=some (.dT kvs)/\H b=some (.tup (k.map kV))/\kvs.length<sizeLine/\
 ∀v H',((Yu kvs k=some v/\H'=H)\/(Yu kvs k=none/\v=a/\H'=upd H d (.dT (kvs++[(k,a)]))))->Q v H'
theorem Qi9{X:Cx}(l:X.A.units+1<cLine):MtR X "dict.setdefault" Qom:=by
 intro pins s σ H x vs v us Q I n rv h
 obtain⟨d,b,a,kvs,k,c,e,f,g,i,q⟩:=h
 exact Qnm l pins s σ H x vs v us Q I n rv ⟨d,b,a,kvs,k,c,e,f,g,i,λv m=>q v H (.inl ⟨m,Xb⟩),λj=>q a _ (.inr ⟨j,Xb,Xb⟩)⟩
end L2
namespace K05
open PySem L2 Sb
structure Jv(mg:Str->Option Value):Prop where
 len:mg "len"=none
 list:mg "list"=none
 tuple:mg "tuple"=none
 range:mg "range"=none
 reversed:mg "reversed"=none
 enumerate:mg "enumerate"=none
 zip:mg "zip"=none
 sorted:mg "sorted"=none
theorem Rm(x:V)(vs:List V):atI (x::vs) (0:Int)=some x:=Qz (xs:=x::vs) (j:=0) rfl
def Qua(t:Th):List Xo:=(Qcu t).map Sum.inr
theorem Qsj(t:Th):(Qua t).map kV=(Qcu t).map V.str:=by
 unfold Qua
 rw[TJ]
 rfl
def Qpt:Sp:=λvs H Q _=>∃(v:V)(t:Th),vs=[v]/\Yl H v t/\t.size<=1000000/\∀(r:Addr)(H':Hp),Q3 H H'->H' r=some (.tup ((Qua t).map kV))->Q (.ref r) H'
section
variable{P:Program}{w:World}{K:Gc}{mg:Str->Option Value}{base:Heap}
theorem Qx5:Qx ["thing"] ["thing"] (Qk Qo9):=⟨Xb,Xb,Xb,by decide+kernel,Xb,by decide+kernel,by decide+kernel⟩
theorem Qvr{f:Addr}{fd:FuncData}(F:W5 K "top_words" "top_words" Qo9 f fd)(B:Jv mg):Qt P w K mg base Z7 1 f fd ["thing"] Qpt:=by
 refine F.ok Qx5 (λvs H Q E h=>?_) (λcdv A outer s H vs Q E W h=>?_)
 ·obtain⟨v,t,rfl,_⟩:=h
  rfl
 obtain⟨v,t,rfl,N,hsz,q⟩:=h
 obtain⟨a,wd,vs,ps,rfl,rfl,z,d⟩:=N.inv
 refine⟨_,Qh (Qy (Xn Ww rfl B.tuple De (Qa (Zp V0 (Zt (Qa (Qo Q4 (pv 0) Qj (λ_ _=>rfl)) Qe))
  (Vw (own:=["part"]) (fv:=[]) rfl (S:=(⟨by rfl,by decide+kernel,by decide+kernel,by decide+kernel⟩:Wc (Qk Qo9) _)) .nil (U2 (Yx Ow (pv 0) (Yy Qj) Xy))
   (λ_ _ _ _ _=>Qr (i:=0) (nd1 _) rfl (Or.inl Xb) (Or.inr Xb)) (λ_ _ _ _ _=>Wa) (λ_ _ _ _ _=>Qo (r:=Qsr K) Q4 (pv 0) Qj (λ_ _=>rfl)))) Qe))),?_⟩
 simp only[Th.size]at hsz
 have R:=Zz ps
 have y:=d.length
 refine⟨_,Xb,a,_,_,.str wd,Xb,Xb,Z4.of z,Rm _ _,by show 1<=sizeLine;decide,λl L=>?_⟩
 have s1:=Qg L (.lst [.str wd])
 refine⟨_,Xb,_,Xb,a,_,Xb,Z4.of (s1 _ _ z),V7 _ _,λr k=>?_⟩
 rw[Qjw]
 have s2:=Qg k (.tup vs)
 refine⟨r,Xb,⟨_,Z4.of Qb⟩,λp C=>?_⟩
 have D:=Qg C (.lst [])
 have T:=(s1.trans s2).trans D
 refine Jy (K:=K) (a:=r) (xs:=vs) (small (by omega)) (λi ys σ H2=>(∃G,σ=[G])/\Q3 (upd (upd H l (.lst [.str wd])) r (.tup vs)) H2/\ys=(ps.take i).map λt=>V.str t.word)
  ⟨⟨_,Xb⟩,D,by simp⟩ (λi ys σ H2 _ h=>Z4.of (h.2.1 _ _ Qb)) ?_ ?_
 ·rintro i x ys σ H2 hi u ⟨⟨G,rfl⟩,g,rfl⟩ j
  obtain⟨t,n,O⟩:=d.get hi
  obtain⟨b,U,us,X,rfl,rfl,hb,_⟩:=O.inv
  refine⟨_,Xb,b,_,_,.str U,Xb,Xb,Z4.of (g _ _ (s2 _ _ (s1 _ _ hb))),Rm _ _,j,⟨_,Xb⟩,λc o e=>?_,?_⟩
  ·rw[Qf (Qc e C)]
   exact g _ _ e
  ·rw[Tf,n,Tt]
   rfl
 ·rintro ys σ H2 u ⟨_,g,rfl⟩ j
  have e:ps.take vs.length=ps:=by rw[y,Te]
  rw[e]at j
  have I:=g _ _ (s2 _ _ (@Qb H l (.lst [.str wd])))
  refine⟨l,p,_,_,Xb,Xb,I,j,small (by rw[Gn,Gv];omega),λc J=>?_⟩
  refine⟨c,_,Xb,.inl ⟨Zd.of Qb,λm M=>?_⟩⟩
  refine q m _ ((((s1.trans s2).trans g).trans (Qg J _)).trans (Qg M _)) ?_
  rw[Qb,Qsj]
  simp[Qcu,Th.word,Th.parts]
end
theorem n1:¬(("things":Str)="forms"):=by decide+kernel
theorem n2:¬(("things":Str)="known"):=by decide+kernel
theorem n3:¬(("forms":Str)="known"):=by decide+kernel
theorem Qt0(a f d:Addr):Yn "known" (.ref d) (Yn "forms" (.ref f) (Yn "things" (.ref a) []))=Il a f d:=by
 simp only[Yn,Gj n1,Gj n2,Gj n3,Il]
theorem Qe1(a f d:Addr):(Il a f d).lookup ("things":Str)=some (.ref a):=by rfl
theorem Qqq(a f d:Addr):(Il a f d).lookup ("forms":Str)=some (.ref f):=by rfl
theorem Rp(a f d:Addr):(Il a f d).lookup ("known":Str)=some (.ref d):=by rfl
theorem Qei(a f d:Addr):(Il a f d).lookup ("place_within":Str)=none:=by rfl
theorem Qs9(a f d:Addr):(Il a f d).lookup ("place_by_form":Str)=none:=by rfl
structure Qb3(K:Gc)(mg:Str->Option Value)(C:Addr):Prop where
 cl:Cls K C
 nT:Yo K C "things"
 nF:Yo K C "forms"
 nN:Yo K C "known"
 mgC:mg "Places"=some (.ref C)
section
variable{P:Program}{w:World}{K:Gc}{mg:Str->Option Value}{base:Heap}
theorem Qp6:Qx ["self"] ["self"] (Qk Qbr):=⟨Xb,Xb,Xb,by decide+kernel,Xb,by decide+kernel,by decide+kernel⟩
theorem Qob{f C:Addr}{fd:FuncData}(F:W5 K "__init__" "Places.__init__" Qbr f fd)(T:Qb3 K mg C):Qt P w K mg base Z7 1 f fd ["self"] (Qhg P w C):=by
 refine F.ok Qp6 (λvs H Q E h=>?_) (λcdv A outer s H vs Q E I h=>?_)
 ·obtain⟨p,dx,rfl,_⟩:=h
  rfl
 obtain⟨p,dx,rfl,y,q⟩:=h
 refine⟨_,Qd (Y9 (pv 0) (Zt Qe) rfl) (Qd (Y9 (pv 0) (Zt Qe) rfl) (Qh (Y9 (pv 0) R5 Xb))),?_⟩
 refine⟨Ta _,λa B=>?_⟩
 have c:p≠a:=Qc y B
 refine⟨_,Xb,p,C,dx,[],Xb,(by rw[Qf c];exact y),T.cl,T.nT,by show 0<1000;decide,Ta _,λf n=>?_⟩
 have g:p≠f:=Qc Qb n
 have i:a≠f:=Qc (o:=.lst []) (by rw[Qf (Gq c),Qb]) n
 refine⟨_,Xb,p,C,dx,_,Xb,(by rw[Qf g,Qb]),T.cl,T.nF,by show 1<1000;decide,λd hd=>?_⟩
 have l:p≠d:=Qc Qb hd
 have x:f≠d:=Qc (o:=.lst []) (by rw[Qf (Gq g),Qb]) hd
 have u:a≠d:=Qc (o:=.lst []) (by rw[Qf (Gq c),Qf i,Qf (Gq c),Qb]) hd
 refine⟨_,Xb,p,C,dx,_,Xb,(by rw[Qf l,Qb]),T.cl,T.nN,by show 2<1000;decide,?_⟩
 refine q a f d _ ⟨⟨dx,?_⟩,⟨[],?_,.nil⟩,⟨[],?_,.nil⟩,⟨[],⟨?_,λp y=>nomatch y⟩,Gr _,λj t e=>?_,λk v e=>?_⟩,i,Et,Qjo,λt G=>by simp at G⟩ (λb o e hb=>?_) B ?_ ?_
 ·rw[Qb,Qt0]
 ·rw[Qf (Gq c),Qf u,Qf (Gq c),Qf i,Qf (Gq c),Qb]
 ·rw[Qf (Gq g),Qf x,Qf (Gq g),Qb]
 ·rw[Qf (Gq l),Qb];rfl
 ·simp at e
 ·simp[Yd]at e
 ·have m:b≠a:=Qc e B
  have r:b≠f:=λz=>by
   subst z
   rw[Qf hb,Qf m,e]at n
   cases n
  have D:b≠d:=λz=>by
   subst z
   rw[Qf hb,Qf r,Qf hb,Qf m,e]at hd
   cases hd
  rw[Qf hb,Qf D,Qf hb,Qf r,Qf hb,Qf m]
  exact e
 ·rw[Qf (Gq g),Qf (Gq i)]at n
  exact n
 ·rw[Qf (Gq l),Qf (Gq x),Qf (Gq l),Qf (Gq u)]at hd
  exact hd
theorem Qps:Qx ["self","thing","form"] ["self","thing","form"] (Qk Qba):=⟨Xb,Xb,Xb,by decide+kernel,Xb,by decide+kernel,by decide+kernel⟩
theorem Qu2{P:Program}{w:World}{C:Addr}{H:Hp}{p a f d:Addr}{ts:List Th}{kvs:List KE}{t:Th}(x:Pl P w C H p a f d ts)(i:∀q∈t.parts,q∈ts)(c:∀(j:Nat)t,ts[j]?=some t->Yd kvs (Yt (fm ts t))=some (jv j))(g:∀k v,Yd kvs k=some v->∃t∈ts,k=Yt (fm ts t)):
  (Yd kvs (Yt (fm ts t))).isSome=decide (t∈ts):=by
 by_cases h:t∈ts
 ·rw[Tp h,c _ t (Ic h)];rfl
 ·rw[Tg h]
  cases e:Yd kvs (Yt (fm ts t))with
  |none=>rfl
  |some v=>
   exfalso
   obtain⟨s,b,es⟩:=g _ _ e
   exact h (Qjt i (Xl x.cl b) (Ui es)▸b)
theorem Qw5{P:Program}{w:World}{C:Addr}{H:Hp}{p a f d c:Addr}{ts:List Th}{kvs:List KE}{us E:List V}{v:V}{t:Th}(x:Pl P w C H p a f d ts)(o:DH P w H d kvs)(hl:kvs.length<=ts.length)(G:∀(j:Nat)t,ts[j]?=some t->Yd kvs (Yt (fm ts t))=some (jv j))(I:∀k v,Yd kvs k=some v->∃t∈ts,k=Yt (fm ts t))
  (n:H a=some (.lst us))(M:Zn H us ts)(hw:H f=some (.lst E))(N:Paired (I0 H) E (ts.map (fm ts)))(U:Yl H v t)(ok:t.ok=true)(dp:t.depth<=50)(A:∀q∈t.parts,q∈ts)(J:I0 H (.ref c) (fm ts t))(new:¬t∈ts):
  Pl P w C (upd (upd (upd H d (Uq P w d (Wl kvs (Yt (fm ts t)) c (jv ts.length)))) a (.lst (us++[v]))) f (.lst (E++[.ref c]))) p a f d (ts++[t]):=by
 obtain⟨dx,B⟩:=x.ob
 have O:d≠a:=Zu o.at_ n (by intro z;cases z)
 have Q:d≠f:=Zu o.at_ hw (by intro z;cases z)
 have Y:p≠d:=Zu B o.at_ (by intro z;cases z)
 have X:p≠a:=Zu B n (by intro z;cases z)
 have Z:p≠f:=Zu B hw (by intro z;cases z)
 have D:Qu H (upd (upd (upd H d (Uq P w d (Wl kvs (Yt (fm ts t)) c (jv ts.length)))) a (.lst (us++[v]))) f (.lst (E++[.ref c]))):=λb xs e=>by
  rw[Qf (Zu e hw (by intro z;cases z)),Qf (Zu e n (by intro z;cases z)),Qf (Zu e o.at_ (by intro z;cases z))]
  exact e
 have hn:Yd kvs (Yt (fm ts t))=none:=by
  have:=Qu2 x A G I
  rw[Tg new]at this
  cases e:Yd kvs (Yt (fm ts t))with
  |none=>rfl
  |some u=>rw[e]at this;cases this
 have W:Ox H c (Yt (fm ts t)):=J.key (by cases t;simp only[Th.ok,TD]at ok;exact ok.1)
 have m:∀s∈ts,fm (ts++[t]) s=fm ts s:=λs g=>Qke (Xl x.cl g)
 have i:fm (ts++[t]) t=fm ts t:=Qke A
 refine⟨⟨dx,?_⟩,⟨_,?_,(M.append (.one U)).Qm D⟩,⟨_,Qb,?_⟩,⟨Wl kvs (Yt (fm ts t)) c (jv ts.length),⟨?_,Ze D (o.keys.put W)⟩,?_,λj s e=>?_,λk y e=>?_⟩,x.af,?_,?_,?_⟩
 ·rw[Qf Z,Qf X,Qf Y];exact B
 ·rw[Qf x.af,Qb]
 ·have R:(ts++[t]).map (fm (ts++[t]))=ts.map (fm ts)++[fm ts t]:=by
   rw[Tt,Tw m,GO,EA,i]
  rw[R]
  exact Ym (L2.Paired.Z8 N λ_ _ h=>h.Qm D) (.cons (J.Qm D) .nil)
 ·rw[Qf Q,Qf O,Qb]
 ·have:=Qct kvs (Yt (fm ts t)) c (jv ts.length)
  rw[Gk,Gv]
  omega
 ·rw[Jt]
  rcases TC j ts.length with F|F
  ·rw[GQ F]at e
   have g:=Gb e
   rw[m s g,Gj (λz=>new (Qjt (Xl x.cl g) A (Ui z)▸g))]
   exact G j s e
  ·rw[To F]at e
   have S:j - ts.length=0:=by
    have:=(Ge.mp e).1
    simp at this
    omega
   rw[S]at e
   simp at e
   subst e
   have:j=ts.length:=by omega
   subst this
   rw[i,Gp rfl]
 ·rw[Jt]at e
  by_cases K:k=Yt (fm ts t)
  ·exact⟨t,by simp,by rw[i];exact K⟩
  ·rw[Gj K]at e
   obtain⟨s,g,es⟩:=I _ _ e
   exact⟨s,Gi _ g,by rw[m s g];exact es⟩
 ·rw[Df]
  refine⟨x.nd,by simp,λs g u n=>?_⟩
  simp at n
  subst n
  exactλz=>new (z▸g)
 ·intro s g r l
  rcases Gd.mp g with g|g
  ·exact Gi _ (x.cl s g r l)
  ·simp at g
   subst g
   cases s with
   |mk w0 ps=>
    simp only[Th.inside,Gd,Gx]at l
    rcases l with l|l
    ·rw[Xi,DF]at l
     obtain⟨L,T,l⟩:=l
     exact Gi _ (x.cl L (A L T) r l)
    ·subst l;simp
 ·intro s g
  rcases Gd.mp g with g|g
  ·exact x.ok s g
  ·simp at g
   subst g
   exact⟨ok,dp⟩
theorem Qm2{f0 C:Addr}{fd:FuncData}(F:W5 K "place_by_form" "Places.place_by_form" Qba f0 fd)(T:Qb3 K mg C)(B:Jv mg):Qt P w K mg base Z7 1 f0 fd ["self","thing","form"] (Qck P w C):=by
 refine F.ok Qps (λvs H Q E h=>?_) (λcdv A outer s H vs Q E hr h=>?_)
 ·obtain⟨p,c,v,t,a,f,d,ts,rfl,_⟩:=h
  rfl
 obtain⟨p,c,v,t,a,f,d,ts,rfl,x,hv,ok,dp,V,U,hl,q⟩:=h
 have W:=hr.units
 refine⟨_,Qd (Zm (Qs (Qb0 W) (pv 2) (Qn (pv 0) rfl) rfl)
   (Qd (Qaa (Qp Zk rfl B.len Tj (Qa (Qn (pv 0) rfl) Qe)) (Qb9 (Qn (pv 0) rfl) (pv 2) (Qdn W)))
   (Qd (Zb (Xr Gy Tc Tk Z2 (Qn (pv 0) rfl) (Qa (pv 1) Qe)))
   (Qh (Zb (Xr Gy Tc Tk Z2 (Qn (pv 0) rfl) (Qa (pv 2) Qe)))))) Q8)
  (Qh (Qy (Qo (Ug W) (Qn (pv 0) rfl) (pv 2) (λ_ _=>rfl)))),?_⟩
 obtain⟨dx,k⟩:=x.ob
 obtain⟨us,J,u2⟩:=x.th
 obtain⟨R,O,w2⟩:=x.fo
 obtain⟨kvs,D,kl,X,k4⟩:=x.kn
 have Z:Ox H c (Yt (fm ts t)):=U.key (by cases t;simp only[Th.ok,TD]at ok;exact ok.1)
 have ul:=u2.length
 have wl:R.length=ts.length:=by rw[Gs w2,Gn]
 refine⟨_,Xb,_,Xb,p,C,dx,_,_,Xb,k,T.cl,T.nN,Rp _ _ _,c,d,Yt (fm ts t),kvs,Xb,Xb,D,Z,_,Xb,?_⟩
 rw[Qu2 x V X k4]
 by_cases i:t∈ts
 ·rw[Tp i]
  refine Zq ?_
  have e:=q (ts.idxOf t) H (by rw[Gp i];exact x) (by rw[Gp i];exact Ic i) Fr3.refl
  exact⟨_,Xb,p,C,dx,_,_,Xb,k,T.cl,T.nN,Rp _ _ _,_,Xb,d,c,Yt (fm ts t),kvs,_,Xb,Xb,D,Z,X _ t (Ic i),e⟩
 ·rw[Tg i]
  refine Y0 ?_
  have fin:=Qw5 (c:=c) x D kl X k4 J u2 O w2 hv ok dp V U i
  have da:d≠a:=Zu D.at_ J (by intro z;cases z)
  have df:d≠f:=Zu D.at_ O (by intro z;cases z)
  have pd:p≠d:=Zu k D.at_ (by intro z;cases z)
  have pa:p≠a:=Zu k J (by intro z;cases z)
  have pf:p≠f:=Zu k O (by intro z;cases z)
  have e1:(us.length:Int)=((ts.length:Nat):Int):=by rw[ul]
  refine⟨_,Xb,p,C,dx,_,_,Xb,k,T.cl,T.nT,Qe1 _ _ _,a,us,Xb,.inl (Zd.of J),_,Xb,p,C,dx,_,_,Xb,k,T.cl,T.nN,Rp _ _ _,_,Xb,d,c,Yt (fm ts t),kvs,Xb,Xb,D,Z,by rw[Td];omega,?_⟩
  have L:(upd H d (Uq P w d (Wl kvs (Yt (fm ts t)) c (.int us.length)))) a=some (.lst us):=by rw[Qf (Gq da)];exact J
  have I:(upd H d (Uq P w d (Wl kvs (Yt (fm ts t)) c (.int us.length)))) p=some (.ins C dx (Il a f d)):=by rw[Qf pd];exact k
  refine⟨_,Xb,p,C,dx,_,_,Xb,I,T.cl,T.nT,Qe1 _ _ _,.inl ⟨Xb,_,Zd.of L⟩,_,Xb,a,us,_,Xb,Xb,L,by rw[Td];omega,?_⟩
  have o2:(upd (upd H d (Uq P w d (Wl kvs (Yt (fm ts t)) c (.int us.length)))) a (.lst (us++[v]))) p=some (.ins C dx (Il a f d)):=by rw[Qf pa];exact I
  have M:(upd (upd H d (Uq P w d (Wl kvs (Yt (fm ts t)) c (.int us.length)))) a (.lst (us++[v]))) f=some (.lst R):=by rw[Qf (Gq x.af),Qf (Gq df)];exact O
  refine⟨_,Xb,p,C,dx,_,_,Xb,o2,T.cl,T.nF,Qqq _ _ _,.inl ⟨Xb,_,Zd.of M⟩,_,Xb,f,R,_,Xb,Xb,M,by rw[Td];omega,?_⟩
  rw[e1]
  have fr:Fr3 a f d H (upd (upd (upd H d (Uq P w d (Wl kvs (Yt (fm ts t)) c (jv ts.length)))) a (.lst (us++[v]))) f (.lst (R++[.ref c]))):=⟨λb o e h1 h2 h3=>by rw[Qf h2,Qf h1,Qf h3];exact e,λb hb=>by
    by_cases u:b=f
    ·subst u;rw[Qb]at hb;cases hb
    ·rw[Qf u]at hb
     by_cases n:b=a
     ·subst n;rw[Qb]at hb;cases hb
     ·rw[Qf n]at hb
      by_cases r:b=d
      ·subst r;rw[Qb]at hb;cases hb
      ·rw[Qf r]at hb;exact hb⟩
  have tn:fm (ts++[t]) t=fm ts t:=Qke V
  have G:(ts++[t])[ts.length]?=some t:=by simp
  have m:∀l,Pl P w C l p a f d (ts++[t])->Fr3 a f d H l->∃j g,l p=some (.ins C j (Il a f d))/\DH P w l d g/\Ox l c (Yt (fm ts t))/\Yd g (Yt (fm ts t))=some (jv ts.length):=λl y fr=>by
   obtain⟨j,o3⟩:=y.ob
   obtain⟨g,S,_,Y,_⟩:=y.kn
   have N:=Y ts.length t G
   rw[tn]at N
   exact⟨j,g,o3,S,(U.Qm (fr.Qm x)).key (by cases t;simp only[Th.ok,TD]at ok;exact ok.1),N⟩
  obtain⟨j,g,o3,S,aa,N⟩:=m _ fin fr
  exact⟨_,Xb,p,C,j,_,_,Xb,o3,T.cl,T.nN,Rp _ _ _,_,Xb,d,c,Yt (fm ts t),g,_,Xb,Xb,S,aa,N,q ts.length _ (by rw[Gj i];exact fin) (by rw[Gj i];exact G) fr⟩
end
end K05
namespace Sb
open PySem PySem.Spec PyProof.Rows L2
theorem Ws:∀(l:List Th)(i:Nat),Qw (l.take i)<=Qw l
 |[],_=>by simp
 |x::l,0=>by simp[Qw]
 |x::l,i+1=>by
  have:=Ws l i
  simp only[Er,Qw]
  omega
theorem Qfx(ps:List Th)(i:Nat)(t:Th)(h:ps[i]?=some t):Zo (ps.take (i+1))=Zo (ps.take i)++t.inside:=by
 rw[Tf,h,Xi,LY,<-Xi]
 simp
theorem Qbt:∀(ps:List Th)(i:Nat)(t:Th),ps[i]?=some t->Qw (ps.take (i+1))=Qw (ps.take i)+t.size
 |[],_,_,h=>by simp at h
 |x::r,0,t,h=>by simp at h;subst h;simp[Qw]
 |x::r,i+1,t,h=>by
  have:=Qbt r i t (by simpa using h)
  simp only[Er,Qw]at this⊢
  omega
theorem Qc1{acc xs:List Th}{j:Nat}{t:Th}(h:acc[j]?=some t):(Xg acc xs)[j]?=some t:=by
 obtain⟨m,e⟩:=W3 xs acc
 rw[e,GQ (Ge.mp h).1]
 exact h
theorem Qul{H H1 n:Hp}{d q:Addr}{S:List Addr}{m:Nat}{ts:List Th}{k:List Xo}{kvs:List (List Xo×V)}{C:V}(x:Nrr H d S m ts)(f:H d=some (.dT kvs))(F:Q3 H H1)(I:H1 q=none)
  (i:(Yu kvs k=some C/\n=upd H1 q (.lst []))\/(Yu kvs k=none/\C=.ref q/\n=upd (upd H1 q (.lst [])) d (.dT (kvs++[(k,.ref q)])))):
  ∃l S1,C=.ref l/\l∈S1/\Nrr n d S1 (m+1) ts/\(∀b∈S,b∈S1)/\(∀b∈S1,b∈S\/H b=none)/\(∀b o,H b=some o->b≠d->n b=some o)/\(∀b,n b=none->H b=none):=by
 have a:=F.trans (Qg I (.lst []))
 have B:H q=none:=F.free I
 obtain⟨kvs',n1,n2,n3⟩:=x.at_
 rw[f]at n1
 cases n1
 rcases i with⟨L,rfl⟩|⟨K,rfl,rfl⟩
 ·obtain⟨l,g,rfl⟩:=n3 _ _ L
  exact⟨l,S,Xb,g,x.keep (a _) (λl _=>a l) (Qu.of a) (λ_ _ h=>h) (EZ _),λ_ h=>h,λ_ h=>.inl h,λb o e _=>a _ _ e,λb h=>a.free h⟩
 ·have r:=a _ _ f
  have s:(upd H1 q (.lst [])) q=some (.lst []):=Qb
  have A:q≠d:=Zu s r (by intro z;cases z)
  have P:Qu (upd H1 q (.lst [])) (upd (upd H1 q (.lst [])) d (.dT (kvs++[(k,.ref q)]))):=Zr λxs e=>by rw[r]at e;cases e
  have u:Qu H (upd (upd H1 q (.lst [])) d (.dT (kvs++[(k,.ref q)]))):=λb xs e=>P b xs (a _ _ e)
  refine⟨q,q::S,Xb,GJ,⟨⟨_,Qb,by rw[Gk,Gv];omega,λw Q e=>?_⟩,λl g=>?_⟩,λb hb=>Gm _ hb,λb hb=>?_,λb o e hb=>by rw[Qf hb];exact a _ _ e,λb hb=>?_⟩
  ·rw[Oj (κ:=List Xo) k w _ kvs K]at e
   by_cases G:w=k
   ·rw[Gp G]at e
    cases e
    exact⟨q,GJ,Xb⟩
   ·rw[Gj G]at e
    obtain⟨l,g,E⟩:=n3 _ _ e
    exact⟨l,Gm _ g,E⟩
  ·rcases Gu.mp g with rfl|g
   ·exact⟨[],by rw[Qf A];exact s,Ta _,λe y=>nomatch y⟩
   ·obtain⟨es,D,E,J⟩:=x.ls l g
    refine⟨es,?_,by omega,λe y=>?_⟩
    ·rw[Qf (Zu D f (by intro z;cases z))];exact a _ _ D
    ·obtain⟨c,v,j,t,M,w,N,O⟩:=J e y
     exact⟨c,v,j,t,M,u _ _ w,N.Qm u,O⟩
  ·rcases Gu.mp hb with rfl|hb
   ·exact .inr B
   ·exact .inl hb
  ·by_cases p:b=d
   ·subst p
    rw[Qb]at hb
    cases hb
   ·rw[Qf p]at hb
    exact a.free hb
end Sb
namespace K05
open PySem L2 Sb
section
variable{P:Program}{w:World}{K:Gc}{mg:Str->Option Value}{base:Heap}
theorem Qel:Qx ["self","thing","near","met","twin","place","parts","part","new_place"] ["self","thing","near"] (Qk J0):=⟨Xb,Xb,Xb,by decide+kernel,Xb,by decide+kernel,by decide+kernel⟩
theorem Qnv{n:Nat}{f0 fT fB C:Addr}{fd aD aC:FuncData}(F:W5 K "place_within" "Places.place_within" J0 f0 fd)(T:Qb3 K mg C)(B:Jv mg)(mP:Z9 K C "place_within" f0)(bP:Binds K fd ["self","thing","near"] [])
  (G:Qt P w K mg base Z7 (n+1) f0 fd ["self","thing","near"] (Uh P w C n))(GT:Qt P w K mg base Z7 1 fT aD ["thing"] Qpt)(kT:PySem.W.keepIn K (.ref fT)=true)(bT:Binds K aD ["thing"] [])(mT:mg "top_words"=some (.ref fT))
  (mB:Z9 K C "place_by_form" fB)(GB:Qt P w K mg base Z7 1 fB aC ["self","thing","form"] (Qck P w C))(bB:Binds K aC ["self","thing","form"] []):
  Qt P w K mg base Z7 (n+2) f0 fd ["self","thing","near"] (Uh P w C (n+1)):=by
 refine F.ok Qel (λvs H Q E h=>?_) (λcdv A outer s H vs Q E hr h=>?_)
 ·obtain⟨p,dn,v,t,a,f,d,S,m,ts,rfl,_⟩:=h
  rfl
 obtain⟨p,dn,v,t,a,f,d,S,m,ts,rfl,x,xn,aS,fS,ht,Zy,ba,bb,hm,bf,q⟩:=h
 have hu:=hr.units
 have aJ:Yc 1 _:=hr.mono (by omega)
 have nd:=Qel.nd
 refine⟨_,Qd (Ql (i:=3) nd rfl (Or.inl Xb) (Xr Ev ED EE (Qi9 (Ul hr)) (pv 2) (Qa (Z6 GT aJ rfl mT kT bT .nil Q5 (Qa (pv 1) Qe)) (Qa (Zt Qe) Qe))))
  (Qd (Ye GX rfl (Yp (pv 3)) (W9 rfl (Zj (Qr (i:=4) nd rfl (Or.inl Xb)) (Zj (Qr (i:=5) nd rfl (Or.inl Xb)) Xz)))
   (Qh (Zm (Qs (Qq6 hu) (pv 4) (pv 1) (Q7 _)) (Qh (Qy (pv 5))) Q8)))
  (Qd (Ql (i:=6) nd rfl (Or.inl Xb) (Zt Qe))
  (Qd (Ye GX rfl (U2 (Yx Ow (pv 1) (Yy Qj) Xy)) (Qr (i:=7) nd rfl (Or.inl Xb))
   (Qh (Zb (Xr Gy Tc Tk Z2 (pv 6) (Qa (Q9 (pv 0) T.cl mP G hr bP .nil Q5 (Qa (pv 7) (Qa (pv 2) Qe))) Qe)))))
  (Qd (Ql (i:=8) nd rfl (Or.inl Xb) (Q9 (pv 0) T.cl mB GB aJ bB .nil Q5 (Qa (pv 1) (Qa (Za (Qa (Qo Q4 (pv 1) Qj (λ_ _=>rfl)) (Qa (Xn Ww rfl B.tuple De (Qa (pv 6) Qe)) Qe))) Qe))))
  (Qd (Zb (Xr Gy Tc Tk Z2 (pv 3) (Qa (Za (Qa (pv 1) (Qa (pv 8) Qe))) Qe)))
  (Qh (Qy (pv 8)))))))),?_⟩
 have sp:=Qcg t
 obtain⟨kvs,I,kv2,_⟩:=xn.at_
 refine⟨_,Xb,.inr (.inr (.inl ⟨Xb,.inr ⟨kvs,I⟩⟩)),_,Xb,v,t,Xb,ht,by omega,λr H1 g1 h1=>⟨Ta _,λq1 am=>?_⟩⟩
 have g2:=g1.trans (Qg am (.lst []))
 refine⟨dn,r,.ref q1,kvs,Qua t,Xb,Xb,g2 _ _ I,(Qg am (.lst [])) _ _ h1,by rw[Td];omega,λnv H3 ac=>?_⟩
 obtain⟨l,S1,rfl,lS,L,aU,ar,U,bq⟩:=Qul xn I g1 am ac
 clear ac g2 h1 g1 am
 have t3:Qu H H3:=λb xs e=>U b _ e (Zu e I (by intro z;cases z))
 have an:=ht.Qm t3
 have x3:Pl P w C H3 p a f d ts:=by
  obtain⟨dx,o1⟩:=x.ob
  obtain⟨us,u1,_⟩:=x.th
  obtain⟨ws,w1,_⟩:=x.fo
  obtain⟨kv,D,_⟩:=x.kn
  exact x.keep (λo e=>U _ _ e (Zu o1 I (by intro z;cases z))) (λo e=>U _ _ e (Zu u1 I (by intro z;cases z))) (λo e=>U _ _ e (Zu w1 I (by intro z;cases z))) (λo e=>U _ _ e (Zu D.at_ I (by intro z;cases z))) t3
 have aq:∀c,c∉S->H c≠none->c∉S1:=λc h1 h2 z=>by
  rcases ar c z with z|z
  ·exact h1 z
  ·exact h2 z
 have aX:a∉S1:=aq a aS (by obtain⟨us,u1,_⟩:=x.th;rw[u1];intro z;cases z)
 have a4:f∉S1:=aq f fS (by obtain⟨us,u1,_⟩:=x.fo;rw[u1];intro z;cases z)
 have F3:Fra a f d dn S S1 H H3:=⟨λb o e _ _ _ h4 _=>U b o e h4,ar,aU,bq⟩
 obtain⟨es,hl,bF,a1⟩:=L.ls l lS
 refine⟨_,Xb,l,Xb,⟨_,Zd.of hl⟩,Y2 (K:=K) (a:=l) (xs:=es) (λi σ Z=>Z=H3/\∃x4 x5,σ=[some (.ref p),some v,some (.ref dn),some (.ref l),x4,x5,none,none,none])
  ⟨Xb,_,_,Xb⟩ (λi σ Z _⟨e,_⟩=>by rw[e];exact Zd.of hl) ?_ ?_⟩
 ·rintro i y σ Z hi ⟨rfl,x4,x5,rfl⟩
  obtain⟨c,v2,j,t2,rfl,hc,bg,ej⟩:=a1 y (Gb hi)
  have aO:=x3.ok _ (Gb ej)
  refine⟨c,_,Xb,Z4.of hc,Xb,v2,_,Xb,jv j,_,Xb,Xb,_,Xb,_,Xb,_,_,bg.dt,an.dt,Qab _ aO.1,Qab _ Zy,?_,_,Xb,?_⟩
  ·rw[Vg,Vg]
   have:=aO.2
   omega
  rw[Qs5]
  by_cases aH:t2=t
  ·subst aH
   rw[Tp rfl]
   refine Y0 ?_
   have e:=Quj x.cl (Gb ej)
   exact⟨_,Xb,q j S1 Z (by rw[e];exact x3) (by rw[e];exact L.keep (λ_ h=>h) (λ_ _ _ h=>h) (λ_ _ h=>h) (λ_ _ h=>h) (by omega)) (by rw[e];exact ej) F3⟩
  ·rw[Tg aH]
   exact Zq ⟨Xb,_,_,Xb⟩
 ·rintro σ Z ⟨rfl,x4,br,rfl⟩
  obtain⟨b0,wd,vs,ps,rfl,rfl,aE,aI⟩:=an.inv
  simp only[Th.size,Th.depth]at hm bf ba bb
  have aP:okL ps=true:=by
   simp only[Th.ok,TD]at Zy
   exact Zy.2
  have bi:=aI.length
  have bG:=Zz ps
  refine⟨Ta _,λu g=>?_⟩
  have s4:=Qg g (.lst [])
  refine⟨_,Xb,_,Xb,b0,_,Xb,Z4.of (s4 _ _ aE),V7 _ _,λr2 aK=>?_⟩
  rw[Qjw]
  have s5:=Qg aK (.tup vs)
  have aA:=s4.trans s5
  have q5:=s5 _ _ (@Qb Z u (.lst []))
  have r5:=@Qb (upd Z u (.lst [])) r2 (.tup vs)
  have bd:u≠r2:=Qc Qb aK
  have x5:=x3.same aA
  have bs:=L.same aA
  generalize bC:upd (upd Z u (.lst [])) r2 (.tup vs)=H5 at*
  obtain⟨bH,aV,bz⟩:=x3.th
  obtain⟨bI,a6,_⟩:=x3.fo
  obtain⟨bw,D3,_⟩:=x3.kn
  obtain⟨bu,aZ,_⟩:=L.at_
  have aQ:u≠a:=λz=>by rw[z,aV]at g;cases g
  have aR:u≠f:=λz=>by rw[z,a6]at g;cases g
  have bo:u≠d:=λz=>by rw[z,D3.at_]at g;cases g
  have aT:u≠dn:=λz=>by rw[z,aZ]at g;cases g
  have bn:u∉S1:=λz=>by
   obtain⟨xs,h,_⟩:=L.ls _ z
   rw[h]at g
   cases g
  refine⟨r2,Xb,⟨_,Z4.of r5⟩,Qgb (K:=K) (a:=r2) (xs:=vs) (λi σ M=>∃(S6:List Addr)(N:List Nat)(x5:Option V),σ=[some (.ref p),some (.ref b0),some (.ref dn),some (.ref l),x4,br,some (.ref u),x5,none]/\Pl P w C M p a f d (Xg ts (Zo (ps.take i)))/\Nrr M dn S6 (m+1+2*Qw (ps.take i)) (Xg ts (Zo (ps.take i)))/\Fra a f d dn S1 S6 Z M/\u∉S6/\a∉S6/\f∉S6/\M u=some (.lst (N.map jv))/\N.length=i/\(∀(k j:Nat),N[k]?=some j->∃s,ps[k]?=some s/\(Xg ts (Zo (ps.take i)))[j]?=some s)/\M r2=some (.tup vs))
   ⟨S1,[],_,Xb,?_,?_,Fra.of aA,bn,aX,a4,q5,Xb,λk j h=>by simp at h,r5⟩ (λi σ M _⟨_,_,_,_,_,_,_,_,_,_,_,_,_,h⟩=>Z4.of h) ?_ ?_⟩
  ·simp only[LR,Zo,Jp]
   exact x5
  ·simp only[LR,Zo,Qw,Jp,Nat.mul_zero,Fn]
   exact bs
  ·rintro i y σ M hi ⟨S6,N,bt,rfl,O,J,F6,ad,aa,ab,q6,lw,ak,r6⟩
   have bD:i<vs.length:=(Ge.mp hi).1
   obtain⟨ty,ai,hy⟩:=aI.get hi
   have ap:ty∈ps:=Gb ai
   have m1:=Qbt ps i ty ai
   have m2:=Vh ap
   have m3:=Ws ps (i+1)
   have bm:ty.ok=true:=by
    rw[Qa8,Ly]at aP
    exact aP ty ap
   have t6:Qu Z M:=F6.Qm x3 L
   obtain⟨av,o6⟩:=O.ob
   have R:=Qdp (Zo (ps.take i)) ts
   rw[Vv]at R
   refine⟨_,Xb,.inl ⟨Xb,_,Zd.of q6⟩,_,Xb,p,av,_,Xb,o6,Qei _ _ _,_,Xb,_,Xb,p,dn,y,ty,a,f,d,S6,_,_,Xb,O,J,aa,ab,hy.Qm t6,bm,by omega,by omega,by omega,by omega,λj S7 H7 x7 aB e7 F7=>?_⟩
   have q7:H7 u=some (.lst (N.map jv)):=F7.keep _ _ q6 aQ aR bo aT ad
   have az:∀c,c∉S6->M c≠none->c∉S7:=λc h1 h2 z=>by
    rcases F7.own c z with z|z
    ·exact h1 z
    ·exact h2 z
   have au:u∉S7:=az u ad (by rw[q6];intro z;cases z)
   obtain⟨aW,af,_⟩:=O.th
   obtain⟨bJ,a7,_⟩:=O.fo
   have aY:a∉S7:=az a aa (by rw[af];intro z;cases z)
   have a5:f∉S7:=az f ab (by rw[a7];intro z;cases z)
   refine⟨u,N.map jv,jv j,Xb,Xb,q7,by rw[Gn,Td];omega,?_⟩
   have r7:H7 r2=some (.tup vs):=F7.Qm O J _ _ r6
   have eS:Xg (Xg ts (Zo (ps.take i))) ty.inside=Xg ts (Zo (ps.take (i+1))):=by rw[Qfx ps i ty ai,Vu]
   rw[eS]at x7 aB e7
   have eM:m+1+2*Qw (ps.take i)+2*ty.size=m+1+2*Qw (ps.take (i+1)):=by omega
   rw[eM]at aB
   refine⟨S7,N++[j],_,Xb,x7.but q7 aQ aR,?_,?_,au,aY,a5,?_,by rw[Gk,Gv,lw],λk j' hk=>?_,?_⟩
   ·refine aB.keep (λo e=>?_) (λb hb o e=>?_) (Zr λxs e=>by rw[q7]at e;cases e) (λ_ _ h=>h) (Gr _)
    ·rw[Qf (Gq aT)];exact e
    ·rw[Qf (show b≠u fromλz=>au (by rw[<-z];exact hb))];exact e
   ·have ah:=F6.trans F7
    refine⟨λb o e h1 h2 h3 h4 h5=>?_,ah.own,ah.sub,λb hb=>?_⟩
    ·rw[Qf (Qc e g)]
     exact ah.keep b o e h1 h2 h3 h4 h5
    ·by_cases aG:b=u
     ·subst aG
      rw[Qb]at hb
      cases hb
     ·rw[Qf aG]at hb
      exact ah.there b hb
   ·rw[Qb,Tt];rfl
   ·rcases TC k N.length with ay|ay
    ·rw[GQ ay]at hk
     obtain⟨s0,h1,h2⟩:=ak k j' hk
     refine⟨s0,h1,?_⟩
     rw[<-eS]
     exact Qc1 h2
    ·rw[To ay]at hk
     have h0:k - N.length=0:=by
      have:=(Ge.mp hk).1
      simp at this
      omega
     rw[h0]at hk
     simp at hk
     subst hk
     have:k=i:=by omega
     subst this
     exact⟨ty,ai,e7⟩
   ·rw[Qf (Gq bd)]
    exact r7
  ·rintro σ M ⟨S6,N,bt,rfl,O,J,F6,ad,aa,ab,q6,lw,ak,r6⟩
   have ep:ps.take vs.length=ps:=by rw[bi,Te]
   rw[ep]at O J ak
   have t6:Qu Z M:=F6.Qm x3 L
   have a8:=t6 _ _ aE
   obtain⟨av,o6⟩:=O.ob
   have bh:=Qdp (Zo ps) ts
   rw[Vv]at bh
   have ao:=F6.sub l lS
   have pin:∀s0∈ps,s0∈Xg ts (Zo ps):=λs0 be=>(Qcw _ _ _).mpr (.inr (by rw[Xi,DF];exact⟨s0,be,Ql1 s0⟩))
   have a2:N=ps.map λs0=>(Xg ts (Zo ps)).idxOf s0:=by
    refine E9 λk=>?_
    rw[GY]
    cases e:N[k]? with
    |none=>
     have:N.length<=k:=by simpa using e
     rw[Tz (by omega)]
     rfl
    |some j0=>
     obtain⟨s0,h1,h2⟩:=ak k j0 e
     rw[h1,Di,Rf O.nd h2]
   refine⟨_,Xb,p,av,_,Xb,o6,Qs9 _ _ _,_,Xb,_,Xb,b0,_,_,.str wd,Xb,Xb,Z4.of a8,Rm _ _,_,Xb,u,_,Xb,.inl ⟨Zd.of q6,λe0 bc=>?_⟩⟩
   have s6:=Qg bc (.tup (N.map jv))
   refine⟨by show 2<=sizeLine;decide,λc0 a9=>?_⟩
   have s7:=Qg a9 (.tup [.str wd,.ref e0])
   have ae:=s6.trans s7
   refine⟨p,c0,.ref b0,.mk wd ps,a,f,d,_,Xb,O.same ae,(an.Qm t6).same ae,Zy,by simp only[Th.depth];omega,pin,⟨c0,e0,Xb,Qb,?_⟩,by omega,λj H8 x8 e8 F8=>?_⟩
   ·rw[s7 _ _ Qb,a2]
    rfl
   have eD:Xg ts (Th.mk wd ps).inside=if Th.mk wd ps∈Xg ts (Zo ps)then Xg ts (Zo ps)else Xg ts (Zo ps)++[Th.mk wd ps]:=by
    have e:(Th.mk wd ps).inside=Zo ps++[Th.mk wd ps]:=by simp[Th.inside]
    rw[e,Qnt]
   rw[<-eD]at x8 e8
   have bp:Qu M H8:=λb xs e=>(F8.Qm (O.same ae)) b xs (ae _ _ e)
   have Y:Fr3 a f d M H8:=(Fr3.of ae).trans F8
   obtain⟨aw,R,bE,a0⟩:=J.ls l ao
   have aM:l≠a:=λz=>aa (z▸ao)
   have aN:l≠f:=λz=>ab (z▸ao)
   obtain⟨bx,D6,_⟩:=O.kn
   obtain⟨bv,bA,_⟩:=J.at_
   have bl:l≠d:=Zu R D6.at_ (by intro z;cases z)
   have al:=Y.keep _ _ R aM aN bl
   refine⟨_,Xb,.inl ⟨Xb,_,Zd.of al⟩,_,Xb,_,Xb,by show 2<=sizeLine;decide,λc9 ax=>?_⟩
   have s9:=Qg ax (.tup [.ref b0,jv j])
   refine⟨l,aw,.ref c9,Xb,Xb,s9 _ _ al,by rw[Td];omega,?_⟩
   have x9:=x8.same s9
   have sE:(Th.mk wd ps).size=Qw ps+1:=by simp[Th.size]
   have ag:Qu M (upd (upd H8 c9 (.tup [.ref b0,jv j])) l (.lst (aw++[.ref c9]))):=λb xs e=>by
    rw[Qf (Zu e R (by intro z;cases z))]
    exact s9 _ _ (bp _ _ e)
   have aL:(upd (upd H8 c9 (.tup [.ref b0,jv j])) l (.lst (aw++[.ref c9]))) c9=some (.tup [.ref b0,jv j]):=by
    rw[Qf (λz=>by rw[z,al]at ax;cases ax),Qb]
   refine⟨_,Xb,q j S6 _ (x9.but (s9 _ _ al) aM aN) ⟨?_,λb hb=>?_⟩ e8 ?_⟩
   ·obtain⟨kv,k1,k2,k3⟩:=J.at_
    refine⟨kv,?_,by rw[sE];omega,k3⟩
    rw[Qf (Zu k1 R (by intro z;cases z))]
    have bj:dn≠a:=λz=>by
     obtain⟨aW,af,_⟩:=O.th
     exact Zu k1 af (by intro z;cases z) z
    have bk:dn≠f:=λz=>by
     obtain⟨aW,af,_⟩:=O.fo
     exact Zu k1 af (by intro z;cases z) z
    exact s9 _ _ (Y.keep _ _ k1 bj bk (Zu k1 D6.at_ (by intro z;cases z)))
   ·by_cases aj:b=l
    ·subst aj
     refine⟨_,Qb,by rw[Gk,Gv,sE];omega,λe he=>?_⟩
     rcases Gd.mp he with he|he
     ·obtain⟨c,v,j0,t0,k1,k2,k3,k4⟩:=a0 e he
      refine⟨c,v,j0,t0,k1,ag _ _ k2,k3.Qm ag,?_⟩
      have e:(Th.mk wd ps).inside=Zo ps++[Th.mk wd ps]:=by simp[Th.inside]
      rw[e,Vu]
      exact Qc1 k4
     ·rw[Gx]at he
      subst he
      exact⟨c9,.ref b0,j,_,Xb,aL,(an.Qm t6).Qm ag,e8⟩
    ·obtain⟨a3,k1,k2,k3⟩:=J.ls b hb
     refine⟨a3,?_,by rw[sE];omega,λe he=>?_⟩
     ·rw[Qf aj]
      exact s9 _ _ (Y.keep _ _ k1 (λz=>aa (z▸hb)) (λz=>ab (z▸hb)) (Zu k1 D6.at_ (by intro z;cases z)))
     ·obtain⟨c,v,j0,t0,k4,k5,k6,k7⟩:=k3 e he
      refine⟨c,v,j0,t0,k4,ag _ _ k5,k6.Qm ag,?_⟩
      have e:(Th.mk wd ps).inside=Zo ps++[Th.mk wd ps]:=by simp[Th.inside]
      rw[e,Vu]
      exact Qc1 k7
   ·have X:=F3.trans F6
    refine⟨λb o e h1 h2 h3 h4 h5=>?_,X.own,X.sub,λb hb=>?_⟩
    ·have e9:=X.keep b o e h1 h2 h3 h4 h5
     have aj:b≠l:=λz=>by
      rcases X.own l ao with w1|w1
      ·exact h5 (z▸w1)
      ·rw[<-z,e]at w1;cases w1
     rw[Qf aj]
     exact s9 _ _ (Y.keep _ _ e9 h1 h2 h3)
    ·refine X.there b (Y.there b ?_)
     by_cases aF:b=l
     ·subst aF;rw[Qb]at hb;cases hb
     ·rw[Qf aF]at hb
      exact s9.free hb
theorem Qsq{f C:Addr}{fd:FuncData}:Qt P w K mg base Z7 1 f fd ["self","thing","near"] (Uh P w C 0):=by
 have no:∀vs H Q E,¬Uh P w C 0 vs H Q E:=λvs H Q E h=>by
  obtain⟨p,b,v,t,a,f,d,S,m,ts,_,_,_,_,_,_,_,h1,_⟩:=h
  have:=O9 t
  omega
 exact⟨λvs H Q E h=>absurd h (no vs H Q E),λA outer s H args us vs Q E _ _ _ _ h=>absurd h (no vs H Q E)⟩
theorem Qch{c d i C:Addr}{fd b a:FuncData}(F:W5 K "place_within" "Places.place_within" J0 c fd)(T:Qb3 K mg C)(B:Jv mg)(l:Z9 K C "place_within" c)(g:Binds K fd ["self","thing","near"] [])
  (GT:Qt P w K mg base Z7 1 d b ["thing"] Qpt)(j:PySem.W.keepIn K (.ref d)=true)(h:Binds K b ["thing"] [])(m:mg "top_words"=some (.ref d))
  (k:Z9 K C "place_by_form" i)(e:Qt P w K mg base Z7 1 i a ["self","thing","form"] (Qck P w C))(f:Binds K a ["self","thing","form"] []):∀n:Nat,Qt P w K mg base Z7 (n+1) c fd ["self","thing","near"] (Uh P w C n)
 |0=>Qsq
 |n+1=>Qnv F T B l g (Qch F T B l g GT j h m k e f n) GT j h m k e f
theorem Qnb:Qx ["self","thing"] ["self","thing"] (Qk Oe):=⟨Xb,Xb,Xb,by decide+kernel,Xb,by decide+kernel,by decide+kernel⟩
theorem Qji{n r C:Addr}{fd c:FuncData}(F:W5 K "place_of" "Places.place_of" Oe n fd)(T:Qb3 K mg C)(M:Z9 K C "place_within" r)(u:Binds K c ["self","thing","near"] [])
  (G:Qt P w K mg base Z7 51 r c ["self","thing","near"] (Uh P w C 50)):Qt P w K mg base Z7 52 n fd ["self","thing"] (Qej P w C):=by
 refine F.ok Qnb (λvs H Q E h=>?_) (λcdv A outer s H vs Q E I h=>?_)
 ·obtain⟨p,v,t,a,f,d,ts,rfl,_⟩:=h
  rfl
 obtain⟨p,v,t,a,f,d,ts,rfl,x,J,Zy,i,L,q⟩:=h
 refine⟨_,Qh (Qy (Q9 (pv 0) T.cl M G I u .nil Q5 (Qa (pv 1) (Qa Qce Qe)))),?_⟩
 obtain⟨dx,N⟩:=x.ob
 refine⟨_,Xb,p,dx,_,Xb,N,Qei _ _ _,_,Xb,λy g=>?_⟩
 have s1:=Qg g (.dT [])
 refine⟨p,y,v,t,a,f,d,[],0,ts,Xb,x.same s1,⟨⟨[],Qb,Gr _,λk v e=>by rw[Qhh]at e;cases e⟩,λl D=>nomatch D⟩,by simp,by simp,J.same s1,Zy,i,i,by omega,by omega,λj R H' O S z m=>?_⟩
 refine q j H' O z ⟨λb o e h1 h2 B=>m.keep b o (s1 _ _ e) h1 h2 B (Qc e g) (by simp),λb hb=>s1.free (m.there b hb)⟩
end
end K05
namespace Nt
inductive Ch(up:Nat->Option Nat):Nat->List Nat->Prop
 |top {p:Nat}:up p=none->Ch up p [p]
 |step {p q:Nat} {l:List Nat}:up p=some q->Ch up q l->Ch up p (p::l)
theorem Ch.uniq{up:Nat->Option Nat}:∀{p:Nat}{l m:List Nat},Ch up p l->Ch up p m->l=m
 |_,_,_,.top e,.top _=>rfl
 |_,_,_,.top e,.step f _=>by rw[e]at f;cases f
 |_,_,_,.step e _,.top f=>by rw[e]at f;cases f
 |_,_,_,.step e h,.step f k=>by
  rw[e]at f
  cases f
  rw[Ch.uniq h k]
theorem Ch.ne{up:Nat->Option Nat}{p:Nat}{l:List Nat}(h:Ch up p l):l≠[]:=by cases h<;>simp
theorem Ch.head{up:Nat->Option Nat}{p:Nat}{l:List Nat}(h:Ch up p l):∃r,l=p::r:=by cases h<;>exact⟨_,Xb⟩
theorem Ch.suffix{up:Nat->Option Nat}:∀{p:Nat}{l a:List Nat}{z:Nat}{b:List Nat},Ch up p l->l=a++z::b->Ch up z (z::b)
 |p,_,[],z,b,h,e=>by
  simp only[Ee]at e
  obtain⟨r,c⟩:=h.head
  rw[e]at c
  cases c
  rw[<-e]
  exact h
 |p,_,x::a,z,b,.top _,e=>by simp at e
 |p,_,x::a,z,b,.step f h,e=>by
  simp only[TM,Tx]at e
  exact Ch.suffix h e.2
theorem Ch.nodup{up:Nat->Option Nat}:∀{p:Nat}{l:List Nat},Ch up p l->l.Nodup
 |_,_,.top _=>by simp
 |p,_,.step (l:=l) e h=>by
  rw[TV]
  refine⟨λc=>?_,h.nodup⟩
  obtain⟨a,b,rfl⟩:=D1 c
  have h1:=h.suffix rfl
  have h2:Ch up p (p::(a++p::b)):=.step e h
  have:=congrArg List.length (h1.uniq h2)
  simp at this
  omega
def Zw(l:List Nat):Nat:=l.getLastD 0
theorem O2{p:Nat}{l:List Nat}(h:l≠[]):Zw (p::l)=Zw l:=by
 cases l with
 |nil=>exact absurd rfl h
 |cons x r=>simp[Zw,List.getLastD]
theorem Qos{a b:List Nat}(h:b≠[]):Zw (a++b)=Zw b:=by
 induction a with
 |nil=>rfl
 |cons x r c=>
  rw[TM,O2 (by simp[h]),c]
theorem Ch.Rv{up:Nat->Option Nat}{p z:Nat}{l:List Nat}(h:Ch up p l)(hz:z∈l):∃m,Ch up z m/\Zw m=Zw l:=by
 obtain⟨a,b,rfl⟩:=D1 hz
 exact⟨z::b,h.suffix Xb,by rw[Qos (by simp)]⟩
def Qb4(up:Nat->Option Nat)(p:Nat)(v:Nat):Nat->Option Nat:=λq=>if q=p then some v else up q
def Xh(up:Nat->Option Nat):Nat->List Nat->(Nat->Option Nat)
 |_,[]=>up
 |over,c::r=>Xh (Qb4 up c over) c r
theorem Ua:∀{l:List Nat}{up:Nat->Option Nat}{over q:Nat},q∉l->Xh up over l q=up q
 |[],_,_,_,_=>rfl
 |c::r,up,over,q,h=>by
  simp only[Gu,not_or]at h
  show Xh (Qb4 up c over) c r q=_
  rw[Ua h.2]
  unfold Qb4
  rw[Gj h.1]
theorem Ch.Qcm{up:Nat->Option Nat}{low:List Nat}{over:Nat}:∀{p:Nat}{l:List Nat},Ch up p l->(∀z∈l,z∉low)->Ch (Xh up over low) p l
 |p,_,.top e,h=>.top (by rw[Ua (h p (by simp))];exact e)
 |p,_,.step e k,h=>.step (by rw[Ua (h p (by simp))];exact e) (Ch.Qcm k λz hz=>h z (by simp[hz]))
theorem Qfo:∀{low:List Nat}{up:Nat->Option Nat}{over:Nat}{m:List Nat},low.Nodup->Ch (Xh up over low) over m->∀z∈low,∃l,Ch (Xh up over low) z l/\Zw l=Zw m
 |[],_,_,_,_,_,z,hz=>by simp at hz
 |c::r,up,over,m,nd,b,z,hz=>by
  rw[TV]at nd
  have d:Xh up over (c::r) c=some over:=by
   show Xh (Qb4 up c over) c r c=_
   rw[Ua nd.1]
   unfold Qb4
   rw[Gp rfl]
  have h1:Ch (Xh up over (c::r)) c (c::m):=.step d b
  have a:Zw (c::m)=Zw m:=O2 b.ne
  rcases Gu.mp hz with rfl|hz
  ·exact⟨_,h1,a⟩
  ·obtain⟨l,e,f⟩:=Qfo (low:=r) (up:=Qb4 up c over) (over:=c) (m:=c::m) nd.2 h1 z hz
   exact⟨l,e,by rw[f,a]⟩
theorem Qrz{up:Nat->Option Nat}{low:List Nat}{over:Nat}{m:List Nat}(nd:low.Nodup)(d:Ch (Xh up over low) over m):∀{p:Nat}{l:List Nat},Ch up p l->(∃z∈l,z∈low)->∃b,Ch (Xh up over low) p b/\Zw b=Zw m:=by
 intro p l h
 induction h with
 |@top p e=>
  rintro⟨z,hz,a⟩
  simp at hz
  subst hz
  exact Qfo nd d _ a
 |@step p q l e k g=>
  rintro⟨z,hz,a⟩
  by_cases c:p∈low
  ·exact Qfo nd d p c
  ·rcases Gu.mp hz with rfl|hz
   ·exact absurd a c
   ·obtain⟨b,f,i⟩:=g ⟨z,hz,a⟩
    exact⟨p::b,.step (by rw[Ua c];exact e) f,by rw[O2 f.ne,i]⟩
theorem Qcx:∀{l:List Nat}{up:Nat->Option Nat}{over p q:Nat},l.Nodup->Xh up over l p=some q->up p=some q\/(∃r,l=p::r/\q=over)\/∃a b,l=a++q::p::b
 |[],_,_,_,_,_,h=>.inl h
 |c::r,up,over,p,q,nd,h=>by
  rw[TV]at nd
  have h:Xh (Qb4 up c over) c r p=some q:=h
  rcases Qcx nd.2 h with h|⟨d,rfl,rfl⟩|⟨a,b,rfl⟩
  ·unfold Qb4 at h
   by_cases e:p=c
   ·rw[Gp e]at h
    cases h
    subst e
    exact .inr (.inl ⟨r,Xb,Xb⟩)
   ·rw[Gj e]at h
    exact .inl h
  ·exact .inr (.inr ⟨[],d,Xb⟩)
  ·exact .inr (.inr ⟨c::a,b,Xb⟩)
theorem Ch.Qdz{up:Nat->Option Nat}:∀{a:List Nat}{p x y:Nat}{b l:List Nat},Ch up p l->l=a++x::y::b->up x=some y
 |[],p,x,y,b,_,.top _,e=>by simp at e
 |[],p,x,y,b,_,.step f h,e=>by
  simp only[Ee,Tx]at e
  obtain⟨rfl,rfl⟩:=e
  obtain⟨r,c⟩:=h.head
  cases c
  exact f
 |z::a,p,x,y,b,_,.top _,e=>by simp at e
 |z::a,p,x,y,b,_,.step f h,e=>by
  simp only[TM,Tx]at e
  exact Ch.Qdz h e.2
variable{α:Type}
inductive Cn(ls:List (Nat×Nat×α)):Nat->Nat->Prop
 |refl (p:Nat):Cn ls p p
 |symm {p q:Nat}:Cn ls p q->Cn ls q p
 |trans {p q r:Nat}:Cn ls p q->Cn ls q r->Cn ls p r
 |link {p q:Nat} {r:α}:(p,q,r)∈ls->Cn ls p q
theorem Cn.mono{ls a:List (Nat×Nat×α)}(h:∀x∈ls,x∈a):∀{p q:Nat},Cn ls p q->Cn a p q:=by
 intro p q c
 induction c with
 |refl p=>exact .refl p
 |symm _ b=>exact .symm b
 |trans _ _ i1 i2=>exact .trans i1 i2
 |link m=>exact .link (h _ m)
theorem Cn.Qmk{ls:List (Nat×Nat×α)}{m n:Nat}(h:m<=n){p q:Nat}(c:Cn (ls.take m) p q):Cn (ls.take n) p q:=
 c.mono λx a=>by
  have:ls.take m=(ls.take n).take m:=by rw[SU,Sy h]
  rw[this]at a
  exact Dp a
structure Fst(S:List Nat)(ls:List (Nat×Nat×α))(Y1:Nat->Nat->Option Nat)(up:Nat->Option Nat):Prop where
 Qdz:∀p q,up p=some q->∃n,Y1 p q=some n
 Qgm:∀p q n,Y1 p q=some n->∃r,ls[n]?=some (p,q,r)\/ls[n]?=some (q,p,r)
 all:∀(n p q:Nat)r,ls[n]?=some (p,q,r)->Y1 p q=some n/\Y1 q p=some n
 sep:∀(n p q:Nat)r,ls[n]?=some (p,q,r)->¬Cn (ls.take n) p q
 chain:∀p∈S,∃l,Ch up p l
 inS:∀p q,up p=some q->p∈S/\q∈S
theorem Fst.Qdb{S:List Nat}{ls:List (Nat×Nat×α)}{Y1:Nat->Nat->Option Nat}{up:Nat->Option Nat}(F:Fst S ls Y1 up){p q n:Nat}(h:Y1 p q=some n):Y1 q p=some n:=by
 obtain⟨r,h|h⟩:=F.Qgm p q n h
 ·exact(F.all _ _ _ _ h).2
 ·exact(F.all _ _ _ _ h).1
inductive Pth(Y1:Nat->Nat->Option Nat):Nat->List Nat->Nat->Prop
 |nil (p:Nat):Pth Y1 p [] p
 |cons {p q r n:Nat} {ns:List Nat}:Y1 p q=some n->Pth Y1 q ns r->Pth Y1 p (n::ns) r
theorem Pth.app{Y1:Nat->Nat->Option Nat}:∀{p q r:Nat}{a b:List Nat},Pth Y1 p a q->Pth Y1 q b r->Pth Y1 p (a++b) r
 |_,_,_,_,_,.nil _,k=>k
 |_,_,_,_,_,.cons e h,k=>.cons e (h.app k)
theorem Pth.rev{Y1:Nat->Nat->Option Nat}(b:∀p q n,Y1 p q=some n->Y1 q p=some n):∀{p q:Nat}{a:List Nat},Pth Y1 p a q->Pth Y1 q a.reverse p
 |_,_,_,.nil _=>.nil _
 |_,_,_,.cons e h=>by
  rw[Ei]
  exact(h.rev b).app (.cons (b _ _ _ e) (.nil _))
theorem Pth.split{Y1:Nat->Nat->Option Nat}{n:Nat}{b:List Nat}:∀{a:List Nat}{p q:Nat}{l:List Nat},Pth Y1 p l q->l=a++n::b->∃x y,Pth Y1 p a x/\Y1 x y=some n/\Pth Y1 y b q
 |a,p,_,_,.nil _,e=>by simp at e
 |[],p,q,_,.cons f h,e=>by
  simp only[Ee,Tx]at e
  obtain⟨rfl,rfl⟩:=e
  exact⟨p,_,.nil p,f,h⟩
 |z::a,p,q,_,.cons f h,e=>by
  simp only[TM,Tx]at e
  obtain⟨rfl,e⟩:=e
  obtain⟨x,y,h1,h2,c⟩:=h.split e
  exact⟨x,y,.cons f h1,h2,c⟩
theorem Qcp:∀{l:List Nat},l≠[]->∃m∈l,∀k∈l,k<=m
 |[x],_=>⟨x,by simp,λk a=>by simp at a;omega⟩
 |x::y::r,_=>by
  obtain⟨m,h1,h2⟩:=Qcp (l:=y::r) (by simp)
  by_cases e:x<=m
  ·refine⟨m,Gm _ h1,λk a=>?_⟩
   rcases Gu.mp a with rfl|a
   ·exact e
   ·exact h2 k a
  ·refine⟨x,GJ,λk a=>?_⟩
   rcases Gu.mp a with rfl|a
   ·exact Gr _
   ·have:=h2 k a
    omega
section
variable{S:List Nat}{ls:List (Nat×Nat×α)}{Y1:Nat->Nat->Option Nat}{up:Nat->Option Nat}
theorem Fst.Qkr(F:Fst S ls Y1 up){M:Nat}:∀{p q:Nat}{a:List Nat},Pth Y1 p a q->(∀k∈a,k<M)->Cn (ls.take M) p q
 |_,_,_,.nil _,_=>.refl _
 |p,_,_,.cons (n:=n) e h,b=>by
  refine .trans ?_ (F.Qkr h λk d=>b k (Gm _ d))
  have c:=b n GJ
  obtain⟨r,h1|h1⟩:=F.Qgm _ _ _ e
  ·exact .link (r:=r) (Gb (i:=n) (by rw[Fg,Gp c];exact h1))
  ·exact .symm (.link (r:=r) (Gb (i:=n) (by rw[Fg,Gp c];exact h1)))
theorem Fst.early(F:Fst S ls Y1 up){p q n:Nat}{a:List Nat}(h:Pth Y1 p a q)(nd:a.Nodup)(c:Cn (ls.take n) p q):∀k∈a,k<n:=by
 intro k g
 obtain⟨M,w,f⟩:=Qcp (l:=a) (by intro z;rw[z]at g;simp at g)
 by_cases i:M<n
 ·exact SQ (f k g) i
 exfalso
 obtain⟨b,d,rfl⟩:=D1 w
 obtain⟨x,y,h1,h2,v⟩:=h.split rfl
 rw[Df]at nd
 obtain⟨n1,n2,n3⟩:=nd
 rw[TV]at n2
 have m:∀k∈b,k<M:=λk g=>by
  have:=f k (Gi _ g)
  have:=n3 k g M GJ
  omega
 have u:∀k∈d,k<M:=λk g=>by
  have:=f k (Tn _ (Gm _ g))
  have:k≠M:=λz=>n2.1 (z▸g)
  omega
 have o:=F.Qkr h1 m
 have s:=F.Qkr v u
 have t:Cn (ls.take M) p q:=c.Qmk (by omega)
 have j:Cn (ls.take M) x y:=.trans (.symm o) (.trans t (.symm s))
 obtain⟨r,e|e⟩:=F.Qgm _ _ _ h2
 ·exact F.sep _ _ _ _ e j
 ·exact F.sep _ _ _ _ e (.symm j)
def num(Y1:Nat->Nat->Option Nat)(up:Nat->Option Nat)(x:Nat):Nat:=((up x).bind (Y1 x)).getD 0
theorem Fst.Qcl(F:Fst S ls Y1 up){x y:Nat}(h:up x=some y):Y1 x y=some (num Y1 up x):=by
 obtain⟨n,a⟩:=F.Qdz x y h
 unfold num
 rw[h]
 simp[a]
theorem Fst.Qtn(F:Fst S ls Y1 up){x y i j:Nat}(h:up x=some i)(k:up y=some j)(e:num Y1 up x=num Y1 up y):x=y:=by
 have h1:=F.Qcl h
 have n:=F.Qcl k
 rw[e]at h1
 obtain⟨r,h2⟩:=F.Qgm _ _ _ h1
 obtain⟨q,a⟩:=F.Qgm _ _ _ n
 have swap:x=j->i=y->x=y:=λo p=>by
  subst o p
  exfalso
  obtain⟨l,d⟩:=F.chain x (F.inS _ _ h).1
  have nd:=d.nodup
  cases d with
  |top f=>rw[h]at f;cases f
  |step f g=>
   rw[h]at f
   cases f
   cases g with
   |top b=>rw[k]at b;cases b
   |step b m=>
    rw[k]at b
    cases b
    obtain⟨s,c⟩:=m.head
    subst c
    simp at nd
 rcases h2 with h2|h2<;>rcases a with a|a<;>rw[h2]at a<;>simp only[Option.some.injEq,Ds]at a
 ·exact a.1
 ·exact swap a.1 a.2.1
 ·exact swap a.2.1 a.1
 ·exact a.2.1
theorem Fst.Qka(F:Fst S ls Y1 up){m:Nat}{s:List Nat}:∀{P:List Nat}{p:Nat}{l:List Nat},Ch up p l->l=P++m::s->Pth Y1 p (P.map (num Y1 up)) m
 |[],p,_,h,e=>by
  obtain⟨r,a⟩:=h.head
  rw[e]at a
  simp only[Ee,Tx]at a
  rw[a.1]
  exact .nil _
 |z::P,p,_,.top _,e=>by simp at e
 |z::P,p,_,.step (q:=q) f h,e=>by
  simp only[TM,Tx]at e
  obtain⟨rfl,e⟩:=e
  rw[GO]
  exact .cons (F.Qcl f) (F.Qka h e)
theorem Ch.Qr2{P:List Nat}{p m x:Nat}{l s:List Nat}(h:Ch up p l)(e:l=P++m::s)(c:x∈P):∃y,up x=some y:=by
 obtain⟨a,b,rfl⟩:=D1 c
 cases b with
 |nil=>exact⟨m,h.Qdz (a:=a) (b:=s) (by rw[e];simp)⟩
 |cons y b=>exact⟨y,h.Qdz (a:=a) (b:=b++m::s) (by rw[e];simp)⟩
theorem Od{f:Nat->Nat}:∀{l:List Nat},l.Nodup->(∀x∈l,∀y∈l,f x=f y->x=y)->(l.map f).Nodup
 |[],_,_=>by simp
 |x::r,nd,h=>by
  rw[TV]at nd
  rw[GO,TV]
  refine⟨λz=>?_,Od nd.2 λa d b hb=>h a (Gm _ d) b (Gm _ hb)⟩
  obtain⟨y,c,e⟩:=Ti.mp z
  exact nd.1 (h y (Gm _ c) x GJ e▸c)
theorem R8{x y:Nat}:∀{l:List Nat},(x,y)∈l.zip (l.drop 1)->∃a b,l=a++x::y::b
 |[],h=>by simp at h
 |[z],h=>by simp at h
 |z::w::r,h=>by
  simp only[LZ,List.drop_zero,SV,Gu,Ds]at h
  rcases h with⟨rfl,rfl⟩|h
  ·exact⟨[],r,Xb⟩
  ·obtain⟨a,b,e⟩:=R8 (l:=w::r) (by simpa using h)
   exact⟨z::a,b,by rw[e];rfl⟩
theorem Fst.way(F:Fst S ls Y1 up){one f m:Nat}{l1 l2 P Q s:List Nat}(h1:Ch up one l1)(h2:Ch up f l2)(l:l1=P++m::s)(o:l2=Q++m::s)(C:P=[]\/Q=[]\/P.getLast?≠Q.getLast?):
  ∀x y,(x,y)∈(P++m::Q.reverse).zip ((P++m::Q.reverse).drop 1)->∃k,Y1 x y=some k/\∀n,Cn (ls.take n) one f->k<n:=by
 have dis:∀z∈P,z∉Q:=λz V W=>by
  obtain⟨M,w,rfl⟩:=D1 V
  obtain⟨N,O,rfl⟩:=D1 W
  have R:=h1.suffix (a:=M) (z:=z) (b:=w++m::s) (by rw[l];simp)
  have T:=h2.suffix (a:=N) (z:=z) (b:=O++m::s) (by rw[o];simp)
  have e:=R.uniq T
  simp only[Tx,true_and]at e
  have e:=Lm e
  subst e
  rcases C with h|h|h
  ·simp at h
  ·simp at h
  ·refine h ?_
   rw[Ej,Ej]
   have:(z::w).getLast?=some ((z::w).getLast (by simp)):=DA (by simp)
   rw[this]
   rfl
 have G:P.Nodup:=by
  have:=h1.nodup
  rw[l,Df]at this
  exact this.1
 have H:Q.Nodup:=by
  have:=h2.nodup
  rw[o,Df]at this
  exact this.1
 have v:∀x∈P++Q.reverse,∃y,up x=some y:=λx i=>by
  rcases Gd.mp i with i|i
  ·exact h1.Qr2 l i
  ·exact h2.Qr2 o (Lz.mp i)
 have nd:(P++Q.reverse).Nodup:=by
  rw[Df]
  refine⟨G,by rw[List.Nodup,List.pairwise_reverse];exact H.imp λh=>Gq h,λa X b hb z=>?_⟩
  subst z
  exact dis a X (Lz.mp hb)
 have I:((P++Q.reverse).map (num Y1 up)).Nodup:=Od nd λx i y E e=>by
  obtain⟨x',ex⟩:=v x i
  obtain⟨y',U⟩:=v y E
  exact F.Qtn ex U e
 have J:Pth Y1 one ((P++Q.reverse).map (num Y1 up)) f:=by
  rw[Tt,List.map_reverse]
  exact(F.Qka h1 l).app ((F.Qka h2 o).rev λ_ _ _=>F.Qdb)
 intro x y D
 obtain⟨a,b,e⟩:=R8 D
 have fin:∀z L,up z=some L->z∈P++Q.reverse->Y1 x y=some (num Y1 up z)->∃k,Y1 x y=some k/\∀n,Cn (ls.take n) one f->k<n:=λz L _ hz Y=>
  ⟨_,Y,λn c=>F.early J I c _ (Ti.mpr ⟨z,hz,Xb⟩)⟩
 have p:(∃z,z∈P/\x=z/\up z=some y)\/(∃z,z∈Q/\y=z/\up z=some x):=by
  rcases TC a.length P.length with B|A
  ·left
   have i:P[a.length]?=some x:=by
    have:(P++m::Q.reverse)[a.length]?=(a++x::y::b)[a.length]?:=by rw[e]
    rw[GQ B,To (Gr _)]at this
    simpa using this
   refine⟨x,Gb i,Xb,?_⟩
   have g:P++[m]=a++x::y::(P++[m]).drop (a.length+2):=by
    have t:=congrArg (List.take (P.length+1)) e
    have Z:(P++m::Q.reverse).take (P.length+1)=P++[m]:=by
     rw[show P++m::Q.reverse=(P++[m])++Q.reverse by simp,List.take_left' (by simp)]
    rw[Z]at t
    have t2:(a++x::y::b).take (P.length+1)=a++x::y::b.take (P.length+1 - a.length - 2):=by
     rw[List.take_append,List.take_of_length_le (by omega)]
     congr 1
     obtain⟨d,hd⟩:∃d,P.length+1 - a.length=d+2:=⟨P.length+1 - a.length - 2,by omega⟩
     rw[hd]
     simp
    rw[t2]at t
    rw[t]
    congr 3
    rw[List.drop_append]
    simp
   exact h1.Qdz (a:=a) (b:=(P++[m]).drop (a.length+2)++s) (by rw[l,show P++m::s=(P++[m])++s by simp,g];simp[TH])
  ·right
   obtain⟨j,rfl⟩:∃j,a=P++j:=by
    refine⟨a.drop P.length,?_⟩
    have t:=congrArg (List.take P.length) e
    rw[List.take_left' Xb,Ey A]at t
    exact(List.take_append_drop P.length a).symm.trans (by rw[<-t])
   rw[TH]at e
   have e:=List.append_cancel_left e
   have r:=congrArg List.reverse e
   rw[Ei,List.reverse_reverse]at r
   simp only[List.reverse_append,Ei,TH,TM,Ee]at r
   have K:Q++m::s=b.reverse++y::x::(j.reverse++s):=by
    rw[show Q++m::s=(Q++[m])++s by simp,r]
    simp
   refine⟨y,?_,Xb,h2.Qdz (a:=b.reverse) (b:=j.reverse++s) (by rw[o,K])⟩
   have q:b.reverse.length<Q.length:=by
    have:=congrArg List.length r
    simp at this
    simp
    omega
   have E:Q[b.reverse.length]?=some y:=by
    have:(Q++m::s)[b.reverse.length]?=(b.reverse++y::x::(j.reverse++s))[b.reverse.length]?:=by rw[K]
    rw[GQ q,To (Gr _)]at this
    simpa using this
   exact Gb E
 rcases p with⟨z,hz,rfl,u⟩|⟨z,hz,rfl,u⟩
 ·exact fin x y u (Gi _ hz) (F.Qcl u)
 ·exact fin y x u (Tn _ (Lz.mpr hz)) (F.Qdb (F.Qcl u))
end
variable{W ρ:Type}[DecidableEq W]
structure Nst(W ρ:Type) where
 S:List Nat
 lead:Nat->Nat
 mem:Nat->List Nat
 Xc:Nat->List Nat
 tab:W×List Nat->Option Nat
 links:List (Nat×Nat×Option ρ)
 Y1:Nat->Nat->Option Nat
 up:Nat->Option Nat
def Zg(wd:Nat->W)(pt:Nat->List Nat)(ld:Nat->Nat)(p:Nat):W×List Nat:=(wd p,(pt p).map ld)
inductive Cj(S:List Nat)(ld:Nat->Nat)(pend:List (Nat×Nat×Option ρ)):Nat->Nat->Prop
 |lead {p q:Nat}:p∈S->q∈S->ld p=ld q->Cj S ld pend p q
 |wait {p q:Nat} {r:Option ρ}:(p,q,r)∈pend->Cj S ld pend p q
 |symm {p q:Nat}:Cj S ld pend p q->Cj S ld pend q p
 |trans {p q r:Nat}:Cj S ld pend p q->Cj S ld pend q r->Cj S ld pend p r
theorem Cj.map{S:List Nat}{ld d:Nat->Nat}{pend pend':List (Nat×Nat×Option ρ)}(h1:∀p∈S,∀q∈S,ld p=ld q->Cj S d pend' p q)(h2:∀p q r,(p,q,r)∈pend->Cj S d pend' p q):∀{p q:Nat},Cj S ld pend p q->Cj S d pend' p q:=by
 intro p q c
 induction c with
 |lead a b e=>exact h1 _ a _ b e
 |wait m=>exact h2 _ _ _ m
 |symm _ f=>exact .symm f
 |trans _ _ i1 i2=>exact .trans i1 i2
theorem Cj.nil{S:List Nat}{ld:Nat->Nat}{p q:Nat}(c:Cj (ρ:=ρ) S ld [] p q):ld p=ld q:=by
 induction c with
 |lead _ _ e=>exact e
 |wait m=>simp at m
 |symm _ a=>exact a.symm
 |trans _ _ i1 i2=>exact i1.trans i2
def Two(F:Nat->Nat->Prop)(ps a:List Nat):Prop:=ps.length=a.length/\∀(i p q:Nat),ps[i]?=some p->a[i]?=some q->F p q
theorem Qbc{f:Nat->Nat}{ps a:List Nat}:ps.map f=a.map f↔Two (λp q=>f p=f q) ps a:=by
 constructor
 ·intro h
  have b:=congrArg List.length h
  simp at b
  refine⟨b,λi p q c d=>?_⟩
  have:(ps.map f)[i]?=(a.map f)[i]?:=by rw[h]
  simpa[c,d]using this
 ·rintro⟨b,h⟩
  refine E9 λi=>?_
  rw[GY,GY]
  rcases TC i ps.length with hi|hi
  ·have h1:=Gg hi
   have h2:=Gg (show i<a.length by omega)
   rw[h1,h2,Di,Di,h i _ _ h1 h2]
  ·rw[Tz hi,Tz (by omega)]
structure Xv(wd:Nat->W)(pt:Nat->List Nat)(x:Nst W ρ)(pend:List (Nat×Nat×Option ρ)):Prop where
 nd:x.S.Nodup
 pt_:∀p∈x.S,∀q∈pt p,q∈x.S
 ld:∀p∈x.S,x.lead p∈x.S
 idem:∀p∈x.S,x.lead (x.lead p)=x.lead p
 Qay:∀l∈x.S,x.lead l=l->∀p,p∈x.mem l↔p∈x.S/\x.lead p=l
 Qj7:∀l∈x.S,x.lead l=l->(x.mem l).Nodup
 Qh2:∀l∈x.S,∀p∈x.Xc l,p∈x.S
 Qui:∀p∈x.S,∀q∈pt p,p∈x.Xc (x.lead q)
 tabS:∀k u,x.tab k=some u->u∈x.S/\wd u=k.1/\(∀q∈k.2,q∈x.S)/\(pt u).map x.lead=k.2.map x.lead
 Qo2:∀p∈x.S,∃u,x.tab (Zg wd pt x.lead p)=some u/\Cj x.S x.lead pend u p
 pnd:∀a b r,(a,b,r)∈pend->a∈x.S/\b∈x.S/\(r=none->wd a=wd b/\(pt a).map x.lead=(pt b).map x.lead)
 fst:Fst x.S x.links x.Y1 x.up
 lnk:∀(n a b:Nat)r,x.links[n]?=some (a,b,r)->a∈x.S/\b∈x.S/\(r=none->wd a=wd b/\Two (Cn (x.links.take n)) (pt a) (pt b))
 conn:∀p∈x.S,∀q∈x.S,(x.lead p=x.lead q↔Cn x.links p q)
 root:∀p q l m,p∈x.S->q∈x.S->Ch x.up p l->Ch x.up q m->(x.lead p=x.lead q↔Zw l=Zw m)
def scan(ky:Nat->W×List Nat):List Nat->(W×List Nat->Option Nat)->List (Nat×Nat×Option ρ)->(W×List Nat->Option Nat)×List (Nat×Nat×Option ρ)
 |[],t,f=>(t,f)
 |u::r,t,f=>match t (ky u)with
  |some v=>scan ky r t (if v=u then f else f++[(u,v,none)])
  |none=>scan ky r (λk=>if k=ky u then some u else t k) f
theorem V6{ky:Nat->W×List Nat}:∀{l:List Nat}{t:W×List Nat->Option Nat}{f:List (Nat×Nat×Option ρ)}{k:W×List Nat}{v:Nat},t k=some v->(scan ky l t f).1 k=some v
 |[],_,_,_,_,h=>h
 |u::r,t,f,k,v,h=>by
  unfold scan
  cases e:t (ky u)with
  |some w=>exact V6 h
  |none=>
   refine V6 ?_
   have:k≠ky u:=λz=>by rw[z,e]at h;cases h
   simp only[Gj this]
   exact h
theorem scan_keep{ky:Nat->W×List Nat}:∀{l:List Nat}{t:W×List Nat->Option Nat}{f:List (Nat×Nat×Option ρ)}{y},y∈f->y∈(scan ky l t f).2
 |[],_,_,_,h=>h
 |u::r,t,f,y,h=>by
  unfold scan
  cases e:t (ky u)with
  |some w=>
   refine scan_keep ?_
   split
   ·exact h
   ·exact Gi _ h
  |none=>exact scan_keep h
theorem Qcr{ky:Nat->W×List Nat}:∀{l:List Nat}{t:W×List Nat->Option Nat}{f:List (Nat×Nat×Option ρ)}{u:Nat},u∈l->∃v,(scan ky l t f).1 (ky u)=some v/\(v=u\/(u,v,none)∈(scan ky l t f).2)
 |[],_,_,_,h=>by simp at h
 |z::r,t,f,u,h=>by
  unfold scan
  rcases Gu.mp h with rfl|h
  ·cases e:t (ky u)with
   |some w=>
    refine⟨w,V6 e,?_⟩
    by_cases hw:w=u
    ·exact .inl hw
    ·right
     refine scan_keep ?_
     rw[Gj hw]
     simp
   |none=>exact⟨u,V6 (by simp),.inl Xb⟩
  ·cases e:t (ky z)with
   |some w=>exact Qcr h
   |none=>exact Qcr h
theorem Qc7{ky:Nat->W×List Nat}:∀{l:List Nat}{t:W×List Nat->Option Nat}{f:List (Nat×Nat×Option ρ)}{k:W×List Nat}{v:Nat},(scan ky l t f).1 k=some v->t k=some v\/(v∈l/\k=ky v)
 |[],_,_,_,_,h=>.inl h
 |u::r,t,f,k,v,h=>by
  unfold scan at h
  cases e:t (ky u)with
  |some w=>
   rw[e]at h
   rcases Qc7 h with h|⟨h1,h2⟩
   ·exact .inl h
   ·exact .inr ⟨Gm _ h1,h2⟩
  |none=>
   rw[e]at h
   rcases Qc7 h with h|⟨h1,h2⟩
   ·by_cases a:k=ky u
    ·simp only[Gp a]at h
     cases h
     exact .inr ⟨GJ,a⟩
    ·simp only[Gj a]at h
     exact .inl h
   ·exact .inr ⟨Gm _ h1,h2⟩
theorem Vp{ky:Nat->W×List Nat}:∀{l:List Nat}{t:W×List Nat->Option Nat}{f:List (Nat×Nat×Option ρ)}{a b:Nat}{r:Option ρ},(a,b,r)∈(scan ky l t f).2->(a,b,r)∈f\/(r=none/\a∈l/\(scan ky l t f).1 (ky a)=some b)
 |[],_,_,_,_,_,h=>.inl h
 |u::l,t,f,a,b,r,h=>by
  unfold scan at h⊢
  cases e:t (ky u)with
  |some w=>
   rw[e]at h
   rcases Vp h with h|⟨h1,h2,c⟩
   ·split at h
    ·exact .inl h
    ·rcases Gd.mp h with h|h
     ·exact .inl h
     ·simp at h
      obtain⟨rfl,rfl,rfl⟩:=h
      exact .inr ⟨Xb,GJ,V6 e⟩
   ·exact .inr ⟨h1,Gm _ h2,c⟩
  |none=>
   rw[e]at h
   rcases Vp h with h|⟨h1,h2,c⟩
   ·exact .inl h
   ·exact .inr ⟨h1,Gm _ h2,c⟩
theorem scan_len{ky:Nat->W×List Nat}:∀{l:List Nat}{t:W×List Nat->Option Nat}{f:List (Nat×Nat×Option ρ)},(scan ky l t f).2.length<=f.length+l.length
 |[],_,_=>by simp[scan]
 |u::l,t,f=>by
  unfold scan
  cases e:t (ky u)with
  |some w=>
   have:=scan_len (ky:=ky) (l:=l) (t:=t) (f:=if w=u then f else f++[(u,w,none)])
   simp only[Tb]
   split at this
   ·rename_i h
    simp only[Gp h]
    omega
   ·rename_i h
    simp only[Gj h]
    rw[Gk,Gv]at this
    omega
  |none=>
   have:=scan_len (ky:=ky) (l:=l) (t:=λk=>if k=ky u then some u else t k) (f:=f)
   simp only[Tb]
   omega
def Q6(x:Nst W ρ)(a kept:Nat):Nat->Nat:=λp=>if p∈x.mem a then kept else x.lead p
def Vl(wd:Nat->W)(pt:Nat->List Nat)(x:Nst W ρ)(a kept:Nat):Nst W ρ×List (Nat×Nat×Option ρ):=
 ({x with lead:=Q6 x a kept,mem:=(λp=>if p=kept then x.mem kept++x.mem a else x.mem p),Xc:=(λp=>if p=kept then x.Xc kept++x.Xc a else x.Xc p),tab:=(scan (ρ:=ρ) (Zg wd pt (Q6 x a kept)) (x.Xc a) x.tab []).1},(scan (Zg wd pt (Q6 x a kept)) (x.Xc a) x.tab []).2)
def O8(Y1:Nat->Nat->Option Nat)(a b n:Nat):Nat->Nat->Option Nat:=λp q=>if(p=a/\q=b)\/(p=b/\q=a)then some n else Y1 p q
def Yg(wd:Nat->W)(pt:Nat->List Nat)(x:Nst W ρ)(a b:Nat)(r:Option ρ)(lo hi:Nat)(cl:List Nat):Nst W ρ×List (Nat×Nat×Option ρ):=
 Vl wd pt {x with links:=x.links++[(a,b,r)],Y1:=O8 x.Y1 a b x.links.length,up:=Xh x.up hi cl} (x.lead lo) (x.lead hi)
section
variable{wd:Nat->W}{pt:Nat->List Nat}{x:Nst W ρ}{pend:List (Nat×Nat×Option ρ)}
theorem Quf{ls:List (Nat×Nat×Option ρ)}{a b:Nat}{r:Option ρ}{p q:Nat}(c:Cn (ls++[(a,b,r)]) p q):Cn ls p q\/(Cn ls p a/\Cn ls b q)\/(Cn ls p b/\Cn ls a q):=by
 induction c with
 |refl p=>exact .inl (.refl p)
 |symm _ f=>
  rcases f with h|⟨h1,h2⟩|⟨h1,h2⟩
  ·exact .inl (.symm h)
  ·exact .inr (.inr ⟨.symm h2,.symm h1⟩)
  ·exact .inr (.inl ⟨.symm h2,.symm h1⟩)
 |trans _ _ i1 i2=>
  rcases i1 with h|⟨h1,h2⟩|⟨h1,h2⟩<;>rcases i2 with k|⟨e,d⟩|⟨e,d⟩
  ·exact .inl (.trans h k)
  ·exact .inr (.inl ⟨.trans h e,d⟩)
  ·exact .inr (.inr ⟨.trans h e,d⟩)
  ·exact .inr (.inl ⟨h1,.trans h2 k⟩)
  ·exact .inr (.inl ⟨h1,d⟩)
  ·exact .inl (.trans h1 d)
  ·exact .inr (.inr ⟨h1,.trans h2 k⟩)
  ·exact .inl (.trans h1 d)
  ·exact .inr (.inr ⟨h1,d⟩)
 |link m=>
  rcases Gd.mp m with m|m
  ·exact .inl (.link m)
  ·simp at m
   obtain⟨rfl,rfl,rfl⟩:=m
   exact .inr (.inl ⟨.refl _,.refl _⟩)
theorem Xv.Qpu(I:Xv wd pt x pend){g k:Nat}(b:g∈x.S)(a:x.lead g=g){p:Nat}(c:p∈x.S):Q6 x g k p=if x.lead p=g then k else x.lead p:=by
 unfold Q6
 by_cases h:x.lead p=g
 ·rw[Gp h,Gp ((I.Qay g b a p).mpr ⟨c,h⟩)]
 ·rw[Gj h,Gj λz=>h ((I.Qay g b a p).mp z).2]
end
variable{W ρ:Type}[DecidableEq W]
section
variable{wd:Nat->W}{pt:Nat->List Nat}{x:Nst W ρ}{pend:List (Nat×Nat×Option ρ)}
theorem Xv.join(I:Xv wd pt x (pend++[(a,b,r)]))(ac:x.lead a≠x.lead b){lo hi:Nat}{cl:List Nat}(Q:(lo=a/\hi=b)\/(lo=b/\hi=a))(W:Ch x.up lo cl):
  Xv wd pt (Yg wd pt x a b r lo hi cl).1 (pend++(Yg wd pt x a b r lo hi cl).2)/\(∀p∈x.S,(Yg wd pt x a b r lo hi cl).1.lead p=if x.lead p=x.lead lo then x.lead hi else x.lead p):=by
 obtain⟨aS,bS,N⟩:=I.pnd a b r (by simp)
 have M:lo∈x.S:=by rcases Q with⟨h,_⟩|⟨h,_⟩<;>rw[h]<;>assumption
 have G:hi∈x.S:=by rcases Q with⟨_,h⟩|⟨_,h⟩<;>rw[h]<;>assumption
 have s:x.lead lo≠x.lead hi:=by
  rcases Q with⟨h1,h2⟩|⟨h1,h2⟩<;>rw[h1,h2]
  ·exact ac
  ·exact Gq ac
 obtain⟨lh,D⟩:=I.fst.chain hi G
 have gS:=I.ld lo M
 have gg:=I.idem lo M
 have kS:=I.ld hi G
 have kk:=I.idem hi G
 generalize hG:x.lead lo=g at*
 generalize hK:x.lead hi=k at*
 have ab:(x.lead a=g/\x.lead b=k)\/(x.lead a=k/\x.lead b=g):=by
  rcases Q with⟨h1,h2⟩|⟨h1,h2⟩
  ·left;rw[<-h1,<-h2];exact⟨hG,hK⟩
  ·right;rw[<-h1,<-h2];exact⟨hK,hG⟩
 have L:∀p∈x.S,Q6 x g k p=if x.lead p=g then k else x.lead p:=λp d=>I.Qpu gS gg d
 have eJ:Yg wd pt x a b r lo hi cl=Vl wd pt {x with links:=x.links++[(a,b,r)],Y1:=O8 x.Y1 a b x.links.length,up:=Xh x.up hi cl} g k:=by unfold Yg;rw[hG,hK]
 rw[eJ]
 have nC:¬Cn x.links a b:=λc=>ac ((I.conn a aS b bS).mpr c)
 have Y:∀p∈x.S,∀q∈x.S,x.lead p=x.lead q->Q6 x g k p=Q6 x g k q:=λp d q j e=>by rw[L p d,L q j,e]
 have LS:∀p∈x.S,Q6 x g k p∈x.S:=λp d=>by
  rw[L p d];split
  ·exact kS
  ·exact I.ld p d
 have Lk:Q6 x g k k=k:=by rw[L k kS,kk,Gj (Gq s)]
 have Li:∀p∈x.S,Q6 x g k (Q6 x g k p)=Q6 x g k p:=λp d=>by
  by_cases h:x.lead p=g
  ·rw[L p d,Gp h,Lk]
  ·rw[L p d,Gj h,L _ (I.ld p d),I.idem p d,Gj h]
 have Mp:∀p∈x.S,∀q∈x.S,(pt p).map x.lead=(pt q).map x.lead->(pt p).map (Q6 x g k)=(pt q).map (Q6 x g k):=λp d q j e=>by
  rw[Qbc]at e⊢
  exact⟨e.1,λi u v F K=>Y u (I.pt_ p d u (Gb F)) v (I.pt_ q j v (Gb K)) (e.2 i u v F K)⟩
 have TS:∀ky u,(scan (ρ:=ρ) (Zg wd pt (Q6 x g k)) (x.Xc g) x.tab []).1 ky=some u->u∈x.S/\wd u=ky.1/\(∀q∈ky.2,q∈x.S)/\(pt u).map (Q6 x g k)=ky.2.map (Q6 x g k):=λky u h=>by
  rcases Qc7 h with h|⟨h1,h2⟩
  ·obtain⟨k1,k2,k3,k4⟩:=I.tabS ky u h
   refine⟨k1,k2,k3,?_⟩
   rw[Qbc]at k4⊢
   exact⟨k4.1,λi u' v F K=>Y u' (I.pt_ u k1 u' (Gb F)) v (k3 v (Gb K)) (k4.2 i u' v F K)⟩
  ·have uS:=I.Qh2 g gS u h1
   subst h2
   refine⟨uS,Xb,λq j=>?_,?_⟩
   ·obtain⟨q',B,rfl⟩:=Ti.mp j
    exact LS q' (I.pt_ u uS q' B)
   ·show(pt u).map (Q6 x g k)=((pt u).map (Q6 x g k)).map (Q6 x g k)
    rw[TJ]
    refine Tw λq j=>?_
    exact(Li q (I.pt_ u uS q j)).symm
 have dis:∀z∈lh,z∉cl:=λz hz T=>by
  obtain⟨m1,Z,O⟩:=D.Rv hz
  obtain⟨m2,c2,J⟩:=W.Rv T
  have:Zw lh=Zw cl:=by rw[<-O,<-J,Z.uniq c2]
  exact s ((I.root lo hi cl lh M G W D).mpr this.symm|>λe=>by rw[hG,hK]at e;exact e)
 have hh:Ch (Xh x.up hi cl) hi lh:=D.Qcm dis
 have R:∀p∈x.S,∀lp,Ch x.up p lp->∃l,Ch (Xh x.up hi cl) p l/\(x.lead p=g->Zw l=Zw lh)/\(x.lead p≠g->Zw l=Zw lp):=λp d lp w=>by
  by_cases h:∃z∈lp,z∈cl
  ·obtain⟨l,h1,h2⟩:=Qrz W.nodup hh w h
   refine⟨l,h1,λ_=>h2,λA=>?_⟩
   exfalso
   obtain⟨z,hz,T⟩:=h
   obtain⟨m1,Z,O⟩:=w.Rv hz
   obtain⟨m2,c2,J⟩:=W.Rv T
   have:Zw lp=Zw cl:=by rw[<-O,<-J,Z.uniq c2]
   exact A (by rw[<-hG];exact(I.root p lo lp cl d M w W).mpr this)
  ·have h1:Ch (Xh x.up hi cl) p lp:=w.Qcm λz hz T=>h ⟨z,hz,T⟩
   refine⟨lp,h1,λe=>?_,λ_=>rfl⟩
   exfalso
   have:=(I.root p lo lp cl d M w W).mp (by rw[hG];exact e)
   have m1:Zw lp∈lp:=by
    have:=w.ne
    unfold Zw
    rw[EM,DA this]
    exact List.getLast_mem this
   have m2:Zw cl∈cl:=by
    have:=W.ne
    unfold Zw
    rw[EM,DA this]
    exact List.getLast_mem this
   exact h ⟨_,m1,by rw[this];exact m2⟩
 have C1:∀p∈x.S,∀q∈x.S,(Q6 x g k p=Q6 x g k q↔Cn (x.links++[(a,b,r)]) p q):=λp d q j=>by
  have mono:∀{u v:Nat},Cn x.links u v->Cn (x.links++[(a,b,r)]) u v:=λc=>c.mono λy hy=>Gi _ hy
  have lk:Cn (x.links++[(a,b,r)]) a b:=.link (r:=r) (by simp)
  have gk:∀u∈x.S,∀v∈x.S,x.lead u=g->x.lead v=k->Cn (x.links++[(a,b,r)]) u v:=λu F v K O J=>by
   rcases ab with⟨h1,h2⟩|⟨h1,h2⟩
   ·exact .trans (mono ((I.conn u F a aS).mp (O.trans h1.symm))) (.trans lk (mono ((I.conn b bS v K).mp (h2.trans J.symm))))
   ·exact .trans (mono ((I.conn u F b bS).mp (O.trans h2.symm))) (.trans (.symm lk) (mono ((I.conn a aS v K).mp (h1.trans J.symm))))
  constructor
  ·intro e
   rw[L p d,L q j]at e
   by_cases h1:x.lead p=g<;>by_cases h2:x.lead q=g
   ·exact mono ((I.conn p d q j).mp (h1.trans h2.symm))
   ·rw[Gp h1,Gj h2]at e
    exact gk p d q j h1 e.symm
   ·rw[Gj h1,Gp h2]at e
    exact .symm (gk q j p d h2 e)
   ·rw[Gj h1,Gj h2]at e
    exact mono ((I.conn p d q j).mp e)
  ·intro c
   have ae:Q6 x g k a=Q6 x g k b:=by
    rw[L a aS,L b bS]
    rcases ab with⟨h1,h2⟩|⟨h1,h2⟩
    ·rw[Gp h1,Gj (by rw[h2];exact Gq s),h2]
    ·rw[Gp h2,Gj (by rw[h1];exact Gq s),h1]
   rcases Quf c with c|⟨Z,c2⟩|⟨Z,c2⟩
   ·exact Y p d q j ((I.conn p d q j).mpr c)
   ·exact(Y p d a aS ((I.conn p d a aS).mpr Z)).trans (ae.trans (Y b bS q j ((I.conn b bS q j).mpr c2)))
   ·exact(Y p d b bS ((I.conn p d b bS).mpr Z)).trans (ae.symm.trans (Y a aS q j ((I.conn a aS q j).mpr c2)))
 have tk:∀{n:Nat},n<=x.links.length->(x.links++[(a,b,r)]).take n=x.links.take n:=λh=>Ey h
 have gl:∀{n:Nat}{y},(x.links++[(a,b,r)])[n]?=some y->(n<x.links.length/\x.links[n]?=some y)\/(n=x.links.length/\y=(a,b,r)):=λ{n y}h=>by
  rcases TC n x.links.length with A|A
  ·rw[GQ A]at h
   exact .inl ⟨A,h⟩
  ·rw[To A]at h
   have:n - x.links.length=0:=by
    have:=(Ge.mp h).1
    simp at this
    omega
   rw[this]at h
   simp at h
   exact .inr ⟨by omega,h.symm⟩
 have P:∀p q,Xh x.up hi cl p=some q->x.up p=some q\/(p=lo/\q=hi)\/x.up q=some p:=λp q h=>by
  rcases Qcx W.nodup h with h|⟨C,e,J⟩|⟨H,U,e⟩
  ·exact .inl h
  ·obtain⟨ag,e3⟩:=W.head
   rw[e]at e3
   cases e3
   exact .inr (.inl ⟨Xb,J⟩)
  ·exact .inr (.inr (W.Qdz e))
 refine⟨⟨I.nd,I.pt_,LS,Li,λl X e p=>?_,λl X e=>?_,λl X p d=>?_,λp d q j=>?_,TS,λp d=>?_,λH U C h=>?_,⟨λp q h=>?_,λp q n h=>?_,λn p q C h=>?_,λn p q C h=>?_,λp d=>?_,λp q h=>?_⟩,λn H U C h=>?_,C1,λp q l m d j h1 h2=>?_⟩,λp d=>L p d⟩
 ·
  have e:Q6 x g k l=l:=e
  have lg:x.lead l≠g:=λz=>by
   rw[L l X,Gp z]at e
   rw[<-e,kk]at z
   exact s z.symm
  have ll:x.lead l=l:=by rw[L l X,Gj lg]at e;exact e
  show p∈(if l=k then x.mem k++x.mem g else x.mem l)↔p∈x.S/\Q6 x g k p=l
  by_cases E:l=k
  ·rw[Gp E,Gd,I.Qay k kS kk,I.Qay g gS gg]
   constructor
   ·rintro(⟨h1,h2⟩|⟨h1,h2⟩)
    ·exact⟨h1,by rw[L p h1,h2,Gj (Gq s),E]⟩
    ·exact⟨h1,by rw[L p h1,Gp h2,E]⟩
   ·rintro⟨h1,h2⟩
    rw[L p h1]at h2
    by_cases V:x.lead p=g
    ·exact .inr ⟨h1,V⟩
    ·rw[Gj V]at h2
     exact .inl ⟨h1,h2.trans E⟩
  ·rw[Gj E,I.Qay l X ll]
   constructor
   ·rintro⟨h1,h2⟩
    exact⟨h1,by rw[L p h1,Gj (by rw[h2,<-ll];exact lg),h2]⟩
   ·rintro⟨h1,h2⟩
    rw[L p h1]at h2
    by_cases V:x.lead p=g
    ·rw[Gp V]at h2
     exact absurd h2.symm E
    ·rw[Gj V]at h2
     exact⟨h1,h2⟩
 ·have e:Q6 x g k l=l:=e
  have lg:x.lead l≠g:=λz=>by
   rw[L l X,Gp z]at e
   rw[<-e,kk]at z
   exact s z.symm
  have ll:x.lead l=l:=by rw[L l X,Gj lg]at e;exact e
  show(if l=k then x.mem k++x.mem g else x.mem l).Nodup
  by_cases E:l=k
  ·rw[Gp E,Df]
   refine⟨I.Qj7 k kS kk,I.Qj7 g gS gg,λu F v K z=>?_⟩
   subst z
   have h1:=((I.Qay k kS kk u).mp F).2
   have h2:=((I.Qay g gS gg u).mp K).2
   exact s (h2.symm.trans h1)
  ·rw[Gj E]
   exact I.Qj7 l X ll
 ·have d:p∈(if l=k then x.Xc k++x.Xc g else x.Xc l):=d
  by_cases E:l=k
  ·rw[Gp E]at d
   rcases Gd.mp d with h|h
   ·exact I.Qh2 k kS p h
   ·exact I.Qh2 g gS p h
  ·rw[Gj E]at d
   exact I.Qh2 l X p d
 ·show p∈(if Q6 x g k q=k then x.Xc k++x.Xc g else x.Xc (Q6 x g k q))
  have o:=I.Qui p d q j
  have qS:=I.pt_ p d q j
  by_cases h:x.lead q=g
  ·rw[L q qS,Gp h,Gp rfl]
   rw[h]at o
   exact Tn _ o
  ·rw[L q qS,Gj h]
   by_cases E:x.lead q=k
   ·rw[Gp E]
    rw[E]at o
    exact Gi _ o
   ·rw[Gj E]
    exact o
 ·
  show∃u,(scan (ρ:=ρ) (Zg wd pt (Q6 x g k)) (x.Xc g) x.tab []).1 (Zg wd pt (Q6 x g k) p)=some u/\Cj x.S (Q6 x g k) (pend++(scan (Zg wd pt (Q6 x g k)) (x.Xc g) x.tab []).2) u p
  by_cases h:∃q∈pt p,x.lead q=g
  ·obtain⟨q,j,e⟩:=h
   have F:=I.Qui p d q j
   rw[e]at F
   obtain⟨v,h1,h2⟩:=Qcr (ρ:=ρ) (ky:=Zg wd pt (Q6 x g k)) (t:=x.tab) (f:=[]) F
   refine⟨v,h1,?_⟩
   rcases h2 with rfl|h2
   ·exact .lead d d rfl
   ·exact .symm (.wait (r:=none) (Tn _ h2))
  ·obtain⟨u,h1,h2⟩:=I.Qo2 p d
   have ek:Zg wd pt (Q6 x g k) p=Zg wd pt x.lead p:=by
    unfold Zg
    refine Fl rfl (Tw λq j=>?_)
    rw[L q (I.pt_ p d q j),Gj λz=>h ⟨q,j,z⟩]
   refine⟨u,by rw[ek];exact V6 h1,h2.map (λp d q j e=>.lead d j (Y p d q j e)) λp q C m=>?_⟩
   rcases Gd.mp m with m|m
   ·exact .wait (Gi _ m)
   ·simp at m
    obtain⟨rfl,rfl,rfl⟩:=m
    exact .lead aS bS ((C1 _ aS _ bS).mpr (.link (r:=C) (by simp)))
 ·
  rcases Gd.mp h with h|h
  ·obtain⟨h1,h2,V⟩:=I.pnd H U C (Gi _ h)
   exact⟨h1,h2,λe=>⟨(V e).1,Mp H h1 U h2 (V e).2⟩⟩
  ·rcases Vp (show(H,U,C)∈(scan (Zg wd pt (Q6 x g k)) (x.Xc g) x.tab []).2 from h)with h|⟨h1,h2,V⟩
   ·simp at h
   ·have ad:=I.Qh2 g gS H h2
    obtain⟨k1,k2,k3,k4⟩:=TS _ _ V
    refine⟨ad,k1,λ_=>⟨k2.symm,?_⟩⟩
    show(pt H).map (Q6 x g k)=(pt U).map (Q6 x g k)
    rw[k4]
    show _=((pt H).map (Q6 x g k)).map (Q6 x g k)
    rw[TJ]
    exact Tw λq j=>(Li q (I.pt_ H ad q j)).symm
 ·
  show∃n,O8 x.Y1 a b x.links.length p q=some n
  unfold O8
  by_cases A:(p=a/\q=b)\/(p=b/\q=a)
  ·exact⟨_,Gp A⟩
  ·rw[Gj A]
   rcases P p q h with h|⟨O,J⟩|h
   ·exact I.fst.Qdz p q h
   ·exfalso
    apply A
    rcases Q with⟨h1,h2⟩|⟨h1,h2⟩
    ·exact .inl ⟨O.trans h1,J.trans h2⟩
    ·exact .inr ⟨O.trans h1,J.trans h2⟩
   ·obtain⟨n,A⟩:=I.fst.Qdz q p h
    exact⟨n,I.fst.Qdb A⟩
 ·have h:O8 x.Y1 a b x.links.length p q=some n:=h
  unfold O8 at h
  show∃C,(x.links++[(a,b,r)])[n]?=some (p,q,C)\/(x.links++[(a,b,r)])[n]?=some (q,p,C)
  by_cases A:(p=a/\q=b)\/(p=b/\q=a)
  ·rw[Gp A]at h
   cases h
   refine⟨r,?_⟩
   rcases A with⟨rfl,rfl⟩|⟨rfl,rfl⟩
   ·left;simp
   ·right;simp
  ·rw[Gj A]at h
   obtain⟨C,h|h⟩:=I.fst.Qgm p q n h
   ·exact⟨C,.inl (by rw[GQ (Ge.mp h).1];exact h)⟩
   ·exact⟨C,.inr (by rw[GQ (Ge.mp h).1];exact h)⟩
 ·show O8 x.Y1 a b x.links.length p q=some n/\O8 x.Y1 a b x.links.length q p=some n
  rcases gl h with⟨A,h'⟩|⟨A,h⟩
  ·have no:¬((p=a/\q=b)\/(p=b/\q=a)):=by
    rintro(⟨rfl,rfl⟩|⟨rfl,rfl⟩)
    ·exact nC (.link (Gb h'))
    ·exact nC (.symm (.link (Gb h')))
   have af:¬((q=a/\p=b)\/(q=b/\p=a)):=λz=>no (z.elim (λ⟨y1,y2⟩=>.inr ⟨y2,y1⟩) λ⟨y1,y2⟩=>.inl ⟨y2,y1⟩)
   unfold O8
   rw[Gj no,Gj af]
   exact I.fst.all n p q C h'
  ·simp only[Ds]at h
   obtain⟨rfl,rfl,rfl⟩:=h
   subst A
   unfold O8
   exact⟨Gp (.inl ⟨Xb,Xb⟩),Gp (.inr ⟨Xb,Xb⟩)⟩
 ·show¬Cn ((x.links++[(a,b,r)]).take n) p q
  rcases gl h with⟨A,h⟩|⟨A,h⟩
  ·rw[tk (by omega)]
   exact I.fst.sep n p q C h
  ·simp only[Ds]at h
   obtain⟨rfl,rfl,rfl⟩:=h
   rw[tk (by omega),A,Te]
   exact nC
 ·obtain⟨lp,w⟩:=I.fst.chain p d
  obtain⟨l,h1,_⟩:=R p d lp w
  exact⟨l,h1⟩
 ·rcases P p q h with h|⟨O,J⟩|h
  ·exact I.fst.inS p q h
  ·rw[O,J];exact⟨M,G⟩
  ·exact(I.fst.inS q p h).symm
 ·show H∈x.S/\U∈x.S/\(C=none->wd H=wd U/\Two (Cn ((x.links++[(a,b,r)]).take n)) (pt H) (pt U))
  rcases gl h with⟨A,h⟩|⟨A,h⟩
  ·rw[tk (by omega)]
   exact I.lnk n H U C h
  ·simp only[Ds]at h
   obtain⟨rfl,rfl,rfl⟩:=h
   rw[tk (by omega),A,Te]
   refine⟨aS,bS,λe=>⟨(N e).1,?_⟩⟩
   have t:=Qbc.mp (N e).2
   exact⟨t.1,λi u v F K=>(I.conn u (I.pt_ _ aS u (Gb F)) v (I.pt_ _ bS v (Gb K))).mp (t.2 i u v F K)⟩
 ·show Q6 x g k p=Q6 x g k q↔Zw l=Zw m
  obtain⟨lp,w⟩:=I.fst.chain p d
  obtain⟨lq,aa⟩:=I.fst.chain q j
  obtain⟨l',p1,p2,p3⟩:=R p d lp w
  obtain⟨m',q1,q2,q3⟩:=R q j lq aa
  have el:=Ch.uniq (show Ch (Xh x.up hi cl) p l from h1) p1
  have em:=Ch.uniq (show Ch (Xh x.up hi cl) q m from h2) q1
  subst el em
  have rp:=I.root p hi lp lh d G w D
  have rq:=I.root q hi lq lh j G aa D
  rw[hK]at rp rq
  rw[L p d,L q j]
  by_cases o:x.lead p=g<;>by_cases B:x.lead q=g
  ·rw[Gp o,Gp B,p2 o,q2 B]
   exact⟨λ_=>rfl,λ_=>rfl⟩
  ·rw[Gp o,Gj B,p2 o,q3 B]
   exact⟨λe=>(rq.mp e.symm).symm,λe=>(rq.mpr e.symm).symm⟩
  ·rw[Gj o,Gp B,p3 o,q2 B]
   exact rp
  ·rw[Gj o,Gj B,p3 o,q3 B]
   exact I.root p q lp lq d j w aa
end
variable{W ρ:Type}[DecidableEq W]
section
variable{wd:Nat->W}{pt:Nat->List Nat}{x:Nst W ρ}{pend pend':List (Nat×Nat×Option ρ)}
theorem Xv.Ql8(I:Xv wd pt x pend)(h1:∀p q r,(p,q,r)∈pend->Cj x.S x.lead pend' p q)(h2:∀a b r,(a,b,r)∈pend'->a∈x.S/\b∈x.S/\(r=none->wd a=wd b/\(pt a).map x.lead=(pt b).map x.lead)):Xv wd pt x pend':=
 ⟨I.nd,I.pt_,I.ld,I.idem,I.Qay,I.Qj7,I.Qh2,I.Qui,I.tabS,λp d=>by
  obtain⟨u,e,c⟩:=I.Qo2 p d
  exact⟨u,e,c.map (λp d q f e=>.lead d f e) h1⟩,h2,I.fst,I.lnk,I.conn,I.root⟩
theorem Xv.drop{a b:Nat}{r:Option ρ}(I:Xv wd pt x (pend++[(a,b,r)]))(e:x.lead a=x.lead b):Xv wd pt x pend:=by
 obtain⟨aS,bS,_⟩:=I.pnd a b r (by simp)
 refine I.Ql8 (λp q c m=>?_) λd f c m=>I.pnd d f c (Gi _ m)
 rcases Gd.mp m with m|m
 ·exact .wait m
 ·simp at m
  obtain⟨rfl,rfl,rfl⟩:=m
  exact .lead aS bS e
theorem Xv.cong(I:Xv wd pt x []){p q:Nat}(a:p∈x.S)(b:q∈x.S)(e:Zg wd pt x.lead p=Zg wd pt x.lead q):x.lead p=x.lead q:=by
 obtain⟨u,h1,h2⟩:=I.Qo2 p a
 obtain⟨v,c,d⟩:=I.Qo2 q b
 rw[e,c]at h1
 cases h1
 exact h2.nil.symm.trans d.nil
structure Ec(wd:Nat->W)(pt:Nat->List Nat)(S:List Nat)(E:Nat->Nat->Prop):Prop where
 refl:∀p,E p p
 symm:∀p q,E p q->E q p
 trans:∀p q r,E p q->E q r->E p r
 cong:∀p∈S,∀q∈S,wd p=wd q->Two E (pt p) (pt q)->E p q
def Snd(E:Nat->Nat->Prop)(x:Nst W ρ)(pend:List (Nat×Nat×Option ρ)):Prop:=(∀p∈x.S,∀q∈x.S,x.lead p=x.lead q->E p q)/\∀a b r,(a,b,r)∈pend->E a b
theorem Snd.join{E:Nat->Nat->Prop}{a b:Nat}{r:Option ρ}(H:Snd E x (pend++[(a,b,r)]))(X:Ec wd pt x.S E)(I:Xv wd pt x (pend++[(a,b,r)]))(A:x.lead a≠x.lead b){lo hi:Nat}{cl:List Nat}(c:(lo=a/\hi=b)\/(lo=b/\hi=a))(F:Ch x.up lo cl):
  Snd E (Yg wd pt x a b r lo hi cl).1 (pend++(Yg wd pt x a b r lo hi cl).2):=by
 obtain⟨J,L⟩:=I.join A c F
 obtain⟨aS,bS,_⟩:=I.pnd a b r (by simp)
 have g:E a b:=H.2 a b r (by simp)
 have B:lo∈x.S:=by rcases c with⟨h,_⟩|⟨h,_⟩<;>rw[h]<;>assumption
 have z:hi∈x.S:=by rcases c with⟨_,h⟩|⟨_,h⟩<;>rw[h]<;>assumption
 have y:E lo hi:=by
  rcases c with⟨h1,h2⟩|⟨h1,h2⟩<;>rw[h1,h2]
  ·exact g
  ·exact X.symm _ _ g
 have C:∀u∈x.S,∀v∈x.S,x.lead u=x.lead lo->x.lead v=x.lead hi->E u v:=λu l v n s w=>X.trans _ _ _ (H.1 u l lo B s) (X.trans _ _ _ y (H.1 hi z v n w.symm))
 have S1:∀p∈x.S,∀q∈x.S,(Yg wd pt x a b r lo hi cl).1.lead p=(Yg wd pt x a b r lo hi cl).1.lead q->E p q:=λp j q k e=>by
  rw[L p j,L q k]at e
  by_cases h1:x.lead p=x.lead lo<;>by_cases h2:x.lead q=x.lead lo
  ·exact H.1 p j q k (h1.trans h2.symm)
  ·rw[Gp h1,Gj h2]at e
   exact C p j q k h1 e.symm
  ·rw[Gj h1,Gp h2]at e
   exact X.symm _ _ (C q k p j h2 e)
  ·rw[Gj h1,Gj h2]at e
   exact H.1 p j q k e
 refine⟨S1,λd f o m=>?_⟩
 rcases Gd.mp m with h|h
 ·exact H.2 d f o (Gi _ h)
 ·obtain⟨h1,h2,D⟩:=J.pnd d f o m
  have G:o=none:=by
   rcases Vp (show(d,f,o)∈(scan _ _ _ []).2 from h)with h|⟨h1,_⟩
   ·simp at h
   ·exact h1
  obtain⟨s,w⟩:=D G
  have t:=Qbc.mp w
  exact X.cong d h1 f h2 s ⟨t.1,λi u v l n=>S1 u (I.pt_ d h1 u (Gb l)) v (I.pt_ f h2 v (Gb n)) (t.2 i u v l n)⟩
theorem Qjs{a b:Nat}{r:Option ρ}{lo hi:Nat}{cl:List Nat}{d e:Nat}{c:Option ρ}(h:(d,e,c)∈(Yg wd pt x a b r lo hi cl).2):c=none:=by
 rcases Vp (show(d,e,c)∈(scan _ _ _ []).2 from h)with h|⟨h1,_⟩
 ·simp at h
 ·exact h1
def cls(x:Nst W ρ):Nat:=x.S.countP λp=>decide (x.lead p=p)
def Vk(x:Nst W ρ):Nat:=(x.S.map λp=>if x.lead p=p then(x.Xc p).length else 0).sum
theorem Qdq{α:Type}{p q:α->Bool}:∀{l:List α},(∀x∈l,p x=true->q x=true)->l.countP p<=l.countP q
 |[],_=>by simp
 |x::r,h=>by
  have b:=Qdq (l:=r) (λy a=>h y (Gm _ a))
  have h1:=h x GJ
  rw[DM,DM]
  cases e:p x with
  |true=>rw[h1 e];simp;exact b
  |false=>simp;omega
theorem Qc5{α:Type}{p q:α->Bool}:∀{l:List α},(∀x∈l,p x=true->q x=true)->(∃x∈l,q x=true/\p x=false)->l.countP p<l.countP q
 |[],_,h=>by obtain⟨x,c,_⟩:=h;simp at c
 |x::r,h,⟨y,a,h1,h2⟩=>by
  rw[DM,DM]
  rcases Gu.mp a with rfl|a
  ·have:=Qdq (l:=r) (λy a=>h y (Gm _ a))
   rw[h1,h2]
   simp
   omega
  ·have d:=Qc5 (l:=r) (λy a=>h y (Gm _ a)) ⟨y,a,h1,h2⟩
   have b:=h x GJ
   cases e:p x with
   |true=>rw[b e];simp;exact d
   |false=>simp;omega
theorem Qqd{f a:Nat->Nat}:∀{S:List Nat},(∀p∈S,f p=a p)->(S.map f).sum=(S.map a).sum:=λh=>by rw[Tw h]
theorem Qk9{f b:Nat->Nat}{g k:Nat}(d:g≠k):∀{S:List Nat},S.Nodup->g∈S->k∈S->b g+b k=f g+f k->(∀p∈S,p≠g->p≠k->b p=f p)->(S.map b).sum=(S.map f).sum
 |[],_,h,_,_,_=>by simp at h
 |x::r,nd,q,t,e,h=>by
  rw[TV]at nd
  have one:∀{u v:Nat}{S:List Nat},S.Nodup->v∈S->u∉S->(∀p∈S,p≠u->p≠v->b p=f p)->(S.map b).sum+f v=(S.map f).sum+b v:=by
   intro u v S
   induction S with
   |nil=>intro _ h;simp at h
   |cons z s w=>
    intro nd n m o
    rw[TV]at nd
    simp only[Gu,not_or]at m
    simp only[GO,ES]
    rcases Gu.mp n with rfl|n
    ·have:(s.map b).sum=(s.map f).sum:=Qqd λp a=>o p (Gm _ a) (λz=>m.2 (z▸a)) (λz=>nd.1 (z▸a))
     omega
    ·have:=w nd.2 n m.2 λp a=>o p (Gm _ a)
     have hz:=o z GJ (Gq m.1) (λy=>nd.1 (y▸n))
     omega
  simp only[GO,ES]
  by_cases j:x=g
  ·subst j
   have i:k∈r:=(Gu.mp t).resolve_left (Gq d)
   have:=one (u:=x) nd.2 i nd.1 λp a h1 h2=>h p (Gm _ a) h1 h2
   omega
  ·by_cases l:x=k
   ·subst l
    have c:g∈r:=(Gu.mp q).resolve_left d
    have:=one (u:=x) nd.2 c nd.1 λp a h1 h2=>h p (Gm _ a) h2 h1
    omega
   ·have c:g∈r:=(Gu.mp q).resolve_left (Gq j)
    have i:k∈r:=(Gu.mp t).resolve_left (Gq l)
    have:=Qk9 d nd.2 c i e λp a=>h p (Gm _ a)
    have:=h x GJ j l
    omega
theorem Uw{f:Nat->Nat}:∀{S:List Nat}{p:Nat},p∈S->f p<=(S.map f).sum
 |x::r,p,h=>by
  simp only[GO,ES]
  rcases Gu.mp h with rfl|h
  ·omega
  ·have:=Uw (f:=f) h
   omega
theorem Xv.less{a b:Nat}{r:Option ρ}(I:Xv wd pt x (pend++[(a,b,r)]))(i:x.lead a≠x.lead b){lo hi:Nat}{cl:List Nat}(d:(lo=a/\hi=b)\/(lo=b/\hi=a))(y:Ch x.up lo cl):
  cls (Yg wd pt x a b r lo hi cl).1<cls x/\Vk (Yg wd pt x a b r lo hi cl).1=Vk x/\(Yg wd pt x a b r lo hi cl).2.length<=Vk x/\(Yg wd pt x a b r lo hi cl).1.links.length=x.links.length+1:=by
 obtain⟨J,L⟩:=I.join i d y
 obtain⟨aS,bS,_⟩:=I.pnd a b r (by simp)
 have n:lo∈x.S:=by rcases d with⟨h,_⟩|⟨h,_⟩<;>rw[h]<;>assumption
 have m:hi∈x.S:=by rcases d with⟨_,h⟩|⟨_,h⟩<;>rw[h]<;>assumption
 have c:x.lead lo≠x.lead hi:=by
  rcases d with⟨h1,h2⟩|⟨h1,h2⟩<;>rw[h1,h2]
  ·exact i
  ·exact Gq i
 have k:=I.ld lo n
 have q:=I.idem lo n
 have u:=I.ld hi m
 have s:=I.idem hi m
 have g:∀p∈x.S,(Yg wd pt x a b r lo hi cl).1.lead p=p->x.lead p=p/\p≠x.lead lo:=λp j e=>by
  rw[L p j]at e
  by_cases h:x.lead p=x.lead lo
  ·rw[Gp h]at e
   rw[<-e,s]at h
   exact absurd h.symm c
  ·rw[Gj h]at e
   exact⟨e,λz=>h (by rw[e];exact z)⟩
 refine⟨Qc5 (λp j e=>Tp (g p j (T3 e)).1) ⟨x.lead lo,k,Tp q,Tg λz=>(g _ k z).2 Xb⟩,?_,?_,by simp[Yg,Vl]⟩
 ·refine Qk9 c I.nd k u ?_ λp j h1 h2=>?_
  ·have v:¬(Yg wd pt x a b r lo hi cl).1.lead (x.lead lo)=x.lead lo:=λz=>(g _ k z).2 rfl
   have w:(Yg wd pt x a b r lo hi cl).1.lead (x.lead hi)=x.lead hi:=by rw[L _ u,s,Gj (Gq c)]
   rw[Gj v,Gp w,Gp q,Gp s]
   have:(Yg wd pt x a b r lo hi cl).1.Xc (x.lead hi)=x.Xc (x.lead hi)++x.Xc (x.lead lo):=by simp[Yg,Vl]
   rw[this,Gk]
   omega
  ·have:(Yg wd pt x a b r lo hi cl).1.Xc p=x.Xc p:=by simp[Yg,Vl,h2]
   rw[this]
   by_cases e:x.lead p=p
   ·have o:(Yg wd pt x a b r lo hi cl).1.lead p=p:=by rw[L p j,Gj (by rw[e];exact h1),e]
    rw[Gp e,Gp o]
   ·have o:¬(Yg wd pt x a b r lo hi cl).1.lead p=p:=λz=>e (g p j z).1
    rw[Gj e,Gj o]
 ·have h1:=scan_len (ρ:=ρ) (ky:=Zg wd pt (Q6 {x with links:=x.links++[(a,b,r)],Y1:=O8 x.Y1 a b x.links.length,up:=Xh x.up hi cl} (x.lead lo) (x.lead hi))) (l:=x.Xc (x.lead lo)) (t:=x.tab) (f:=[])
  have h2:=Uw (f:=λp=>if x.lead p=p then(x.Xc p).length else 0) k
  simp only[q,Gp]at h2
  refine Dg h1 (by simpa[Vk]using h2)
end
variable{W ρ:Type}[DecidableEq W]
def Yr(pt:Nat->List Nat)(S:List Nat)(q:Nat):List Nat:=S.flatMap λp=>List.replicate ((pt p).count q) p
def Qam(wd:Nat->W)(pt:Nat->List Nat)(S:List Nat)(k:W×List Nat):Option Nat:=S.find? λp=>decide (Zg wd pt id p=k)
def fresh(wd:Nat->W)(pt:Nat->List Nat)(S:List Nat):Nst W ρ:=⟨S,id,λp=>[p],Yr pt S,Qam wd pt S,[],λ_ _=>none,λ_=>none⟩
theorem Qxb{α:Type}{p q:Nat}(c:Cn (α:=α) [] p q):p=q:=by
 induction c with
 |refl _=>rfl
 |symm _ a=>exact a.symm
 |trans _ _ i1 i2=>exact i1.trans i2
 |link m=>simp at m
theorem Qnw{wd:Nat->W}{pt:Nat->List Nat}{S:List Nat}(nd:S.Nodup)(cl:∀p∈S,∀q∈pt p,q∈S)(inj:∀p∈S,∀q∈S,wd p=wd q->pt p=pt q->p=q):Xv (ρ:=ρ) wd pt (fresh wd pt S) [] where
 nd:=nd
 pt_:=cl
 ld:=λp h=>h
 idem:=λ_ _=>rfl
 Qay:=λl g _ p=>by
  show p∈[l]↔p∈S/\p=l
  simp only[Gx]
  exact⟨λe=>⟨e▸g,e⟩,λe=>e.2⟩
 Qj7:=λl _ _=>by simp[fresh]
 Qh2:=λl _ p a=>by
  obtain⟨u,i,h⟩:=DF.mp a
  rw[Fh]at h
  rw[h.2]
  exact i
 Qui:=λp a q b=>DF.mpr ⟨p,a,Fh.mpr ⟨by have:=List.count_pos_iff.mpr b;show(pt p).count q≠0;omega,Xb⟩⟩
 tabS:=λk u h=>by
  have h:S.find? (λp=>decide (Zg wd pt id p=k))=some u:=h
  have h1:=Eb h
  have h2:Zg wd pt id u=k:=T3 (by simpa using Sx h)
  subst h2
  refine⟨h1,Xb,λq b=>?_,?_⟩
  ·simp only[Zg,Lg]at b
   exact cl u h1 q b
  ·simp[Zg,fresh]
 Qo2:=λp a=>by
  show∃u,S.find? (λq=>decide (Zg wd pt id q=Zg wd pt id p))=some u/\_
  cases e:S.find? (λq=>decide (Zg wd pt id q=Zg wd pt id p))with
  |none=>
   have:=Fi.mp e p a
   simp at this
  |some u=>
   have h1:=Eb e
   have h2:Zg wd pt id u=Zg wd pt id p:=T3 (by simpa using Sx e)
   simp only[Zg,Lg,Ds]at h2
   exact⟨u,Xb,.lead h1 a (inj u h1 p a h2.1 h2.2)⟩
 pnd:=λ_ _ _ h=>by simp at h
 fst:=⟨λ_ _ h=>by simp[fresh]at h,λ_ _ _ h=>by simp[fresh]at h,λ_ _ _ _ h=>by simp[fresh]at h,λ_ _ _ _ h=>by simp[fresh]at h,λp _=>⟨[p],.top Xb⟩,λ_ _ h=>by simp[fresh]at h⟩
 lnk:=λ_ _ _ _ h=>by simp[fresh]at h
 conn:=λp _ q _=>⟨λ(e:p=q)=>by subst e;exact .refl _,λc=>Qxb c⟩
 root:=λp q l m _ _ h1 h2=>by
  have d:l=[p]:=h1.uniq (.top Xb)
  have f:m=[q]:=h2.uniq (.top Xb)
  subst d f
  simp[Zw,fresh]
theorem Qpr(pt:Nat->List Nat)(S:List Nat)(p q:Nat):Yr pt (S++[p]) q=Yr pt S q++List.replicate ((pt p).count q) p:=by simp[Yr]
theorem Qo1(wd:Nat->W)(pt:Nat->List Nat){S:List Nat}{p:Nat}(new:∀q∈S,Zg wd pt id q≠Zg wd pt id p)(k:W×List Nat):Qam wd pt (S++[p]) k=if k=Zg wd pt id p then some p else Qam wd pt S k:=by
 unfold Qam
 rw[List.find?_append]
 by_cases h:k=Zg wd pt id p
 ·rw[Gp h]
  have:S.find? (λp=>decide (Zg wd pt id p=k))=none:=Fi.mpr λq a=>by
   have:=new q a
   simp[h,this]
  rw[this]
  simp[h]
 ·rw[Gj h]
  have:[p].find? (λp=>decide (Zg wd pt id p=k))=none:=by simp[Gq h]
  rw[this,Option.or_none]
end Nt
namespace Sb
open PySem PySem.Spec PyProof.Rows L2 Nt
def ki(p:Nat):Xo:=.inl (p:Int)
def dS(S:List Nat)(f:Nat->V):List (Xo×V):=S.map λp=>(ki p,f p)
theorem U6{p q:Nat}(h:ki p=ki q):p=q:=by
 unfold ki at h
 injection h with h
 omega
theorem Qx3(p:Nat):kV (ki p)=jv p:=rfl
theorem Qe5{S:List Nat}{f:Nat->V}{p:Nat}(h:p∈S):Yu (dS S f) (ki p)=some (f p):=by
 induction S with
 |nil=>simp at h
 |cons q r b=>
  by_cases e:q=p
  ·subst e
   exact Xk (p:=(ki q,f q)) rfl
  ·have a:¬(ki q=ki p):=λz=>e (U6 z)
   show Yu ((ki q,f q)::dS r f) (ki p)=_
   rw[Xe (p:=(ki q,f q)) a]
   exact b ((Gu.mp h).resolve_left λz=>e z.symm)
theorem Qks{S:List Nat}{f:Nat->V}{p:Nat}(h:p∉S):Yu (dS S f) (ki p)=none:=by
 induction S with
 |nil=>exact Qhh
 |cons q r b=>
  simp only[Gu,not_or]at h
  have a:¬(ki q=ki p):=λz=>h.1 (U6 z).symm
  show Yu ((ki q,f q)::dS r f) (ki p)=_
  rw[Xe (p:=(ki q,f q)) a]
  exact b h.2
theorem Qmf{S:List Nat}{f:Nat->V}{p:Nat}:(Yu (dS S f) (ki p)).isSome=decide (p∈S):=by
 by_cases h:p∈S
 ·rw[Qe5 h,Tp h];rfl
 ·rw[Qks h,Tg h];rfl
theorem Wq(S:List Nat)(f:Nat->V):(dS S f).length=S.length:=by simp[dS]
theorem Qjf{S:List Nat}{f:Nat->V}{p:Nat}{v:V}(h:p∈S):Wo (dS S f) (ki p) v=dS S (λq=>if q=p then v else f q):=by
 unfold Wo
 have a:((dS S f).any λb=>decide (b.1=ki p))=true:=by rw[Uo,Qe5 h];rfl
 rw[Gp a]
 unfold dS
 rw[TJ]
 refine Tw λq _=>?_
 show(if ki q=ki p then(ki q,v)else(ki q,f q))=(ki q,if q=p then v else f q)
 by_cases e:q=p
 ·subst e;rw[Gp Xb,Gp rfl]
 ·rw[Gj (λz=>e (U6 z)),Gj e]
theorem Ou{S:List Nat}{f:Nat->V}{p:Nat}{v:V}(h:p∉S):Wo (dS S f) (ki p) v=dS (S++[p]) (λq=>if q=p then v else f q):=by
 rw[Qp5 _ (Qks h)]
 unfold dS
 rw[Tt,GO,EA]
 show _=_++[(ki p,if p=p then v else f p)]
 rw[Gp rfl]
 congr 1
 refine Tw λq a=>?_
 show _=(ki q,if q=p then v else f q)
 rw[Gj (λz:q=p=>h (z▸a))]
theorem X9{S:List Nat}{f g:Nat->V}(h:∀p∈S,f p=g p):dS S f=dS S g:=Tw λp a=>by rw[h p a]
inductive Uu where
 |told (n:Nat)
 |asked
def Qn7(H:Hp)(v:V):Option Uu->Prop
 |none=>v=.non
 |some (.told n)=>∃c,v=.ref c/\H c=some (.tup [.str "told",jv n])
 |some .asked=>∃c,v=.ref c/\H c=some (.tup [.str "asked"])
theorem Qn7.Qm{H H':Hp}(e:Qu H H'){v:V}:∀{r:Option Uu},Qn7 H v r->Qn7 H' v r
 |none,h=>h
 |some (.told n),⟨c,h1,h2⟩=>⟨c,h1,e _ _ h2⟩
 |some .asked,⟨c,h1,h2⟩=>⟨c,h1,e _ _ h2⟩
abbrev Lk:=Nat×Nat×Option Uu
def Ra(H:Hp)(v:V)(l:Lk):Prop:=∃c r,v=.ref c/\H c=some (.tup [jv l.1,jv l.2.1,r])/\Qn7 H r l.2.2
theorem Ra.Qm{H H':Hp}(e:Qu H H'){v:V}{l:Lk}(h:Ra H v l):Ra H' v l:=by
 obtain⟨c,r,h1,h2,a⟩:=h
 exact⟨c,r,h1,e _ _ h2,a.Qm e⟩
abbrev Nn:=Nst Str Uu
def Ya(fs:List Fm)(p:Nat):Str:=(fs.getD p (Str.empty,[])).1
def Zi(fs:List Fm)(p:Nat):List Nat:=(fs.getD p (Str.empty,[])).2
theorem Qev{fs:List Fm}{p:Nat}(h:p<fs.length):fs[p]?=some (Ya fs p,Zi fs p):=by
 unfold Ya Zi
 rw[DI,Gg h]
 rfl
structure Na where
 f:Addr
 l:Addr
 m:Addr
 u:Addr
 t:Addr
 k:Addr
 a:Addr
 v:Addr
 ml:Nat->Addr
 ul:Nat->Addr
def Yw(A:Na):List (Str×V):=[("forms",.ref A.f),("leads",.ref A.l),("members",.ref A.m),("users",.ref A.u),("table",.ref A.t),("links",.ref A.k),("link_at",.ref A.a),("above",.ref A.v)]
def ov:Option Nat->V
 |none=>.non
 |some p=>jv p
structure Ap(A:Na)(S:List Nat):Prop where
 lm:A.l≠A.m
 lu:A.l≠A.u
 lv:A.l≠A.v
 mu:A.m≠A.u
 mv:A.m≠A.v
 uv:A.u≠A.v
 kf:A.k≠A.f
 mm:∀p∈S,∀q∈S,A.ml p=A.ml q->p=q
 uu:∀p∈S,∀q∈S,A.ul p=A.ul q->p=q
 mul:∀p∈S,∀q∈S,A.ml p≠A.ul q
 mkf:∀p∈S,A.ml p≠A.k/\A.ml p≠A.f
 ukf:∀p∈S,A.ul p≠A.k/\A.ul p≠A.f
structure Z1(P:Program)(w:World)(C:Addr)(H:Hp)(n:Addr)(A:Na)(fs:List Fm)(tb:Nat)(x:Nn):Prop where
 ob:∃dx,H n=some (.ins C dx (Yw A))
 fo:∃ws,H A.f=some (.lst ws)/\Paired (I0 H) ws fs
 le:H A.l=some (.dK (dS x.S λp=>jv (x.lead p)))
 me:H A.m=some (.dK (dS x.S λp=>.ref (A.ml p)))
 us:H A.u=some (.dK (dS x.S λp=>.ref (A.ul p)))
 ta:∃kvs,DH P w H A.t kvs/\kvs.length<=tb/\∀k:Fm,Yd kvs (Yt k)=(x.tab k).map jv
 li:∃ls,H A.k=some (.lst ls)/\Paired (Ra H) ls x.links
 at_:∃kvs,H A.a=some (.dT kvs)/\kvs.length<=2*x.links.length/\∀i j:Nat,Yu kvs [ki i,ki j]=(x.Y1 i j).map jv
 ab:H A.v=some (.dK (dS x.S λp=>ov (x.up p)))
 ml:∀p∈x.S,H (A.ml p)=some (.lst ((x.mem p).map jv))
 ul:∀p∈x.S,H (A.ul p)=some (.lst ((x.Xc p).map jv))
 ap:Ap A x.S
def Own(A:Na)(S:List Nat)(b:Addr):Prop:=b=A.l\/b=A.m\/b=A.u\/b=A.t\/b=A.k\/b=A.a\/b=A.v\/∃p∈S,b=A.ml p\/b=A.ul p
structure Rk(A:Na)(S:List Nat)(H H':Hp):Prop where
 keep:∀b o,H b=some o->¬Own A S b->H' b=some o
 there:∀b,H' b=none->H b=none
theorem Rk.trans{A:Na}{S:List Nat}{H H1 H2:Hp}(x:Rk A S H H1)(y:Rk A S H1 H2):Rk A S H H2:=⟨λb o e h=>y.keep b o (x.keep b o e h) h,λb h=>x.there b (y.there b h)⟩
theorem Rk.of{A:Na}{S:List Nat}{H H':Hp}(g:Q3 H H'):Rk A S H H':=⟨λb o e _=>g b o e,λb h=>g.free h⟩
theorem Rk.upd{A:Na}{S:List Nat}{H:Hp}{b:Addr}{o:HO}(h:Own A S b):Rk A S H (upd H b o):=⟨λc u e a=>by rw[Qf (show c≠b fromλz=>a (by rw[z];exact h))];exact e,λc a=>by
 by_cases e:c=b
 ·subst e;rw[Qb]at a;cases a
 ·rw[Qf e]at a;exact a⟩
section
variable{P:Program}{w:World}{C:Addr}{H H':Hp}{n:Addr}{A:Na}{fs:List Fm}{tb:Nat}{x:Nn}
theorem Z1.own(X:Z1 P w C H n A fs tb x){b:Addr}(h:Own A x.S b):(∃kvs,H b=some (.dK kvs))\/(∃kvs,H b=some (.dT kvs))\/(∃o,H b=some (.ext o))\/∃xs,H b=some (.lst xs):=by
 obtain⟨kvs,D,_⟩:=X.ta
 obtain⟨ls,L,_⟩:=X.li
 obtain⟨c,T,_⟩:=X.at_
 rcases h with rfl|rfl|rfl|rfl|rfl|rfl|rfl|⟨p,a,rfl|rfl⟩
 ·exact .inl ⟨_,X.le⟩
 ·exact .inl ⟨_,X.me⟩
 ·exact .inl ⟨_,X.us⟩
 ·exact .inr (.inr (.inl ⟨_,D.at_⟩))
 ·exact .inr (.inr (.inr ⟨_,L⟩))
 ·exact .inr (.inl ⟨_,T⟩)
 ·exact .inl ⟨_,X.ab⟩
 ·exact .inr (.inr (.inr ⟨_,X.ml p a⟩))
 ·exact .inr (.inr (.inr ⟨_,X.ul p a⟩))
theorem Z1.Qju(X:Z1 P w C H n A fs tb x){b:Addr}{xs:List V}(h:H b=some (.tup xs)):¬Own A x.S b:=λz=>by
 rcases X.own z with⟨_,e⟩|⟨_,e⟩|⟨_,e⟩|⟨_,e⟩<;>rw[h]at e<;>cases e
theorem Z1.Qxg(X:Z1 P w C H n A fs tb x){b:Addr}(h:H b=none):¬Own A x.S b:=λz=>by
 rcases X.own z with⟨_,e⟩|⟨_,e⟩|⟨_,e⟩|⟨_,e⟩<;>rw[h]at e<;>cases e
theorem Z1.same(g:Q3 H H')(X:Z1 P w C H n A fs tb x):Z1 P w C H' n A fs tb x:=by
 obtain⟨dx,l⟩:=X.ob
 obtain⟨m,i,j⟩:=X.fo
 obtain⟨kvs,D,e,f⟩:=X.ta
 obtain⟨ls,l1,l2⟩:=X.li
 obtain⟨k,c,d⟩:=X.at_
 have b:=Qu.of g
 exact⟨⟨dx,g _ _ l⟩,⟨m,g _ _ i,L2.Paired.Z8 j λ_ _ h=>h.Qm b⟩,g _ _ X.le,g _ _ X.me,g _ _ X.us,⟨kvs,⟨g _ _ D.at_,Ze b D.keys⟩,e,f⟩,⟨ls,g _ _ l1,L2.Paired.Z8 l2 λ_ _ h=>h.Qm b⟩,⟨k,g _ _ c,d⟩,g _ _ X.ab,λp a=>g _ _ (X.ml p a),λp a=>g _ _ (X.ul p a),X.ap⟩
theorem Z1.keep(X:Z1 P w C H n A fs tb x)(a:∀b o,H b=some o->(Own A x.S b\/b=A.f\/b=n)->H' b=some o)(d:Qu H H'):Z1 P w C H' n A fs tb x:=by
 obtain⟨dx,q⟩:=X.ob
 obtain⟨r,k,l⟩:=X.fo
 obtain⟨kvs,D,i,j⟩:=X.ta
 obtain⟨ls,l1,l2⟩:=X.li
 obtain⟨m,e,g⟩:=X.at_
 refine⟨⟨dx,a _ _ q (.inr (.inr Xb))⟩,⟨r,a _ _ k (.inr (.inl Xb)),L2.Paired.Z8 l λ_ _ h=>h.Qm d⟩,a _ _ X.le (.inl (.inl Xb)),a _ _ X.me (.inl (.inr (.inl Xb))),a _ _ X.us (.inl (.inr (.inr (.inl Xb)))),⟨kvs,⟨a _ _ D.at_ (.inl (.inr (.inr (.inr (.inl Xb))))),Ze d D.keys⟩,i,j⟩,
  ⟨ls,a _ _ l1 (.inl (.inr (.inr (.inr (.inr (.inl Xb)))))),L2.Paired.Z8 l2 λ_ _ h=>h.Qm d⟩,⟨m,a _ _ e (.inl (.inr (.inr (.inr (.inr (.inr (.inl Xb))))))),g⟩,a _ _ X.ab (.inl (.inr (.inr (.inr (.inr (.inr (.inr (.inl Xb)))))))),λp c=>?_,λp c=>?_,X.ap⟩
 ·exact a _ _ (X.ml p c) (.inl (.inr (.inr (.inr (.inr (.inr (.inr (.inr ⟨p,c,.inl Xb⟩))))))))
 ·exact a _ _ (X.ul p c) (.inl (.inr (.inr (.inr (.inr (.inr (.inr (.inr ⟨p,c,.inr Xb⟩))))))))
theorem Z1.mono{a:Nat}(h:tb<=a)(X:Z1 P w C H n A fs tb x):Z1 P w C H n A fs a x:=by
 obtain⟨kvs,D,c,b⟩:=X.ta
 exact⟨X.ob,X.fo,X.le,X.me,X.us,⟨kvs,D,by omega,b⟩,X.li,X.at_,X.ab,X.ml,X.ul,X.ap⟩
end
end Sb
namespace L2
open PySem PySem.Spec PyProof.Rows
def Qqk(P:Program)(w:World):V->List V->Hp->VK->Prop:=λx vs H Q=>∃d b a kvs k,x=.ref d/\vs=[.ref b,a]/\DH P w H d kvs/\Ox H b k/\kvs.length<sizeLine/\
 (∀v,Yd kvs k=some v->Q v H)/\(Yd kvs k=none->Q a (upd H d (Uq P w d (kvs++[(k,b,a)]))))
theorem Qjk{X:Cx}(M:X.A.units+64<cLine):MtR X "dict.setdefault" (Qqk X.prog X.w):=by
 intro pins s σ H x vs v us Q I K rv h
 obtain⟨d,b,f,kvs,k,rfl,rfl,D,r,hz,E,G⟩:=h
 cases(show v=Value.ref d from K)
 obtain⟨L,l,rfl,J,j⟩:=vals2 rv
 cases(show L=Value.ref b from J)
 obtain⟨z,hd,xs,rel,g⟩:=Qir I D.at_ D.keys
 have C:kvs.length=xs.length:=Gs rel
 refine call_meetsIn E7 g.typeIs E1 (ER _ _ _) (Wj (W6 X.prog X.w) d b hd l) ⟨by first|(show X.A.units+1+10<cLine;omega)|(show X.A.units+1+1+10<cLine;omega),k,xs,r.is I,g,by omega,λp u=>?_,λt h' e B=>?_⟩
 ·have a:=rel.val k
  rw[u]at a
  cases q:Yd kvs k with
  |none=>rw[q]at a;exact(show False from a).elim
  |some y=>
   rw[q]at a
   exact⟨y,H,I.tok _,a,E y q⟩
 ·have a:=rel.val k
  rw[t]at a
  cases q:Yd kvs k with
  |some y=>rw[q]at a;exact(show False from a).elim
  |none=>
   obtain⟨ob,es,ep,i,h2,m,n,_,o⟩:=e
   have c:KX (kvs++[(k,b,f)]) (xs++[(k,b,l)]):=DO rel ⟨Xb,Xb,j⟩
   refine⟨f,_,Ig (ob:=Uq X.prog X.w d (kvs++[(k,b,f)])) I (by rw[D.at_];exact True.intro) B ⟨ob,i⟩ (Qi4 ⟨by rw[Gk,Gv];omega,hd,_,c,ob,es,ep,i,h2,m,n,o⟩),j,G q⟩
section
variable{X:Cx}{o e:Expr}{es:List Expr}{to:TE}{t:TA}{name:Str}{apos cpos:Pos}{id:String}{r:V->List V->Hp->VK->Prop}
theorem Qit{pins:List (Addr×Obj)}{σ:St}{H:Hp}{s:Shared}{d:Addr}{kvs:List KE}(I:Inv X pins σ H s)(e:H d=some (Uq X.prog X.w d kvs)):
  s.TypeIs (.ref d) "dict"/\∀a,Value.ref d=.ref a->∃ob,s.heap.get? a=some ob/\ob.dict=none:=by
 obtain⟨z,y,xs,r,o,es,ep,h1,h2,b,c,f⟩:=On I e
 exact⟨⟨o,h1,h2.1⟩,λa e=>by cases e;exact⟨o,h1,h2.2.1⟩⟩
def Q0o(P:Program)(w:World)(r:V->List V->Hp->VK->Prop)(to:TE)(t:TA):TE:=λσ H Q=>to σ H λx H1=>(∃d kvs,x=.ref d/\H1 d=some (Uq P w d kvs))/\t σ H1 λxs H2=>r x xs H2 Q
theorem Qvx(slot:Slot "dict" name id)(g:typeOf (.builtin id)=pure (.type "method_descriptor"))(n:MtR X id r)(p:PE X o to)(m:PA X (e::es) t)
  (b:attributeBase o name X.env (eval o X.env)=eval o X.env:=by rfl)
  (f:((backTo cpos (starEach (e::es) X.env)).all (λx=>!x.1)&&(backToKw cpos (keywordEach [] X.env)).all (λx=>x.1.isSome)
   &&decide ((e::es).length+([]:List Keyword).length+(if([]:List Keyword).isEmpty then 0 else 1)<30))=true:=by rfl)
  (c:(apos.endLine==cpos.line)=true:=by rfl)(q:starEach (e::es) X.env=(false,eval e X.env)::starEach es X.env:=by rfl)(a:(backTo cpos (starEach es X.env)).any (·.1)=false:=by rfl):
  PE X (.Call (.Attribute o name apos) (e::es) [] cpos) (Q0o X.prog X.w r to t):=by
 intro pins s σ H Q I h
 refine wpAny_Call_method_late b f c rfl (Ys (p pins s σ H _ I h) λv s1⟨x,H1,i,z,ty,u⟩=>?_)
 obtain⟨d,kvs,rfl,l⟩:=ty
 cases(show v=Value.ref d from z)
 obtain⟨h1,h2⟩:=Qit i l
 refine⟨"dict",id,Ev,slot,g,h1,h2,?_⟩
 have j:=m cpos pins s1 σ H1 _ i u
 rw[q]at j⊢
 refine Ez (by show(false||(backTo cpos (starEach es X.env)).any (·.1))=false;rw[a]<;>rfl) (Calls.evalArgs_plain ?_)
 exact Ys j λus s2⟨vs,H2,k,A,y⟩=>n pins s2 σ H2 (.ref d) vs _ us Q k rfl A y
end
theorem Qda{c:TT}{tb:TS}{D:Ends}{σ:St}{H:Hp}(Pv:Nat->St->Hp->Prop)(f:∃m,Pv m σ H)
  (g:∀m σ H,Pv m σ H->c σ H λb H1=>if b=true then tb {D with nx:=λa H'=>∃d,d<m/\Pv d a H',ct:=λa H'=>∃d,d<m/\Pv d a H',bk:=D.nx} σ H1 else D.nx σ H1)
  (mono:∀σ H Q e,(∀b H1,Q b H1->e b H1)->c σ H Q->c σ H e):Qqv c tb D σ H:=by
 refine⟨Pv,f,λm σ H p=>mono σ H _ _ (λb H1 q=>?_) (g m σ H p)⟩
 cases b with
 |true=>exact⟨_,λa H' h=>h,q⟩
 |false=>exact q
theorem Inv.turns{X:Cx}{pins:List (Addr×Obj)}{σ:List (Option V)}{H:Hp}{s:Shared}{h':Heap}{t':Nat}{fp:List Addr}(I:Inv X pins σ H s)(k:∀b o,b∉fp->s.heap.get? b=some o->h'.get? b=some o)(f:∀b∈fp,O6 X pins H b):
  Inv X pins σ H {s with heap:=h',toks:=t'}:=by
 have d:∀b u,H b=some u->b∉fp:=λb u e z=>by rw[(f b z).1]at e;cases e
 refine I.step (g':=s.gens) (d':=s.drawn) (ch:=fp) (λb hb=>?_) (λb o _ _ a e _=>k b o a e) (λb o _ _ a e _=>⟨o.slots,k b o a e⟩) (λ_ _ _ _ n=>n)
  (λb o a e=>⟨o,k b o a e⟩) (λ_ _ e=>e) (λ_ _ _ e=>e) (λb ps e=>⟨#[],by rw[e];simp⟩) (λm l=>?_) (λb u e=>?_) I.bare
 ·obtain⟨t,g,w,h,i,j⟩:=f b hb
  exact⟨h,g,i,j⟩
 ·obtain⟨o,es,ep,p,r⟩:=l
  exact⟨o,es,ep,k _ o (λz=>(f _ z).2.1 Xb) p,r⟩
 ·refine(I.Zy b u e).Qif (λc v a q=>k c v ?_ q) (λ_ q=>q) λ_ _ q=>q
  rcases a with z|z
  ·rw[z];exact d b u e
  ·exact d c _ z
def ItE(K:Gc)(a:Addr):It:=
 ⟨λi H=>∃xs x,Zd K H a xs/\xs[i]?=some x,λi H v H'=>∃c x,v=.ref c/\H c=none/\(∀xs,Zd K H a xs->xs[i]?=some x)/\H'=upd H c (.tup [.int (i:Int),x]),λi H=>∃xs,Zd K H a xs/\xs.length<=i⟩
theorem Qn5{P:Program}{w:World}{K:Gc}{l:List Expr}{k:Nat}{pos:Pos}(a e it:Addr)(r:e≠it):Qg8 P w K (.Tuple l k pos) (ItE K a) [e,it] e (λi h=>(∃c,IsEnum h e it i c)/\h.IsListIter it a i) where
 mem:=by simp
 obj:=λi h st b hb=>by
  obtain⟨⟨c,f⟩,o,S,M,hd⟩:=st
  rcases Gu.mp hb with rfl|hb
  ·exact⟨_,f,λv z=>nomatch z⟩
  ·have:b=it:=by simpa using hb
   subst this
   exact⟨o,S,λv z=>by rw[hd]at z;cases z⟩
 keep:=λi h h' st k=>by
  obtain⟨⟨c,f⟩,d⟩:=st
  exact⟨⟨c,k e (by simp) _ f⟩,d.at λo x=>k it (by simp) o x⟩
 item:=by
  intro X J hw G M i pins s σ H E I B st O
  subst J hw G
  obtain⟨⟨c,f⟩,d⟩:=st
  obtain⟨xs,x,C,D⟩:=O
  obtain⟨its,rv,p,hz⟩:=I.list C
  obtain⟨u,hu,ru⟩:=rv.get D
  refine wpAny_pyNext_enum_item f d p.isList (x:=u) (by simpa using hu) r λh' S A U hsz hk=>⟨_,Xb,?_⟩
  refine wpAny_letOwnedTupleGo_enum S λm N j=>?_
  have g:e<s.heap.objs.size:=Gw f
  have t:it<s.heap.objs.size:=by obtain⟨_,x,_⟩:=d;exact Gw x
  have V:m.get? s.heap.objs.size=some {cls:=.type "tuple",data:=.seq #[.int i s.toks,u]}:=(j.2 _ (TQ g)).trans U
  have R:H s.heap.objs.size=none:=I.Zy.fresh (Gr _)
  have Y:Inv X pins σ (upd H s.heap.objs.size (.tup [.int (i:Int),x])) {s with heap:=s.heap.push {cls:=.type "tuple",data:=.seq #[.int i s.toks,u]},toks:=s.toks}:=
   I.laid (a:=s.heap.objs.size) (o:=.tup [.int (i:Int),x]) (t':=s.toks) (λ_ _ q=>Gh _ q) (Gr _) ⟨by show 2<=sizeLine;decide,[.int i s.toks,u],.cons ⟨_,Xb⟩ (.cons ru .nil),_,Gz _ Xb,Xb,_,Xb⟩
  have T:∀b∈[e,it],O6 X pins (upd H s.heap.objs.size (.tup [.int (i:Int),x])) b:=λb hb=>by
   have Q:b<s.heap.objs.size:=by
    rcases Gu.mp hb with rfl|hb
    ·exact g
    ·have:b=it:=by simpa using hb
     subst this;exact t
   refine⟨?_,(B b hb).2⟩
   rw[Qf (Ts Q)]
   exact(B b hb).1
  have Z:=Y.turns (h':=m) (t':=s.toks+1) (fp:=[e,it]) (λb o hb F=>?_) T
  ·refine⟨.ref s.heap.objs.size,_,Z,Xb,⟨_,x,Xb,R,λys hy=>by rw[I.Qix hy C];exact D,Xb⟩,⟨⟨u,by simpa using N⟩,A.at λo y=>(j.2 it r.symm).trans y⟩,λb hb=>(T b hb).1⟩
  ·have n:b≠e:=λz=>hb (by simp[z])
   have L:b≠it:=λz=>hb (by simp[z])
   refine(j.2 b n).trans ?_
   rcases Heap.get?_push_cases (show(s.heap.push {cls:=.type "tuple",data:=.seq #[.int i s.toks,u]}).get? b=some o from F)with⟨rfl,rfl⟩|e0
   ·exact U
   ·exact hk b o n L e0
 done:=by
  intro X J hw G M i pins s σ H E I B st O
  subst J hw G
  obtain⟨⟨c,f⟩,d⟩:=st
  obtain⟨xs,C,hn⟩:=O
  obtain⟨its,rv,p,hz⟩:=I.list C
  have hl:=rv.length
  refine wpAny_pyNext_enum_end (I.ok.hd M) f d p.isList (Du (by rw[GF];omega)) λh' D=>⟨Xb,?_⟩
  exact I.turns (t':=s.toks) (fp:=[e,it]) (λb o hb F=>D b o (λz=>hb (by simp[z])) F) B
 self:=λ_ _ _ _ _ st h=>by
  obtain⟨⟨c,f⟩,_⟩:=st
  exact wpAny_pyIter_enum f h
def Qyv(K:Gc)(ta:TA):TI:=λσ H R=>ta σ H λvs H1=>∃a xs,vs=[.ref a]/\Zd K H1 a xs/\R (ItE K a) H1
theorem Qlo{X:Cx}{d:List Expr}{k:Nat}{tpos:Pos}{a:Expr}{ta:TA}{p pos:Pos}(r:Gl X "enumerate")(v:X.mg "enumerate"=none)(n:PA X [a] ta)(x:starEach [a] X.env=[(false,eval a X.env)]:=by rfl):PI X (.Tuple d k tpos) (.Call (.Name "enumerate" p) [a] [] pos) (Qyv X.K ta):=by
 intro pins s σ H R I h
 refine Call_ (V3 I r v boot_enumerate (DT (Ys (n pos pins s σ H _ I h) λus s1⟨vs,H1,g,z,y⟩=>?_) x Xb))
 obtain⟨b,xs,e,w,q⟩:=y
 subst e
 obtain⟨u,rfl,A⟩:=vals1 z
 cases(show u=Value.ref b from A)
 obtain⟨its,rv,pt,hz⟩:=g.list w
 refine call_enumerate_list pt.isList λh' l j hsz t=>?_
 have m:Inv X pins σ H1 {s1 with heap:=h',toks:=s1.toks}:=g.kept λb o e=>t b o e
 refine wpAny_pyIter_enum l ⟨s1.heap.objs.size+1,[s1.heap.objs.size+1,s1.heap.objs.size],_,_,H1,Xb,m,Qn5 b (s1.heap.objs.size+1) s1.heap.objs.size (Nat.succ_ne_self _),⟨⟨_,l⟩,j⟩,λc i=>?_,q⟩
 have f:s1.heap.objs.size<=c:=by
  rcases Gu.mp i with e|i
  ·rw[e];exact EZ _
  ·have:c=s1.heap.objs.size:=by simpa using i
   rw[this];exact Gr _
 exact g.Qkg f (g.Zy.fresh f)
theorem Qg1{K:Gc}{a:Addr}{xs:List V}{g:TG}{tb:TS}{D:Ends}{σ:St}{H:Hp}(Pv:Nat->St->Hp->Prop)(j:Pv 0 σ H)
  (k:∀i σ H,i<=xs.length->Pv i σ H->Zd K H a xs)
  (n:∀i x c σ H,xs[i]?=some x->Pv i σ H->H c=none->g (.ref c) σ (upd H c (.tup [.int (i:Int),x])) λd H2=>tb {D with nx:=Pv (i+1),ct:=Pv (i+1),bk:=D.nx} d H2)
  (hd:∀σ H,Pv xs.length σ H->D.nx σ H):
  ∃W:Nat->Nat->St->Hp->Prop,(∃m,W 0 m σ H)/\∀i m σ H,W i m σ H->((ItE K a).stop i H/\D.nx σ H)\/((ItE K a).go i H/\∃N:St->Hp->Prop,(∀b H',N b H'->∃h,h<m/\W (i+1) h b H')/\∀x H',(ItE K a).yld i H x H'->g x σ H' λd H2=>tb {D with nx:=N,ct:=N,bk:=D.nx} d H2):=by
 refine⟨λi m σ H=>m=xs.length - i/\i<=xs.length/\Pv i σ H,⟨_,Xb,Ta _,j⟩,?_⟩
 rintro i m σ H ⟨rfl,hi,pv⟩
 have q:=k i σ H hi pv
 by_cases f:i<xs.length
 ·refine .inr ⟨⟨xs,xs[i],q,by simp[f]⟩,Pv (i+1),λb H' p=>⟨xs.length - (i+1),by omega,Xb,f,p⟩,λv H' y=>?_⟩
  obtain⟨c,x,rfl,l,o,rfl⟩:=y
  exact n i x c σ H (o xs q) pv l
 ·have e:i=xs.length:=by omega
  subst e
  exact .inl ⟨⟨xs,q,Gr _⟩,hd σ H pv⟩
end L2
namespace K05
open PySem L2 Sb Nt
structure Vt(K:Gc)(mg:Str->Option Value)(C:Addr):Prop where
 cl:Cls K C
 Qbu:Yo K C "forms"
 Wm:Yo K C "leads"
 members:Yo K C "members"
 Qec:Yo K C "users"
 table:Yo K C "table"
 links:Yo K C "links"
 Qbo:Yo K C "link_at"
 above:Yo K C "above"
 mgC:mg "Net"=some (.ref C)
theorem Uc(A:Na):(Yw A).lookup ("forms":Str)=some (.ref A.f):=by rfl
theorem Yk(A:Na):(Yw A).lookup ("leads":Str)=some (.ref A.l):=by rfl
theorem Wt(A:Na):(Yw A).lookup ("members":Str)=some (.ref A.m):=by rfl
theorem Jz(A:Na):(Yw A).lookup ("users":Str)=some (.ref A.u):=by rfl
theorem Qin(A:Na):(Yw A).lookup ("table":Str)=some (.ref A.t):=by rfl
theorem Uk(A:Na):(Yw A).lookup ("links":Str)=some (.ref A.k):=by rfl
theorem O5(A:Na):(Yw A).lookup ("link_at":Str)=some (.ref A.a):=by rfl
theorem R0(A:Na):(Yw A).lookup ("above":Str)=some (.ref A.v):=by rfl
theorem O4(A:Na):(Yw A).lookup ("take_in":Str)=none:=by rfl
theorem Qcb(A:Na):(Yw A).lookup ("key_of":Str)=none:=by rfl
theorem Qco(A:Na):(Yw A).lookup ("equal":Str)=none:=by rfl
theorem Qhc(A:Na):(Yw A).lookup ("merge":Str)=none:=by rfl
theorem Qfp(A:Na):(Yw A).lookup ("merge_link":Str)=none:=by rfl
theorem Qla(A:Na):(Yw A).lookup ("hang":Str)=none:=by rfl
theorem Qan(A:Na):(Yw A).lookup ("give_over":Str)=none:=by rfl
theorem Qkh(A:Na):(Yw A).lookup ("way":Str)=none:=by rfl
theorem Qhv(A:Na):(Yw A).lookup ("way_up":Str)=none:=by rfl
theorem Ql7(A:Na):(Yw A).lookup ("rows":Str)=none:=by rfl
theorem Xd{H:Hp}{a:Addr}{S:List Nat}{f:Nat->V}{p:Nat}(h:H a=some (.dK (dS S f)))(b:p∈S):Wk H a (jv p) (some (f p)):=by
 have:=Wk.k (k:=ki p) h
 rw[Qe5 b,Qx3]at this
 exact this
theorem Qgh{i j:Nat}:decide (jv i=jv j)=decide (i=j):=by
 by_cases h:i=j
 ·subst h;simp
 ·rw[Tg h,Tg λz=>h (Qwi z)]
def Qbm(P:Program)(w:World)(C:Addr):Sp:=λvs H Q _=>∃(n:Addr)(A:Na)(fs:List Fm)(tb:Nat)(x:Nn)(p q:Nat),vs=[.ref n,jv p,jv q]/\Z1 P w C H n A fs tb x/\p∈x.S/\q∈x.S/\Q (.bl (decide (x.lead p=x.lead q))) H
def Qa9(P:Program)(w:World)(C:Addr):Sp:=λvs H Q _=>∃(n:Addr)(A:Na)(fs:List Fm)(tb:Nat)(x:Nn)(p:Nat),vs=[.ref n,jv p]/\Z1 P w C H n A fs tb x/\p<fs.length/\(∀q∈Zi fs p,q∈x.S)/\(Zi fs p).length<=1000000/\
 ∀(c:Addr)(H':Hp),Q3 H H'->H c=none->I0 H' (.ref c) (Zg (Ya fs) (Zi fs) x.lead p)->Q (.ref c) H'
def Qku(P:Program)(w:World)(C:Addr):Sp:=λvs H Q _=>∃(n:Addr)(A:Na)(fs:List Fm)(tb:Nat)(x:Nn)(lo hi:Nat)(cl:List Nat),vs=[.ref n,jv lo,jv hi]/\Z1 P w C H n A fs tb x/\Ch x.up lo cl/\(∀p∈cl,p∈x.S)/\x.S.length<=1000000/\
 ∀(H':Hp),Z1 P w C H' n A fs tb {x with up:=Xh x.up hi cl}->(∀b o,H b=some o->b≠A.v->H' b=some o)->(∀b,H' b=none->H b=none)->Q .non H'
def Ql5(P:Program)(w:World)(C:Addr):Sp:=λvs H Q _=>∃(n:Addr)(A:Na)(fs:List Fm)(tb:Nat)(x:Nn)(p:Nat)(l:List Nat),vs=[.ref n,jv p]/\Z1 P w C H n A fs tb x/\Ch x.up p l/\(∀q∈l,q∈x.S)/\l.length<=1000000/\
 ∀(r:Addr)(H':Hp),Q3 H H'->H r=none->H' r=some (.lst (l.map jv))->Q (.ref r) H'
section
variable{P:Program}{w:World}{K:Gc}{mg:Str->Option Value}{base:Heap}
theorem Quv:Qx ["self","one","other"] ["self","one","other"] (Qk Qft):=⟨Xb,Xb,Xb,by decide+kernel,Xb,by decide+kernel,by decide+kernel⟩
theorem Qrq{f C:Addr}{fd:FuncData}(F:W5 K "equal" "Net.equal" Qft f fd)(T:Vt K mg C):Qt P w K mg base Z7 1 f fd ["self","one","other"] (Qbm P w C):=by
 refine F.ok Quv (λvs H Q E h=>?_) (λcdv A outer s H vs Q E e h=>?_)
 ·obtain⟨n,A,fs,tb,x,p,q,rfl,_⟩:=h
  rfl
 obtain⟨n,A,fs,tb,x,p,q,rfl,X,c,d,g⟩:=h
 have a:=Ul e
 refine⟨_,Qh (Qy (Qur Wf (Zs a (Qn (pv 0) rfl) (pv 1) (λ_ _=>rfl)) (Zs a (Qn (pv 0) rfl) (pv 2) (λ_ _=>rfl)) (Q7 _))),?_⟩
 obtain⟨dx,b⟩:=X.ob
 refine⟨_,Xb,n,C,dx,_,_,Xb,b,T.cl,T.Wm,Yk _,_,Xb,A.l,_,Xb,Xd X.le c,_,Xb,n,C,dx,_,_,Xb,b,T.cl,T.Wm,Yk _,_,Xb,A.l,_,Xb,Xd X.le d,Xb,?_⟩
 rw[Qgh]
 exact g
theorem Qbg:Qx ["self","place","form"] ["self","place"] (Qk Ri):=⟨Xb,Xb,Xb,by decide+kernel,Xb,by decide+kernel,by decide+kernel⟩
theorem Qy1:(["part","self"]:List Str).Nodup:=by decide+kernel
theorem Qry{f C:Addr}{fd:FuncData}(F:W5 K "key_of" "Net.key_of" Ri f fd)(T:Vt K mg C)(B:Jv mg):Qt P w K mg base Z7 1 f fd ["self","place"] (Qa9 P w C):=by
 refine F.ok Qbg (λvs H Q E h=>?_) (λcdv A outer s H vs Q E hr h=>?_)
 ·obtain⟨n,A,fs,tb,x,p,rfl,_⟩:=h
  rfl
 obtain⟨n,A,fs,tb,x,p,rfl,X,J,v,hl,g⟩:=h
 have hu:=Ul hr
 have nd:=Qbg.nd
 refine⟨_,Qd (Ql (i:=2) nd rfl (Or.inl Xb) (Qo Zh (Qn (pv 0) rfl) (pv 1) (λ_ _=>rfl)))
  (Qh (Qy (Za (Qa (Qo Q4 (pv 2) Qj (λ_ _=>rfl)) (Qa (Xn Ww rfl B.tuple De (Qa
   (Vw (te:=Qgv (Qun K (V2 1) "leads") (V2 0)) (own:=["part"]) (fv:=[(0,"self")]) rfl (S:=(⟨by rfl,by decide+kernel,by decide+kernel,by decide+kernel⟩:Wc (Qk Ri) _)) (.cons rfl (Or.inl Xb) rfl .nil) (U2 (Qo Q4 (pv 2) Qj (λ_ _=>rfl)))
    (λ_ _ _ _ _=>Qr (i:=0) Qy1 rfl (Or.inl Xb) (Or.inr Xb)) (λ_ _ _ _ _=>Wa) (λ_ _ _ _ _=>Zs hu (Qn (pv 1) rfl) (pv 0) (λ_ _=>rfl))) Qe)) Qe))))),?_⟩
 obtain⟨dx,M⟩:=X.ob
 obtain⟨O,Y,I⟩:=X.fo
 have hw:p<O.length:=by rw[Gs I];exact J
 obtain⟨y,L,c,e,W,h1,h2⟩:=Qv I (Gg hw)
 rw[Qev J]at L
 cases L
 have U:atI [V.str (Ya fs p),V.ref e] (1:Int)=some (.ref e):=Qz (j:=1) rfl
 refine⟨_,Xb,n,C,dx,_,_,Xb,M,T.cl,T.Qbu,Uc _,_,Xb,A.f,O,_,_,Xb,Xb,Zd.of Y,Qz (Gg hw),?_⟩
 rw[W]
 refine⟨_,Xb,c,_,_,_,Xb,Xb,Z4.of h1,Rm _ _,_,Xb,c,_,_,_,Xb,Xb,Z4.of h1,U,e,Xb,⟨_,Z4.of h2⟩,λr t=>?_⟩
 have s3:=Qg t (.lst [])
 refine Jy (K:=K) (a:=e) (xs:=(Zi fs p).map jv) (small (by rw[Gn];omega)) (λi ys σ H2=>(∃R,σ=[R,some (.ref n)])/\Q3 H H2/\ys=((Zi fs p).take i).map λq=>jv (x.lead q))
  ⟨⟨_,Xb⟩,s3,by simp⟩ (λi ys σ H2 _ h=>Z4.of (h.2.1 _ _ h2)) ?_ ?_
 ·rintro i y ys σ H2 hi z ⟨⟨R,rfl⟩,d,rfl⟩ u
  rw[GY]at hi
  cases eq:(Zi fs p)[i]? with
  |none=>rw[eq]at hi;cases hi
  |some q=>
   rw[eq]at hi
   cases hi
   refine⟨_,Xb,n,C,dx,_,_,Xb,d _ _ M,T.cl,T.Wm,Yk _,_,Xb,A.l,_,Xb,Xd (d _ _ X.le) (v q (Gb eq)),u,⟨_,Xb⟩,λb o G=>?_,?_⟩
   ·rw[Qf (Qc G t)]
    exact d _ _ G
   ·rw[Tf,eq,Tt]
    rfl
 ·rintro ys σ H2 z ⟨_,d,rfl⟩ u
  rw[Gn,Te]at u
  refine⟨r,_,Xb,.inl ⟨Zd.of u,λm Z=>?_⟩⟩
  have s4:=Qg Z (.tup ((Zi fs p).map λq=>jv (x.lead q)))
  refine⟨by show 2<=sizeLine;decide,λD k=>?_⟩
  have N:=Qg k (.tup [.str (Ya fs p),.ref m])
  refine g D _ ((d.trans s4).trans N) (d.free (s4.free k)) ⟨D,m,Xb,Qb,?_⟩
  rw[N _ _ Qb]
  simp only[Zg,TJ]
  rfl
theorem Qlz:Qx ["self","place","found","stop"] ["self","place"] (Qk Qff):=⟨Xb,Xb,Xb,by decide+kernel,Xb,by decide+kernel,by decide+kernel⟩
theorem Qf3{o:Option Nat}:decide (ov o=V.non)= !o.isSome:=by
 cases o with
 |none=>rfl
 |some p=>rfl
theorem Qlu{up:Nat->Option Nat}{p:Nat}{l:List Nat}(h:Ch up p l){i:Nat}(hi:i<l.length):up l[i]=l[i+1]?:=by
 induction h generalizing i with
 |@top p e=>
  have:i=0:=by simpa using hi
  subst this
  simpa using e
 |@step p q l e k b=>
  cases i with
  |zero=>
   obtain⟨r,a⟩:=k.head
   subst a
   simpa using e
  |succ j=>
   simp only[Tb]at hi
   simpa using b (i:=j) (by omega)
theorem Qq9{f C:Addr}{fd:FuncData}(F:W5 K "way_up" "Net.way_up" Qff f fd)(T:Vt K mg C):Qt P w K mg base Z7 1 f fd ["self","place"] (Ql5 P w C):=by
 refine F.ok Qlz (λvs H Q E h=>?_) (λcdv A outer s H vs Q E J h=>?_)
 ·obtain⟨n,A,fs,tb,x,p,l,rfl,_⟩:=h
  rfl
 obtain⟨n,A,fs,tb,x,p,l,rfl,X,o,I,q,g⟩:=h
 have L:=Ul J
 have nd:=Qlz.nd
 refine⟨_,Qd (Ql (i:=2) nd rfl (Or.inl Xb) (Zt Qe))
  (Qd (Ql (i:=3) nd rfl (Or.inl Xb) (pv 1))
  (Qd (Wx GX (Qs Rn (pv 3) Ja (Q7 _))
   (Qd (Zb (Xr Gy Tc Tk Z2 (pv 2) (Qa (pv 3) Qe)))
   (Qh (Ql (i:=3) nd rfl (Or.inl Xb) (Zs L (Qn (pv 0) rfl) (pv 3) (λ_ _=>rfl))))))
  (Qh (Qy (pv 2))))),?_⟩
 obtain⟨dx,M⟩:=X.ob
 refine⟨Ta _,λr b=>⟨_,Xb,?_⟩⟩
 have R:=Qg b (.lst [])
 obtain⟨O,B⟩:=o.head
 have D:l[0]?=some p:=by rw[B];rfl
 refine Qda (λm σ H2=>∃i,m=l.length+1 - i/\i<=l.length/\σ=[some (.ref n),some (jv p),some (.ref r),some (ov l[i]?)]/\H2=upd H r (.lst ((l.take i).map jv)))
  ⟨_,0,Xb,Ta _,by rw[D];rfl,by simp⟩ ?_ (λσ H Q N G=>λh=>by
   obtain⟨v,c,t,u,y,z⟩:=h
   exact⟨v,c,t,u,y,G _ _ z⟩)
 rintro m σ H2 ⟨i,rfl,hi,rfl,rfl⟩
 refine⟨_,Xb,Xb,_,Xb,?_⟩
 rw[Qf3]
 rcases TC i l.length with a|j
 ·have c:l[i]?=some l[i]:=Gg a
  have d:l[i]∈l:=Sk a
  rw[c]
  refine Y0 ?_
  refine⟨_,Xb,.inl ⟨Xb,_,Zd.of Qb⟩,_,Xb,r,_,_,Xb,Xb,Qb,by rw[Gn,T6,Td];omega,?_⟩
  have e:Q3 H (upd (upd H r (.lst ((l.take i).map jv))) r (.lst ((l.take i).map jv++[jv l[i]]))):=by rw[U1];exact Qg b _
  refine⟨_,Xb,n,C,dx,_,_,Xb,e _ _ M,T.cl,T.above,R0 _,_,Xb,A.v,_,Xb,Xd (e _ _ X.ab) (I _ d),_,by omega,i+1,Xb,a,?_,?_⟩
  ·rw[Qlu o a]
   rfl
  ·rw[U1,Tf,c,Tt]
   rfl
 ·have c:l[i]?=none:=Tz j
  have k:i=l.length:=by omega
  subst k
  rw[c]
  refine Zq ?_
  rw[Te]
  exact⟨_,Xb,g r _ (Qg b _) b Qb⟩
theorem Qq5:Qx ["self","low","high","over","place","old_over"] ["self","low","high"] (Qk Qk3):=⟨Xb,Xb,Xb,by decide+kernel,Xb,by decide+kernel,by decide+kernel⟩
theorem Qt9{f C:Addr}{fd:FuncData}(F:W5 K "hang" "Net.hang" Qk3 f fd)(T:Vt K mg C):Qt P w K mg base Z7 1 f fd ["self","low","high"] (Qku P w C):=by
 refine F.ok Qq5 (λvs H Q E h=>?_) (λcdv A outer s H vs Q E hr h=>?_)
 ·obtain⟨n,A,fs,tb,x,lo,hi,cl,rfl,_⟩:=h
  rfl
 obtain⟨n,A,fs,tb,x,lo,hi,cl,rfl,X,G,I,W,g⟩:=h
 have Y:=Ul hr
 have nd:=Qq5.nd
 refine⟨_,Qd (Ql (i:=3) nd rfl (Or.inl Xb) (pv 2))
  (Qd (Ql (i:=4) nd rfl (Or.inl Xb) (pv 1))
  (Qh (Wx GX (Qs Rn (pv 4) Ja (Q7 _))
   (Qd (Ql (i:=5) nd rfl (Or.inl Xb) (Zs Y (Qn (pv 0) rfl) (pv 4) (λ_ _=>rfl)))
   (Qd (We Y (Qn (pv 0) rfl) (pv 4) (pv 3) rfl)
   (Qd (Ql (i:=3) nd rfl (Or.inl Xb) (pv 4))
   (Qh (Ql (i:=4) nd rfl (Or.inl Xb) (pv 5))))))))),?_⟩
 obtain⟨dx,L⟩:=X.ob
 obtain⟨aa,d⟩:=G.head
 refine⟨_,Xb,_,Xb,?_⟩
 have Z:n≠A.v:=Zu L X.ab (by intro z;cases z)
 refine Qda (λm σ H2=>∃(u:Nat->Option Nat)(over:Nat)(Wz:List Nat)(x5:Option V),m=Wz.length/\(∀q∈Wz,u q=x.up q)/\(∀c r,Wz=c::r->Ch x.up c Wz)/\Wz.Nodup/\(∀q∈Wz,q∈x.S)/\Xh u over Wz=Xh x.up hi cl/\σ=[some (.ref n),some (jv lo),some (jv hi),some (jv over),some (ov Wz.head?),x5]/\H2=upd H A.v (.dK (dS x.S λp=>ov (u p))))
  ⟨_,x.up,hi,cl,none,Xb,λ_ _=>rfl,λc r e=>?_,G.nodup,I,Xb,?_,?_⟩ ?_ (λσ H Q Q' hQ=>λh=>by
   obtain⟨v,e1,B,e3,e4,e5⟩:=h
   exact⟨v,e1,B,e3,e4,hQ _ _ e5⟩)
 ·rw[d]at e
  cases e
  exact G
 ·rw[d];rfl
 ·funext b
  by_cases hb:b=A.v
  ·subst hb;rw[Qb];exact X.ab
  ·rw[Qf hb]
 rintro m σ H2 ⟨u,over,Wz,x5,rfl,l,t,nd2,hS,J,rfl,rfl⟩
 refine⟨_,Xb,Xb,_,Xb,?_⟩
 rw[Qf3]
 cases Wz with
 |nil=>
  refine Zq ?_
  have e:Xh u over []=u:=rfl
  rw[e]at J
  refine g _ ?_ (λb o eb hb=>by rw[Qf hb];exact eb) (λb hb=>?_)
  ·rw[<-J]
   have M:Qu H (upd H A.v (.dK (dS x.S λp=>ov (u p)))):=Zr λxs e=>by rw[X.ab]at e;cases e
   obtain⟨ws,R,f2⟩:=X.fo
   obtain⟨kvs,D,d2,d3⟩:=X.ta
   obtain⟨ls,l1,l2⟩:=X.li
   obtain⟨kv,N,a2⟩:=X.at_
   refine⟨⟨dx,by rw[Qf Z];exact L⟩,⟨ws,by rw[Qf (Zu R X.ab (by intro z;cases z))];exact R,L2.Paired.Z8 f2 λ_ _ h=>h.Qm M⟩,by rw[Qf X.ap.lv];exact X.le,by rw[Qf X.ap.mv];exact X.me,by rw[Qf X.ap.uv];exact X.us,
    ⟨kvs,⟨by rw[Qf (Zu D.at_ X.ab (by intro z;cases z))];exact D.at_,Ze M D.keys⟩,d2,d3⟩,⟨ls,by rw[Qf (Zu l1 X.ab (by intro z;cases z))];exact l1,L2.Paired.Z8 l2 λ_ _ h=>h.Qm M⟩,⟨kv,by rw[Qf (Zu N X.ab (by intro z;cases z))];exact N,a2⟩,Qb,
    λp j=>by rw[Qf (Zu (X.ml p j) X.ab (by intro z;cases z))];exact X.ml p j,λp j=>by rw[Qf (Zu (X.ul p j) X.ab (by intro z;cases z))];exact X.ul p j,X.ap⟩
  ·by_cases e:b=A.v
   ·subst e;rw[Qb]at hb;cases hb
   ·rw[Qf e]at hb;exact hb
 |cons c r=>
  refine Y0 ?_
  have O:=hS c (by simp)
  have o2:(upd H A.v (.dK (dS x.S λp=>ov (u p)))) n=some (.ins C dx (Yw A)):=by rw[Qf Z];exact L
  have uc:u c=r.head?:=by
   rw[l c (by simp)]
   have:=Qlu (t c r Xb) (i:=0) (by simp)
   simp only[List.getElem_cons_zero]at this
   rw[this]
   cases r<;>rfl
  rw[TV]at nd2
  have U:=Ij.k (k:=ki c) (v:=jv over) (@Qb H A.v (.dK (dS x.S λp=>ov (u p)))) (by rw[Wq,Td];omega)
  rw[U1,Qjf O]at U
  refine⟨_,Xb,n,C,dx,_,_,Xb,o2,T.cl,T.above,R0 _,_,Xb,A.v,_,Xb,Xd Qb O,_,Xb,_,Xb,n,C,dx,_,_,Xb,o2,T.cl,T.above,R0 _,_,Xb,A.v,_,Xb,U,_,Xb,_,Xb,r.length,by simp,Qb4 u c over,c,r,some (ov (u c)),Xb,λq y=>?_,λc2 r2 B=>?_,nd2.2,λq y=>hS q (by simp[y]),J,?_,?_⟩
  ·unfold Qb4
   rw[Gj (λz:q=c=>nd2.1 (z▸y))]
   exact l q (by simp[y])
  ·have:=t c r rfl
   subst B
   exact this.suffix (a:=[c]) rfl
  ·rw[uc]
   rfl
  ·congr 2
   refine X9 λq _=>?_
   unfold Qb4
   by_cases e:q=c
   ·rw[Gp e,Gp e];rfl
   ·rw[Gj e,Gj e]
end
end K05
namespace Sb
open PySem PySem.Spec PyProof.Rows L2 Nt
theorem Yb{H:Hp}{a b:Addr}{o u:HO}(h:H a=some o)(k:H b=some u)(d:∀z:o=u,False):a≠b:=λz=>by
 subst z
 rw[h]at k
 exact d (TF k)
section
variable{P:Program}{w:World}{C:Addr}{H:Hp}{n:Addr}{A:Na}{fs:List Fm}{tb:Nat}{x:Nn}
theorem Z1.Qto(X:Z1 P w C H n A fs tb x)(ld:Nat->Nat):Z1 P w C (upd H A.l (.dK (dS x.S λp=>jv (ld p)))) n A fs tb {x with lead:=ld}:=by
 obtain⟨dx,g⟩:=X.ob
 obtain⟨r,f,m⟩:=X.fo
 obtain⟨kvs,D,j,k⟩:=X.ta
 obtain⟨ls,l1,l2⟩:=X.li
 obtain⟨q,d,i⟩:=X.at_
 have c:Qu H (upd H A.l (.dK (dS x.S λp=>jv (ld p)))):=Zr λxs e=>by rw[X.le]at e;cases e
 have u:∀{b o},H b=some o->b≠A.l->(upd H A.l (.dK (dS x.S λp=>jv (ld p)))) b=some o:=λe h=>by rw[Qf h];exact e
 exact⟨⟨dx,u g (Yb g X.le (λz=>nomatch z))⟩,⟨r,u f (Yb f X.le (λz=>nomatch z)),L2.Paired.Z8 m λ_ _ h=>h.Qm c⟩,Qb,u X.me (Gq X.ap.lm),u X.us (Gq X.ap.lu),⟨kvs,⟨u D.at_ (Yb D.at_ X.le (λz=>nomatch z)),Ze c D.keys⟩,j,k⟩,
  ⟨ls,u l1 (Yb l1 X.le (λz=>nomatch z)),L2.Paired.Z8 l2 λ_ _ h=>h.Qm c⟩,⟨q,u d (Yb d X.le (λz=>nomatch z)),i⟩,u X.ab (Gq X.ap.lv),λp a=>u (X.ml p a) (Yb (X.ml p a) X.le (λz=>nomatch z)),λp a=>u (X.ul p a) (Yb (X.ul p a) X.le (λz=>nomatch z)),X.ap⟩
theorem Z1.Qw2(X:Z1 P w C H n A fs tb x){k:Nat}(a:k∈x.S)(l:List Nat):Z1 P w C (upd H (A.ml k) (.lst (l.map jv))) n A fs tb {x with mem:=λp=>if p=k then l else x.mem p}:=by
 obtain⟨dx,g⟩:=X.ob
 obtain⟨v,r,s⟩:=X.fo
 obtain⟨kvs,D,j,q⟩:=X.ta
 obtain⟨ls,l1,l2⟩:=X.li
 obtain⟨t,f,i⟩:=X.at_
 have m:=X.ml k a
 have d:Qu H (upd H (A.ml k) (.lst (l.map jv))):=Zr λxs e=>by rw[m]at e;cases e
 have u:∀{b o},H b=some o->b≠A.ml k->(upd H (A.ml k) (.lst (l.map jv))) b=some o:=λe h=>by rw[Qf h];exact e
 refine⟨⟨dx,u g (Yb g m (λz=>nomatch z))⟩,⟨v,u r (Gq (X.ap.mkf k a).2),L2.Paired.Z8 s λ_ _ h=>h.Qm d⟩,u X.le (Yb X.le m (λz=>nomatch z)),u X.me (Yb X.me m (λz=>nomatch z)),u X.us (Yb X.us m (λz=>nomatch z)),⟨kvs,⟨u D.at_ (Yb D.at_ m (λz=>nomatch z)),Ze d D.keys⟩,j,q⟩,
  ⟨ls,u l1 (Gq (X.ap.mkf k a).1),L2.Paired.Z8 l2 λ_ _ h=>h.Qm d⟩,⟨t,u f (Yb f m (λz=>nomatch z)),i⟩,u X.ab (Yb X.ab m (λz=>nomatch z)),λp c=>?_,λp c=>u (X.ul p c) (Gq (X.ap.mul k a p c)),X.ap⟩
 by_cases e:p=k
 ·subst e
  show _=some (HO.lst ((if p=p then l else x.mem p).map jv))
  rw[Qb,Gp rfl]
 ·show _=some (HO.lst ((if p=k then l else x.mem p).map jv))
  rw[Gj e]
  exact u (X.ml p c) (λz=>e (X.ap.mm p c k a z))
theorem Z1.Qrn(X:Z1 P w C H n A fs tb x){k:Nat}(a:k∈x.S)(l:List Nat):Z1 P w C (upd H (A.ul k) (.lst (l.map jv))) n A fs tb {x with Xc:=λp=>if p=k then l else x.Xc p}:=by
 obtain⟨dx,g⟩:=X.ob
 obtain⟨v,r,s⟩:=X.fo
 obtain⟨kvs,D,j,q⟩:=X.ta
 obtain⟨ls,l1,l2⟩:=X.li
 obtain⟨t,f,i⟩:=X.at_
 have m:=X.ul k a
 have d:Qu H (upd H (A.ul k) (.lst (l.map jv))):=Zr λxs e=>by rw[m]at e;cases e
 have u:∀{b o},H b=some o->b≠A.ul k->(upd H (A.ul k) (.lst (l.map jv))) b=some o:=λe h=>by rw[Qf h];exact e
 refine⟨⟨dx,u g (Yb g m (λz=>nomatch z))⟩,⟨v,u r (Gq (X.ap.ukf k a).2),L2.Paired.Z8 s λ_ _ h=>h.Qm d⟩,u X.le (Yb X.le m (λz=>nomatch z)),u X.me (Yb X.me m (λz=>nomatch z)),u X.us (Yb X.us m (λz=>nomatch z)),⟨kvs,⟨u D.at_ (Yb D.at_ m (λz=>nomatch z)),Ze d D.keys⟩,j,q⟩,
  ⟨ls,u l1 (Gq (X.ap.ukf k a).1),L2.Paired.Z8 l2 λ_ _ h=>h.Qm d⟩,⟨t,u f (Yb f m (λz=>nomatch z)),i⟩,u X.ab (Yb X.ab m (λz=>nomatch z)),λp c=>u (X.ml p c) (X.ap.mul p c k a),λp c=>?_,X.ap⟩
 by_cases e:p=k
 ·subst e
  show _=some (HO.lst ((if p=p then l else x.Xc p).map jv))
  rw[Qb,Gp rfl]
 ·show _=some (HO.lst ((if p=k then l else x.Xc p).map jv))
  rw[Gj e]
  exact u (X.ul p c) (λz=>e (X.ap.uu p c k a z))
theorem Z1.Qrw(X:Z1 P w C H n A fs tb x){kvs kvs':List KE}(D:DH P w H A.t kvs)(q:kvs'.length<=tb+1)(i:Vz H kvs'){t':Fm->Option Nat}(r:∀k:Fm,Yd kvs' (Yt k)=(t' k).map jv):Z1 P w C (upd H A.t (Uq P w A.t kvs')) n A fs (tb+1) {x with tab:=t'}:=by
 obtain⟨dx,g⟩:=X.ob
 obtain⟨v,f,l⟩:=X.fo
 obtain⟨ls,l1,l2⟩:=X.li
 obtain⟨s,d,j⟩:=X.at_
 have m:=D.at_
 have c:Qu H (upd H A.t (Uq P w A.t kvs')):=Zr λxs e=>by rw[m]at e;cases e
 have u:∀{b o},H b=some o->b≠A.t->(upd H A.t (Uq P w A.t kvs')) b=some o:=λe h=>by rw[Qf h];exact e
 exact⟨⟨dx,u g (Yb g m (λz=>nomatch z))⟩,⟨v,u f (Yb f m (λz=>nomatch z)),L2.Paired.Z8 l λ_ _ h=>h.Qm c⟩,u X.le (Yb X.le m (λz=>nomatch z)),u X.me (Yb X.me m (λz=>nomatch z)),u X.us (Yb X.us m (λz=>nomatch z)),⟨kvs',⟨Qb,Ze c i⟩,q,r⟩,
  ⟨ls,u l1 (Yb l1 m (λz=>nomatch z)),L2.Paired.Z8 l2 λ_ _ h=>h.Qm c⟩,⟨s,u d (Yb d m (λz=>nomatch z)),j⟩,u X.ab (Yb X.ab m (λz=>nomatch z)),λp a=>u (X.ml p a) (Yb (X.ml p a) m (λz=>nomatch z)),λp a=>u (X.ul p a) (Yb (X.ul p a) m (λz=>nomatch z)),X.ap⟩
theorem Z1.Qtk(X:Z1 P w C H n A fs tb x){kv2:List (List Xo×V)}{ls':List V}{lks:List Lk}{lat':Nat->Nat->Option Nat}(h1:kv2.length<=2*lks.length)(h2:∀i j:Nat,Yu kv2 [ki i,ki j]=(lat' i j).map jv)(s:Paired (Ra H) ls' lks):
  Z1 P w C (upd (upd H A.a (.dT kv2)) A.k (.lst ls')) n A fs tb {x with links:=lks,Y1:=lat'}:=by
 obtain⟨dx,f⟩:=X.ob
 obtain⟨t,l,r⟩:=X.fo
 obtain⟨kvs,D,m,q⟩:=X.ta
 obtain⟨ls,l1,l2⟩:=X.li
 obtain⟨y,c,v⟩:=X.at_
 have g:Qu H (upd (upd H A.a (.dT kv2)) A.k (.lst ls')):=λb xs e=>by
  rw[Qf (Yb e l1 (λz=>nomatch z)),Qf (Yb e c (λz=>nomatch z))];exact e
 have u:∀{b o},H b=some o->b≠A.k->b≠A.a->(upd (upd H A.a (.dT kv2)) A.k (.lst ls')) b=some o:=λe h h'=>by rw[Qf h,Qf h'];exact e
 refine⟨⟨dx,u f (Yb f l1 (λz=>nomatch z)) (Yb f c (λz=>nomatch z))⟩,⟨t,u l (Gq X.ap.kf) (Yb l c (λz=>nomatch z)),L2.Paired.Z8 r λ_ _ h=>h.Qm g⟩,u X.le (Yb X.le l1 (λz=>nomatch z)) (Yb X.le c (λz=>nomatch z)),u X.me (Yb X.me l1 (λz=>nomatch z)) (Yb X.me c (λz=>nomatch z)),u X.us (Yb X.us l1 (λz=>nomatch z)) (Yb X.us c (λz=>nomatch z)),
  ⟨kvs,⟨u D.at_ (Yb D.at_ l1 (λz=>nomatch z)) (Yb D.at_ c (λz=>nomatch z)),Ze g D.keys⟩,m,q⟩,⟨ls',Qb,L2.Paired.Z8 s λ_ _ h=>h.Qm g⟩,⟨kv2,?_,h1,h2⟩,u X.ab (Yb X.ab l1 (λz=>nomatch z)) (Yb X.ab c (λz=>nomatch z)),λp d=>u (X.ml p d) (X.ap.mkf p d).1 (Yb (X.ml p d) c (λz=>nomatch z)),λp d=>u (X.ul p d) (X.ap.ukf p d).1 (Yb (X.ul p d) c (λz=>nomatch z)),X.ap⟩
 rw[Qf (Yb c l1 (λz=>nomatch z)),Qb]
end
end Sb
namespace K05
open PySem L2 Sb Nt
structure Qd1(fs:List Fm)(S:List Nat):Prop where
 str:∀p,PyData.strOk (Ya fs p)=true
 lt:∀p∈S,p<fs.length
 pts:∀p∈S,∀q∈Zi fs p,q∈S
 few:∀p,(Zi fs p).length<=100000
def Qko(P:Program)(w:World)(C:Addr):Sp:=λvs H Q _=>∃(n:Addr)(A:Na)(fs:List Fm)(tb:Nat)(x:Nn)(g k:Nat),vs=[.ref n,jv g,jv k]/\Z1 P w C H n A fs tb x/\Qd1 fs x.S/\g∈x.S/\k∈x.S/\g≠k/\(∀p∈x.mem g,p∈x.S)/\(∀p∈x.Xc g,p∈x.S)/\
 x.S.length<=100000/\(x.mem k).length+(x.mem g).length<=100000/\(x.Xc k).length+(x.Xc g).length<=100000/\tb+(x.Xc g).length<=1000000/\
 ∀(r:Addr)(es:List V)(H':Hp),Z1 P w C H' n A fs (tb+(x.Xc g).length) (Vl (Ya fs) (Zi fs) x g k).1->Rk A x.S H H'->H r=none->H' r=some (.lst es)->Paired (Ra H') es (Vl (Ya fs) (Zi fs) x g k).2->Q (.ref r) H'
section
variable{P:Program}{w:World}{K:Gc}{mg:Str->Option Value}{base:Heap}
theorem Qqz:Qx ["self","gone","kept","place","found","user","twin"] ["self","gone","kept"] (Qk Ib):=⟨Xb,Xb,Xb,by decide+kernel,Xb,by decide+kernel,by decide+kernel⟩
theorem Qn4{ky:Nat->Str×List Nat}{l:List Nat}{t:Str×List Nat->Option Nat}{i u:Nat}(h:l[i]?=some u):scan (ρ:=Uu) ky (l.take (i+1)) t []=(match(scan (ρ:=Uu) ky (l.take i) t []).1 (ky u)with
  |some v=>((scan (ρ:=Uu) ky (l.take i) t []).1,if v=u then(scan (ρ:=Uu) ky (l.take i) t []).2 else(scan (ρ:=Uu) ky (l.take i) t []).2++[(u,v,none)])
  |none=>((λk=>if k=ky u then some u else(scan (ρ:=Uu) ky (l.take i) t []).1 k),(scan (ρ:=Uu) ky (l.take i) t []).2)):=by
 have gen:∀(a:List Nat)(t:Str×List Nat->Option Nat)(f:List (Nat×Nat×Option Uu)),scan (ρ:=Uu) ky (a++[u]) t f=(match(scan (ρ:=Uu) ky a t f).1 (ky u)with
  |some v=>((scan (ρ:=Uu) ky a t f).1,if v=u then(scan (ρ:=Uu) ky a t f).2 else(scan (ρ:=Uu) ky a t f).2++[(u,v,none)])
  |none=>((λk=>if k=ky u then some u else(scan (ρ:=Uu) ky a t f).1 k),(scan (ρ:=Uu) ky a t f).2)):=by
  intro a
  induction a with
  |nil=>
   intro t f
   simp only[Ee,scan]
   all_goals (cases t (ky u)<;>rfl)
  |cons z a b=>
   intro t f
   simp only[TM,scan]
   cases t (ky z)with
   |some v=>exact b _ _
   |none=>exact b _ _
 rw[Tf,h]
 exact gen _ _ _
theorem Qs4{f fK C:Addr}{fd ag:FuncData}(F:W5 K "give_over" "Net.give_over" Ib f fd)(T:Vt K mg C)(mK:Z9 K C "key_of" fK)(GK:Qt P w K mg base Z7 1 fK ag ["self","place"] (Qa9 P w C))(bK:Binds K ag ["self","place"] []):
  Qt P w K mg base Z7 2 f fd ["self","gone","kept"] (Qko P w C):=by
 refine F.ok Qqz (λvs H Q E h=>?_) (λcdv A outer s H vs Q E hr h=>?_)
 ·obtain⟨n,A,fs,tb,x,g,k,rfl,_⟩:=h
  rfl
 obtain⟨n,A,fs,tb,x,g,k,rfl,X,fok,I,J,ar,mS,uS,hS,hm,aA,az,q⟩:=h
 have hu:=Ul hr
 have ai:=hr.units
 have av:Yc 1 _:=hr.mono (by omega)
 have nd:=Qqz.nd
 refine⟨_,Qd (Ye GX rfl (Yp (Zs hu (Qn (pv 0) rfl) (pv 1) (λ_ _=>rfl))) (Qr (i:=3) nd rfl (Or.inl Xb))
   (Qh (We hu (Qn (pv 0) rfl) (pv 3) (pv 2) rfl)))
  (Qd (Zb (Xr Gy ET EU Oq (Zs hu (Qn (pv 0) rfl) (pv 2) (λ_ _=>rfl)) (Qa (Zs hu (Qn (pv 0) rfl) (pv 1) (λ_ _=>rfl)) Qe)))
  (Qd (Zb (Xr Gy ET EU Oq (Zs hu (Qn (pv 0) rfl) (pv 2) (λ_ _=>rfl)) (Qa (Zs hu (Qn (pv 0) rfl) (pv 1) (λ_ _=>rfl)) Qe)))
  (Qd (Ql (i:=4) nd rfl (Or.inl Xb) (Zt Qe))
  (Qd (Ye GX rfl (Yp (Zs hu (Qn (pv 0) rfl) (pv 1) (λ_ _=>rfl))) (Qr (i:=5) nd rfl (Or.inl Xb))
   (Qd (Ql (i:=6) nd rfl (Or.inl Xb) (Qvx ED EE (Qjk ai) (Qn (pv 0) rfl) (Qa (Q9 (pv 0) T.cl mK GK av bK .nil Q5 (Qa (pv 5) Qe)) (Qa (pv 5) Qe))))
   (Qh (Zm (Qs Jq (pv 6) (pv 5) (Q7 _))
    (Qh (Zb (Xr Gy Tc Tk Z2 (pv 4) (Qa (Za (Qa (pv 5) (Qa (pv 6) (Qa Ja Qe)))) Qe)))) Q8))))
  (Qh (Qy (pv 4))))))),?_⟩
 obtain⟨dx,o1⟩:=X.ob
 have nl:n≠A.l:=Yb o1 X.le (λz=>nomatch z)
 refine⟨_,Xb,n,C,dx,_,_,Xb,o1,T.cl,T.members,Wt _,_,Xb,A.m,_,Xb,Xd X.me I,A.ml g,Xb,⟨_,Zd.of (X.ml g I)⟩,Y2 (K:=K) (a:=A.ml g) (xs:=(x.mem g).map jv)
  (λi σ H2=>(∃x3,σ=[some (.ref n),some (jv g),some (jv k),x3,none,none,none])/\H2=upd H A.l (.dK (dS x.S λp=>jv (if p∈(x.mem g).take i then k else x.lead p))))
  ⟨⟨_,Xb⟩,?_⟩ (λi σ H2 _⟨_,e⟩=>by rw[e];exact Zd.of (by rw[Qf (Yb (X.ml g I) X.le (λz=>nomatch z))];exact X.ml g I)) ?_ ?_⟩
 ·funext b
  by_cases hb:b=A.l
  ·subst hb;rw[Qb,X.le];simp
  ·rw[Qf hb]
 ·rintro i y σ H2 hi ⟨⟨x3,rfl⟩,rfl⟩
  rw[GY]at hi
  cases eq:(x.mem g)[i]? with
  |none=>rw[eq]at hi;cases hi
  |some p=>
   rw[eq]at hi
   cases hi
   have pS:=mS p (Gb eq)
   have o2:(upd H A.l (.dK (dS x.S λp=>jv (if p∈(x.mem g).take i then k else x.lead p)))) n=some (.ins C dx (Yw A)):=by rw[Qf nl];exact o1
   have hk:=Ij.k (k:=ki p) (v:=jv k) (@Qb H A.l (.dK (dS x.S λp=>jv (if p∈(x.mem g).take i then k else x.lead p)))) (by rw[Wq,Td];omega)
   rw[U1,Qjf pS]at hk
   refine⟨_,Xb,_,Xb,n,C,dx,_,_,Xb,o2,T.cl,T.Wm,Yk _,_,Xb,A.l,_,Xb,hk,⟨_,Xb⟩,?_⟩
   congr 2
   refine X9 λr _=>?_
   rw[Tf,eq]
   by_cases e:r=p
   ·subst e;rw[Gp Xb,Gp (by simp)]
   ·rw[Gj e]
    by_cases hm:r∈(x.mem g).take i
    ·rw[Gp hm,Gp (Gi _ hm)]
    ·rw[Gj hm,Gj (by simp[hm,e])]
 rintro σ H2 ⟨⟨x3,rfl⟩,rfl⟩
 rw[Gn,Te]
 have O:=X.Qto (Q6 x g k)
 have eL:(dS x.S λp=>jv (if p∈x.mem g then k else x.lead p))=dS x.S λp=>jv (Q6 x g k p):=rfl
 rw[eL]
 have F1:Rk A x.S H (upd H A.l (.dK (dS x.S λp=>jv (Q6 x g k p)))):=Rk.upd (.inl Xb)
 generalize upd H A.l (.dK (dS x.S λp=>jv (Q6 x g k p)))=H1 at O F1⊢
 obtain⟨ad,ak⟩:=O.ob
 refine⟨_,Xb,n,C,ad,_,_,Xb,ak,T.cl,T.members,Wt _,_,Xb,A.m,_,Xb,Xd O.me J,.inl ⟨Xb,_,Zd.of (O.ml k J)⟩,_,Xb,n,C,ad,_,_,Xb,ak,T.cl,T.members,Wt _,_,Xb,A.m,_,Xb,Xd O.me I,A.ml k,A.ml g,_,_,Xb,Xb,O.ml k J,O.ml g I,small (by rw[Gn,Gn];show(x.mem k).length+(x.mem g).length<=_;omega),?_⟩
 have R:=O.Qw2 J (x.mem k++x.mem g)
 have F2:Rk A x.S H1 (upd H1 (A.ml k) (.lst ((x.mem k++x.mem g).map jv))):=Rk.upd (.inr (.inr (.inr (.inr (.inr (.inr (.inr ⟨k,J,.inl Xb⟩)))))))
 have e2:((x.mem k).map jv++(x.mem g).map jv)=(x.mem k++x.mem g).map jv:=(Tt ..).symm
 rw[e2]
 generalize upd H1 (A.ml k) (.lst ((x.mem k++x.mem g).map jv))=H2 at R F2⊢
 obtain⟨ae,al⟩:=R.ob
 refine⟨_,Xb,n,C,ae,_,_,Xb,al,T.cl,T.Qec,Jz _,_,Xb,A.u,_,Xb,Xd R.us J,.inl ⟨Xb,_,Zd.of (R.ul k J)⟩,_,Xb,n,C,ae,_,_,Xb,al,T.cl,T.Qec,Jz _,_,Xb,A.u,_,Xb,Xd R.us I,A.ul k,A.ul g,_,_,Xb,Xb,R.ul k J,R.ul g I,small (by rw[Gn,Gn];show(x.Xc k).length+(x.Xc g).length<=_;omega),?_⟩
 have X3:=R.Qrn J (x.Xc k++x.Xc g)
 have F3:Rk A x.S H2 (upd H2 (A.ul k) (.lst ((x.Xc k++x.Xc g).map jv))):=Rk.upd (.inr (.inr (.inr (.inr (.inr (.inr (.inr ⟨k,J,.inr Xb⟩)))))))
 have e3:((x.Xc k).map jv++(x.Xc g).map jv)=(x.Xc k++x.Xc g).map jv:=(Tt ..).symm
 rw[e3]
 generalize upd H2 (A.ul k) (.lst ((x.Xc k++x.Xc g).map jv))=H3 at X3 F3⊢
 have ab:=(F1.trans F2).trans F3
 refine⟨Ta _,λr ah=>?_⟩
 have s4:=Qg ah (.lst [])
 have X4:=X3.same s4
 obtain⟨ao,ax⟩:=X4.ob
 have U:H r=none:=ab.there r ah
 have ap:(λp=>if p=k then x.Xc k++x.Xc g else x.Xc p) g=x.Xc g:=Gj ar
 have ug:∀{j:Hp}{t':Fm->Option Nat}{m:Nat},Z1 P w C j n A fs m {x with lead:=Q6 x g k,mem:=(λp=>if p=k then x.mem k++x.mem g else x.mem p),Xc:=(λp=>if p=k then x.Xc k++x.Xc g else x.Xc p),tab:=t'}->j (A.ul g)=some (.lst ((x.Xc g).map jv)):=λY=>by
  have:=Y.ul g I
  rw[this]
  show some (HO.lst (((λp=>if p=k then x.Xc k++x.Xc g else x.Xc p) g).map jv))=_
  rw[ap]
 refine⟨_,Xb,n,C,ao,_,_,Xb,ax,T.cl,T.Qec,Jz _,_,Xb,A.u,_,Xb,Xd X4.us I,A.ul g,Xb,⟨_,Zd.of (ug X4)⟩,Y2 (K:=K) (a:=A.ul g) (xs:=(x.Xc g).map jv)
  (λi σ j=>∃(x5 x6:Option V)(es:List V),σ=[some (.ref n),some (jv g),some (jv k),x3,some (.ref r),x5,x6]/\
   Z1 P w C j n A fs (tb+i) {x with lead:=Q6 x g k,mem:=(λp=>if p=k then x.mem k++x.mem g else x.mem p),Xc:=(λp=>if p=k then x.Xc k++x.Xc g else x.Xc p),tab:=(scan (ρ:=Uu) (Zg (Ya fs) (Zi fs) (Q6 x g k)) ((x.Xc g).take i) x.tab []).1}/\
   Rk A x.S H j/\j r=some (.lst es)/\Paired (Ra j) es (scan (ρ:=Uu) (Zg (Ya fs) (Zi fs) (Q6 x g k)) ((x.Xc g).take i) x.tab []).2)
  ⟨_,_,[],Xb,?_,ab.trans (Rk.of s4),Qb,.nil⟩ (λi σ j _⟨_,_,_,_,Y,_⟩=>Zd.of (ug Y)) ?_ ?_⟩
 ·exact X4
 ·rintro i y σ j hi ⟨x5,x6,es,rfl,Y,F5,N,l5⟩
  rw[GY]at hi
  cases eq:(x.Xc g)[i]? with
  |none=>rw[eq]at hi;cases hi
  |some u=>
   rw[eq]at hi
   cases hi
   have an:=uS u (Gb eq)
   have il:i<(x.Xc g).length:=(Ge.mp eq).1
   obtain⟨af,am⟩:=Y.ob
   obtain⟨kvs,D,d2,d3⟩:=Y.ta
   have aB:es.length<=i:=by
    rw[Gs l5]
    have:=scan_len (ρ:=Uu) (ky:=Zg (Ya fs) (Zi fs) (Q6 x g k)) (l:=(x.Xc g).take i) (t:=x.tab) (f:=[])
    rw[T6]at this
    simp at this
    omega
   refine⟨_,Xb,n,C,af,_,_,Xb,am,T.cl,T.table,Qin _,⟨A.t,kvs,Xb,D.at_⟩,_,Xb,n,af,_,Xb,am,Qcb _,_,Xb,n,A,fs,_,_,u,Xb,Y,fok.lt u an,λq hq=>fok.pts u an q hq,by have:=fok.few u;omega,λc H6 B c6 aq=>⟨_,Xb,?_⟩⟩
   have Y6:=Y.same B
   obtain⟨d,D6,ay,ac⟩:=Y6.ta
   have kc:=aq.key (fok.str u)
   have kk:Yd d (Yt (Zg (Ya fs) (Zi fs) (Q6 x g k) u))=((scan (ρ:=Uu) (Zg (Ya fs) (Zi fs) (Q6 x g k)) ((x.Xc g).take i) x.tab []).1 (Zg (Ya fs) (Zi fs) (Q6 x g k) u)).map jv:=ac (Zg (Ya fs) (Zi fs) (Q6 x g k) u)
   have W:=Qn4 (ky:=Zg (Ya fs) (Zi fs) (Q6 x g k)) (t:=x.tab) eq
   have rO:¬Own A x.S r:=λz=>by
    rcases X.own z with⟨_,e⟩|⟨_,e⟩|⟨_,e⟩|⟨_,e⟩<;>rw[U]at e<;>cases e
   refine⟨A.t,c,jv u,d,_,Xb,Xb,D6,kc,by rw[Td];omega,λv hv=>?_,λhn=>?_⟩
   ·
    rw[kk]at hv
    cases ev:(scan (ρ:=Uu) (Zg (Ya fs) (Zi fs) (Q6 x g k)) ((x.Xc g).take i) x.tab []).1 (Zg (Ya fs) (Zi fs) (Q6 x g k) u)with
    |none=>rw[ev]at hv;cases hv
    |some v0=>
     rw[ev]at hv
     cases hv
     rw[ev]at W
     refine⟨_,Xb,_,Xb,Xb,_,Xb,?_⟩
     rw[Qgh]
     by_cases M:v0=u
     ·rw[Tp M]
      refine Zq ⟨_,_,es,Xb,?_,F5.trans (Rk.of B),B _ _ N,?_⟩
      ·rw[W]
       exact Y6.mono (by omega)
      ·rw[W]
       simp only[Gp M]
       exact L2.Paired.Z8 l5 λ_ _ h=>h.Qm (Qu.of B)
     ·rw[Tg M]
      refine Y0 ?_
      refine⟨_,Xb,.inl ⟨Xb,_,Zd.of (B _ _ N)⟩,_,Xb,_,Xb,by show 3<=sizeLine;decide,λL Z=>?_⟩
      have s7:=Qg Z (.tup [jv u,jv v0,.non])
      refine⟨r,es,.ref L,Xb,Xb,s7 _ _ (B _ _ N),by rw[Td];omega,?_⟩
      have G:=B.trans s7
      have Y7:=Y.same G
      have aw:=G _ _ N
      have aa:Qu j (upd (upd H6 L (.tup [jv u,jv v0,.non])) r (.lst (es++[.ref L]))):=λb xs e=>by
       rw[Qf (Yb e N (λz=>nomatch z))];exact G _ _ e
      have aj:(upd (upd H6 L (.tup [jv u,jv v0,.non])) r (.lst (es++[.ref L]))) L=some (.tup [jv u,jv v0,.non]):=by
       rw[Qf (λz=>by rw[z,B _ _ N]at Z;cases Z),Qb]
      have Y8:Z1 P w C (upd (upd H6 L (.tup [jv u,jv v0,.non])) r (.lst (es++[.ref L]))) n A fs (tb+i) _:=Y7.keep (λb o e hb=>by
       rw[Qf λz=>?_]
       ·exact e
       ·subst z
        rcases hb with hb|hb|hb
        ·exact rO hb
        ·obtain⟨ws,f1,_⟩:=X.fo
         rw[hb,f1]at U;cases U
        ·rw[hb,o1]at U;cases U) (Zr λxs e=>by rw[aw]at e;cases e)
      refine⟨_,_,_,Xb,?_,⟨λb o e hb=>?_,λb hb=>?_⟩,Qb,?_⟩
      ·rw[W]
       exact Y8.mono (by omega)
      ·rw[Qf (Qc e U)]
       exact G _ _ (F5.keep b o e hb)
      ·by_cases e:b=r
       ·subst e;exact U
       ·rw[Qf e]at hb
        exact F5.there b (G.free hb)
      ·rw[W]
       simp only[Gj M]
       exact Ym (L2.Paired.Z8 l5 λ_ _ h=>h.Qm aa) (.cons ⟨L,.non,Xb,aj,Xb⟩ .nil)
   ·
    rw[kk]at hn
    have ev:(scan (ρ:=Uu) (Zg (Ya fs) (Zi fs) (Q6 x g k)) ((x.Xc g).take i) x.tab []).1 (Zg (Ya fs) (Zi fs) (Q6 x g k) u)=none:=by
     cases ev:(scan (ρ:=Uu) (Zg (Ya fs) (Zi fs) (Q6 x g k)) ((x.Xc g).take i) x.tab []).1 (Zg (Ya fs) (Zi fs) (Q6 x g k) u)with
     |none=>rfl
     |some v0=>rw[ev]at hn;cases hn
    rw[ev]at W
    refine⟨_,Xb,_,Xb,Xb,_,Xb,?_⟩
    rw[Qgh,Tp rfl]
    have au:Yd d (Yt (Zg (Ya fs) (Zi fs) (Q6 x g k) u))=none:=by rw[kk];exact hn
    have Y8:=Y6.Qrw (kvs':=d++[(Yt (Zg (Ya fs) (Zi fs) (Q6 x g k) u),c,jv u)]) D6 (by rw[Gk,Gv];omega) (λp hp=>by
     rcases Gd.mp hp with hp|hp
     ·exact D6.keys p hp
     ·rw[Gx]at hp
      subst hp
      exact kc) (t':=λk'=>if k'=Zg (Ya fs) (Zi fs) (Q6 x g k) u then some u else(scan (ρ:=Uu) (Zg (Ya fs) (Zi fs) (Q6 x g k)) ((x.Xc g).take i) x.tab []).1 k') (λk'=>by
     rw[Ol _ _ _ _ _ au]
     by_cases e:k'=Zg (Ya fs) (Zi fs) (Q6 x g k) u
     ·rw[Gp (by rw[e]),Gp e];rfl
     ·rw[Gj (λz=>e (Ui z)),Gj e]
      exact ac k')
    have rt:r≠A.t:=λz=>rO (by rw[z];exact .inr (.inr (.inr (.inl Xb))))
    have aa:Qu j (upd H6 A.t (Uq P w A.t (d++[(Yt (Zg (Ya fs) (Zi fs) (Q6 x g k) u),c,jv u)]))):=λb xs e=>by
     rw[Qf (Yb (B _ _ e) D6.at_ (λz=>nomatch z))];exact B _ _ e
    refine Zq ⟨_,_,es,Xb,?_,F5.trans ((Rk.of B).trans (Rk.upd (.inr (.inr (.inr (.inl Xb)))))),?_,?_⟩
    ·rw[W]
     exact Y8
    ·rw[Qf rt];exact B _ _ N
    ·rw[W]
     exact L2.Paired.Z8 l5 λ_ _ h=>h.Qm aa
 ·rintro σ j ⟨x5,x6,es,rfl,Y,F5,N,l5⟩
  rw[Gn,Te]at Y l5
  exact⟨_,Xb,q r es j Y F5 U N l5⟩
end
end K05
namespace Nt
theorem Xf{l S:List Nat}(nd:l.Nodup)(h:∀p∈l,p∈S):l.length<=S.length:=by
 induction l generalizing S with
 |nil=>simp
 |cons a r e=>
  rw[TV]at nd
  have b:=h a (by simp)
  have:=e (S:=S.erase a) nd.2 λp c=>(LU (show p≠a fromλz=>nd.1 (by rw[<-z];exact c))).mpr (h p (by simp[c]))
  rw[Lo b]at this
  have d:=LJ b
  simp only[Tb]
  omega
theorem Qb8{f:Nat->Nat}{g k:Nat}(a:g≠k):∀{S:List Nat},g∈S->k∈S->f g+f k<=(S.map f).sum
 |[],h,_=>by simp at h
 |x::r,d,e=>by
  simp only[GO,ES]
  by_cases b:x=g
  ·subst b
   have:=Uw (f:=f) ((Gu.mp e).resolve_left (Gq a))
   omega
  ·by_cases c:x=k
   ·subst c
    have:=Uw (f:=f) ((Gu.mp d).resolve_left a)
    omega
   ·have:=Qb8 (f:=f) a ((Gu.mp d).resolve_left (Gq b)) ((Gu.mp e).resolve_left (Gq c))
    omega
theorem Fst.chS{α:Type}{S:List Nat}{ls:List (Nat×Nat×α)}{Y1:Nat->Nat->Option Nat}{up:Nat->Option Nat}(F:Fst S ls Y1 up):∀{p:Nat}{l:List Nat},Ch up p l->p∈S->∀q∈l,q∈S
 |_,_,.top _,b,q,a=>by simp at a;subst a;exact b
 |_,_,.step e h,b,q,a=>by
  rcases Gu.mp a with rfl|a
  ·exact b
  ·exact F.chS h (F.inS _ _ e).2 q a
theorem Qpv{W ρ:Type}(x:Nst W ρ):cls x<=x.S.length:=List.countP_le_length
end Nt
namespace K05
open PySem L2 Sb Nt
def Qal(P:Program)(w:World)(C:Addr):Sp:=λvs H Q _=>∃(n:Addr)(A:Na)(fs:List Fm)(tb:Nat)(x:Nn)(c:Addr)(a b:Nat)(r:Option Uu)(pend:List Lk),vs=[.ref n,.ref c]/\Z1 P w C H n A fs tb x/\Qd1 fs x.S/\Ra H (.ref c) (a,b,r)/\
 Xv (Ya fs) (Zi fs) x (pend++[(a,b,r)])/\x.lead a≠x.lead b/\x.S.length<=10000/\Vk x<=10000/\x.links.length<=100000/\tb+Vk x<=1000000/\
 ∀(lo hi:Nat)(cl:List Nat)(l:Addr)(es:List V)(H':Hp),((lo=a/\hi=b)\/(lo=b/\hi=a))->Ch x.up lo cl->Z1 P w C H' n A fs (tb+Vk x) (Yg (Ya fs) (Zi fs) x a b r lo hi cl).1->Rk A x.S H H'->H l=none->H' l=some (.lst es)->
  Paired (Ra H') es (Yg (Ya fs) (Zi fs) x a b r lo hi cl).2->Q (.ref l) H'
section
variable{P:Program}{w:World}{K:Gc}{mg:Str->Option Value}{base:Heap}
theorem Qas:Qx ["self","link","one","other"] ["self","link"] (Qk U8):=⟨Xb,Xb,Xb,by decide+kernel,Xb,by decide+kernel,by decide+kernel⟩
theorem Qon{H:Hp}{a b:Addr}{o u:HO}(h:a≠b):upd (upd H a o) b u=upd (upd H b u) a o:=by
 funext c
 by_cases h1:c=b
 ·subst h1;rw[Qb,Qf (Gq h),Qb]
 ·rw[Qf h1]
  by_cases h2:c=a
  ·subst h2;rw[Qb,Qb]
  ·rw[Qf h2,Qf h2,Qf h1]
theorem Im(x y:V)(vs:List V):atI (x::y::vs) (1:Int)=some y:=Qz (xs:=x::y::vs) (j:=1) rfl
theorem Qgt(x y z:V)(vs:List V):atI (x::y::z::vs) (2:Int)=some z:=Qz (xs:=x::y::z::vs) (j:=2) rfl
theorem Qgg{f fH fG C:Addr}{fd ag af:FuncData}(F:W5 K "merge_link" "Net.merge_link" U8 f fd)(T:Vt K mg C)(B:Jv mg)(mH:Z9 K C "hang" fH)(GH:Qt P w K mg base Z7 1 fH ag ["self","low","high"] (Qku P w C))(bH:Binds K ag ["self","low","high"] [])
  (mG:Z9 K C "give_over" fG)(GG:Qt P w K mg base Z7 2 fG af ["self","gone","kept"] (Qko P w C))(bG:Binds K af ["self","gone","kept"] []):
  Qt P w K mg base Z7 3 f fd ["self","link"] (Qal P w C):=by
 refine F.ok Qas (λvs H Q E h=>?_) (λcdv A outer s H vs Q E hr h=>?_)
 ·obtain⟨n,A,fs,tb,x,c,a,b,r,pend,rfl,_⟩:=h
  rfl
 obtain⟨n,A,fs,tb,x,c,a,b,r,pend,rfl,X,fok,hc,I,ak,hS,hT,hL,ay,q⟩:=h
 have J:=Ul hr
 have al:Yc 1 _:=hr.mono (by omega)
 have am:Yc 2 _:=hr.mono (by omega)
 have nd:=Qas.nd
 refine⟨_,Qd (Ql (i:=2) nd rfl (Or.inl Xb) (Qo Q4 (pv 1) Qj (λ_ _=>rfl)))
  (Qd (Ql (i:=3) nd rfl (Or.inl Xb) (Qo Q4 (pv 1) Qj (λ_ _=>rfl)))
  (Qd (We J (Qn (pv 0) rfl) (Za (Qa (pv 2) (Qa (pv 3) Qe))) (Qp Zk rfl B.len Tj (Qa (Qn (pv 0) rfl) Qe)) rfl)
  (Qd (We J (Qn (pv 0) rfl) (Za (Qa (pv 3) (Qa (pv 2) Qe))) (Qp Zk rfl B.len Tj (Qa (Qn (pv 0) rfl) Qe)) rfl)
  (Qd (Zb (Xr Gy Tc Tk Z2 (Qn (pv 0) rfl) (Qa (pv 1) Qe)))
  (Qd (Zm (Qs Qp0 (Qp Zk rfl B.len Tj (Qa (Zs J (Qn (pv 0) rfl) (Zs J (Qn (pv 0) rfl) (pv 2) (λ_ _=>rfl)) (λ_ _=>rfl)) Qe)) (Qp Zk rfl B.len Tj (Qa (Zs J (Qn (pv 0) rfl) (Zs J (Qn (pv 0) rfl) (pv 3) (λ_ _=>rfl)) (λ_ _=>rfl)) Qe)) (Q7 _))
   (Qd (Zb (Q9 (pv 0) T.cl mH GH al bH .nil Q5 (Qa (pv 2) (Qa (pv 3) Qe))))
    (Qh (Qy (Q9 (pv 0) T.cl mG GG am bG .nil Q5 (Qa (Zs J (Qn (pv 0) rfl) (pv 2) (λ_ _=>rfl)) (Qa (Zs J (Qn (pv 0) rfl) (pv 3) (λ_ _=>rfl)) Qe)))))) Q8)
  (Qd (Zb (Q9 (pv 0) T.cl mH GH al bH .nil Q5 (Qa (pv 3) (Qa (pv 2) Qe))))
   (Qh (Qy (Q9 (pv 0) T.cl mG GG am bG .nil Q5 (Qa (Zs J (Qn (pv 0) rfl) (pv 3) (λ_ _=>rfl)) (Qa (Zs J (Qn (pv 0) rfl) (pv 2) (λ_ _=>rfl)) Qe))))))))))),?_⟩
 obtain⟨dx,o1⟩:=X.ob
 obtain⟨c',rv,ec,ah,ax⟩:=id hc
 cases ec
 obtain⟨ls,l1,l2⟩:=X.li
 obtain⟨kv,a1,a2,a3⟩:=X.at_
 have ll:ls.length=x.links.length:=Gs l2
 obtain⟨aS,bS,_⟩:=I.pnd a b r (by simp)
 have lv:(V.int (ls.length:Int))=jv x.links.length:=by rw[ll];rfl
 refine⟨_,Xb,c,_,_,_,Xb,Xb,Z4.of ah,Rm _ _,_,Xb,c,_,_,_,Xb,Xb,Z4.of ah,Im _ _ _,?_⟩
 refine⟨_,Xb,n,C,dx,_,_,Xb,o1,T.cl,T.links,Uk _,A.k,ls,Xb,.inl (Zd.of l1),?_⟩
 rw[lv]
 refine⟨_,Xb,n,C,dx,_,_,Xb,o1,T.cl,T.Qbo,O5 _,_,Xb,_,Xb,by show 2<=sizeLine;decide,λc1 D=>?_⟩
 have s1:=Qg D (.tup [jv a,jv b])
 refine⟨A.a,_,Xb,Ij.t (k:=[ki a,ki b]) (s1 _ _ a1) Qb (by rw[Td];omega),?_⟩
 have av:c1≠A.a:=λz=>by rw[z,a1]at D;cases D
 have nA:n≠A.a:=Yb o1 a1 (λz=>nomatch z)
 have kA:A.k≠A.a:=Yb l1 a1 (λz=>nomatch z)
 generalize O:Wo kv [ki a,ki b] (jv x.links.length)=kv1
 have o2:(upd (upd H c1 (.tup [jv a,jv b])) A.a (.dT kv1)) n=some (.ins C dx (Yw A)):=by rw[Qf nA];exact s1 _ _ o1
 have ar:(upd (upd H c1 (.tup [jv a,jv b])) A.a (.dT kv1)) A.k=some (.lst ls):=by rw[Qf kA];exact s1 _ _ l1
 refine⟨_,Xb,n,C,dx,_,_,Xb,o2,T.cl,T.links,Uk _,A.k,ls,Xb,.inl (Zd.of ar),?_⟩
 rw[lv]
 refine⟨_,Xb,n,C,dx,_,_,Xb,o2,T.cl,T.Qbo,O5 _,_,Xb,_,Xb,by show 2<=sizeLine;decide,λc2 u=>?_⟩
 have s2:=Qg u (.tup [jv b,jv a])
 have ae:c2≠A.a:=λz=>by rw[z,Qb]at u;cases u
 have az:kv1.length<=2*x.links.length+1:=by rw[<-O];have:=X6 kv [ki a,ki b] (jv x.links.length);omega
 refine⟨A.a,_,Xb,Ij.t (k:=[ki b,ki a]) (s2 _ _ Qb) Qb (by rw[Td];omega),?_⟩
 generalize R:Wo kv1 [ki b,ki a] (jv x.links.length)=kv2
 have au:kv2.length<=2*(x.links.length+1):=by rw[<-R];have:=X6 kv1 [ki b,ki a] (jv x.links.length);omega
 rw[Qon (a:=A.a) (b:=c2) (Gq ae),U1]
 have ai:(upd H c1 (.tup [jv a,jv b])) c2=none:=by rw[Qf ae]at u;exact u
 have v:Q3 H (upd (upd H c1 (.tup [jv a,jv b])) c2 (.tup [jv b,jv a])):=s1.trans (Qg ai _)
 generalize aw:upd (upd H c1 (.tup [jv a,jv b])) c2 (.tup [jv b,jv a])=Ha at v
 have o3:(upd Ha A.a (.dT kv2)) n=some (.ins C dx (Yw A)):=by rw[Qf nA];exact v _ _ o1
 have l3:(upd Ha A.a (.dT kv2)) A.k=some (.lst ls):=by rw[Qf kA];exact v _ _ l1
 refine⟨_,Xb,n,C,dx,_,_,Xb,o3,T.cl,T.links,Uk _,.inl ⟨Xb,_,Zd.of l3⟩,_,Xb,A.k,ls,_,Xb,Xb,l3,by rw[Td];omega,?_⟩
 have Xa:=X.same v
 have L:=Xa.Qtk (kv2:=kv2) (ls':=ls++[.ref c]) (lks:=x.links++[(a,b,r)]) (lat':=O8 x.Y1 a b x.links.length) (by rw[Gk,Gv];exact au) (λi j=>by
  rw[<-R,Qdi,<-O,Qdi,a3]
  unfold O8
  by_cases h1:(i=a/\j=b)\/(i=b/\j=a)
  ·rw[Gp h1]
   rcases h1 with⟨rfl,rfl⟩|⟨rfl,rfl⟩
   ·rw[Gp rfl]
    split<;>rfl
   ·rw[Gp rfl];rfl
  ·rw[Gj h1,Gj (λz=>h1 (by simp only[Tx,Fp]at z;exact .inr ⟨U6 z.1,U6 z.2⟩)),Gj (λz=>h1 (by simp only[Tx,Fp]at z;exact .inl ⟨U6 z.1,U6 z.2⟩))])
  (Ym (L2.Paired.Z8 l2 λ_ _ h=>h.Qm (Qu.of v)) (.cons (hc.Qm (Qu.of v)) .nil))
 have Fb:Rk A x.S H (upd (upd Ha A.a (.dT kv2)) A.k (.lst (ls++[.ref c]))):=((Rk.of v).trans (Rk.upd (.inr (.inr (.inr (.inr (.inr (.inl Xb)))))))).trans (Rk.upd (.inr (.inr (.inr (.inr (.inl Xb))))))
 generalize upd (upd Ha A.a (.dT kv2)) A.k (.lst (ls++[.ref c]))=Hb at L Fb
 obtain⟨y,ob⟩:=L.ob
 have an:=I.ld a aS
 have ao:=I.ld b bS
 have go:∀lo hi,((lo=a/\hi=b)\/(lo=b/\hi=a))->Qku P w C [.ref n,jv lo,jv hi] Hb (λ_ H1=>∃d,H1 n=some (.ins C d (Yw A))/\H1 A.l=some (.dK (dS x.S λp=>jv (x.lead p)))/\Qko P w C [.ref n,jv (x.lead lo),jv (x.lead hi)] H1 Q E) E:=by
  intro lo hi M
  have N:lo∈x.S:=by rcases M with⟨h,_⟩|⟨h,_⟩<;>rw[h]<;>assumption
  have aj:hi∈x.S:=by rcases M with⟨_,h⟩|⟨_,h⟩<;>rw[h]<;>assumption
  have U:x.lead lo≠x.lead hi:=by
   rcases M with⟨h1,h2⟩|⟨h1,h2⟩<;>rw[h1,h2]
   ·exact ak
   ·exact Gq ak
  have gS:=I.ld lo N
  have gg:=I.idem lo N
  have kS:=I.ld hi aj
  have kk:=I.idem hi aj
  obtain⟨cl,Z⟩:=I.fst.chain lo N
  refine⟨n,A,fs,tb,_,lo,hi,cl,Xb,L,Z,I.fst.chS Z N,by show x.S.length<=_;omega,λH1 X1 k1 t1=>?_⟩
  obtain⟨d,g⟩:=X1.ob
  have F1:Rk A x.S Hb H1:=⟨λb o e hb=>k1 b o e (λz=>hb (z▸.inr (.inr (.inr (.inr (.inr (.inr (.inl Xb)))))))),t1⟩
  have aA:=Xf (I.Qj7 _ gS gg) λp hp=>((I.Qay _ gS gg p).mp hp).1
  have aB:=Xf (I.Qj7 _ kS kk) λp hp=>((I.Qay _ kS kk p).mp hp).1
  have ad:=Qb8 (f:=λp=>if x.lead p=p then(x.Xc p).length else 0) U gS kS
  rw[Gp gg,Gp kk]at ad
  have ad:(x.Xc (x.lead lo)).length+(x.Xc (x.lead hi)).length<=Vk x:=ad
  refine⟨d,g,X1.le,n,A,fs,tb,_,x.lead lo,x.lead hi,Xb,X1,fok,gS,kS,U,λp hp=>((I.Qay _ gS gg p).mp hp).1,λp hp=>I.Qh2 _ gS p hp,by show x.S.length<=_;omega,?_,?_,?_,λl es H' Y FY lY rY pY=>?_⟩
  ·show(x.mem (x.lead hi)).length+(x.mem (x.lead lo)).length<=_;omega
  ·show(x.Xc (x.lead hi)).length+(x.Xc (x.lead lo)).length<=_;omega
  ·show tb+(x.Xc (x.lead lo)).length<=_;omega
  ·refine q lo hi cl l es H' M Z (Z1.mono ?_ Y) ((Fb.trans F1).trans FY) (Fb.there l (t1 l lY)) rY pY
   show tb+(x.Xc (x.lead lo)).length<=_;omega
 have ap:=go a b (.inl ⟨Xb,Xb⟩)
 have aq:=go b a (.inr ⟨Xb,Xb⟩)
 refine⟨_,Xb,n,C,y,_,_,Xb,ob,T.cl,T.members,Wt _,_,Xb,n,C,y,_,_,Xb,ob,T.cl,T.Wm,Yk _,_,Xb,A.l,_,Xb,Xd L.le aS,A.m,_,Xb,Xd L.me an,_,_,Xb,.inl (Zd.of (L.ml _ an)),_,Xb,n,C,y,_,_,Xb,ob,T.cl,T.members,Wt _,_,Xb,n,C,y,_,_,Xb,ob,T.cl,T.Wm,Yk _,_,Xb,A.l,_,Xb,Xd L.le bS,A.m,_,Xb,Xd L.me ao,_,_,Xb,.inl (Zd.of (L.ml _ ao)),_,_,Xb,Xb,_,Xb,?_⟩
 refine Ur (λ_=>?_) (λ_=>?_)
 ·obtain⟨n',A',fs',ac,x',ab,aa,W,e1,e2,e3,e4,e5,e6⟩:=ap
  refine⟨_,Xb,n,y,_,Xb,ob,Qla _,_,Xb,_,Xb,n',A',fs',ac,x',ab,aa,W,e1,e2,e3,e4,e5,λH1 y1 y2 y3=>?_⟩
  obtain⟨d,g,G,g1⟩:=e6 H1 y1 y2 y3
  exact⟨_,Xb,n,d,_,Xb,g,Qan _,_,Xb,n,C,d,_,_,Xb,g,T.cl,T.Wm,Yk _,_,Xb,A.l,_,Xb,Xd G aS,_,Xb,n,C,d,_,_,Xb,g,T.cl,T.Wm,Yk _,_,Xb,A.l,_,Xb,Xd G bS,g1⟩
 ·obtain⟨n',A',fs',ac,x',ab,aa,W,e1,e2,e3,e4,e5,e6⟩:=aq
  refine⟨_,Xb,n,y,_,Xb,ob,Qla _,_,Xb,_,Xb,n',A',fs',ac,x',ab,aa,W,e1,e2,e3,e4,e5,λH1 y1 y2 y3=>?_⟩
  obtain⟨d,g,G,g1⟩:=e6 H1 y1 y2 y3
  exact⟨_,Xb,n,d,_,Xb,g,Qan _,_,Xb,n,C,d,_,_,Xb,g,T.cl,T.Wm,Yk _,_,Xb,A.l,_,Xb,Xd G bS,_,Xb,n,C,d,_,_,Xb,g,T.cl,T.Wm,Yk _,_,Xb,A.l,_,Xb,Xd G aS,g1⟩
end
open PySem L2 Sb Nt
structure Mgd(fs:List Fm)(x x':Nn)(a b:Nat)(r:Option Uu)(pend:List Lk):Prop where
 inv:Xv (Ya fs) (Zi fs) x' pend
 S:x'.S=x.S
 Vk:Vk x'=Vk x
 eq:Cj x.S x'.lead pend a b
 mono:∀p∈x.S,∀q∈x.S,x.lead p=x.lead q->x'.lead p=x'.lead q
 snd:∀E,Ec (Ya fs) (Zi fs) x.S E->Snd E x [(a,b,r)]->Snd E x' pend
 rsn:∀y∈x'.links,y∈x.links\/y=(a,b,r)\/y.2.2=none
 pnd:∀y∈pend,y=(a,b,r)\/y.2.2=none
 less:cls x'+x'.links.length<=cls x+x.links.length
 more:x.links.length<=x'.links.length
def Qfi(P:Program)(w:World)(C:Addr):Sp:=λvs H Q _=>∃(n:Addr)(A:Na)(fs:List Fm)(tb:Nat)(x:Nn)(a b:Nat)(rv:V)(r:Option Uu),vs=[.ref n,jv a,jv b,rv]/\Z1 P w C H n A fs tb x/\Qd1 fs x.S/\Qn7 H rv r/\r≠none/\a∈x.S/\b∈x.S/\
 Xv (Ya fs) (Zi fs) x []/\x.S.length<=10000/\Vk x<=10000/\cls x+x.links.length<=10000/\tb+cls x*Vk x<=900000/\
 ∀(c:Nn)(H':Hp),Z1 P w C H' n A fs (tb+(c.links.length - x.links.length)*Vk x) c->Mgd fs x c a b r []->Rk A x.S H H'->Q .non H'
theorem Mgd.start{fs:List Fm}{x:Nn}{a b:Nat}{r:Option Uu}(I:Xv (Ya fs) (Zi fs) x [])(c:r≠none)(aS:a∈x.S)(bS:b∈x.S):Mgd fs x x a b r [(a,b,r)]:=
 ⟨I.Ql8 (λ_ _ _ h=>by simp at h) λd f g h=>by
  simp at h
  obtain⟨rfl,rfl,rfl⟩:=h
  exact⟨aS,bS,λe=>absurd e c⟩,Xb,Xb,.wait (r:=r) (by simp),λ_ _ _ _ e=>e,λE _ h=>h,λy h=>.inl h,λy h=>by simp at h;exact .inl h,Gr _,Gr _⟩
theorem Mgd.drop{fs:List Fm}{x c:Nn}{a b d f:Nat}{r g:Option Uu}{pend:List Lk}(M:Mgd fs x c a b r (pend++[(d,f,g)]))(e:c.lead d=c.lead f):Mgd fs x c a b r pend:=by
 obtain⟨aS,bS,_⟩:=M.inv.pnd d f g (by simp)
 rw[M.S]at aS bS
 refine⟨M.inv.drop e,M.S,M.Vk,M.eq.map (λp i q j e=>.lead i j e) (λp q l m=>?_),M.mono,λE X h=>⟨(M.snd E X h).1,λu v s m=>(M.snd E X h).2 u v s (Gi _ m)⟩,M.rsn,λy k=>M.pnd y (Gi _ k),M.less,M.more⟩
 rcases Gd.mp m with m|m
 ·exact .wait m
 ·simp at m
  obtain⟨rfl,rfl,rfl⟩:=m
  exact .lead aS bS e
theorem Mgd.join{fs:List Fm}{x c:Nn}{a b d f:Nat}{r j:Option Uu}{pend:List Lk}(M:Mgd fs x c a b r (pend++[(d,f,j)]))(k:c.lead d≠c.lead f){lo hi:Nat}{cl:List Nat}(i:(lo=d/\hi=f)\/(lo=f/\hi=d))(t:Ch c.up lo cl):
  Mgd fs x (Yg (Ya fs) (Zi fs) c d f j lo hi cl).1 a b r (pend++(Yg (Ya fs) (Zi fs) c d f j lo hi cl).2):=by
 obtain⟨aS,bS,_⟩:=M.inv.pnd d f j (by simp)
 obtain⟨J,L⟩:=M.inv.join k i t
 obtain⟨l1,l2,A,B⟩:=M.inv.less k i t
 have w:∀p∈c.S,∀q∈c.S,c.lead p=c.lead q->(Yg (Ya fs) (Zi fs) c d f j lo hi cl).1.lead p=(Yg (Ya fs) (Zi fs) c d f j lo hi cl).1.lead q:=λp l q n e=>by rw[L p l,L q n,e]
 have o:(Yg (Ya fs) (Zi fs) c d f j lo hi cl).1.lead d=(Yg (Ya fs) (Zi fs) c d f j lo hi cl).1.lead f:=by
  rw[L d aS,L f bS]
  rcases i with⟨rfl,rfl⟩|⟨rfl,rfl⟩
  ·rw[Gp rfl];split<;>rfl
  ·rw[Gp rfl];split<;>rfl
 refine⟨J,M.S,l2.trans M.Vk,M.eq.map (λp l q n e=>.lead l n (w p (M.S▸l) q (M.S▸n) e)) (λp q z m=>?_),λp l q n e=>w p (M.S▸l) q (M.S▸n) (M.mono p l q n e),λE X h=>Snd.join (M.snd E X h) (by rw[M.S];exact X) M.inv k i t,λy g=>?_,λy g=>?_,?_,?_⟩
 ·rcases Gd.mp m with m|m
  ·exact .wait (Gi _ m)
  ·simp at m
   obtain⟨rfl,rfl,rfl⟩:=m
   exact .lead (M.S▸aS) (M.S▸bS) o
 ·have g:y∈c.links++[(d,f,j)]:=g
  rcases Gd.mp g with g|g
  ·exact M.rsn y g
  ·rw[Gx]at g
   subst g
   exact .inr (M.pnd _ (by simp))
 ·rcases Gd.mp g with g|g
  ·exact M.pnd y (Gi _ g)
  ·obtain⟨u,v,s⟩:=y
   exact .inr (Qjs g)
 ·have:=M.less
  omega
 ·have:=M.more
  omega
section
variable{P:Program}{w:World}{K:Gc}{mg:Str->Option Value}{base:Heap}
theorem Qmh:Qx ["self","one","other","reason","waiting","link"] ["self","one","other","reason"] (Qk Qfe):=⟨Xb,Xb,Xb,by decide+kernel,Xb,by decide+kernel,by decide+kernel⟩
theorem Jf{α β:Type}{F:α->β->Prop}:∀{xs:List α}{ys:List β},Paired F xs ys->xs≠[]->∃x y,xs[xs.length - 1]?=some x/\ys=ys.dropLast++[y]/\F x y/\Paired F xs.dropLast ys.dropLast
 |_,_,.nil,h=>absurd rfl h
 |_,_,.cons h .nil,_=>⟨_,_,Xb,Xb,h,.nil⟩
 |_,_,.cons h (.cons k t),_=>by
  obtain⟨x,y,a,b,c,d⟩:=Jf (.cons k t) (by simp)
  refine⟨x,y,?_,?_,c,?_⟩
  ·simpa using a
  ·simp only[LA,TM]
   rw[<-b]
  ·simp only[LA]
   exact .cons h d
theorem Qqb{f fE fM C:Addr}{fd ab ac:FuncData}(F:W5 K "merge" "Net.merge" Qfe f fd)(T:Vt K mg C)(mE:Z9 K C "equal" fE)(GE:Qt P w K mg base Z7 1 fE ab ["self","one","other"] (Qbm P w C))(bE:Binds K ab ["self","one","other"] [])
  (mM:Z9 K C "merge_link" fM)(GM:Qt P w K mg base Z7 3 fM ac ["self","link"] (Qal P w C))(bM:Binds K ac ["self","link"] []):
  Qt P w K mg base Z7 4 f fd ["self","one","other","reason"] (Qfi P w C):=by
 refine F.ok Qmh (λvs H Q E h=>?_) (λcdv A outer s H vs Q E hr h=>?_)
 ·obtain⟨n,A,fs,tb,x,a,b,rv,r,rfl,_⟩:=h
  rfl
 obtain⟨n,A,fs,tb,x,a,b,rv,r,rfl,X,fok,ap,ao,aS,bS,I,hS,hT,aw,az,q⟩:=h
 have am:Yc 1 _:=hr.mono (by omega)
 have an:Yc 3 _:=hr.mono (by omega)
 have nd:=Qmh.nd
 refine⟨_,Qd (Ql (i:=4) nd rfl (Or.inl Xb) (Zt (Qa (Za (Qa (pv 1) (Qa (pv 2) (Qa (pv 3) Qe)))) Qe)))
  (Qh (Wx GX (Qot (pv 4) (λ_=>rfl))
   (Qd (Ql (i:=5) nd rfl (Or.inl Xb) (Qcf Gy D9 Ea Qds (pv 4)))
   (Qh (Zm (Re (Xs (Q9 (pv 0) T.cl mE GE am bE .nil Q5 (Qa (Qo Q4 (pv 5) Qj (λ_ _=>rfl)) (Qa (Qo Q4 (pv 5) Qj (λ_ _=>rfl)) Qe)))))
    (Qh (Zb (Xr Gy ET EU Oq (pv 4) (Qa (Q9 (pv 0) T.cl mM GM an bM .nil Q5 (Qa (pv 5) Qe)) Qe)))) Q8))))),?_⟩
 obtain⟨dx,o1⟩:=X.ob
 refine⟨_,Xb,_,Xb,_,Xb,by show 3<=sizeLine;decide,λc hc=>?_⟩
 have s1:=Qg hc (.tup [jv a,jv b,rv])
 refine⟨by show 1<=sizeLine;decide,λj af=>?_⟩
 have s2:=Qg af (.lst [.ref c])
 have N:=s1.trans s2
 have G:H j=none:=s1.free af
 have wO:¬Own A x.S j:=X.Qxg G
 have wf:j≠A.f:=λz=>by obtain⟨g,f1,_⟩:=X.fo;rw[z,f1]at G;cases G
 have wn:j≠n:=λz=>by rw[z,o1]at G;cases G
 dsimp only[V8]
 refine Qda (λm σ H2=>∃(x5:Option V)(g:List V)(d:Nn)(pend:List Lk),m=cls d*(Vk x+1)+pend.length/\σ=[some (.ref n),some (jv a),some (jv b),some rv,some (.ref j),x5]/\H2 j=some (.lst g)/\Paired (Ra H2) g pend/\
   Z1 P w C H2 n A fs (tb+(d.links.length - x.links.length)*Vk x) d/\Mgd fs x d a b r pend/\Rk A x.S H H2/\pend.length<=1+(cls x - cls d)*Vk x)
  ⟨_,none,[.ref c],x,[(a,b,r)],Xb,Xb,Qb,.cons ⟨c,rv,Xb,s2 _ _ Qb,ap.Qm (Qu.of N)⟩ .nil,(X.same N).mono (by omega),Mgd.start I ao aS bS,Rk.of N,by simp⟩ ?_ (λσ H Q Q' hQ=>λh=>by
   obtain⟨v,e1,k,e2,e3⟩:=h
   exact⟨v,e1,k,e2,hQ _ _ e3⟩)
 rintro m σ H2 ⟨x5,g,d,pend,rfl,rfl,w2,p2,Y,M,F2,pl⟩
 refine⟨_,Xb,_,.inl ⟨g,Zd.of w2,Xb⟩,?_⟩
 have au:=Gs p2
 have av:=Qpv x
 cases hw:g with
 |nil=>
  refine Zq ?_
  subst hw
  cases p2
  exact q d H2 Y M F2
 |cons z zs=>
  refine Y0 ?_
  have al:g≠[]:=by rw[hw];simp
  obtain⟨v,⟨y,B,L⟩,e1,e2,e3,e4⟩:=Jf p2 al
  have u:pend.length=pend.dropLast.length+1:=by rw[e2];simp
  obtain⟨c5,aq,rfl,ad,aj⟩:=e3
  refine⟨_,Xb,.inl ⟨Xb,_,Zd.of w2⟩,j,g,_,Xb,Xb,w2,e1,?_⟩
  have D:Qu H2 (upd H2 j (.lst g.dropLast)):=Zr λxs e=>by rw[w2]at e;cases e
  have R:=M.S
  have U:Z1 P w C (upd H2 j (.lst g.dropLast)) n A fs (tb+(d.links.length - x.links.length)*Vk x) d:=Y.keep (λp o e hb=>by
   rw[Qf λz=>?_]
   ·exact e
   ·subst z
    rcases hb with hb|hb|hb
    ·rw[R]at hb;exact wO hb
    ·exact wf hb
    ·exact wn hb) D
  have F3:Rk A x.S H (upd H2 j (.lst g.dropLast)):=⟨λp o e hb=>by rw[Qf (Qc e G)];exact F2.keep p o e hb,λp hb=>by
   by_cases e:p=j
   ·subst e;exact G
   ·rw[Qf e]at hb;exact F2.there p hb⟩
  have w3:(upd H2 j (.lst g.dropLast)) j=some (.lst g.dropLast):=Qb
  have p3:Paired (Ra (upd H2 j (.lst g.dropLast))) g.dropLast pend.dropLast:=L2.Paired.Z8 e4 λ_ _ h=>h.Qm D
  have l3:Ra (upd H2 j (.lst g.dropLast)) (.ref c5) (y,B,L):=Ra.Qm D ⟨c5,aq,Xb,ad,aj⟩
  have J:=D _ _ ad
  generalize upd H2 j (.lst g.dropLast)=H3 at U F3 w3 p3 l3 J
  rw[e2]at M
  generalize pend.dropLast=pd at M p3 u
  obtain⟨ah,ai,_⟩:=M.inv.pnd y B L (by simp)
  obtain⟨aa,o3⟩:=U.ob
  refine⟨_,Xb,n,aa,_,Xb,o3,Qco _,_,Xb,c5,_,_,_,Xb,Xb,Z4.of J,Rm _ _,_,Xb,c5,_,_,_,Xb,Xb,Z4.of J,Im _ _ _,n,A,fs,_,d,y,B,Xb,U,ah,ai,_,Xb,?_⟩
  by_cases t:d.lead y=d.lead B
  ·rw[Tp t]
   refine Zq ⟨_,?_,_,g.dropLast,d,pd,Xb,Xb,w3,p3,U,M.drop t,F3,by omega⟩
   omega
  ·rw[Tg t]
   refine Y0 ?_
   have ak:d.links.length - x.links.length<=cls x:=by have:=M.less;omega
   have ar:(d.links.length - x.links.length)*Vk x<=cls x*Vk x:=Ek _ ak
   have W:=M.Vk
   have aB:g.dropLast.length=pd.length:=Gs p3
   have ax:pd.length+Vk x<=1000000:=by
    have:(cls x - cls d)*Vk x<=cls x*Vk x:=Ek _ (Nat.sub_le _ _)
    omega
   refine⟨_,Xb,.inl ⟨Xb,_,Zd.of w3⟩,_,Xb,n,aa,_,Xb,o3,Qfp _,_,Xb,n,A,fs,_,d,c5,y,B,L,pd,Xb,U,by rw[R];exact fok,l3,M.inv,t,by rw[R];exact hS,by rw[W];exact hT,by have:=M.less;omega,by rw[W];omega,λlo hi cl l es H4 ae hc Y4 Z hl r4 p4=>?_⟩
   rw[R]at Z
   have w4:H4 j=some (.lst g.dropLast):=Z.keep _ _ w3 wO
   have ay:l≠j:=λz=>by rw[z,w3]at hl;cases hl
   obtain⟨j1,j2,j3,j4⟩:=M.inv.less t ae hc
   have aA:es.length<=Vk x:=by rw[Gs p4,<-W];exact j3
   refine⟨j,l,g.dropLast,es,Xb,Xb,w4,r4,small (by omega),?_⟩
   have ag:Qu H3 H4:=λp xs e=>Z.keep p _ e (by rw[<-R];exact U.Qju e)
   have O:Qu H4 (upd H4 j (.lst (g.dropLast++es))):=Zr λxs e=>by rw[w4]at e;cases e
   have Y5:Z1 P w C (upd H4 j (.lst (g.dropLast++es))) n A fs _ _:=Y4.keep (λp o e hb=>by
    rw[Qf λz=>?_]
    ·exact e
    ·subst z
     rcases hb with hb|hb|hb
     ·have hb:Own A d.S p:=hb
      rw[R]at hb;exact wO hb
     ·exact wf hb
     ·exact wn hb) O
   have M5:=M.join t ae hc
   refine⟨cls (Yg (Ya fs) (Zi fs) d y B L lo hi cl).1*(Vk x+1)+(pd++(Yg (Ya fs) (Zi fs) d y B L lo hi cl).2).length,?_,_,_,_,_,Xb,Xb,Qb,Ym (L2.Paired.Z8 p3 λ_ _ h=>(h.Qm ag).Qm O) (L2.Paired.Z8 p4 λ_ _ h=>h.Qm O),Y5.mono ?_,M5,⟨λp o e hb=>?_,λp hb=>?_⟩,?_⟩
   ·rw[Gk,u]
    have hj:cls (Yg (Ya fs) (Zi fs) d y B L lo hi cl).1+1<=cls d:=j1
    have:=Ek (Vk x+1) hj
    rw[Ew,Fo]at this
    rw[W]at j3
    omega
   ·rw[W,j4]
    have:=M.more
    rw[show d.links.length+1 - x.links.length=(d.links.length - x.links.length)+1 by omega,Ew,Fo]
    omega
   ·rw[Qf (Qc e G)]
    exact Z.keep p o (F3.keep p o e hb) hb
   ·by_cases e:p=j
    ·subst e;exact G
    ·rw[Qf e]at hb;exact F3.there p (Z.there p hb)
   ·rw[Gk]
    have h1:cls x - cls d+1<=cls x - cls (Yg (Ya fs) (Zi fs) d y B L lo hi cl).1:=by
     have:=M.less
     have:=M.more
     omega
    have:=Ek (Vk x) h1
    rw[Ew,Fo]at this
    rw[W]at j3
    omega
end
open PySem L2 Sb Nt
def Qew(P:Program)(w:World)(C:Addr):Sp:=λvs H Q _=>∃(n dx f:Addr)(a:List V)(fs:List Fm),vs=[.ref n,.ref f]/\H n=some (.ins C dx [])/\H f=some (.lst a)/\Paired (I0 H) a fs/\
 ∀(A:Na)(H':Hp),A.f=f->Z1 P w C H' n A fs 0 (fresh (Ya fs) (Zi fs) [])->(∀b o,H b=some o->b≠n->H' b=some o)->(∀b,Own A [] b->H b=none)->Q .non H'
section
variable{P:Program}{w:World}{K:Gc}{mg:Str->Option Value}{base:Heap}
theorem Qm0:Qx ["self","forms"] ["self","forms"] (Qk R6):=⟨Xb,Xb,Xb,by decide+kernel,Xb,by decide+kernel,by decide+kernel⟩
theorem Qjx{f0 C:Addr}{fd:FuncData}(F:W5 K "__init__" "Net.__init__" R6 f0 fd)(T:Vt K mg C):Qt P w K mg base Z7 1 f0 fd ["self","forms"] (Qew P w C):=by
 refine F.ok Qm0 (λvs H Q E h=>?_) (λcdv A outer s H vs Q E hr h=>?_)
 ·obtain⟨n,dx,f,ws,fs,rfl,_⟩:=h
  rfl
 obtain⟨n,dx,f,ws,fs,rfl,hn,hf,ai,q⟩:=h
 refine⟨_,Qd (Y9 (pv 0) (pv 1) rfl) (Qd (Y9 (pv 0) Up Xb) (Qd (Y9 (pv 0) Up Xb) (Qd (Y9 (pv 0) Up Xb) (Qd (Y9 (tv:=Qkt P w) (pv 0) R5 Xb) (Qd (Y9 (pv 0) (Zt Qe) rfl) (Qd (Y9 (pv 0) Qce Xb) (Qh (Y9 (pv 0) Up Xb)))))))),?_⟩
 have st:∀{H0:Hp}{b a:Addr}{o oa:HO}{fs':List (Str×V)},H0 b=some o->b≠n->H0 a=none->(upd (upd H0 a oa) n (.ins C dx fs')) b=some o:=λe hb ha=>by rw[Qf hb,Qf (Qc e ha)];exact e
 have sn:∀{H0:Hp}{a:Addr}{oa:HO}{fs':List (Str×V)}{o:HO},H0 n=some o->H0 a=none->(upd (upd H0 a oa) n (.ins C dx fs')) a=some oa:=λe ha=>by rw[Qf (Gq (Qc e ha)),Qb]
 refine⟨_,Xb,_,Xb,n,C,dx,[],Xb,hn,T.cl,T.Qbu,by show 0<1000;decide,?_⟩
 have fn:f≠n:=Yb hf hn (λz=>nomatch z)
 have g0:∀b o,H b=some o->b≠n->(upd H n (.ins C dx (Yn "forms" (.ref f) []))) b=some o:=λb o e hb=>by rw[Qf hb];exact e
 have n0:(upd H n (.ins C dx (Yn "forms" (.ref f) []))) n=some (.ins C dx (Yn "forms" (.ref f) [])):=Qb
 have t0:∀b,(upd H n (.ins C dx (Yn "forms" (.ref f) []))) b=none->H b=none:=λb hb=>by
  by_cases e:b=n
  ·subst e;rw[Qb]at hb;cases hb
  ·rw[Qf e]at hb;exact hb
 generalize upd H n (.ins C dx (Yn "forms" (.ref f) []))=H0 at g0 n0 t0
 have tt:∀{H0:Hp}{a:Addr}{oa:HO}{fs':List (Str×V)},(∀b,H0 b=none->H b=none)->∀b,(upd (upd H0 a oa) n (.ins C dx fs')) b=none->H b=none:=λh b hb=>by
  refine h b ?_
  by_cases e:b=n
  ·subst e;rw[Qb]at hb;cases hb
  ·rw[Qf e]at hb
   rename_i H0 a oa fs'
   by_cases e2:b=a
   ·subst e2;rw[Qb]at hb;cases hb
   ·rw[Qf e2]at hb;exact hb
 intro c J
 refine⟨_,Xb,n,C,dx,_,Xb,(by rw[Qf (Qc n0 J)];exact n0),T.cl,T.Wm,by show 1<1000;decide,?_⟩
 have l1:=@sn H0 c (.dK []) (Yn "leads" (.ref c) (Yn "forms" (.ref f) [])) _ n0 J
 have n1:=@Qb (upd H0 c (.dK [])) n (.ins C dx (Yn "leads" (.ref c) (Yn "forms" (.ref f) [])))
 have g1:∀b o,H b=some o->b≠n->_:=λb o e hb=>@st H0 b c o (.dK []) (Yn "leads" (.ref c) (Yn "forms" (.ref f) [])) (g0 b o e hb) hb J
 have t1:=@tt H0 c (.dK []) (Yn "leads" (.ref c) (Yn "forms" (.ref f) [])) t0
 have ln:c≠n:=Gq (Qc n0 J)
 have ae:=t0 _ J
 generalize upd (upd H0 c (.dK [])) n (.ins C dx (Yn "leads" (.ref c) (Yn "forms" (.ref f) [])))=H1 at l1 n1 g1 t1⊢
 intro g B
 refine⟨_,Xb,n,C,dx,_,Xb,(by rw[Qf (Qc n1 B)];exact n1),T.cl,T.members,by show 2<1000;decide,?_⟩
 generalize D:Yn "members" (.ref g) (Yn "leads" (.ref c) (Yn "forms" (.ref f) []))=X
 have m2:=@sn H1 g (.dK []) X _ n1 B
 have n2:=@Qb (upd H1 g (.dK [])) n (.ins C dx X)
 have g2:∀b o,H b=some o->b≠n->_:=λb o e hb=>@st H1 b g o (.dK []) X (g1 b o e hb) hb B
 have t2:=@tt H1 g (.dK []) X t1
 have mn:g≠n:=Gq (Qc n1 B)
 have af:=t1 _ B
 have l2:=@st H1 c g _ (.dK []) X l1 ln B
 have lm:c≠g:=Qc l1 B
 generalize upd (upd H1 g (.dK [])) n (.ins C dx X)=H2 at m2 n2 g2 t2 l2⊢
 intro l r
 refine⟨_,Xb,n,C,dx,_,Xb,(by rw[Qf (Qc n2 r)];exact n2),T.cl,T.Qec,by rw[<-D];show 3<1000;decide,?_⟩
 generalize I:Yn "users" (.ref l) X=U
 have u3:=@sn H2 l (.dK []) U _ n2 r
 have n3:=@Qb (upd H2 l (.dK [])) n (.ins C dx U)
 have g3:∀b o,H b=some o->b≠n->_:=λb o e hb=>@st H2 b l o (.dK []) U (g2 b o e hb) hb r
 have t3:=@tt H2 l (.dK []) U t2
 have un:l≠n:=Gq (Qc n2 r)
 have ag:=t2 _ r
 have l3:=@st H2 c l _ (.dK []) U l2 ln r
 have m3:=@st H2 g l _ (.dK []) U m2 mn r
 have lu:c≠l:=Qc l2 r
 have mu:g≠l:=Qc m2 r
 generalize upd (upd H2 l (.dK [])) n (.ins C dx U)=W at u3 n3 g3 t3 l3 m3⊢
 intro at_ v
 refine⟨_,Xb,n,C,dx,_,Xb,(by rw[Qf (Qc n3 v)];exact n3),T.cl,T.table,by rw[<-I,<-D];show 4<1000;decide,Ta _,?_⟩
 generalize S:Yn "table" (.ref at_) U=N
 have d4:=@sn W at_ (Uq P w at_ []) N _ n3 v
 have n4:=@Qb (upd W at_ (Uq P w at_ [])) n (.ins C dx N)
 have g4:∀b o,H b=some o->b≠n->_:=λb o e hb=>@st W b at_ o (Uq P w at_ []) N (g3 b o e hb) hb v
 have t4:=@tt W at_ (Uq P w at_ []) N t3
 have dn:at_≠n:=Gq (Qc n3 v)
 have ab:=t3 _ v
 have l4:=@st W c at_ _ (Uq P w at_ []) N l3 ln v
 have m4:=@st W g at_ _ (Uq P w at_ []) N m3 mn v
 have u4:=@st W l at_ _ (Uq P w at_ []) N u3 un v
 generalize upd (upd W at_ (Uq P w at_ [])) n (.ins C dx N)=O at d4 n4 g4 t4 l4 m4 u4⊢
 intro t m
 refine⟨_,Xb,n,C,dx,_,Xb,(by rw[Qf (Qc n4 m)];exact n4),T.cl,T.links,by rw[<-S,<-I,<-D];show 5<1000;decide,?_⟩
 generalize Z:Yn "links" (.ref t) N=L
 have k5:=@sn O t (.lst []) L _ n4 m
 have n5:=@Qb (upd O t (.lst [])) n (.ins C dx L)
 have g5:∀b o,H b=some o->b≠n->_:=λb o e hb=>@st O b t o (.lst []) L (g4 b o e hb) hb m
 have t5:=@tt O t (.lst []) L t4
 have kn:t≠n:=Gq (Qc n4 m)
 have Y:=t4 _ m
 have l5:=@st O c t _ (.lst []) L l4 ln m
 have m5:=@st O g t _ (.lst []) L m4 mn m
 have u5:=@st O l t _ (.lst []) L u4 un m
 have d5:=@st O at_ t _ (.lst []) L d4 dn m
 generalize upd (upd O t (.lst [])) n (.ins C dx L)=M at k5 n5 g5 t5 l5 m5 u5 d5⊢
 intro u d
 refine⟨_,Xb,n,C,dx,_,Xb,(by rw[Qf (Qc n5 d)];exact n5),T.cl,T.Qbo,by rw[<-Z,<-S,<-I,<-D];show 6<1000;decide,?_⟩
 generalize ac:Yn "link_at" (.ref u) L=G
 have a6:=@sn M u (.dT []) G _ n5 d
 have n6:=@Qb (upd M u (.dT [])) n (.ins C dx G)
 have g6:∀b o,H b=some o->b≠n->_:=λb o e hb=>@st M b u o (.dT []) G (g5 b o e hb) hb d
 have t6:=@tt M u (.dT []) G t5
 have an:u≠n:=Gq (Qc n5 d)
 have ad:=t5 _ d
 have l6:=@st M c u _ (.dT []) G l5 ln d
 have m6:=@st M g u _ (.dT []) G m5 mn d
 have u6:=@st M l u _ (.dT []) G u5 un d
 have d6:=@st M at_ u _ (.dT []) G d5 dn d
 have k6:=@st M t u _ (.dT []) G k5 kn d
 generalize upd (upd M u (.dT [])) n (.ins C dx G)=H6 at a6 n6 g6 t6 l6 m6 u6 d6 k6⊢
 intro R x
 refine⟨_,Xb,n,C,dx,_,Xb,(by rw[Qf (Qc n6 x)];exact n6),T.cl,T.above,by rw[<-ac,<-Z,<-S,<-I,<-D];show 7<1000;decide,?_⟩
 have ah:Yn "above" (.ref R) G=Yw ⟨f,c,g,l,at_,t,u,R,λ_=>0,λ_=>0⟩:=by
  rw[<-ac,<-Z,<-S,<-I,<-D]
  rfl
 rw[ah]
 have v7:=@sn H6 R (.dK []) (Yw ⟨f,c,g,l,at_,t,u,R,λ_=>0,λ_=>0⟩) _ n6 x
 have g7:∀b o,H b=some o->b≠n->_:=λb o e hb=>@st H6 b R o (.dK []) (Yw ⟨f,c,g,l,at_,t,u,R,λ_=>0,λ_=>0⟩) (g6 b o e hb) hb x
 have s7:∀{b o},H6 b=some o->b≠n->_:=λ{b o}e hb=>@st H6 b R o (.dK []) (Yw ⟨f,c,g,l,at_,t,u,R,λ_=>0,λ_=>0⟩) e hb x
 refine q ⟨f,c,g,l,at_,t,u,R,λ_=>0,λ_=>0⟩ _ rfl ⟨⟨dx,Qb⟩,⟨ws,g7 _ _ hf fn,L2.Paired.Z8 ai λ_ _ h=>h.Qm λb xs e=>g7 b _ e (Yb e hn (λz=>nomatch z))⟩,s7 l6 ln,s7 m6 mn,s7 u6 un,⟨[],⟨s7 d6 dn,(λp y=>nomatch y)⟩,Gr _,λk=>rfl⟩,⟨[],s7 k6 kn,.nil⟩,⟨[],s7 a6 an,Gr _,λi j=>rfl⟩,v7,(λp y=>nomatch y),(λp y=>nomatch y),
  ⟨lm,lu,Qc l6 x,mu,Qc m6 x,Qc u6 x,λz=>?_,(λp y=>nomatch y),(λp y=>nomatch y),(λp y=>nomatch y),(λp y=>nomatch y),(λp y=>nomatch y)⟩⟩ g7 (λb hb=>?_)
 ·have z:t=f:=z
  rw[z,hf]at Y;cases Y
 ·rcases hb with rfl|rfl|rfl|rfl|rfl|rfl|rfl|⟨p,y,_⟩
  ·exact ae
  ·exact af
  ·exact ag
  ·exact ab
  ·exact Y
  ·exact ad
  ·exact t6 _ x
  ·exact nomatch y
end
end K05
namespace Nt
theorem Qeu{pt:Nat->List Nat}{M:Nat}(h:∀p,(pt p).length<=M):∀(S:List Nat)(q:Nat),(Yr pt S q).length<=S.length*M
 |[],q=>by simp[Yr]
 |p::S,q=>by
  have a:=Qeu h S q
  have h1:((pt p).count q)<=(pt p).length:=LV
  have h2:=h p
  unfold Yr at a⊢
  rw[Lh,Gk,D4,Tb,Ew]
  omega
theorem Qj0{pt:Nat->List Nat}{S:List Nat}{p:Nat}(h:∀q∈S,p∉pt q):Yr pt S p=[]:=by
 unfold Yr
 rw[List.flatMap_eq_nil_iff]
 intro q a
 have:(pt q).count p=0:=List.count_eq_zero.mpr (h q a)
 rw[this]
 rfl
theorem Qa1{l:List Nat}{i u q:Nat}(h:l[i]?=some u):(l.take (i+1)).count q=(l.take i).count q+if u=q then 1 else 0:=by
 rw[Tf,h,List.count_append]
 congr 1
 simp only[Option.toList]
 rw[List.count_singleton]
 by_cases e:u=q
 ·rw[Gp e];simp[e]
 ·rw[Gj e];simp[e]
end Nt
namespace K05
open PySem L2 Sb Nt
structure Qv0(fs:List Fm)(rk:Nat->Nat):Prop where
 str:∀p,PyData.strOk (Ya fs p)=true
 few:∀p,(Zi fs p).length<=100
 pts:∀p,p<fs.length->∀q∈Zi fs p,q<fs.length/\rk q<rk p
 inj:∀p q,p<fs.length->q<fs.length->Ya fs p=Ya fs q->Zi fs p=Zi fs q->p=q
 len:fs.length<=1000
structure Frs(P:Program)(w:World)(C:Addr)(H:Hp)(n:Addr)(A:Na)(fs:List Fm)(S:List Nat):Prop where
 at_:Z1 P w C H n A fs S.length (fresh (Ya fs) (Zi fs) S)
 nd:S.Nodup
 cl:∀p∈S,∀q∈Zi fs p,q∈S
 lt:∀p∈S,p<fs.length
structure FrT(A:Na)(S:List Nat)(A':Na)(S':List Nat)(H H':Hp):Prop where
 keep:∀b o,H b=some o->¬Own A S b->H' b=some o
 own:∀b,Own A' S' b->Own A S b\/H b=none
 there:∀b,H' b=none->H b=none
theorem FrT.refl{A:Na}{S:List Nat}{H:Hp}:FrT A S A S H H:=⟨λ_ _ e _=>e,λ_ h=>.inl h,λ_ h=>h⟩
theorem FrT.trans{A a c:Na}{S S1 S2:List Nat}{H H1 H2:Hp}(x:FrT A S a S1 H H1)(y:FrT a S1 c S2 H1 H2):FrT A S c S2 H H2:=by
 refine⟨λb o e h=>y.keep b o (x.keep b o e h) λz=>?_,λb h=>?_,λb h=>x.there b (y.there b h)⟩
 ·rcases x.own b z with z|z
  ·exact h z
  ·rw[e]at z;cases z
 ·rcases y.own b h with h|h
  ·exact x.own b h
  ·exact .inr (x.there b h)
def na(A:Na)(ml ul:Nat->Addr):Na:={A with ml:=ml,ul:=ul}
def O7(P:Program)(w:World)(C:Addr)(k:Nat):Sp:=λvs H Q _=>∃(n:Addr)(A:Na)(fs:List Fm)(b:Nat->Nat)(S:List Nat)(p:Nat),vs=[.ref n,jv p]/\Frs P w C H n A fs S/\Qv0 fs b/\p<fs.length/\b p<k/\
 ∀(a:List Nat)(ml ul:Nat->Addr)(H':Hp),Frs P w C H' n (na A ml ul) fs a->(∀q∈S,q∈a)->p∈a->(∀q∈a,q∈S\/b q<=b p)->FrT A S (na A ml ul) a H H'->Q .non H'
section
variable{P:Program}{w:World}{K:Gc}{mg:Str->Option Value}{base:Heap}
theorem Qiz:Qx ["self","place","part"] ["self","place"] (Qk Ob):=⟨Xb,Xb,Xb,by decide+kernel,Xb,by decide+kernel,by decide+kernel⟩
theorem Quo{P:Program}{w:World}{C:Addr}{H:Hp}{n:Addr}{A:Na}{fs:List Fm}{S:List Nat}{p:Nat}{m0 u0:Addr}(X:Z1 P w C H n A fs S.length (fresh (Ya fs) (Zi fs) S))(W:p∉S)(V:H m0=none)(Y:H u0=none)(j:m0≠u0)(t:Yr (Zi fs) S p=[]):
  Z1 P w C (upd (upd (upd (upd (upd (upd H A.l (.dK (dS (S++[p]) λq=>jv q))) m0 (.lst [jv p])) A.m (.dK (dS (S++[p]) λq=>.ref (if q=p then m0 else A.ml q)))) u0 (.lst [])) A.u (.dK (dS (S++[p]) λq=>.ref (if q=p then u0 else A.ul q)))) A.v (.dK (dS (S++[p]) λ_=>.non)))
   n (na A (λq=>if q=p then m0 else A.ml q) (λq=>if q=p then u0 else A.ul q)) fs S.length {fresh (Ya fs) (Zi fs) (S++[p])with Xc:=Yr (Zi fs) S,tab:=Qam (Ya fs) (Zi fs) S}:=by
 obtain⟨dx,o1⟩:=X.ob
 obtain⟨ws,x,R⟩:=X.fo
 obtain⟨kvs,D,O,Q⟩:=X.ta
 obtain⟨ls,l1,l2⟩:=X.li
 obtain⟨Z,M,N⟩:=X.at_
 have g:∀{b o},H b=some o->b≠m0:=λe=>Qc e V
 have nu:∀{b o},H b=some o->b≠u0:=λe=>Qc e Y
 have u:∀{b o},H b=some o->b≠A.l->b≠A.m->b≠A.u->b≠A.v->(upd (upd (upd (upd (upd (upd H A.l (.dK (dS (S++[p]) λq=>jv q))) m0 (.lst [jv p])) A.m (.dK (dS (S++[p]) λq=>.ref (if q=p then m0 else A.ml q)))) u0 (.lst [])) A.u (.dK (dS (S++[p]) λq=>.ref (if q=p then u0 else A.ul q)))) A.v (.dK (dS (S++[p]) λ_=>.non))) b=some o:=λe h1 h2 T U=>by
  rw[Qf U,Qf T,Qf (nu e),Qf h2,Qf (g e),Qf h1];exact e
 have no:∀{b o},H b=some o->(∀kvs,o≠.dK kvs)->b≠A.l/\b≠A.m/\b≠A.u/\b≠A.v:=λe h=>⟨Yb e X.le (h _),Yb e X.me (h _),Yb e X.us (h _),Yb e X.ab (h _)⟩
 have i:∀{b o},H b=some o->(∀kvs,o≠.dK kvs)->_:=λ{b o}e h=>u e (no e h).1 (no e h).2.1 (no e h).2.2.1 (no e h).2.2.2
 have G:Qu H _:=λb xs e=>i e (λ_ z=>nomatch z)
 have y:=g X.le
 have E:=g X.me
 have I:=g X.us
 have K:=g X.ab
 have B:=nu X.le
 have F:=nu X.me
 have J:=nu X.us
 have L:=nu X.ab
 have ne:∀q∈S,q≠p:=λq a z=>W (z▸a)
 refine⟨⟨dx,i o1 (λ_ z=>nomatch z)⟩,⟨ws,i x (λ_ z=>nomatch z),L2.Paired.Z8 R λ_ _ h=>h.Qm G⟩,?_,?_,?_,⟨kvs,⟨i D.at_ (λ_ z=>nomatch z),Ze G D.keys⟩,O,Q⟩,⟨ls,i l1 (λ_ z=>nomatch z),L2.Paired.Z8 l2 λ_ _ h=>h.Qm G⟩,⟨Z,i M (λ_ z=>nomatch z),N⟩,Qb,λq a=>?_,λq a=>?_,⟨X.ap.lm,X.ap.lu,X.ap.lv,X.ap.mu,X.ap.mv,X.ap.uv,X.ap.kf,λq a r s=>?_,λq a r s=>?_,λq a r s=>?_,λq a=>?_,λq a=>?_⟩⟩
 ·show(upd _ A.v _) A.l=some (HO.dK (dS (S++[p]) λq=>jv q))
  rw[Qf X.ap.lv,Qf X.ap.lu,Qf B,Qf X.ap.lm,Qf y,Qb]
 ·show(upd _ A.v _) A.m=some (HO.dK (dS (S++[p]) λq=>.ref (if q=p then m0 else A.ml q)))
  rw[Qf X.ap.mv,Qf X.ap.mu,Qf F,Qb]
 ·show(upd _ A.v _) A.u=some (HO.dK (dS (S++[p]) λq=>.ref (if q=p then u0 else A.ul q)))
  rw[Qf X.ap.uv,Qb]
 ·show(upd _ A.v _) (if q=p then m0 else A.ml q)=some (.lst [jv q])
  rcases Gd.mp a with a|a
  ·rw[Gj (ne q a)]
   exact i (X.ml q a) (λ_ z=>nomatch z)
  ·have:q=p:=by simpa using a
   subst this
   rw[Gp Xb,Qf (Gq K),Qf (Gq I),Qf j,Qf (Gq E),Qb]
 ·show(upd _ A.v _) (if q=p then u0 else A.ul q)=some (.lst ((Yr (Zi fs) S q).map jv))
  rcases Gd.mp a with a|a
  ·rw[Gj (ne q a)]
   exact i (X.ul q a) (λ_ z=>nomatch z)
  ·have:q=p:=by simpa using a
   subst this
   rw[Gp Xb,t,Qf (Gq L),Qf (Gq J),Qb]
   rfl
 ·show(if q=p then m0 else A.ml q)=(if r=p then m0 else A.ml r)->q=r
  rcases Gd.mp a with c|c<;>rcases Gd.mp s with d|d
  ·rw[Gj (ne q c),Gj (ne r d)];exact X.ap.mm q c r d
  ·have:r=p:=by simpa using d
   subst this
   rw[Gj (ne q c),Gp rfl]
   intro z
   exact absurd z (g (X.ml q c))
  ·have:q=p:=by simpa using c
   subst this
   rw[Gj (ne r d),Gp rfl]
   intro z
   exact absurd z.symm (g (X.ml r d))
  ·intro _
   have h1:q=p:=by simpa using c
   have h2:r=p:=by simpa using d
   rw[h1,h2]
 ·show(if q=p then u0 else A.ul q)=(if r=p then u0 else A.ul r)->q=r
  rcases Gd.mp a with c|c<;>rcases Gd.mp s with d|d
  ·rw[Gj (ne q c),Gj (ne r d)];exact X.ap.uu q c r d
  ·have:r=p:=by simpa using d
   subst this
   rw[Gj (ne q c),Gp rfl]
   intro z
   exact absurd z (nu (X.ul q c))
  ·have:q=p:=by simpa using c
   subst this
   rw[Gj (ne r d),Gp rfl]
   intro z
   exact absurd z.symm (nu (X.ul r d))
  ·intro _
   have h1:q=p:=by simpa using c
   have h2:r=p:=by simpa using d
   rw[h1,h2]
 ·show(if q=p then m0 else A.ml q)≠(if r=p then u0 else A.ul r)
  rcases Gd.mp a with c|c<;>rcases Gd.mp s with d|d
  ·rw[Gj (ne q c),Gj (ne r d)];exact X.ap.mul q c r d
  ·have:r=p:=by simpa using d
   subst this
   rw[Gj (ne q c),Gp rfl]
   exact nu (X.ml q c)
  ·have:q=p:=by simpa using c
   subst this
   rw[Gj (ne r d),Gp rfl]
   exact Gq (g (X.ul r d))
  ·have h1:q=p:=by simpa using c
   have h2:r=p:=by simpa using d
   rw[Gp h1,Gp h2]
   exact j
 ·show(if q=p then m0 else A.ml q)≠A.k/\(if q=p then m0 else A.ml q)≠A.f
  rcases Gd.mp a with a|a
  ·rw[Gj (ne q a)];exact X.ap.mkf q a
  ·have:q=p:=by simpa using a
   rw[Gp this]
   exact⟨Gq (g l1),Gq (g x)⟩
 ·show(if q=p then u0 else A.ul q)≠A.k/\(if q=p then u0 else A.ul q)≠A.f
  rcases Gd.mp a with a|a
  ·rw[Gj (ne q a)];exact X.ap.ukf q a
  ·have:q=p:=by simpa using a
   rw[Gp this]
   exact⟨Gq (nu l1),Gq (nu x)⟩
end
open PySem L2 Sb Nt
section
variable{P:Program}{w:World}{K:Gc}{mg:Str->Option Value}{base:Heap}
theorem Zx{H:Hp}{b c:Addr}{o:HO}(h:upd H b o c=none):H c=none:=by
 by_cases e:c=b
 ·subst e;rw[Qb]at h;cases h
 ·rw[Qf e]at h;exact h
theorem Qi{H:Hp}{b c:Addr}{o u:HO}(e:H c=some u)(h:c≠b):upd H b o c=some u:=by rw[Qf h];exact e
theorem Qsp{k:Nat}{f fK C:Addr}{fd ag:FuncData}(F:W5 K "take_in" "Net.take_in" Ob f fd)(T:Vt K mg C)(mT:Z9 K C "take_in" f)(bT:Binds K fd ["self","place"] [])(G:Qt P w K mg base Z7 (k+1) f fd ["self","place"] (O7 P w C k))
  (mK:Z9 K C "key_of" fK)(GK:Qt P w K mg base Z7 1 fK ag ["self","place"] (Qa9 P w C))(bK:Binds K ag ["self","place"] []):Qt P w K mg base Z7 (k+2) f fd ["self","place"] (O7 P w C (k+1)):=by
 refine F.ok Qiz (λvs H Q E h=>?_) (λcdv A outer s H vs Q E g h=>?_)
 ·obtain⟨n,A,fs,rk,S,p,rfl,_⟩:=h
  rfl
 obtain⟨n,A,fs,rk,S,p,rfl,X,tk,hp,hk,q⟩:=h
 have O:=Ul g
 have aj:=g.units
 have aB:Yc 1 _:=g.mono (by omega)
 have nd:=Qiz.nd
 refine⟨_,Qd (Zm (Oo (Qjp O (pv 1) (Qn (pv 0) rfl))) (Qh Qum) Q8)
  (Qd (Ye GX rfl (U2 (Qo Q4 (Qo Zh (Qn (pv 0) rfl) (pv 1) (λ_ _=>rfl)) Qj (λ_ _=>rfl))) (Qr (i:=2) nd rfl (Or.inl Xb))
   (Qh (Zb (Q9 (pv 0) T.cl mT G g bT .nil Q5 (Qa (pv 2) Qe)))))
  (Qd (We O (Qn (pv 0) rfl) (pv 1) (pv 1) rfl)
  (Qd (We O (Qn (pv 0) rfl) (pv 1) (Zt (Qa (pv 1) Qe)) rfl)
  (Qd (We O (Qn (pv 0) rfl) (pv 1) (Zt Qe) rfl)
  (Qd (We O (Qn (pv 0) rfl) (pv 1) Ja Xb)
  (Qd (Ye GX rfl (U2 (Qo Q4 (Qo Zh (Qn (pv 0) rfl) (pv 1) (λ_ _=>rfl)) Qj (λ_ _=>rfl))) (Qr (i:=2) nd rfl (Or.inl Xb))
   (Qh (Zb (Xr Gy Tc Tk Z2 (Zs O (Qn (pv 0) rfl) (pv 2) (λ_ _=>rfl)) (Qa (pv 1) Qe)))))
  (Qh (Qaa (pv 1) (Qb9 (Qn (pv 0) rfl) (Q9 (pv 0) T.cl mK GK aB bK .nil Q5 (Qa (pv 1) Qe)) (Qdn aj)))))))))),?_⟩
 obtain⟨dx,o1⟩:=X.at_.ob
 have aQ:S.length<=fs.length:=Xf (S:=List.range fs.length) X.nd (λr g=>DY.mpr (X.lt r g))|>λh=>by rw[DR]at h;exact h
 have aU:=tk.len
 have gl:Wk H A.l (jv p) (Yu (dS S λr=>jv r) (ki p)):=Wk.k (k:=ki p) X.at_.le
 refine⟨_,Xb,_,Xb,n,C,dx,_,_,Xb,o1,T.cl,T.Wm,Yk _,A.l,_,Xb,gl,_,Xb,?_⟩
 rw[Qmf]
 by_cases U:p∈S
 ·rw[Tp U]
  refine Y0 ?_
  exact q S A.ml A.ul H X (λ_ h=>h) U (λr h=>.inl h) FrT.refl
 rw[Tg U]
 refine Zq ?_
 obtain⟨ws,f1,f2⟩:=X.at_.fo
 have hw:p<ws.length:=by rw[Gs f2];exact hp
 obtain⟨y,hy,c,e,ec,h1,h2⟩:=Qv f2 (Gg hw)
 rw[Qev hp]at hy
 cases hy
 have few:=tk.few p
 refine⟨_,Xb,n,C,dx,_,_,Xb,o1,T.cl,T.Qbu,Uc _,_,Xb,A.f,ws,_,_,Xb,Xb,Zd.of f1,Qz (Gg hw),c,_,_,_,ec,Xb,Z4.of h1,Im _ _ _,e,Xb,⟨_,Z4.of h2⟩,Qgb (K:=K) (a:=e) (xs:=(Zi fs p).map jv)
  (λi σ H2=>∃(x2:Option V)(S2:List Nat)(ml ul:Nat->Addr),σ=[some (.ref n),some (jv p),x2]/\Frs P w C H2 n (na A ml ul) fs S2/\(∀r∈S,r∈S2)/\(∀r∈(Zi fs p).take i,r∈S2)/\(∀r∈S2,r∈S\/rk r<rk p)/\FrT A S (na A ml ul) S2 H H2)
  ⟨_,S,A.ml,A.ul,Xb,X,λ_ h=>h,by simp,λr h=>.inl h,FrT.refl⟩ (λi σ H2 _⟨_,_,_,_,_,_,_,_,_,F2⟩=>Z4.of (F2.keep _ _ h2 (X.at_.Qju h2))) ?_ ?_⟩
 ·rintro i y σ H2 hi ⟨x2,S2,ml,ul,rfl,d,sub,done,Z,F2⟩
  rw[GY]at hi
  cases eq:(Zi fs p)[i]? with
  |none=>rw[eq]at hi;cases hi
  |some r=>
   rw[eq]at hi
   cases hi
   obtain⟨rl,rr⟩:=tk.pts p hp r (Gb eq)
   obtain⟨j,o2⟩:=d.at_.ob
   refine⟨_,Xb,n,j,_,Xb,o2,O4 _,_,Xb,n,na A ml ul,fs,rk,S2,r,Xb,d,tk,rl,by omega,λS3 aG aM H3 X3 aa r3 aJ F3=>?_⟩
   refine⟨_,S3,aG,aM,Xb,X3,λt N=>aa t (sub t N),λt N=>?_,λt N=>?_,F2.trans F3⟩
   ·rw[Tf,eq]at N
    rcases Gd.mp N with N|N
    ·exact aa t (done t N)
    ·have:t=r:=by simpa using N
     rw[this];exact r3
   ·rcases aJ t N with h|h
    ·exact Z t h
    ·exact .inr (by omega)
 rintro σ H2 ⟨x2,S2,ml,ul,rfl,d,sub,done,Z,F2⟩
 rw[Gn,Te]at done
 have x:p∉S2:=λz=>by
  rcases Z p z with h|h
  ·exact U h
  ·omega
 have aV:S2.length<=1000:=by
  have:=Xf (S:=List.range fs.length) d.nd (λr g=>DY.mpr (d.lt r g))
  rw[DR]at this
  omega
 have az:Yr (Zi fs) S2 p=[]:=Qj0 λr g z=>x (d.cl r g p z)
 obtain⟨j,o2⟩:=d.at_.ob
 have ay:(dS S2 λr=>jv r).length<sizeLine:=by rw[Wq,Td];omega
 have aD:H2 A.l=some (.dK (dS S2 λr=>jv r)):=d.at_.le
 have aE:H2 A.m=some (.dK (dS S2 λr=>.ref (ml r))):=d.at_.me
 have aN:H2 A.u=some (.dK (dS S2 λr=>.ref (ul r))):=d.at_.us
 have ao:H2 A.v=some (.dK (dS S2 λ_=>.non)):=d.at_.ab
 have k1:=Ij.k (k:=ki p) (v:=jv p) aD ay
 rw[Ou x]at k1
 have e1:(dS (S2++[p]) λr=>if r=p then jv p else jv r)=dS (S2++[p]) λr=>jv r:=X9 λr _=>by
  by_cases h:r=p
  ·rw[Gp h,h]
  ·rw[Gj h]
 rw[e1]at k1
 refine⟨_,Xb,_,Xb,n,C,j,_,_,Xb,o2,T.cl,T.Wm,Yk _,_,Xb,A.l,_,Xb,k1,?_⟩
 have nl:n≠A.l:=Yb o2 d.at_.le (λz=>nomatch z)
 have o3:(upd H2 A.l (.dK (dS (S2++[p]) λr=>jv r))) n=some (.ins C j (Yw A)):=by rw[Qf nl];exact o2
 refine⟨_,Xb,by show 1<=sizeLine;decide,λm0 D=>?_⟩
 have s3:=Qg D (.lst [jv p])
 have ae:H2 m0=none:=by
  by_cases h:m0=A.l
  ·subst h;rw[Qb]at D;cases D
  ·rw[Qf h]at D;exact D
 have aF:(upd H2 A.l (.dK (dS (S2++[p]) λr=>jv r))) A.m=some (.dK (dS S2 λr=>.ref (ml r))):=Qi aE (Gq d.at_.ap.lm)
 have k2:=Ij.k (k:=ki p) (v:=.ref m0) (s3 _ _ aF) (by rw[Wq,Td];omega)
 rw[Ou x]at k2
 have e2:(dS (S2++[p]) λr=>if r=p then V.ref m0 else .ref (ml r))=dS (S2++[p]) λr=>.ref (if r=p then m0 else ml r):=X9 λr _=>by split<;>rfl
 rw[e2]at k2
 refine⟨_,Xb,n,C,j,_,_,Xb,s3 _ _ o3,T.cl,T.members,Wt _,_,Xb,A.m,_,Xb,k2,?_⟩
 have aH:n≠A.m:=Yb o2 d.at_.me (λz=>nomatch z)
 generalize ad:upd (upd (upd H2 A.l (.dK (dS (S2++[p]) λr=>jv r))) m0 (.lst [jv p])) A.m (.dK (dS (S2++[p]) λr=>.ref (if r=p then m0 else ml r)))=Hc
 have cA:∀{b o},H2 b=some o->b≠A.l->b≠A.m->Hc b=some o:=λe h1 h2=>by rw[<-ad,Qf h2,Qf (Qc e ae),Qf h1];exact e
 have cN:∀{b},Hc b=none->H2 b=none/\b≠m0:=λ{b}h=>by
  rw[<-ad]at h
  by_cases h1:b=A.m
  ·subst h1;rw[Qb]at h;cases h
  ·rw[Qf h1]at h
   by_cases h2:b=m0
   ·subst h2;rw[Qb]at h;cases h
   ·rw[Qf h2]at h
    by_cases h3:b=A.l
    ·subst h3;rw[Qb]at h;cases h
    ·rw[Qf h3]at h;exact⟨h,h2⟩
 have o4:=cA o2 nl aH
 refine⟨Ta _,λu0 ai=>?_⟩
 obtain⟨am,aK⟩:=cN ai
 have s5:=Qg ai (.lst [])
 have aL:=cA aN (Gq d.at_.ap.lu) (Gq d.at_.ap.mu)
 have k3:=Ij.k (k:=ki p) (v:=.ref u0) (s5 _ _ aL) (by rw[Wq,Td];omega)
 rw[Ou x]at k3
 have e3:(dS (S2++[p]) λr=>if r=p then V.ref u0 else .ref (ul r))=dS (S2++[p]) λr=>.ref (if r=p then u0 else ul r):=X9 λr _=>by split<;>rfl
 rw[e3]at k3
 refine⟨_,Xb,n,C,j,_,_,Xb,s5 _ _ o4,T.cl,T.Qec,Jz _,_,Xb,A.u,_,Xb,k3,?_⟩
 have nu:n≠A.u:=Yb o2 d.at_.us (λz=>nomatch z)
 have o5:(upd (upd Hc u0 (.lst [])) A.u (.dK (dS (S2++[p]) λr=>.ref (if r=p then u0 else ul r)))) n=some (.ins C j (Yw A)):=by rw[Qf nu];exact s5 _ _ o4
 have aO:(upd (upd Hc u0 (.lst [])) A.u (.dK (dS (S2++[p]) λr=>.ref (if r=p then u0 else ul r)))) A.v=some (.dK (dS S2 λ_=>.non)):=by
  exact Qi (s5 _ _ (cA ao (Gq d.at_.ap.lv) (Gq d.at_.ap.mv))) (Gq d.at_.ap.uv)
 have k4:=Ij.k (k:=ki p) (v:=.non) aO (by rw[Wq,Td];omega)
 rw[Ou x]at k4
 have e4:(dS (S2++[p]) λr=>if r=p then V.non else .non)=dS (S2++[p]) λ_=>.non:=X9 λr _=>by split<;>rfl
 rw[e4]at k4
 refine⟨_,Xb,n,C,j,_,_,Xb,o5,T.cl,T.above,R0 _,_,Xb,A.v,_,Xb,k4,?_⟩
 have Y:=Quo (m0:=m0) (u0:=u0) d.at_ x ae am (Gq aK) az
 have FY:FrT (na A ml ul) S2 (na A (λr=>if r=p then m0 else ml r) (λr=>if r=p then u0 else ul r)) (S2++[p]) H2 (upd (upd (upd Hc u0 (.lst [])) A.u (.dK (dS (S2++[p]) λr=>.ref (if r=p then u0 else ul r)))) A.v (.dK (dS (S2++[p]) λ_=>.non))):=by
  refine⟨λb o e hb=>?_,λb hb=>?_,λb hb=>?_⟩
  ·rw[Qf (λz=>hb (by rw[z];exact .inr (.inr (.inr (.inr (.inr (.inr (.inl Xb)))))))),Qf (λz=>hb (by rw[z];exact .inr (.inr (.inl Xb))))]
   exact s5 _ _ (cA e (λz=>hb (by rw[z];exact .inl Xb)) (λz=>hb (by rw[z];exact .inr (.inl Xb))))
  ·rcases hb with h|h|h|h|h|h|h|⟨r,aA,h⟩
   ·exact .inl (.inl h)
   ·exact .inl (.inr (.inl h))
   ·exact .inl (.inr (.inr (.inl h)))
   ·exact .inl (.inr (.inr (.inr (.inl h))))
   ·exact .inl (.inr (.inr (.inr (.inr (.inl h)))))
   ·exact .inl (.inr (.inr (.inr (.inr (.inr (.inl h))))))
   ·exact .inl (.inr (.inr (.inr (.inr (.inr (.inr (.inl h)))))))
   ·have h:b=(if r=p then m0 else ml r)\/b=(if r=p then u0 else ul r):=h
    by_cases I:r=p
    ·rw[Gp I,Gp I]at h
     rcases h with h|h
     ·rw[h];exact .inr ae
     ·rw[h];exact .inr am
    ·rw[Gj I,Gj I]at h
     have aC:r∈S2:=by
      rcases Gd.mp aA with z|z
      ·exact z
      ·exact absurd (by simpa using z) I
     exact .inl (.inr (.inr (.inr (.inr (.inr (.inr (.inr ⟨r,aC,h⟩)))))))
  ·by_cases h1:b=A.v
   ·subst h1;rw[Qb]at hb;cases hb
   ·rw[Qf h1]at hb
    by_cases h2:b=A.u
    ·subst h2;rw[Qb]at hb;cases hb
    ·rw[Qf h2]at hb
     exact(cN (s5.free hb)).1
 have Y:Z1 P w C (upd (upd (upd Hc u0 (.lst [])) A.u (.dK (dS (S2++[p]) λr=>.ref (if r=p then u0 else ul r)))) A.v (.dK (dS (S2++[p]) λ_=>.non))) n (na A (λr=>if r=p then m0 else ml r) (λr=>if r=p then u0 else ul r)) fs S2.length {fresh (Ya fs) (Zi fs) (S2++[p])with Xc:=Yr (Zi fs) S2,tab:=Qam (Ya fs) (Zi fs) S2}:=by
  rw[<-ad];exact Y
 generalize upd (upd (upd Hc u0 (.lst [])) A.u (.dK (dS (S2++[p]) λr=>.ref (if r=p then u0 else ul r)))) A.v (.dK (dS (S2++[p]) λ_=>.non))=H4 at Y FY⊢
 generalize (λr=>if r=p then m0 else ml r)=L at Y FY
 generalize (λr=>if r=p then u0 else ul r)=B at Y FY
 have F4:=F2.trans FY
 obtain⟨ar,aI⟩:=Y.ob
 obtain⟨an,av,af⟩:=Y.fo
 have ak:p<an.length:=by rw[Gs af];exact hp
 obtain⟨y4,al,c4,ac,au,ax,ah⟩:=Qv af (Gg ak)
 rw[Qev hp]at al
 cases al
 refine⟨_,Xb,n,C,ar,_,_,Xb,aI,T.cl,T.Qbu,Uc _,_,Xb,A.f,an,_,_,Xb,Xb,Zd.of av,Qz (Gg ak),c4,_,_,_,au,Xb,Z4.of ax,Im _ _ _,ac,Xb,⟨_,Z4.of ah⟩,Qgb (K:=K) (a:=ac) (xs:=(Zi fs p).map jv)
  (λi σ H5=>∃(x2:Option V),σ=[some (.ref n),some (jv p),x2]/\Z1 P w C H5 n (na A L B) fs S2.length {fresh (Ya fs) (Zi fs) (S2++[p])with Xc:=(λr=>Yr (Zi fs) S2 r++List.replicate (((Zi fs p).take i).count r) p),tab:=Qam (Ya fs) (Zi fs) S2}/\FrT A S (na A L B) (S2++[p]) H H5/\H5 ac=some (.tup ((Zi fs p).map jv)))
  ⟨_,Xb,?_,F4,ah⟩ (λi σ H5 _⟨_,_,_,_,h⟩=>Z4.of h) ?_ ?_⟩
 ·have:(λr=>Yr (Zi fs) S2 r++List.replicate (((Zi fs p).take 0).count r) p)=Yr (Zi fs) S2:=by funext r;simp
  rw[this]
  exact Y
 ·rintro i y σ H5 hi ⟨x5,rfl,M,F5,h5⟩
  rw[GY]at hi
  cases eq:(Zi fs p)[i]? with
  |none=>rw[eq]at hi;cases hi
  |some r=>
   rw[eq]at hi
   cases hi
   have rS:r∈S2++[p]:=Gi _ (done r (Gb eq))
   have ur:=M.ul r rS
   obtain⟨R,W⟩:=M.ob
   have aR:=Qeu tk.few S2 r
   have aP:((Zi fs p).take i).count r<=100:=Dg LV (by rw[T6];omega)
   refine⟨_,Xb,n,C,R,_,_,Xb,W,T.cl,T.Qec,Jz _,_,Xb,A.u,_,Xb,Xd M.us rS,.inl ⟨Xb,_,Zd.of ur⟩,_,Xb,_,_,_,Xb,Xb,ur,?_,?_⟩
   ·rw[Gn,Td]
    show(Yr (Zi fs) S2 r++List.replicate (((Zi fs p).take i).count r) p).length<_
    rw[Gk,D4]
    omega
   ·have Y6:=M.Qrn rS (Yr (Zi fs) S2 r++List.replicate (((Zi fs p).take i).count r) p++[p])
    have eH:(HO.lst ((Yr (Zi fs) S2 r++List.replicate (((Zi fs p).take i).count r) p++[p]).map jv))=.lst ((Yr (Zi fs) S2 r++List.replicate (((Zi fs p).take i).count r) p).map jv++[jv p]):=by rw[Tt];rfl
    rw[eH]at Y6
    have oR:Own (na A L B) (S2++[p]) (B r):=.inr (.inr (.inr (.inr (.inr (.inr (.inr ⟨r,rS,.inr Xb⟩))))))
    have eU:(λr'=>if r'=r then Yr (Zi fs) S2 r++List.replicate (((Zi fs p).take i).count r) p++[p]else Yr (Zi fs) S2 r'++List.replicate (((Zi fs p).take i).count r') p)=λr'=>Yr (Zi fs) S2 r'++List.replicate (((Zi fs p).take (i+1)).count r') p:=by
     funext r'
     rw[Qa1 eq]
     by_cases h:r'=r
     ·rw[Gp h,Gp h.symm,h,List.replicate_succ',TH]
     ·rw[Gj h,Gj (Gq h),Fn]
    refine⟨_,Xb,?_,F5.trans ⟨λb o e hb=>?_,λb hb=>.inl hb,λb hb=>?_⟩,?_⟩
    ·rw[<-eU]
     exact Y6
    ·exact Qi e (λz=>hb (by rw[z];exact oR))
    ·exact Zx hb
    ·exact Qi h5 (Yb h5 ur (λz=>nomatch z))
 rintro σ H5 ⟨x5,rfl,M,F5,h5⟩
 rw[Gn,Te]at M
 have eU:(λr=>Yr (Zi fs) S2 r++List.replicate ((Zi fs p).count r) p)=Yr (Zi fs) (S2++[p]):=by
  funext r
  rw[Qpr]
 rw[eU]at M
 obtain⟨R,W⟩:=M.ob
 have pin:∀r∈Zi fs p,r∈S2++[p]:=λr g=>Gi _ (done r g)
 refine⟨_,Xb,_,Xb,n,C,R,_,_,Xb,W,T.cl,T.table,Qin _,_,Xb,n,R,_,Xb,W,Qcb _,_,Xb,n,na A L B,fs,_,_,p,Xb,M,hp,pin,by omega,λc6 H6 g6 aS aw=>?_⟩
 have Y6:=M.same g6
 obtain⟨J,D6,aT,aq⟩:=Y6.ta
 have kc:=aw.key (tk.str p)
 refine⟨A.t,c6,_,J,Xb,Xb,D6,kc,by rw[Td];omega,?_⟩
 have new:∀r∈S2,Zg (Ya fs) (Zi fs) id r≠Zg (Ya fs) (Zi fs) id p:=λr g z=>by
  simp only[Zg,Lg,Ds]at z
  exact x (tk.inj r p (d.lt r g) hp z.1 z.2▸g)
 have Y7:=Y6.Qrw (kvs':=Wl J (Yt (Zg (Ya fs) (Zi fs) id p)) c6 (jv p)) D6 (by have:=Qct J (Yt (Zg (Ya fs) (Zi fs) id p)) c6 (jv p);omega) (D6.keys.put kc) (t':=Qam (Ya fs) (Zi fs) (S2++[p])) (λk'=>by
  rw[Jt,Qo1 _ _ new]
  by_cases h:k'=Zg (Ya fs) (Zi fs) id p
  ·rw[Gp (by rw[h]),Gp h];rfl
  ·rw[Gj (λz=>h (Ui z)),Gj h]
   exact aq k')
 refine q (S2++[p]) L B _ ⟨?_,?_,λr g=>?_,λr g=>?_⟩ (λr g=>Gi _ (sub r g)) (by simp) (λr g=>?_) (F5.trans ⟨λb o e hb=>?_,λb hb=>.inl ?_,λb hb=>?_⟩)
 ·rw[Gk,Gv]
  exact Y7
 ·rw[Df]
  refine⟨d.nd,by simp,λr g u O=>?_⟩
  have:u=p:=by simpa using O
  rw[this]
  exactλz=>x (z▸g)
 ·rcases Gd.mp g with h|h
  ·exactλu O=>Gi _ (d.cl r h u O)
  ·have:r=p:=by simpa using h
   subst this
   exact pin
 ·rcases Gd.mp g with h|h
  ·exact d.lt r h
  ·have:r=p:=by simpa using h
   subst this
   exact hp
 ·rcases Gd.mp g with h|h
  ·rcases Z r h with h|h
   ·exact .inl h
   ·exact .inr (by omega)
  ·have:r=p:=by simpa using h
   subst this
   exact .inr (Gr _)
 ·exact Qi (g6 _ _ e) (λz=>hb (by rw[z];exact .inr (.inr (.inr (.inl Xb)))))
 ·exact hb
 ·exact g6.free (Zx hb)
theorem Qyu{f C:Addr}{fd:FuncData}:Qt P w K mg base Z7 1 f fd ["self","place"] (O7 P w C 0):=by
 have no:∀vs H Q E,¬O7 P w C 0 vs H Q E:=λvs H Q E h=>by
  obtain⟨n,A,fs,a,S,p,_,_,_,_,h1,_⟩:=h
  omega
 exact⟨λvs H Q E h=>absurd h (no vs H Q E),λA outer s H args us vs Q E _ _ _ _ h=>absurd h (no vs H Q E)⟩
theorem Qhn{f e C:Addr}{fd a:FuncData}(F:W5 K "take_in" "Net.take_in" Ob f fd)(T:Vt K mg C)(h:Z9 K C "take_in" f)(d:Binds K fd ["self","place"] [])
  (g:Z9 K C "key_of" e)(b:Qt P w K mg base Z7 1 e a ["self","place"] (Qa9 P w C))(c:Binds K a ["self","place"] []):∀k:Nat,Qt P w K mg base Z7 (k+1) f fd ["self","place"] (O7 P w C k)
 |0=>Qyu
 |k+1=>Qsp F T h d (Qhn F T h d g b c k) g b c
end
end K05
namespace Nt
theorem Oc{l:List Nat}:∀{S:List Nat},S.Nodup->(S.map λq=>l.count q).sum<=l.length
 |[],_=>by simp
 |q::S,nd=>by
  rw[TV]at nd
  have c:=Oc (l:=l.filter (λz=>z !=q)) nd.2
  have e:(S.map λr=>(l.filter (λz=>z !=q)).count r)=S.map λr=>l.count r:=Tw λr b=>by
   rw[List.count_filter]
   simp only[bne_iff_ne,ne_eq]
   intro z
   exact nd.1 (z▸b)
  rw[e]at c
  have h2:(l.filter (λz=>z !=q)).length+l.count q=l.length:=by
   have:=List.length_eq_countP_add_countP (λz=>z !=q) (l:=l)
   rw[<-List.countP_eq_length_filter]
   have d:l.countP (λa=>¬(a !=q)=true)=l.count q:=by
    unfold List.count
    refine List.countP_congr λx _=>?_
    simp
   omega
  simp only[GO,ES]
  omega
theorem Qax{f g:Nat->Nat}:∀S:List Nat,(S.map λq=>f q+g q).sum=(S.map f).sum+(S.map g).sum
 |[]=>rfl
 |q::S=>by simp only[GO,ES,Qax S];omega
theorem Qnd{W ρ:Type}[DecidableEq W]{wd:Nat->W}{pt:Nat->List Nat}{S:List Nat}{M:Nat}(nd:S.Nodup)(h:∀p,(pt p).length<=M):Vk (fresh (ρ:=ρ) wd pt S)<=S.length*M:=by
 have gen:∀T:List Nat,(S.map λq=>(Yr pt T q).length).sum<=T.length*M:=by
  intro T
  induction T with
  |nil=>
   have:(S.map λq=>(Yr pt [] q).length)=S.map λ_=>0:=Tw λq _=>by simp[Yr]
   rw[this]
   clear this nd
   have z:∀S:List Nat,(S.map λ_=>0).sum=0:=by
    intro S
    induction S with
    |nil=>rfl
    |cons a S b=>simpa using b
   rw[z]
   omega
  |cons p T b=>
   have e:(S.map λq=>(Yr pt (p::T) q).length)=S.map λq=>(pt p).count q+(Yr pt T q).length:=Tw λq _=>by
    simp only[Yr,Lh,Gk,D4]
   rw[e,Qax]
   have h1:=Oc (l:=pt p) nd
   have h2:=h p
   rw[Tb,Ew]
   omega
 unfold Vk
 refine Dg (Fk ?_) (gen S)
 congr 1
 refine Tw λq _=>?_
 rw[Gp (show(fresh (ρ:=ρ) wd pt S).lead q=q from rfl)]
 rfl
end Nt
namespace K05
open PySem L2 Sb Nt
abbrev En:=Str×Nat×Nat
abbrev sme(p q:Nat):En:=(("same":Str),p,q)
abbrev unl(p q:Nat):En:=(("unlike":Str),p,q)
def Qb7(H:Hp)(v:V)(e:En):Prop:=∃c,v=.ref c/\H c=some (.tup [.str e.1,jv e.2.1,jv e.2.2])
theorem Qb7.Qm{H H':Hp}{v:V}{e:En}(t:Qu H H')(h:Qb7 H v e):Qb7 H' v e:=by
 obtain⟨c,h1,h2⟩:=h
 exact⟨c,h1,t _ _ h2⟩
structure Nok(P:Program)(w:World)(C:Addr)(H0 H:Hp)(n:Addr)(A:Na)(fs:List Fm)(tb:Nat)(x:Nn):Prop where
 at_:Z1 P w C H n A fs tb x
 inv:Xv (Ya fs) (Zi fs) x []
 fok:Qd1 fs x.S
 new:∀b,Own A x.S b->H0 b=none
 nn:H0 n=none
 Og:Q3 H0 H
 len:x.S.length<=60
 tt:Vk x<=6000
 cl:cls x+x.links.length<=x.S.length
 tbb:tb<=x.S.length+x.links.length*Vk x
structure Tup(fs:List Fm)(x:Nn)(ens:List En)(i:Nat):Prop where
 ins:∀e∈ens,e.2.1∈x.S/\e.2.2∈x.S
 eq:∀(j p q:Nat),j<i->ens[j]?=some (sme p q)->x.lead p=x.lead q
 snd:∀E,Ec (Ya fs) (Zi fs) x.S E->(∀(j p q:Nat),j<i->ens[j]?=some (sme p q)->E p q)->∀p∈x.S,∀q∈x.S,x.lead p=x.lead q->E p q
 rsn:∀y∈x.links,y.2.2=none\/∃(j p q:Nat),y=(p,q,some (.told j))/\ens[j]?=some (sme p q)
def Qf8(P:Program)(w:World)(C:Addr):Sp:=λvs H Q _=>∃(f t:Addr)(c es:List V)(fs:List Fm)(a:List En)(b:Nat->Nat),vs=[.ref f,.ref t]/\H f=some (.lst c)/\Paired (I0 H) c fs/\H t=some (.lst es)/\Paired (Qb7 H) es a/\Qv0 fs b/\fs.length<=60/\(∀p,b p<59)/\
 (∀e∈a,e.2.1<fs.length/\e.2.2<fs.length)/\a.length<=1000/\
 ∀(n:Addr)(A:Na)(tb:Nat)(x:Nn)(H':Hp),Nok P w C H H' n A fs tb x->A.f=f->Tup fs x a a.length->Q (.ref n) H'
theorem Nok.merged{P:Program}{w:World}{C:Addr}{H0 H H':Hp}{n:Addr}{A:Na}{fs:List Fm}{tb:Nat}{x d:Nn}{a b:Nat}{r:Option Uu}(N:Nok P w C H0 H n A fs tb x)(Y:Z1 P w C H' n A fs (tb+(d.links.length - x.links.length)*Vk x) d)(M:Mgd fs x d a b r [])(F:Rk A x.S H H'):Nok P w C H0 H' n A fs (tb+(d.links.length - x.links.length)*Vk x) d:=by
 have e:=M.S
 refine⟨Y,M.inv,by rw[e];exact N.fok,by rw[e];exact N.new,N.nn,λc o f=>F.keep c o (N.Og c o f) (λz=>by rw[N.new c z]at f;cases f),by rw[e];exact N.len,by rw[M.Vk];exact N.tt,by rw[e];have:=N.cl;have:=M.less;omega,?_⟩
 rw[e,M.Vk]
 have h1:=N.tbb
 have h2:=M.more
 have:d.links.length*Vk x=x.links.length*Vk x+(d.links.length - x.links.length)*Vk x:=by rw[<-Ew];congr 1;omega
 omega
theorem Tup.step{fs:List Fm}{x g:Nn}{d:List En}{i a b:Nat}(U:Tup fs x d i)(e:d[i]?=some (sme a b))(M:Mgd fs x g a b (some (.told i)) []):Tup fs g d (i+1):=by
 have f:=M.S
 obtain⟨aS,bS⟩:=U.ins _ (Gb e)
 refine⟨by rw[f];exact U.ins,λj p q l c=>?_,λE X h=>?_,λy n=>?_⟩
 ·rcases TC j i with h|h
  ·obtain⟨o,r⟩:=U.ins _ (Gb c)
   exact M.mono p o q r (U.eq j p q h c)
  ·have:j=i:=by omega
   subst this
   rw[e]at c
   cases c
   exact M.eq.nil
 ·rw[f]at X
  have k:=U.snd E X λj p q l=>h j p q (by omega)
  have:=M.snd E X ⟨k,λu v s m=>by
   simp at m
   obtain⟨rfl,rfl,rfl⟩:=m
   exact h i u v (by omega) e⟩
  exact this.1
 ·rcases M.rsn y n with h|h|h
  ·exact U.rsn y h
  ·exact .inr ⟨i,a,b,h,e⟩
  ·exact .inl h
theorem Tup.skip{fs:List Fm}{x:Nn}{c:List En}{i:Nat}{k:Str}{a b:Nat}(U:Tup fs x c i)(e:c[i]?=some (k,a,b))(g:k≠"same"):Tup fs x c (i+1):=by
 refine⟨U.ins,λj p q f d=>?_,λE X h=>U.snd E X λj p q f=>h j p q (by omega),U.rsn⟩
 rcases TC j i with h|h
 ·exact U.eq j p q h d
 ·have:j=i:=by omega
  subst this
  rw[e]at d
  cases d
  exact absurd rfl g
def Qvt(x:Nn)(a:List En):Option Nat->Prop
 |none=>∀(j p q:Nat),a[j]?=some (unl p q)->x.lead p≠x.lead q
 |some i=>(∃p q,a[i]?=some (unl p q)/\x.lead p=x.lead q)/\∀(j p q:Nat),j<i->a[j]?=some (unl p q)->x.lead p≠x.lead q
def Qfm(P:Program)(w:World)(C:Addr):Sp:=λvs H Q _=>∃(n t:Addr)(A:Na)(fs:List Fm)(tb:Nat)(x:Nn)(es:List V)(a:List En),vs=[.ref n,.ref t]/\Z1 P w C H n A fs tb x/\H t=some (.lst es)/\Paired (Qb7 H) es a/\(∀e∈a,e.2.1∈x.S/\e.2.2∈x.S)/\
 ∀(o:Option Nat)(H':Hp),Q3 H H'->Qvt x a o->Q (ov o) H'
section
variable{P:Program}{w:World}{K:Gc}{mg:Str->Option Value}{base:Heap}
theorem Qlt:Qx ["net","entries","number","entry"] ["net","entries"] (Qk Qfh):=⟨Xb,Xb,Xb,by decide+kernel,Xb,by decide+kernel,by decide+kernel⟩
theorem Yf{a b:Str}:decide (V.str a=V.str b)=(a==b):=by
 rw[EV]
 simp
theorem Qqu{f S C:Addr}{fd o:FuncData}(F:W5 K "least_clash" "least_clash" Qfh f fd)(T:Vt K mg C)(B:Jv mg)(Z:Z9 K C "equal" S)(GE:Qt P w K mg base Z7 1 S o ["self","one","other"] (Qbm P w C))(V:Binds K o ["self","one","other"] []):
  Qt P w K mg base Z7 2 f fd ["net","entries"] (Qfm P w C):=by
 refine F.ok Qlt (λvs H Q E h=>?_) (λcdv A outer s H vs Q E Y h=>?_)
 ·obtain⟨n,t,A,fs,tb,x,es,m,rfl,_⟩:=h
  rfl
 obtain⟨n,t,A,fs,tb,x,es,m,rfl,X,U,v,J,q⟩:=h
 have M:Yc 1 _:=Y.mono (by omega)
 have nd:=Qlt.nd
 refine⟨_,Qd (Ye GX rfl (Qlo rfl B.enumerate (Qa (pv 1) Qe)) (W9 rfl (Zj (Qr (i:=2) nd rfl (Or.inl Xb)) (Zj (Qr (i:=3) nd rfl (Or.inl Xb)) Xz)))
   (Qh (Zm (PW.pt (V1 (Qs Wf (Qo Q4 (pv 3) Qj (λ_ _=>rfl)) Zc (Q7 _)) (Vf (Xs (Q9 (pv 0) T.cl Z GE M V .nil Q5 (Qa (Qo Q4 (pv 3) Qj (λ_ _=>rfl)) (Qa (Qo Q4 (pv 3) Qj (λ_ _=>rfl)) Qe)))))))
    (Qh (Qy (pv 2))) Q8)))
  (Qh (Qy Ja)),?_⟩
 refine⟨_,Xb,t,es,Xb,Zd.of U,Qg1 (K:=K) (a:=t) (xs:=es) (λi σ H2=>(∃N O,σ=[some (.ref n),some (.ref t),N,O])/\Q3 H H2/\∀(j p r:Nat),j<i->m[j]?=some (unl p r)->x.lead p≠x.lead r)
  ⟨⟨_,_,Xb⟩,λ_ _ h=>h,λ_ _ _ h=>by omega⟩ (λi σ H2 _⟨_,g,_⟩=>Zd.of (g _ _ U)) ?_ ?_⟩
 ·rintro i y c σ H2 hi ⟨⟨N,O,rfl⟩,g,no⟩ W
  obtain⟨⟨k,a,b⟩,D,z,rfl,I⟩:=Qv v hi
  have s3:=Qg W (.tup [.int (i:Int),.ref z])
  have u:=g.trans s3
  obtain⟨aS,bS⟩:=J _ (Gb D)
  have l:=u _ _ I
  refine⟨c,_,Xb,Z4.of Qb,Xb,_,_,Xb,_,_,Xb,Xb,?_⟩
  refine⟨_,Xb,z,_,_,_,Xb,Xb,Z4.of l,Rm _ _,Xb,_,Xb,?_⟩
  rw[Yf]
  by_cases L:k="unlike"
  ·subst L
   rw[EJ]
   refine Y0 ?_
   have R:=X.same u
   obtain⟨dx,o1⟩:=R.ob
   refine⟨_,Xb,n,dx,_,Xb,o1,Qco _,_,Xb,z,_,_,_,Xb,Xb,Z4.of l,Im _ _ _,_,Xb,z,_,_,_,Xb,Xb,Z4.of l,Qgt _ _ _ _,n,A,fs,tb,x,a,b,Xb,R,aS,bS,_,Xb,?_⟩
   by_cases e:x.lead a=x.lead b
   ·rw[Tp e]
    refine Y0 ⟨_,Xb,q (some i) _ u ⟨⟨a,b,D,e⟩,no⟩⟩
   ·rw[Tg e]
    refine Zq ⟨⟨_,_,Xb⟩,u,λj p r G d=>?_⟩
    rcases TC j i with h|h
    ·exact no j p r h d
    ·have:j=i:=by omega
     subst this
     rw[D]at d
     cases d
     exact e
  ·have:(k==("unlike":Str))=false:=by simpa using L
   rw[this]
   refine Zq ?_
   refine Zq ⟨⟨_,_,Xb⟩,u,λj p r G d=>?_⟩
   rcases TC j i with h|h
   ·exact no j p r h d
   ·have:j=i:=by omega
    subst this
    rw[D]at d
    cases d
    exact absurd rfl L
 ·rintro σ H2 ⟨⟨N,O,rfl⟩,g,no⟩
  refine q none H2 g λj p r G=>no j p r ?_ G
  rw[Gs v]
  exact(Ge.mp G).1
theorem Qlq:Qx ["forms","told","net","kind","one","other","number","entry"] ["forms","told"] (Qk Qga):=⟨Xb,Xb,Xb,by decide+kernel,Xb,by decide+kernel,by decide+kernel⟩
theorem Qrk{f fI fT fM C:Addr}{fd Y aa Z:FuncData}(F:W5 K "net_of" "net_of" Qga f fd)(T:Vt K mg C)(B:Jv mg)(ag:Mk K C fI)(GI:Qt P w K mg base Z7 1 fI Y ["self","forms"] (Qew P w C))(bI:Binds K Y ["self","forms"] [])
  (mT:Z9 K C "take_in" fT)(GT:Qt P w K mg base Z7 60 fT aa ["self","place"] (O7 P w C 59))(bT:Binds K aa ["self","place"] [])(mM:Z9 K C "merge" fM)(GM:Qt P w K mg base Z7 4 fM Z ["self","one","other","reason"] (Qfi P w C))(bM:Binds K Z ["self","one","other","reason"] []):
  Qt P w K mg base Z7 61 f fd ["forms","told"] (Qf8 P w C):=by
 refine F.ok Qlq (λvs H Q E h=>?_) (λcdv A outer s H vs Q E v h=>?_)
 ·obtain⟨f,t,ws,es,fs,l,rk,rfl,_⟩:=h
  rfl
 obtain⟨f,t,ws,es,fs,l,rk,rfl,hf,ar,ht,L,tk,aC,ac,ao,aB,q⟩:=h
 have ap:Yc 2 _:=v.mono (by omega)
 have aq:Yc 4 _:=v.mono (by omega)
 have nd:=Qlq.nd
 refine⟨_,Qd (Ql (i:=2) nd rfl (Or.inl Xb) (Qlp ag GI ap rfl T.mgC bI .nil Q5 (Qa (pv 0) Qe)))
  (Qd (Ye GX rfl (Yp (pv 1)) (W9 rfl (Zj (Qr (i:=3) nd rfl (Or.inl Xb)) (Zj (Qr (i:=4) nd rfl (Or.inl Xb)) (Zj (Qr (i:=5) nd rfl (Or.inl Xb)) Xz))))
   (Qd (Zb (Q9 (pv 2) T.cl mT GT v bT .nil Q5 (Qa (pv 4) Qe)))
   (Qh (Zb (Q9 (pv 2) T.cl mT GT v bT .nil Q5 (Qa (pv 5) Qe))))))
  (Qd (Ye GX rfl (Qlo rfl B.enumerate (Qa (pv 1) Qe)) (W9 rfl (Zj (Qr (i:=6) nd rfl (Or.inl Xb)) (Zj (Qr (i:=7) nd rfl (Or.inl Xb)) Xz)))
   (Qh (Zm (Qs Wf (Qo Q4 (pv 7) Qj (λ_ _=>rfl)) Zc (Q7 _))
    (Qh (Zb (Q9 (pv 2) T.cl mM GM aq bM .nil Q5 (Qa (Qo Q4 (pv 7) Qj (λ_ _=>rfl)) (Qa (Qo Q4 (pv 7) Qj (λ_ _=>rfl)) (Qa (Za (Qa Zc (Qa (pv 6) Qe))) Qe)))))) Q8)))
  (Qh (Qy (pv 2))))),?_⟩
 refine⟨_,Xb,λn dx hn an aD=>?_⟩
 have s0:Q3 H (upd (upd H dx (.own n)) n (.ins C dx [])):=λc o e=>by
  rw[Qf (Qc e hn),Qf (Qc e an)]
  exact e
 refine⟨n,dx,f,ws,fs,Xb,Qb,s0 _ _ hf,L2.Paired.Z8 ar λ_ _ h=>h.Qm (Qu.of s0),λA H1 fA X1 k1 w1=>⟨Xb,?_⟩⟩
 have s1:Q3 H H1:=λc o e=>k1 c o (s0 c o e) (Qc e hn)
 have n1:∀b,Own A [] b->H b=none:=λb hb=>s0.free (w1 b hb)
 have ad:es.length=l.length:=Gs L
 refine⟨_,Xb,t,Xb,⟨_,Zd.of (s1 _ _ ht)⟩,Y2 (K:=K) (a:=t) (xs:=es) (λi σ H2=>∃(x3 x4 x5:Option V)(S:List Nat)(ml ul:Nat->Addr),σ=[some (.ref f),some (.ref t),some (.ref n),x3,x4,x5,none,none]/\Frs P w C H2 n (na A ml ul) fs S/\Q3 H H2/\(∀b,Own (na A ml ul) S b->H b=none)/\∀e∈l.take i,e.2.1∈S/\e.2.2∈S)
  ⟨_,_,_,[],A.ml,A.ul,Xb,⟨X1,Et,(λp R=>nomatch R),(λp R=>nomatch R)⟩,s1,n1,by simp⟩ (λi σ H2 _⟨_,_,_,_,_,_,_,_,g,_⟩=>Zd.of (g _ _ ht)) ?_ ?_⟩
 ·rintro i y σ H2 hi ⟨x3,x4,x5,S,ml,ul,rfl,d,M,n2,W⟩
  obtain⟨⟨k,a,b⟩,O,D,rfl,J⟩:=Qv L hi
  obtain⟨al,bl⟩:=ao _ (Gb O)
  obtain⟨ah,o2⟩:=d.at_.ob
  refine⟨D,_,Xb,Z4.of (M _ _ J),Xb,_,_,Xb,_,_,Xb,_,_,Xb,Xb,?_⟩
  refine⟨_,Xb,n,ah,_,Xb,o2,O4 _,_,Xb,n,na A ml ul,fs,rk,S,a,Xb,d,tk,al,ac a,λS3 ae af u X3 G a3 _ F3=>?_⟩
  have g3:Q3 H u:=λc o e=>F3.keep c o (M c o e) (λz=>by rw[n2 c z]at e;cases e)
  have n3:∀b,Own (na A ae af) S3 b->H b=none:=λb hb=>(F3.own b hb).elim (n2 b) (λz=>M.free z)
  obtain⟨ai,o3⟩:=X3.at_.ob
  refine⟨_,Xb,n,ai,_,Xb,o3,O4 _,_,Xb,n,na A ae af,fs,rk,S3,b,Xb,X3,tk,bl,ac b,λS4 au av H4 X4 m b4 _ F4=>?_⟩
  have g4:Q3 H H4:=λc o e=>F4.keep c o (g3 c o e) (λz=>by rw[n3 c z]at e;cases e)
  refine⟨_,_,_,S4,au,av,Xb,X4,g4,λb hb=>(F4.own b hb).elim (n3 b) (λz=>g3.free z),λe ab=>?_⟩
  rw[Tf,O]at ab
  rcases Gd.mp ab with h|h
  ·exact⟨m _ (G _ (W e h).1),m _ (G _ (W e h).2)⟩
  ·have:e=(k,a,b):=by simpa using h
   subst this
   exact⟨m _ a3,b4⟩
 rintro σ H2 ⟨x3,x4,x5,S,ml,ul,rfl,d,M,n2,W⟩
 rw[ad,Te]at W
 have aw:S.length<=fs.length:=Xf (S:=List.range fs.length) d.nd (λr v=>DY.mpr (d.lt r v))|>λh=>by rw[DR]at h;exact h
 have ni:Xv (ρ:=Uu) (Ya fs) (Zi fs) (fresh (Ya fs) (Zi fs) S) []:=Qnw d.nd d.cl λp R r v e1 e2=>tk.inj p r (d.lt p R) (d.lt r v) e1 e2
 have N0:Nok P w C H H2 n (na A ml ul) fs S.length (fresh (Ya fs) (Zi fs) S):=⟨d.at_,ni,⟨tk.str,d.lt,d.cl,λp=>by have:=tk.few p;omega⟩,n2,hn,M,by show S.length<=60;omega,Dg (Qnd d.nd tk.few) (by omega),Qpv _,by show S.length<=S.length+0*_;omega⟩
 have U0:Tup fs (fresh (Ya fs) (Zi fs) S) l 0:=⟨W,λj p r hj=>by omega,λE X _ p R r v e=>by
  have e:p=r:=e
  subst e
  exact X.refl p,λy hy=>nomatch hy⟩
 refine⟨_,Xb,t,es,Xb,Zd.of (M _ _ ht),Qg1 (K:=K) (a:=t) (xs:=es) (λi σ u=>∃(x6 x7:Option V)(tb:Nat)(x:Nn),σ=[some (.ref f),some (.ref t),some (.ref n),x3,x4,x5,x6,x7]/\Nok P w C H u n (na A ml ul) fs tb x/\Tup fs x l i)
  ⟨_,_,_,_,Xb,N0,U0⟩ (λi σ u _⟨_,_,_,_,_,N,_⟩=>Zd.of (N.Og _ _ ht)) ?_ ?_⟩
 ·rintro i y c σ u hi ⟨x6,x7,tb,x,rfl,N,U⟩ hc
  obtain⟨⟨k,a,b⟩,O,D,rfl,J⟩:=Qv L hi
  have s4:=Qg hc (.tup [.int (i:Int),.ref D])
  have g4:=N.Og.trans s4
  have I:=g4 _ _ J
  obtain⟨aS,bS⟩:=U.ins _ (Gb O)
  have N4:Nok P w C H (upd u c (.tup [.int (i:Int),.ref D])) n (na A ml ul) fs tb x:=⟨N.at_.same s4,N.inv,N.fok,N.new,N.nn,g4,N.len,N.tt,N.cl,N.tbb⟩
  refine⟨c,_,Xb,Z4.of Qb,Xb,_,_,Xb,_,_,Xb,Xb,?_⟩
  refine⟨_,Xb,D,_,_,_,Xb,Xb,Z4.of I,Rm _ _,Xb,_,Xb,?_⟩
  rw[Yf]
  by_cases hk:k="same"
  ·subst hk
   rw[EJ]
   refine Y0 ?_
   obtain⟨aj,o4⟩:=N4.at_.ob
   refine⟨_,Xb,n,aj,_,Xb,o4,Qhc _,_,Xb,D,_,_,_,Xb,Xb,Z4.of I,Im _ _ _,_,Xb,D,_,_,_,Xb,Xb,Z4.of I,Qgt _ _ _ _,_,Xb,by show 2<=sizeLine;decide,λc5 am=>?_⟩
   have s5:=Qg am (.tup [.str "told",.int (i:Int)])
   have g5:=g4.trans s5
   have N5:Nok P w C H (upd (upd u c (.tup [.int (i:Int),.ref D])) c5 (.tup [.str "told",.int (i:Int)])) n (na A ml ul) fs tb x:=⟨N4.at_.same s5,N.inv,N.fok,N.new,N.nn,g5,N.len,N.tt,N.cl,N.tbb⟩
   have ax:=N.len
   have ak:=N.tt
   have ay:=N.cl
   have az:=N.tbb
   have aA:x.links.length*Vk x+cls x*Vk x<=60*6000:=by
    rw[<-Ew]
    exact Nat.mul_le_mul (by omega) ak
   refine⟨n,na A ml ul,fs,tb,x,a,b,.ref c5,some (.told i),Xb,N5.at_,N.fok,⟨c5,Xb,Qb⟩,by simp,aS,bS,N.inv,by omega,by omega,by omega,by omega,λx' H6 Y6 M6 F6=>?_⟩
   exact⟨_,_,_,x',Xb,N5.merged Y6 M6 F6,U.step O M6⟩
  ·have:(k==("same":Str))=false:=by simpa using hk
   rw[this]
   exact Zq ⟨_,_,tb,x,Xb,N4,U.skip O hk⟩
 ·rintro σ u ⟨x6,x7,tb,x,rfl,N,U⟩
  rw[ad]at U
  exact⟨_,Xb,q n (na A ml ul) tb x u N fA U⟩
end
end K05
namespace L2
open PySem PySem.Spec PyProof.Rows
def Qpq:V->List V->Hp->VK->Prop:=λx vs H Q=>∃d k a kvs,x=.ref d/\vs=[kV k,a]/\H d=some (.dK kvs)/\kvs.length<sizeLine/\
 (∀v,Yu kvs k=some v->Q v H)/\(Yu kvs k=none->Q a (upd H d (.dK (Wo kvs k a))))
theorem Qi3{X:Cx}:MtR X "dict.setdefault" Qpq:=by
 intro pins s σ H x vs v us Q I t rv h
 obtain⟨d,k,c,kvs,rfl,rfl,e,hz,o,p⟩:=h
 cases(show v=Value.ref d from t)
 obtain⟨B,u,rfl,r,g⟩:=vals2 rv
 obtain⟨z,hd,A,rel,f⟩:=Qlj I.Zy e
 refine call_meetsIn E7 f.typeIs E1 (ER _ _ _) (kt_meets_setdefault (Yh X.prog X.w) d (Qef r) hd u) ⟨A,f,by rw[<-rel.length];exact z,λw hw=>?_,λl h' b n=>?_⟩
 ·have a:=rel.val k
  rw[hw]at a
  cases q:Yu kvs k with
  |none=>rw[q]at a;exact(show False from a).elim
  |some y=>
   rw[q]at a
   exact⟨y,H,I.tok _,a,o y q⟩
 ·have a:=rel.val k
  rw[l]at a
  cases q:Yu kvs k with
  |some y=>rw[q]at a;exact(show False from a).elim
  |none=>
   have i:∃q,h'.get? d=some q:=let⟨q,_,_,m,_⟩:=b;⟨q,m⟩
   have j:(Wo kvs k c).length<=sizeLine:=by have:=X6 kvs k c;omega
   exact⟨c,_,Ig I (by rw[e];exact True.intro) n i (Qoz j hd (rel.put k g) b),g,p q⟩
end L2
namespace PySem
structure Qle(prog:Program)(w:World)(A:Around)(I S:Addr)(fp:List Addr)(n:Nat)(St:Nat->Heap->List Value->Prop)(Out:Heap->List Value->Prop):Prop where
 item:∀(i:Nat)(s:Shared)(acc:List Value)(Q:Option Value->Shared->Prop)(E:Value->Shared->Prop),i<n->St i s.heap acc->(∀v h' tk,St (i+1) h' (acc++[v])->(∀b o,b∉fp->s.heap.get? b=some o->h'.get? b=some o)->Q (some v) {s with heap:=h',toks:=tk})->wpAny (model prog w) A (pyNext (.ref I)) Q E s
 done:∀(s:Shared)(acc:List Value)(Q:Option Value->Shared->Prop)(E:Value->Shared->Prop),St n s.heap acc->(∀h' tk,Out h' acc->(∀b o,b∉fp->s.heap.get? b=some o->h'.get? b=some o)->Q none {s with heap:=h',toks:=tk})->wpAny (model prog w) A (pyNext (.ref I)) Q E s
 keep:∀(i:Nat)(h h':Heap)(acc:List Value),St i h acc->(∀b o,b≠S->h.get? b=some o->h'.get? b=some o)->S<h'.objs.size->St i h' acc
section
variable{prog:Program}{w:World}{A:Around}{E:Value->Shared->Prop}{s:Shared}{R:Result->Shared->Prop}{I S:Addr}{fp:List Addr}{n:Nat}{St:Nat->Heap->List Value->Prop}{Out:Heap->List Value->Prop}
theorem Qqs(G:Qle prog w A.in1 I S fp n St Out)(m:S∉fp)(z:n<=sizeLine)(res:Value){h₁:Heap}
  (t:∀h' tk acc c,(∀b o,b≠S->b∉fp->h₁.get? b=some o->h'.get? b=some o)->h'.get? S=some {cls:=.type "list",dict:=none,data:=.seq acc c,slots:=#[]}->acc.size=n->Out h' acc.toList->R (.ok (.ret res)) {s with heap:=h',toks:=tk}):
  ∀(k i:Nat)(h:Heap)(tk c:Nat)(acc:Array Value),n - i=k->i<=n->St i h acc.toList->(∀b o,b≠S->b∉fp->h₁.get? b=some o->h.get? b=some o)->acc.size=i->
   h.get? S=some {cls:=.type "list",dict:=none,data:=.seq acc c,slots:=#[]}->codeAny (model prog w) A (.builtin "list.extend.loop" ⟨[.ref S,.ref I,res],[]⟩) R {s with heap:=h,toks:=tk}:=by
 intro k
 induction k with
 |zero=>
  intro i h tk c acc u hi j a f hS
  have q:i=n:=by omega
  subst q
  refine codeAny_builtin S9 ?_
  rw[Around.under_plainId DK _]
  show wpAny _ A.in1 (pyNext (.ref I)>>=_) _ _ _
  refine Ga (G.done {s with heap:=h,toks:=tk} acc.toList _ _ j λh' l x r=>?_)
  exact Gf (t h' l acc c (λb o h1 h2 e=>r b o h2 (a b o h1 h2 e)) (r S _ m hS) f x)
 |succ k y=>
  intro i h tk c acc u hi j a f hS
  refine codeAny_builtin S9 ?_
  rw[Around.under_plainId DK _]
  show wpAny _ A.in1 (pyNext (.ref I)>>=_) _ _ _
  refine Ga (G.item i {s with heap:=h,toks:=tk} acc.toList _ _ (by omega) j λv h' l p g=>?_)
  dsimp only at g⊢
  have d:=g S _ m hS
  have up:∀b o,b≠S->h'.get? b=some o->(h'.update S (Obj.mapSeq (·.push v))).get? b=some o:=λb o hb e=>(DU _ _ (Gq hb)).trans e
  show wpAny _ A.in1 (updateSeq S (·.push v)>>=_) _ _ _
  refine Ga ?_
  refine Sz d rfl (Gf ⟨L9 DK _,y (i+1) _ l _ (acc.push v) (by omega) (by omega) (G.keep _ _ _ _ (by rw[Array.toList_push];exact p) up (Gw (T9 _ d Xb)))
   (λb o h1 h2 e=>up b o h1 (g b o h2 (a b o h1 h2 e))) (by rw[Array.size_push,f]) (T9 _ d Xb)⟩) (by omega) (by show(acc.push v).size<=sizeLine+1;rw[Array.size_push];omega)
theorem Qhs{T:String}{hb:Bool}{Q:Value->Shared->Prop}(G:Qle prog w A.in1.in1 I s.heap.objs.size fp n St Out)(u:∀b∈fp,b<s.heap.objs.size)(C:I<s.heap.objs.size)(M:n<=sizeLine)(v:∀h2:Heap,(∀b o,s.heap.get? b=some o->h2.get? b=some o)->s.heap.objs.size<h2.objs.size->St 0 h2 [])
  (H:∀h acc,St 0 h acc->Shared.TypeIs {s with heap:=h} (.ref I) T)(P:(Value.type T==Value.type "list")=false)(R:(Value.type T==Value.type "tuple")=false)
  (self:∀(A:Around)(E:Value->Shared->Prop)(h:Heap)(Q:Value->Shared->Prop),St 0 h []->Q (.ref I) {s with heap:=h}->wpAny (model prog w) A (pyIter (.ref I)) Q E {s with heap:=h})
  (hint:∀(A:Around)(E:Value->Shared->Prop)(h:Heap)(Q:Bool->Shared->Prop),St 0 h []->Q hb {s with heap:=h}->wpAny (model prog w) A (Builtin.List.listLengthHint (.ref I)) Q E {s with heap:=h})
  (D:∀h' tk acc c,(∀b o,b∉fp->s.heap.get? b=some o->h'.get? b=some o)->h'.get? s.heap.objs.size=some {cls:=.type "list",dict:=none,data:=.seq acc c,slots:=#[]}->acc.size=n->Out h' acc.toList->Q (.ref s.heap.objs.size) {s with heap:=h',toks:=tk}):
  wpAny (model prog w) A (call (.type "list") [.ref I]) Q E s:=by
 have t:s.heap.objs.size∉fp:=λL=>DW _ (u _ L)
 have q:s.heap.objs.size≠I:=TQ C
 refine callType_codes (Q₁:=λobj i=>obj=.ref s.heap.objs.size/\i={s with heap:=s.heap.push {cls:=.type "list",data:=.seq #[]}}) PySem.F.called_list (PySem.F.typeCall_list_1 _) PySem.F.entry_list_init
  (code_list_new _ ⟨Xb,Xb⟩) λobj i h₁=>?_
 obtain⟨rfl,rfl⟩:=h₁
 have hS:(s.heap.push {cls:=.type "list",data:=.seq #[]}).get? s.heap.objs.size=some {cls:=.type "list",data:=.seq #[]}:=Gz _ rfl
 refine⟨⟨_,hS,Xb⟩,PySem.F.args_list_init_2 _ _,?_⟩
 show wpAny _ _ (do let x<-Builtin.List.listItems (.ref s.heap.objs.size);Builtin.List.listUpdate (.ref s.heap.objs.size) (λ_=>#[]);letGo x.toList.reverse;Builtin.List.listExtendWith (.ref s.heap.objs.size) (.ref I) .none) _ _ _
 refine Ga ?_
 unfold Builtin.List.listItems
 refine Ga (Do hS rfl (Gf ?_))
 show wpAny _ _ (updateSeq s.heap.objs.size (λ_=>#[])>>=λ_=>letGo (#[]:Array Value).toList.reverse>>=λ_=>Builtin.List.listExtendWith (.ref s.heap.objs.size) (.ref I) .none) _ _ _
 refine Ga (Sz hS rfl ?_)
 have a:=T9 (Obj.mapSeq (λ_=>(#[]:Array Value))) hS rfl
 refine Ga (Lc ?_)
 generalize k:(s.heap.push {cls:=.type "list",data:=.seq #[]}).update s.heap.objs.size (Obj.mapSeq (λ_=>(#[]:Array Value)))=h2 at a
 have z:∀b o,s.heap.get? b=some o->h2.get? b=some o:=λb o e=>by
  rw[<-k]
  exact(DU _ _ (Gq (Ts (Gw e)))).trans (Gh _ e)
 have g:St 0 h2 []:=v h2 z (Gw a)
 clear k
 unfold Builtin.List.listExtendWith
 refine Ga (wpAny_typeOf (T:=T) (H _ _ g) ?_)
 have h1:Builtin.List.listSameRef (.ref s.heap.objs.size) (.ref I)=false:=by simp[Builtin.List.listSameRef,q]
 simp only[h1,P,R,Bool.or_false,T4,DE]
 refine Ga (self _ _ h2 _ g ?_)
 refine Ga (Dj (hint _ _ h2 _ g ?_))
 have fin:∀(j:Heap)(c:Nat),St 0 j []->(∀b o,b≠s.heap.objs.size->h2.get? b=some o->j.get? b=some o)->j.get? s.heap.objs.size=some {cls:=.type "list",dict:=none,data:=.seq #[] c,slots:=#[]}->
   codeAny (model prog w) A.in1 (.builtin "list.extend.loop" ⟨[.ref s.heap.objs.size,.ref I,.none],[]⟩) (wants (λr l=>r=Value.none/\Q (Value.ref s.heap.objs.size) l) E) {s with heap:=j,toks:=s.toks}:=by
  intro j c y O p
  refine Qqs (A:=A.in1) (s:=s) (h₁:=s.heap) G t M .none (λh' tk acc c J m K N=>⟨Xb,D h' tk acc c (λb o hb e=>J b o (Ts (Gw e)) hb e) m K N⟩) n 0 j s.toks c #[] (by omega) (Ta _) y (λb o hb _ e=>O b o hb (z b o e)) rfl p
 refine SA (λ_=>?_) (λ_=>Gf ⟨L9 DK _,fin h2 _ g (λb o _ e=>e) a⟩)
 refine Ga (Si ?_)
 refine Ga ?_
 show wpAny _ _ (updateSeq s.heap.objs.size (·.push .none)>>=λ_=>updateSeq s.heap.objs.size (·.pop)) _ _ _
 refine Ga (Sz a rfl ?_)
 have d:=T9 (Obj.mapSeq (·.push Value.none)) a rfl
 refine Sz (hz:=by seq_fits) d rfl ?_
 have f:=T9 (Obj.mapSeq (·.pop)) d rfl
 have B:∀b o,b≠s.heap.objs.size->h2.get? b=some o->((h2.update s.heap.objs.size (Obj.mapSeq (·.push Value.none))).update s.heap.objs.size (Obj.mapSeq (·.pop))).get? b=some o:=λb o hb e=>
  (DU _ _ (Gq hb)).trans ((DU _ _ (Gq hb)).trans e)
 exact Gf ⟨L9 DK _,fin _ _ (G.keep _ _ _ _ g B (Gw f)) B f⟩
end
structure Nxt(prog:Program)(w:World)(it l:Addr)(xs:Array Value)(St:Nat->Heap->Prop):Prop where
 item:∀(A:Around)(E:Value->Shared->Prop)(s:Shared)(i:Nat)(x:Value)(Q:Value->Shared->Prop),St i s.heap->xs[i]?=some x->(∀h',St (i+1) h'->Heap.SameBut it s.heap h'->Q x {s with heap:=h'})->wpAny (model prog w) A (Builtin.SmallTypes.nextOf (.ref it)) Q E s
 fin:∀(A:Around)(E:Value->Shared->Prop)(s:Shared)(i:Nat)(Q:Value->Shared->Prop),A.handled=none->St i s.heap->xs[i]?=none->(∀h' e,Heap.ExtBut it s.heap h'->(∃o,h'.get? e=some o/\o.cls=.type "StopIteration")->E (.ref e) {s with heap:=h'})->wpAny (model prog w) A (Builtin.SmallTypes.nextOf (.ref it)) Q E s
 keep:∀(i:Nat)(h h':Heap),St i h->(∀b,b=it\/b=l->∀o,h.get? b=some o->h'.get? b=some o)->St i h'
 there:∀(i:Nat)(h:Heap),St i h->it<h.objs.size/\l<h.objs.size
theorem Qiu{prog:Program}{w:World}{it l:Addr}{xs:Array Value}(b:l≠it):Nxt prog w it l xs (λi h=>h.IsListIter it l i/\h.IsList l xs) where
 item:=λA E s i x Q st c g=>wpAny_nextOf_list_item st.1 st.2 c λh' a d=>g h' ⟨a,st.2.extBut d.extBut b⟩ d
 fin:=λA E s i Q j st c f=>wpAny_nextOf_list_end j st.1 st.2 c f
 keep:=λi h h' st k=>⟨st.1.at λo e=>k it (.inl Xb) o e,st.2.at λo e=>k l (.inr Xb) o e⟩
 there:=λi h st=>⟨let⟨_,e,_⟩:=st.1;Gw e,let⟨_,e,_⟩:=st.2;Gw e⟩
section
variable{prog:Program}{w:World}{A:Around}{E:Value->Shared->Prop}{s:Shared}
theorem Us{it t:Addr}{i:Nat}{a:Array Value}{x:Value}{Q:Value->Shared->Prop}(b:s.heap.IsTupleIter it t i)(h:s.heap.IsTuple t a)(j:a[i]?=some x)
  (f:∀h',h'.IsTupleIter it t (i+1)->Heap.SameBut it s.heap h'->Q x {s with heap:=h'}):wpAny (model prog w) A (Builtin.SmallTypes.nextOf (.ref it)) Q E s:=by
 obtain⟨o,c,g,hd⟩:=id b
 obtain⟨l,e,_,k,d⟩:=h
 unfold Builtin.SmallTypes.nextOf
 refine Ga (T5 (name:=Str.ofString "__next__") b.typeIs D2
  (TR D2 b.typeIs SH ?_ (SD _)))
 show wpAny _ _ (field (.ref it) 0>>=_) _ _ s
 refine Ga (TZ c hd (x:=.ref t) rfl ?_)
 show wpAny _ _ (if(Value.ref t==Value.none)=true then _ else _) _ _ s
 rw[Gj (show¬((Value.ref t==Value.none)=true)from GV)]
 show wpAny _ _ (field (.ref it) 1>>=_) _ _ s
 refine Ga (TZ c hd (x:=.int i 0) rfl ?_)
 show wpAny _ _ (seqItems? (.ref t)>>=_) _ _ s
 refine Ga (Do e d ?_)
 simp only[Dz,j]
 refine Ga (EI c hd (by simp) (Gf ⟨x,Xb,Gf (f _ ?_ (Dk ..))⟩))
 exact⟨_,T9 _ c (Sg (D0 hd _)),(Lf ..).trans g,by
  rw[D0 hd];simp[rawInt]⟩
theorem Jb{it t:Addr}{i:Nat}{b:Array Value}{Q:Value->Shared->Prop}(h:A.handled=none)(c:s.heap.IsTupleIter it t i)(k:s.heap.IsTuple t b)(l:b[i]?=none)
  (j:∀h' e,Heap.ExtBut it s.heap h'->(∃o,h'.get? e=some o/\o.cls=.type "StopIteration")->E (.ref e) {s with heap:=h'}):wpAny (model prog w) A (Builtin.SmallTypes.nextOf (.ref it)) Q E s:=by
 obtain⟨o,f,n,hd⟩:=id c
 obtain⟨q,g,_,p,d⟩:=k
 unfold Builtin.SmallTypes.nextOf
 refine Ga (T5 (name:=Str.ofString "__next__") c.typeIs D2
  (TR D2 c.typeIs SH ?_ (SD _)))
 show wpAny _ _ (field (.ref it) 0>>=_) _ _ s
 refine Ga (TZ f hd (x:=.ref t) rfl ?_)
 show wpAny _ _ (if(Value.ref t==Value.none)=true then _ else _) _ _ s
 rw[Gj (show¬((Value.ref t==Value.none)=true)from GV)]
 show wpAny _ _ (field (.ref it) 1>>=_) _ _ s
 refine Ga (TZ f hd (x:=.int i 0) rfl ?_)
 show wpAny _ _ (seqItems? (.ref t)>>=_) _ _ s
 refine Ga (Do g d ?_)
 simp only[Dz,l]
 refine Ga (Si (Ga (EI f hd (by simp) ?_)))
 show wpAny _ _ (newExc (.type "StopIteration") []>>=_) _ _ _
 refine Ga ?_
 simp only[newExc,newTuple]
 refine Ga (TU ?_ (by size_fits))
 refine Ga (m:=firstArgMember _ _) (wpAny_of_eq (a:=Value.none) (by first|rfl|(simp only[firstArgMember];rfl)) ?_)
 refine TU ?_ (by size_fits)
 simp only[raiseNew]
 refine Ga (L8 ?_)
 first|rw[show A.in1.handled=none from h]|rw[h]
 refine Ga (Gf (wpAny_throw ?_))
 exact j _ _ (((Dk ..).extBut.push _).push _) ⟨_,Gz _ Xb,Xb⟩
end
theorem Qlc{prog:Program}{w:World}{it l:Addr}{xs:Array Value}(b:l≠it):Nxt prog w it l xs (λi h=>h.IsTupleIter it l i/\h.IsTuple l xs) where
 item:=λA E s i x Q st d j=>Us st.1 st.2 d λh' a f=>j h' ⟨a,st.2.extBut f.extBut b⟩ f
 fin:=λA E s i Q m st d g=>Jb m st.1 st.2 d g
 keep:=λi h h' st k=>⟨let⟨o,c,r⟩:=st.1;⟨o,k it (.inl Xb) o c,r⟩,let⟨o,c,r⟩:=st.2;⟨o,k l (.inr Xb) o c,r⟩⟩
 there:=λi h st=>⟨let⟨_,e,_⟩:=st.1;Gw e,let⟨_,e,_⟩:=st.2;Gw e⟩
abbrev Js(h:Heap)(z TI TO a:Addr)(f:Bool):Prop:=h.get? z=some {cls:=.type "zip",dict:=none,data:=.fields #[rawInt a,.bool f,.bool false,.ref TI,.ref TO],slots:=#[]}
section
variable{prog:Program}{w:World}{A:Around}{E:Value->Shared->Prop}{s:Shared}{z TI TO i1 i2 l1 l2:Addr}{k:Nat}{xs ys:Array Value}{S1 S2:Nat->Heap->Prop}
theorem Qja{x y a b:Value}{Q:Value->Shared->Prop}(D:ZipApart z TI TO i1 i2 l1 l2)(W:Nxt prog w i1 l1 xs S1)(X:Nxt prog w i2 l2 ys S2)
  (hz:IsZip s.heap z TI TO .none)(aa:IsPair s.heap TI (.ref i1) (.ref i2))(ab:IsPair s.heap TO a b)(h1:S1 k s.heap)(h2:S2 k s.heap)(hx:xs[k]?=some x)(hy:ys[k]?=some y)
  (hQ:∀h',Js h' z TI TO s.heap.objs.size false->IsPair h' TO x y->S1 (k+1) h'->S2 (k+1) h'->IsPair h' s.heap.objs.size x y->
   (∀c o,c≠z->c≠TO->c≠i1->c≠i2->s.heap.get? c=some o->h'.get? c=some o)->Q (.ref s.heap.objs.size) {s with heap:=h'}):
  wpAny (model prog w) A (Builtin.«zip.__next__» ⟨[.ref z],[]⟩) (λfin s'=>∃v,fin=.done (.ret v)/\Q v s') E s:=by
 show wpAny _ _ (field (.ref z) 2>>=_) _ _ _
 refine Ga (TZ hz rfl (x:=.bool false) rfl ?_)
 show wpAny _ _ (field (.ref z) 3>>=_) _ _ _
 refine Ga (TZ hz rfl (x:=.ref TI) rfl ?_)
 refine Ga (Do aa rfl ?_)
 show wpAny _ _ (Builtin.SmallTypes.ownedTupleIsFree (.ref z)>>=_) _ _ _
 refine Ga ?_
 unfold Builtin.SmallTypes.ownedTupleIsFree
 refine Ga (TZ hz rfl (x:=.none) rfl (Gf ?_))
 simp only[LI]
 refine Ga (Si ?_)
 refine Ga (TZ hz rfl (x:=.ref TO) rfl ?_)
 refine Ga (DN hz (by simp) λh₁ q C=>?_)
 replace q:IsZip h₁ z TI TO .ellipsis:=q
 have Y:∀c o,c≠z->s.heap.get? c=some o->h₁.get? c=some o:=λc o h e=>C.extBut _ _ h e
 refine Ga ?_
 simp only[List.zipIdx_cons,List.zipIdx_nil,EW,SW]
 refine Ga (Ga (Lp ?_))
 show wpAny _ _ (Builtin.SmallTypes.nextOf (.ref i1)>>=_) _ _ _
 refine Ga (W.item _ _ _ k x _ (W.keep k _ h₁ h1 λc N o e=>Y c o (by rcases N with rfl|rfl;exact D.i1z;exact D.l1z) e) hx λT L n=>Gf ?_)
 have t:IsPair T TO a b:=n.extBut _ _ D.TOi1 (Y _ _ D.TOz ab)
 refine Ga (Do t rfl ?_)
 refine Ga (Sq t λI m j=>?_)
 replace m:IsPair I TO x b:=m
 refine Ga (Lc (Gf ?_))
 have Z:∀c o,c≠z->c≠i1->c≠TO->s.heap.get? c=some o->I.get? c=some o:=λc o J R S e=>j.extBut _ _ S (n.extBut _ _ R (Y c o J e))
 refine Ga (Ga (Lp ?_))
 show wpAny _ _ (Builtin.SmallTypes.nextOf (.ref i2)>>=_) _ _ _
 refine Ga (X.item _ _ _ k y _ (X.keep k _ I h2 λc N o e=>by
  rcases N with rfl|rfl
  ·exact Z _ o D.i2z D.i12.symm D.TOi2.symm e
  ·exact Z _ o D.l2z D.l2i1 D.l2TO e) hy λU M g=>Gf ?_)
 have u:IsPair U TO x b:=g.extBut _ _ D.TOi2 m
 refine Ga (Do u rfl ?_)
 refine Ga (Sq u λd i f=>?_)
 replace i:IsPair d TO x y:=i
 refine Ga (Lc (Gf (Gf ?_)))
 refine Ga (Do i rfl ?_)
 refine Ga (wpAny_newTuple ?_)
 have hsz:d.objs.size=s.heap.objs.size:=by rw[f.1,g.1,j.1,n.1,C.1]
 have H:IsZip d z TI TO .ellipsis:=f.extBut _ _ D.TOz.symm (g.extBut _ _ D.i2z.symm (j.extBut _ _ D.TOz.symm (n.extBut _ _ D.i1z.symm q)))
 have O:∀c o,c≠z->c≠TO->c≠i1->c≠i2->s.heap.get? c=some o->d.get? c=some o:=λc o J R S c4 e=>f.extBut _ _ R (g.extBut _ _ c4 (Z c o J S R e))
 have K:z<d.objs.size:=Gw H
 show wpAny _ _ (Builtin.SmallTypes.ownedTupleHandOut (.ref z) (.ref d.objs.size)>>=_) _ _ _
 refine Ga ?_
 unfold Builtin.SmallTypes.ownedTupleHandOut
 have P:IsZip (d.push {cls:=.type "tuple",data:=.seq #[x,y]}) z TI TO .ellipsis:=Gh _ H
 refine Ga (DN P (by simp) λV r F=>?_)
 replace r:IsZip V z TI TO (rawInt d.objs.size):=r
 refine DN r (by simp) λl p G=>?_
 replace p:IsZip l z TI TO (rawInt d.objs.size):=p
 have up:∀c o,c≠z->d.get? c=some o->l.get? c=some o:=λc o J e=>G.extBut _ _ J (F.extBut _ _ J (Gh _ e))
 have B:IsPair l d.objs.size x y:=G.extBut _ _ (TQ K) (F.extBut _ _ (TQ K) (Gz _ Xb))
 rw[hsz]at p B
 refine Gf ⟨_,Xb,?_⟩
 show Q (.ref d.objs.size) _
 rw[hsz]
 have a1:S1 (k+1) l:=W.keep _ _ _ L λc N o e=>by
  rcases N with rfl|rfl
  ·exact up _ o D.i1z (f.extBut _ _ D.TOi1.symm (g.extBut _ _ D.i12 (j.extBut _ _ D.TOi1.symm e)))
  ·exact up _ o D.l1z (f.extBut _ _ D.l1TO (g.extBut _ _ D.l1i2 (j.extBut _ _ D.l1TO e)))
 have a2:S2 (k+1) l:=X.keep _ _ _ M λc N o e=>by
  rcases N with rfl|rfl
  ·exact up _ o D.i2z (f.extBut _ _ D.TOi2.symm e)
  ·exact up _ o D.l2z (f.extBut _ _ D.l2TO e)
 exact hQ l p (up _ _ D.TOz i) a1 a2 B λc o J R S c4 e=>up c o J (O c o J R S c4 e)
theorem Qeh{a:Addr}{f:Bool}{h:Obj}{Q:Bool->Shared->Prop}(hz:Js s.heap z TI TO a f)(g:s.heap.get? a=some h)(e:∀h',Js h' z TI TO a true->Heap.SameBut z s.heap h'->Q false {s with heap:=h'}):
  wpAny (model prog w) A (Builtin.SmallTypes.ownedTupleIsFree (.ref z)) Q E s:=by
 unfold Builtin.SmallTypes.ownedTupleIsFree
 refine Ga (TZ hz rfl (x:=rawInt a) rfl ?_)
 show wpAny _ _ (loadIfAlive ((a:Int).toNat)>>=_) _ _ _
 rw[Dz]
 refine Ga (PySem.W.kdx_alive g ?_)
 simp only[Option.isNone_some,T4,DE]
 refine Ga (TZ hz rfl (x:=.bool f) rfl ?_)
 cases f with
 |true=>
  rw[Gj (show¬((Value.bool true !=Value.bool true)=true)from GV)]
  exact Gf (e _ hz (Heap.SameBut.refl _ _))
 |false=>
  rw[Gp (show(Value.bool false !=Value.bool true)=true from rfl)]
  exact Ga (DN hz (by simp) λd b c=>Gf (e d b c))
end
section
variable{prog:Program}{w:World}{A:Around}{E:Value->Shared->Prop}{s:Shared}{z TI TO i1 i2 l1 l2:Addr}{k:Nat}{xs ys:Array Value}{S1 S2:Nat->Heap->Prop}
theorem Qpl{x y:Value}{a:Addr}{f:Bool}{M:Obj}{Q:Value->Shared->Prop}(D:ZipApart z TI TO i1 i2 l1 l2)(r:Nxt prog w i1 l1 xs S1)(t:Nxt prog w i2 l2 ys S2)
  (hz:Js s.heap z TI TO a f)(J:s.heap.get? a=some M)(F:IsPair s.heap TI (.ref i1) (.ref i2))(h1:S1 k s.heap)(h2:S2 k s.heap)(K:xs[k]?=some x)(L:ys[k]?=some y)
  (I:∀h',Js h' z TI TO a true->S1 (k+1) h'->S2 (k+1) h'->IsPair h' s.heap.objs.size x y->
   (∀c o,c≠z->c≠i1->c≠i2->s.heap.get? c=some o->h'.get? c=some o)->Q (.ref s.heap.objs.size) {s with heap:=h'}):
  wpAny (model prog w) A (Builtin.«zip.__next__» ⟨[.ref z],[]⟩) (λfin s'=>∃v,fin=.done (.ret v)/\Q v s') E s:=by
 show wpAny _ _ (field (.ref z) 2>>=_) _ _ _
 refine Ga (TZ hz rfl (x:=.bool false) rfl ?_)
 show wpAny _ _ (field (.ref z) 3>>=_) _ _ _
 refine Ga (TZ hz rfl (x:=.ref TI) rfl ?_)
 refine Ga (Do F rfl ?_)
 show wpAny _ _ (Builtin.SmallTypes.ownedTupleIsFree (.ref z)>>=_) _ _ _
 refine Ga (Qeh hz J λh₁ n i=>?_)
 have G:∀c o,c≠z->s.heap.get? c=some o->h₁.get? c=some o:=λc o h e=>i.extBut _ _ h e
 simp only[T4,DE]
 refine Ga ?_
 rw[<-EY]
 simp only[EW,SW]
 refine Ga (Ga (Dj ?_))
 show wpAny _ _ (Builtin.SmallTypes.nextOf (.ref i1)>>=_) _ _ _
 refine Ga (r.item _ _ _ k x _ (r.keep k _ h₁ h1 λc p o e=>G c o (by rcases p with rfl|rfl;exact D.i1z;exact D.l1z) e) K λj l d=>Gf (Gf ?_))
 have u:∀c o,c≠z->c≠i1->s.heap.get? c=some o->j.get? c=some o:=λc o B C e=>d.extBut _ _ C (G c o B e)
 refine Ga (Ga (Dj ?_))
 show wpAny _ _ (Builtin.SmallTypes.nextOf (.ref i2)>>=_) _ _ _
 refine Ga (t.item _ _ _ k y _ (t.keep k _ j h2 λc p o e=>by
  rcases p with rfl|rfl
  ·exact u _ o D.i2z D.i12.symm e
  ·exact u _ o D.l2z D.l2i1 e) L λg m b=>Gf (Gf (Gf ?_)))
 refine Ga (wpAny_newTuple (hsz:=by show 2<=sizeLine;decide) ?_)
 have hsz:g.objs.size=s.heap.objs.size:=by rw[b.1,d.1,i.1]
 refine Gf ⟨_,Xb,?_⟩
 show Q (.ref g.objs.size) _
 rw[hsz]
 have q:∀c o,g.get? c=some o->(g.push {cls:=.type "tuple",data:=.seq #[x,y]}).get? c=some o:=λc o e=>Gh _ e
 refine I _ (q _ _ (b.extBut _ _ D.i2z.symm (d.extBut _ _ D.i1z.symm n))) (r.keep _ _ _ l λc p o e=>q _ _ ?_) (t.keep _ _ _ m λc p o e=>q _ _ e) (by rw[<-hsz];exact Gz _ Xb) λc o B C H e=>q _ _ (b.extBut _ _ H (u c o B C e))
 rcases p with rfl|rfl
 ·exact b.extBut _ _ D.i12 e
 ·exact b.extBut _ _ D.l1i2 e
theorem Qoy{a b:Value}{Q:Fin->Shared->Prop}(V:A.handled=none)(D:ZipApart z TI TO i1 i2 l1 l2)(M:Nxt prog w i1 l1 xs S1)(S:Nxt prog w i2 l2 ys S2)
  (hz:IsZip s.heap z TI TO .none\/∃c f oa,Js s.heap z TI TO c f/\s.heap.get? c=some oa)(O:IsPair s.heap TI (.ref i1) (.ref i2))(Z:IsPair s.heap TO a b)(h1:S1 k s.heap)(h2:S2 k s.heap)(G:xs[k]?=none\/ys[k]?=none)
  (T:∀h' e,(∀c o,c≠z->c≠TO->c≠i1->c≠i2->s.heap.get? c=some o->h'.get? c=some o)->(∃o,h'.get? e=some o/\o.cls=.type "StopIteration")->E (.ref e) {s with heap:=h'}):
  wpAny (model prog w) A (Builtin.«zip.__next__» ⟨[.ref z],[]⟩) Q E s:=by
 rcases hz with hz|⟨ca,f,oa,hz,ha⟩
 ·show wpAny _ _ (field (.ref z) 2>>=_) _ _ _
  refine Ga (TZ hz rfl (x:=.bool false) rfl ?_)
  show wpAny _ _ (field (.ref z) 3>>=_) _ _ _
  refine Ga (TZ hz rfl (x:=.ref TI) rfl ?_)
  refine Ga (Do O rfl ?_)
  show wpAny _ _ (Builtin.SmallTypes.ownedTupleIsFree (.ref z)>>=_) _ _ _
  refine Ga ?_
  unfold Builtin.SmallTypes.ownedTupleIsFree
  refine Ga (TZ hz rfl (x:=.none) rfl (Gf ?_))
  simp only[LI]
  refine Ga (Si ?_)
  refine Ga (TZ hz rfl (x:=.ref TO) rfl ?_)
  refine Ga (DN hz (by simp) λh₁ j n=>?_)
  replace j:IsZip h₁ z TI TO .ellipsis:=j
  have F:∀c o,c≠z->s.heap.get? c=some o->h₁.get? c=some o:=λc o h e=>n.extBut _ _ h e
  refine Ga ?_
  simp only[List.zipIdx_cons,List.zipIdx_nil,EW,SW]
  refine Ga (Ga (Lp ?_))
  show wpAny _ _ (Builtin.SmallTypes.nextOf (.ref i1)>>=_) _ _ _
  have B:=M.keep k _ h₁ h1 λc I o e=>F c o (by rcases I with rfl|rfl;exact D.i1z;exact D.l1z) e
  cases L:xs[k]? with
  |none=>
   refine Ga (M.fin _ _ _ k _ V B L λi e d J=>?_)
   obtain⟨oe,m,r⟩:=J
   have v:IsZip i z TI TO .ellipsis:=d _ _ D.i1z.symm j
   have K:e≠z:=λx=>by subst x;rw[v]at m;cases m;simp at r
   refine DN v (by simp) λl _ g=>T l e (λc o q _ C _ x=>g.extBut _ _ q (d _ _ C (F _ _ q x))) ⟨oe,g.extBut _ _ K m,r⟩
  |some x=>
   have hy:ys[k]?=none:=by rcases G with h|h;rw[L]at h;cases h;exact h
   refine Ga (M.item _ _ _ k x _ B L λi H d=>Gf ?_)
   have p:IsPair i TO a b:=d.extBut _ _ D.TOi1 (F _ _ D.TOz Z)
   refine Ga (Do p rfl ?_)
   refine Ga (Sq p λl U g=>?_)
   refine Ga (Lc (Gf ?_))
   have X:∀c o,c≠z->c≠i1->c≠TO->s.heap.get? c=some o->l.get? c=some o:=λc o q N C e=>g.extBut _ _ C (d.extBut _ _ N (F c o q e))
   refine Ga (Ga (Lp ?_))
   show wpAny _ _ (Builtin.SmallTypes.nextOf (.ref i2)>>=_) _ _ _
   refine Ga (S.fin _ _ _ k _ V (S.keep k _ l h2 λc I o e=>by
    rcases I with rfl|rfl
    ·exact X _ o D.i2z D.i12.symm D.TOi2.symm e
    ·exact X _ o D.l2z D.l2i1 D.l2TO e) hy λP e t J=>?_)
   obtain⟨oe,m,r⟩:=J
   have y:IsZip P z TI TO .ellipsis:=t _ _ D.i2z.symm (g.extBut _ _ D.TOz.symm (d.extBut _ _ D.i1z.symm j))
   have K:e≠z:=λx=>by subst x;rw[y]at m;cases m;simp at r
   refine DN y (by simp) λR _ u=>T R e (λc o q N C Y x=>u.extBut _ _ q (t _ _ Y (X c o q C N x))) ⟨oe,u.extBut _ _ K m,r⟩
 ·show wpAny _ _ (field (.ref z) 2>>=_) _ _ _
  refine Ga (TZ hz rfl (x:=.bool false) rfl ?_)
  show wpAny _ _ (field (.ref z) 3>>=_) _ _ _
  refine Ga (TZ hz rfl (x:=.ref TI) rfl ?_)
  refine Ga (Do O rfl ?_)
  show wpAny _ _ (Builtin.SmallTypes.ownedTupleIsFree (.ref z)>>=_) _ _ _
  refine Ga (Qeh hz ha λh₁ j n=>?_)
  have F:∀c o,c≠z->s.heap.get? c=some o->h₁.get? c=some o:=λc o h e=>n.extBut _ _ h e
  simp only[T4,DE]
  refine Ga ?_
  rw[<-EY]
  simp only[EW,SW]
  refine Ga (Ga (Dj ?_))
  show wpAny _ _ (Builtin.SmallTypes.nextOf (.ref i1)>>=_) _ _ _
  have B:=M.keep k _ h₁ h1 λc I o e=>F c o (by rcases I with rfl|rfl;exact D.i1z;exact D.l1z) e
  cases L:xs[k]? with
  |none=>
   exact Ga (M.fin _ _ _ k _ V B L λi e d J=>T i e (λc o q _ C _ x=>d _ _ C (F _ _ q x)) J)
  |some x=>
   have hy:ys[k]?=none:=by rcases G with h|h;rw[L]at h;cases h;exact h
   refine Ga (M.item _ _ _ k x _ B L λi H d=>Gf (Gf ?_))
   have W:∀c o,c≠z->c≠i1->s.heap.get? c=some o->i.get? c=some o:=λc o q N e=>d.extBut _ _ N (F c o q e)
   refine Ga (Ga (Dj ?_))
   show wpAny _ _ (Builtin.SmallTypes.nextOf (.ref i2)>>=_) _ _ _
   exact Ga (S.fin _ _ _ k _ V (S.keep k _ i h2 λc I o e=>by
    rcases I with rfl|rfl
    ·exact W _ o D.i2z D.i12.symm e
    ·exact W _ o D.l2z D.l2i1 e) hy λl e g J=>T l e (λc o q _ C Y x=>g _ _ Y (W c o q C x)) J)
structure ZSt(S1 S2:Nat->Heap->Prop)(xs ys:Array Value)(z TI TO i1 i2 S:Addr)(i:Nat)(h:Heap)(acc:List Value):Prop where
 zip:(i=0/\IsZip h z TI TO .none)\/∃c f oa,Js h z TI TO c f/\h.get? c=some oa/\c≠S/\c≠z/\c≠TO/\c≠i1/\c≠i2
 ti:IsPair h TI (.ref i1) (.ref i2)
 to:∃a b,IsPair h TO a b
 s1:S1 i h
 s2:S2 i h
 len:acc.length=i
 sl:S<h.objs.size
 out:∀(j:Nat)v,acc[j]?=some v->∃c x y,v=.ref c/\xs[j]?=some x/\ys[j]?=some y/\IsPair h c x y/\c≠S/\c≠z/\c≠TO/\c≠i1/\c≠i2/\z<c
theorem Qdt{Q:Option Value->Shared->Prop}{R:Value->Shared->Prop}(c:s.TypeIs (.ref z) "zip")(h:wpAny (model prog w) A.in1 (Builtin.«zip.__next__» ⟨[.ref z],[]⟩) (λfin s'=>∃v,fin=.done (.ret v)/\Q (some v) s') (λe s'=>∃o,(∃a,e=.ref a/\s'.heap.get? a=some o/\o.cls=.type "StopIteration")/\Q none s') s):wpAny (model prog w) A (pyNext (.ref z)) Q E s:=by
 unfold pyNext
 refine Ga (Sn (T5 (name:=Str.ofString "__next__") c LL
  (TR LL c F.entry_zip_next (DL h (λfin s'⟨v,e,q⟩=>⟨v,e,Gf q⟩) λe s'⟨o,⟨a,ea,f,d⟩,q⟩=>?_) (F.args_zip_next_1 _))))
 subst ea
 exact Ga (EK (T:="StopIteration") (b:=true) ⟨o,f,d⟩ LQ (Gf q))
theorem ZSt.type{S:Addr}{i:Nat}{h:Heap}{acc:List Value}(x:ZSt S1 S2 xs ys z TI TO i1 i2 S i h acc):Shared.TypeIs {s with heap:=h} (.ref z) "zip":=by
 rcases x.zip with⟨_,e⟩|⟨c,f,a,e,_⟩
 ·exact⟨_,e,Xb⟩
 ·exact⟨_,e,Xb⟩
theorem Quq{S:Addr}(hh:A.handled=none)(D:ZipApart z TI TO i1 i2 l1 l2)(B:Nxt prog w i1 l1 xs S1)(C:Nxt prog w i2 l2 ys S2)(hS:S≠z/\S≠TI/\S≠TO/\S≠i1/\S≠i2/\S≠l1/\S≠l2):
  Qle prog w A z S [z,TO,i1,i2] (min xs.size ys.size) (ZSt S1 S2 xs ys z TI TO i1 i2 S)
   (λh acc=>∀(j:Nat)v,acc[j]?=some v->∃c x y,v=.ref c/\xs[j]?=some x/\ys[j]?=some y/\IsPair h c x y/\c≠S/\z<c):=by
 have nf:∀{c:Addr},c≠z->c≠TO->c≠i1->c≠i2->c∉[z,TO,i1,i2]:=λa b c d h=>by simp at h;rcases h with h|h|h|h<;>contradiction
 have fn:∀{c:Addr},c∉[z,TO,i1,i2]->c≠z/\c≠TO/\c≠i1/\c≠i2:=λh=>by simp at h;exact h
 refine⟨λi s acc Q E hi st Z=>?_,λs acc Q E st Z=>?_,λi h h' acc st k n=>?_⟩
 ·have hx:xs[i]?=some xs[i]:=Tu (by omega)
  have hy:ys[i]?=some ys[i]:=Tu (by omega)
  obtain⟨ta,tb,g⟩:=st.to
  have n:=st.sl
  refine Qdt (R:=λ_ _=>True) st.type ?_
  have fin:∀h',(∃c f p,Js h' z TI TO c f/\h'.get? c=some p/\c≠S/\c≠z/\c≠TO/\c≠i1/\c≠i2)->(∃a b,IsPair h' TO a b)->S1 (i+1) h'->S2 (i+1) h'->IsPair h' s.heap.objs.size xs[i] ys[i]->(∀c o,c≠z->c≠TO->c≠i1->c≠i2->s.heap.get? c=some o->h'.get? c=some o)->Q (some (.ref s.heap.objs.size)) {s with heap:=h',toks:=s.toks}:=by
   intro h' aa N G H t l
   have W:z<s.heap.objs.size:=by
    rcases st.zip with⟨_,e⟩|⟨c,f,p,e,_⟩<;>exact Gw e
   have u:TO<s.heap.objs.size:=Gw g
   have ab:i1≠s.heap.objs.size:=Ts (B.there _ _ st.s1).1
   have ac:i2≠s.heap.objs.size:=Ts (C.there _ _ st.s2).1
   refine Z _ h' s.toks ⟨.inr aa,l _ _ D.TIz D.TITO D.TIi1 D.TIi2 st.ti,N,G,H,by simp[st.len],Nat.lt_trans n (Gw t),λj v m=>?_⟩ λb o hb e=>l b o (fn hb).1 (fn hb).2.1 (fn hb).2.2.1 (fn hb).2.2.2 e
   rcases TC j acc.length with h|h
   ·rw[GQ h]at m
    obtain⟨c,x,y,J,K,L,M,F,P,T,U,V,I⟩:=st.out j v m
    exact⟨c,x,y,J,K,L,l _ _ P T U V M,F,P,T,U,V,I⟩
   ·rw[To h]at m
    have h0:j - acc.length=0:=by
     have:=(Ge.mp m).1
     simp at this
     omega
    rw[h0]at m
    simp at m
    subst m
    have:j=i:=by have:=st.len;omega
    subst this
    exact⟨_,_,_,Xb,hx,hy,t,TQ n,TQ W,TQ u,Gq ab,Gq ac,W⟩
  have W:z<s.heap.objs.size:=by
   rcases st.zip with⟨_,e⟩|⟨c,f,p,e,_⟩<;>exact Gw e
  have u:TO<s.heap.objs.size:=Gw g
  rcases st.zip with⟨_,hz⟩|⟨c,f,p,hz,q,O,c2,c3,c4,c5⟩
  ·exact Qja D B C hz st.ti g st.s1 st.s2 hx hy λh' X Y G H t l=>fin h' ⟨_,_,_,X,t,TQ n,TQ W,TQ u,TQ (B.there _ _ st.s1).1,TQ (C.there _ _ st.s2).1⟩ ⟨_,_,Y⟩ G H t l
  ·exact Qpl D B C hz q st.ti st.s1 st.s2 hx hy λh' X G H t l=>fin h' ⟨c,true,p,X,l _ _ c2 c4 c5 q,O,c2,c3,c4,c5⟩ ⟨_,_,l _ _ D.TOz D.TOi1 D.TOi2 g⟩ G H t λb o b1 _ b3 b4 e=>l b o b1 b3 b4 e
 ·obtain⟨ta,tb,g⟩:=st.to
  refine Qdt (R:=λ_ _=>True) st.type (Qoy (k:=min xs.size ys.size) hh D B C ?_ st.ti g st.s1 st.s2 ?_ λh' e l he=>?_)
  ·rcases st.zip with⟨_,hz⟩|⟨c,f,p,hz,q,_⟩
   ·exact .inl hz
   ·exact .inr ⟨c,f,p,hz,q⟩
  ·rcases Nat.le_total xs.size ys.size with h|h
   ·exact .inl (Du (by omega))
   ·exact .inr (Du (by omega))
  ·obtain⟨o,ho,q⟩:=he
   refine⟨o,⟨e,Xb,ho,q⟩,Z h' s.toks (λj v m=>?_) λb o hb e=>l b o (fn hb).1 (fn hb).2.1 (fn hb).2.2.1 (fn hb).2.2.2 e⟩
   obtain⟨c,x,y,J,K,L,M,F,P,T,U,V,I⟩:=st.out j v m
   exact⟨c,x,y,J,K,L,l _ _ P T U V M,F,I⟩
 ·obtain⟨ta,tb,g⟩:=st.to
  refine⟨?_,k _ _ (Gq hS.2.1) st.ti,⟨ta,tb,k _ _ (Gq hS.2.2.1) g⟩,B.keep _ _ _ st.s1 λb hb o e=>k b o ?_ e,C.keep _ _ _ st.s2 λb hb o e=>k b o ?_ e,st.len,n,λj v m=>?_⟩
  ·rcases st.zip with⟨I,hz⟩|⟨c,f,p,hz,q,O,r⟩
   ·exact .inl ⟨I,k _ _ (Gq hS.1) hz⟩
   ·exact .inr ⟨c,f,p,k _ _ (Gq hS.1) hz,k _ _ O q,O,r⟩
  ·rcases hb with rfl|rfl
   ·exact Gq hS.2.2.2.1
   ·exact Gq hS.2.2.2.2.2.1
  ·rcases hb with rfl|rfl
   ·exact Gq hS.2.2.2.2.1
   ·exact Gq hS.2.2.2.2.2.2
  ·obtain⟨c,x,y,J,K,L,M,F,r⟩:=st.out j v m
   exact⟨c,x,y,J,K,L,k _ _ F M,F,r⟩
end
theorem Qj2:typeLookup (.type "zip") "__len__"=pure none:=by rw[SE,EG];kernel_rfl
theorem Qik:typeLookup (.type "zip") "__length_hint__"=pure none:=by rw[SE,EG];kernel_rfl
section
variable{prog:Program}{w:World}{A:Around}{E:Value->Shared->Prop}{s:Shared}
theorem Qp1{z:Addr}{Q:Bool->Shared->Prop}(a:s.TypeIs (.ref z) "zip")(h:Q true s):wpAny (model prog w) A (Builtin.List.listLengthHint (.ref z)) Q E s:=by
 unfold Builtin.List.listLengthHint
 refine Ga (DS a Qj2 ?_)
 show wpAny _ A (specialOf (Value.ref z) (Str.ofString "__length_hint__")>>=_) _ _ _
 refine Ga (DS a Qik ?_)
 exact Gf h
end
abbrev Qkx(h:Heap)(l1:Addr):Heap:=h.push {cls:=.type "tuple_iterator",data:=.fields #[.ref l1,.int 0 0]}
abbrev Qlv(h:Heap)(l1 l2:Addr):Heap:=(Qkx h l1).push {cls:=.type "tuple_iterator",data:=.fields #[.ref l2,.int 0 0]}
abbrev Ql4(h:Heap)(l1 l2:Addr):Heap:=(Qlv h l1 l2).push {cls:=.type "tuple",data:=.seq #[.ref h.objs.size,.ref (Qkx h l1).objs.size]}
abbrev Qld(h:Heap)(l1 l2:Addr):Heap:=(Ql4 h l1 l2).push {cls:=.type "tuple",data:=.seq #[.none,.none]}
abbrev Qc0(h:Heap)(l1 l2:Addr):Heap:=(Qld h l1 l2).push {cls:=.type "zip",data:=.fields #[.none,.bool false,.bool false,.ref (Qlv h l1 l2).objs.size,.ref (Ql4 h l1 l2).objs.size]}
theorem Qc2(l1 l2:Addr)(xs ys:Array Value):
  Meets (Builtin.«zip.__new__» ⟨[.type "zip",.ref l1,.ref l2],[]⟩) (λ_ R s=>s.heap.IsTuple l1 xs/\s.heap.IsTuple l2 ys/\
   R (.ok (.ret (.ref (Qld s.heap l1 l2).objs.size))) {s with heap:=Qc0 s.heap l1 l2}):=
 .of_wp λprog w A R s h=>by
  obtain⟨f,g,d,tk,os⟩:=s;obtain⟨c,e,h⟩:=h
  have i:=sub_zip
  have a:Heap.IsTuple (Shared.heap ⟨f,g,d,tk,os⟩) l1 xs:=c
  have b:Heap.IsTuple (Shared.heap ⟨f.push {cls:=.type "tuple_iterator",data:=.fields #[.ref l1,.int 0 0]},g,d,tk,os⟩) l2 ys:=Heap.IsTuple.push e _
  wp_walk using SJ a,SJ b
  exact⟨_,Xb,h⟩
section
variable{prog:Program}{w:World}{A:Around}{E:Value->Shared->Prop}{s:Shared}
theorem Qie{l1 l2:Addr}{xs ys:Array Value}{Q:Value->Shared->Prop}(b:s.heap.IsTuple l1 xs)(d:s.heap.IsTuple l2 ys)
  (h:∀h',IsZip h' (s.heap.objs.size+4) (s.heap.objs.size+2) (s.heap.objs.size+3) .none->IsPair h' (s.heap.objs.size+2) (.ref s.heap.objs.size) (.ref (s.heap.objs.size+1))->
   IsPair h' (s.heap.objs.size+3) .none .none->h'.IsTupleIter s.heap.objs.size l1 0->h'.IsTupleIter (s.heap.objs.size+1) l2 0->h'.objs.size=s.heap.objs.size+5->
   (∀c o,s.heap.get? c=some o->h'.get? c=some o)->Q (.ref (s.heap.objs.size+4)) {s with heap:=h'}):
  wpAny (model prog w) A (call (.type "zip") [.ref l1,.ref l2]) Q E s:=by
 refine callType_new F.called_zip (by decide) (F.typeCall_zip_2 _ _) (F.newCall_zip_2 _ _) (λobj=>F.args_object_init_3 obj _ _) F.entry_zip_new
  (Qc2 l1 l2 xs ys) ⟨b,d,?_⟩
 have e:(Qkx s.heap l1).objs.size=s.heap.objs.size+1:=DZ ..
 have f:(Qlv s.heap l1 l2).objs.size=s.heap.objs.size+2:=by rw[DZ,e]
 have g:(Ql4 s.heap l1 l2).objs.size=s.heap.objs.size+3:=by rw[DZ,f]
 have i:(Qld s.heap l1 l2).objs.size=s.heap.objs.size+4:=by rw[DZ,g]
 have n:(Qc0 s.heap l1 l2).objs.size=s.heap.objs.size+5:=by rw[DZ,i]
 have a:(Qc0 s.heap l1 l2).get? (Qld s.heap l1 l2).objs.size=some _:=Gz _ rfl
 have l:(Qc0 s.heap l1 l2).get? (Ql4 s.heap l1 l2).objs.size=some _:=Gh _ (Gz _ Xb)
 have k:(Qc0 s.heap l1 l2).get? (Qlv s.heap l1 l2).objs.size=some _:=Gh _ (Gh _ (Gz _ Xb))
 have j:(Qc0 s.heap l1 l2).get? (Qkx s.heap l1).objs.size=some _:=Gh _ (Gh _ (Gh _ (Gz _ Xb)))
 have m:(Qc0 s.heap l1 l2).get? s.heap.objs.size=some _:=Gh _ (Gh _ (Gh _ (Gh _ (Gz _ Xb))))
 show _/\_
 rw[f,g,i]at a
 rw[e,f]at k
 rw[g]at l
 rw[e]at j
 rw[i]
 exact⟨⟨_,a,Xb⟩,h _ a k l ⟨_,m,Xb,Xb⟩ ⟨_,j,Xb,Xb⟩ n λc o x=>Gh _ (Gh _ (Gh _ (Gh _ (Gh _ x))))⟩
theorem Qh5{S1 S2:Nat->Heap->Prop}{l1 l2:Addr}{xs ys:Array Value}{n0:Nat}{Q:Value->Shared->Prop}(M:A.handled=none)(q:Nxt prog w n0 l1 xs S1)(r:Nxt prog w (n0+1) l2 ys S2)(h1:l1<n0)(h2:l2<n0)(hsz:s.heap.objs.size=n0+5)
  (hz:IsZip s.heap (n0+4) (n0+2) (n0+3) .none)(g:IsPair s.heap (n0+2) (.ref n0) (.ref (n0+1)))(i:IsPair s.heap (n0+3) .none .none)(m:S1 0 s.heap)(p:S2 0 s.heap)(P:min xs.size ys.size<=sizeLine)
  (L:∀h' tk acc c,(∀b o,b<n0->s.heap.get? b=some o->h'.get? b=some o)->h'.get? (n0+5)=some {cls:=.type "list",dict:=none,data:=.seq acc c,slots:=#[]}->acc.size=min xs.size ys.size->
   (∀(j:Nat)v,acc.toList[j]?=some v->∃c x y,v=.ref c/\xs[j]?=some x/\ys[j]?=some y/\IsPair h' c x y/\c≠n0+5/\n0<=c)->Q (.ref (n0+5)) {s with heap:=h',toks:=tk}):
  wpAny (model prog w) A (call (.type "list") [.ref (n0+4)]) Q E s:=by
 have D:=PyProof.Rows.zipApart_new (n:=n0) h1 h2
 have G:=Quq (A:=A.in1.in1) (S:=s.heap.objs.size) M D q r ⟨by rw[hsz];exact TQ (DX _),by rw[hsz];exact TQ (by show n0+2<n0+5;exact Es (by decide) _),by rw[hsz];exact TQ (by show n0+3<n0+5;exact Es (by decide) _),by rw[hsz];exact TQ (LB (by decide)),by rw[hsz];exact TQ (by show n0+1<n0+5;exact Es (by decide) _),by rw[hsz];exact TQ (Tv h1 (Dw _ _)),by rw[hsz];exact TQ (Tv h2 (Dw _ _))⟩
 refine Qhs (T:="zip") (hb:=true) G (λb hb=>?_) (by rw[hsz];exact DX _) P (λK a l=>⟨.inl ⟨Xb,a _ _ hz⟩,a _ _ g,⟨_,_,a _ _ i⟩,q.keep _ _ _ m λb _ o e=>a b o e,r.keep _ _ _ p λb _ o e=>a b o e,Xb,l,λj v k=>by simp at k⟩) (λh acc st=>st.type) (by decide) (by decide) (λA E h Q st d=>?_) (λA E h Q st d=>Qp1 st.type d) (λh' tk acc c N hS O t=>?_)
 ·simp only[Gu,T1,Eu]at hb
  rw[hsz]
  rcases hb with h|h|h|h<;>rw[h]
  ·exact DX _
  ·exact Es (by decide) _
  ·exact LB (by decide)
  ·exact Es (by decide) _
 ·rcases st.zip with⟨_,e⟩|⟨c,f,R,e,_⟩
  ·exact wpAny_pyIter_zip e d
  ·refine Le (s:={s with heap:=h}) ⟨_,e,Xb⟩ F.slot_zip_iter (TR F.slot_zip_iter ⟨_,e,Xb⟩ F.entry_zip_iter ?_ (F.args_zip_iter_1 _))
   show wpAny _ _ (ret (.ref (n0+4))) _ _ _
   exact Gf ⟨_,Xb,"zip",_,⟨_,e,Xb⟩,LL.lookup,d⟩
 ·rw[hsz]at hS t⊢
  refine L h' tk acc c (λb o hb e=>N b o (λz=>?_) e) hS O λj v k=>?_
  ·simp only[Gu,T1,Eu]at z
   rcases z with h|h|h|h<;>rw[h]at hb
   ·exact absurd hb (Fj.mpr (Dw _ _))
   ·exact absurd hb (Fj.mpr (Dw _ _))
   ·exact absurd hb (DW _)
   ·exact absurd hb (Fj.mpr (Dw _ _))
  ·obtain⟨c,x,y,u,B,C,H,I,J⟩:=t j v k
   exact⟨c,x,y,u,B,C,H,I,LC (SQ (Dw _ _) J)⟩
end
end PySem
namespace L2
open PySem PySem.Spec PyProof.Rows
theorem Inv.Qvw{X:Cx}{pins:List (Addr×Obj)}{σ:List (Option V)}{H H':Hp}{s:Shared}{h':Heap}{t':Nat}(I:Inv X pins σ H s)(k:∀b u,s.heap.get? b=some u->h'.get? b=some u)(a:∀b,b<s.heap.objs.size->H' b=H b)
  (new:∀b o,s.heap.objs.size<=b->H' b=some o->Z0 X.prog X.w H' h' b o):Inv X pins σ H' {s with heap:=h',toks:=t'}:=by
 have d:∀b o,H b=some o->H' b=some o:=λb o e=>by rw[a b (I.Zy b o e).lt];exact e
 refine I.un ⟨λb u q _ _ _=>k b u q,λb u q _ _ _=>⟨u.slots,k b u q⟩,λb u q n _=>by rw[a b (Gw q)];exact n,λb u q _=>⟨u,k b u q⟩,λb xs e=>d b _ e,λb o u e=>d b _ e,λb ps e=>⟨#[],by rw[d b _ e];simp⟩⟩ λb o e=>?_
 by_cases hb:b<s.heap.objs.size
 ·rw[a b hb]at e
  exact(I.Zy b o e).Qif (λc u _ q=>k c u q) (λc q=>d c _ q) λc xs q=>d c _ q
 ·exact new b o (Nat.le_of_not_lt hb) e
def PrV(H:Hp)(v:V)(p:V×V):Prop:=∃c,v=.ref c/\H c=some (.tup [p.1,p.2])
def Q1b(K:Gc):List V->Hp->VK->Prop:=λvs H Q=>∃p q xs ys,vs=[.ref p,.ref q]/\((Zd K H p xs/\Zd K H q ys)\/(Z4 K H p xs/\Z4 K H q ys))/\
 ∀(r:Addr)(es:List V)(H':Hp),Q3 H H'->H r=none->H' r=some (.lst es)->Paired (PrV H') es (xs.zip ys)->Q (.ref r) H'
open PySem PySem.Spec PyProof.Rows
open Classical in
noncomputable def Qdv(H:Hp)(r:Addr)(es:List V)(xs ys:List V):Hp:=λb=>if b=r then some (.lst es)else if h:∃p:V×V,∃j:Nat,es[j]?=some (.ref b)/\xs[j]?=some p.1/\ys[j]?=some p.2 then some (.tup [(Classical.choose h).1,(Classical.choose h).2])else H b
section
variable{X:Cx}{pins:List (Addr×Obj)}{σ:St}{H:Hp}{s:Shared}
theorem Ql2{h':Heap}{tk c:Nat}{n0:Nat}{acc:Array Value}{xs ys:List V}{us R:List Value}(I:Inv X pins σ H s)(i:s.heap.objs.size=n0)(T:Zv xs us)(U:Zv ys R)(hk:∀b o,b<n0->s.heap.get? b=some o->h'.get? b=some o)
  (hS:h'.get? (n0+5)=some {cls:=.type "list",dict:=none,data:=.seq acc c,slots:=#[]})(C:acc.size=min us.length R.length)(hz:xs.length<=sizeLine)
  (J:∀(j:Nat)v,acc.toList[j]?=some v->∃c x y,v=.ref c/\us[j]?=some x/\R[j]?=some y/\IsPair h' c x y/\c≠n0+5/\n0<=c):
  ∃es H',Inv X pins σ H' {s with heap:=h',toks:=tk}/\Q3 H H'/\H (n0+5)=none/\H' (n0+5)=some (.lst es)/\Paired (PrV H') es (xs.zip ys):=by
 have lx:=T.length
 have ly:=U.length
 have ex:∀j:Nat,j<acc.size->∃c,acc.toList[j]?=some (Value.ref c):=λj A=>by
  have e:acc.toList[j]?=some acc[j]:=by rw[Dl,Tu A]
  obtain⟨c,x,y,a,_⟩:=J j _ e
  exact⟨c,by rw[e,a]⟩
 let es:List V:=(List.range acc.size).map λj=>match acc.toList[j]? with|some (Value.ref c)=>V.ref c|_=>V.non
 have f:∀(j:Nat)c,acc.toList[j]?=some (Value.ref c)->es[j]?=some (V.ref c):=λj c e=>by
  have A:j<acc.size:=by rw[<-TX];exact(Ge.mp e).1
  show((List.range acc.size).map _)[j]?=_
  rw[GY,List.getElem?_range A,Di]
  simp only[e]
 have w:∀(j:Nat)b,es[j]?=some (V.ref b)->acc.toList[j]?=some (Value.ref b):=λj b e=>by
  have A:j<acc.size:=by
   have:=(Ge.mp e).1
   simpa[es]using this
  obtain⟨c,F⟩:=ex j A
  rw[f j c F]at e
  cases e
  exact F
 have g:es.length=acc.size:=by simp[es]
 have M:acc.size=(xs.zip ys).length:=by rw[EX,C,lx,ly]
 have key:∀b(p:V×V)(j:Nat),es[j]?=some (.ref b)->xs[j]?=some p.1->ys[j]?=some p.2->∃u v,RelV p.1 u/\RelV p.2 v/\IsPair h' b u v/\b≠n0+5/\n0<=b:=λb p j a d q=>by
  obtain⟨c,x,y,Y,Z,f3,f4,f5,f6⟩:=J j _ (w j b a)
  cases Y
  obtain⟨u,S,ru⟩:=T.get d
  obtain⟨v,B,rv⟩:=U.get q
  rw[Z]at S
  cases S
  rw[f3]at B
  cases B
  exact⟨x,y,ru,rv,f4,f5,f6⟩
 have D:∀b(p:V×V)(j:Nat),es[j]?=some (.ref b)->xs[j]?=some p.1->ys[j]?=some p.2->Qdv H (n0+5) es xs ys b=some (.tup [p.1,p.2]):=λb p j a d q=>by
  obtain⟨u,v,N,P,n,hb,_⟩:=key b p j a d q
  have z:∃p:V×V,∃j:Nat,es[j]?=some (.ref b)/\xs[j]?=some p.1/\ys[j]?=some p.2:=⟨p,j,a,d,q⟩
  unfold Qdv
  rw[Gj hb,dif_pos z]
  obtain⟨j',g1,g2,g3⟩:=LM z
  obtain⟨u',W,O,Q,K,_⟩:=key b (Classical.choose z) j' g1 g2 g3
  have:({cls:=.type "tuple",data:=.seq #[u,v]}:Obj)={cls:=.type "tuple",data:=.seq #[u',W]}:=TF (n.symm.trans K)
  injection this with _ _ hd
  injection hd with hd
  injection hd with hd
  injection hd with h1 h2
  injection h2 with h2
  subst h1 h2
  rw[N.inj O,P.inj Q]
 have t:∀b,b<n0->Qdv H (n0+5) es xs ys b=H b:=λb hb=>by
  unfold Qdv
  rw[Gj (Ts (Tv hb (Dw _ _))),dif_neg]
  rintro⟨p,j,a,d,q⟩
  obtain⟨_,_,_,_,_,_,h⟩:=key b p j a d q
  exact absurd hb (Fj.mpr h)
 have k:∀b,n0<=b->H b=none:=λb hb=>I.Zy.fresh (by rw[i];exact hb)
 refine⟨es,Qdv H (n0+5) es xs ys,?_,λb o e=>?_,k _ (Dw _ _),by unfold Qdv;rw[Gp rfl],?_⟩
 ·refine I.Qvw (λb u e=>hk b u (by rw[<-i];exact Gw e) e) (λb hb=>t b (by rw[<-i];exact hb)) λb o hb e=>?_
  by_cases h1:b=n0+5
  ·subst h1
   have:o=.lst es:=by unfold Qdv at e;rw[Gp rfl]at e;exact(TF e).symm
   subst this
   refine⟨by rw[g,M,EX];omega,acc.toList,c,?_,by rw[Eh];exact hS⟩
   have all:∀(l:List Value)(m:List V),l.length=m.length->(∀j:Nat,∀v,l[j]?=some v->∃c,v=.ref c/\m[j]?=some (V.ref c))->Zv m l:=by
    intro l
    induction l with
    |nil=>intro m G _;cases m with
     |nil=>exact .nil
     |cons _ _=>simp at G
    |cons v l L=>intro m G E;cases m with
     |nil=>simp at G
     |cons x m=>
      obtain⟨r,a,d⟩:=E 0 v rfl
      simp at d
      subst a d
      exact .cons rfl (L m (by simpa using G) λj v B=>by
       have:=E (j+1) v (by simpa using B)
       simpa using this)
   refine all acc.toList es (by rw[g,TX]) λj v B=>?_
   obtain⟨r,x,y,a,_⟩:=J j v B
   subst a
   exact⟨r,Xb,f j r B⟩
  ·by_cases h2:∃p:V×V,∃j:Nat,es[j]?=some (.ref b)/\xs[j]?=some p.1/\ys[j]?=some p.2
   ·obtain⟨p,j,a,d,q⟩:=h2
    rw[D b p j a d q]at e
    cases e
    obtain⟨u,v,N,P,n,_⟩:=key b p j a d q
    exact⟨by show 2<=sizeLine;decide,[u,v],.cons N (.cons P .nil),_,n,Xb,_,Xb⟩
   ·exfalso
    unfold Qdv at e
    rw[Gj h1,dif_neg h2,k b (by rw[<-i];exact hb)]at e
    cases e
 ·rw[t b (by rw[<-i];exact(I.Zy b o e).lt)]
  exact e
 ·have all:∀(m:List V)(l:List (V×V)),m.length=l.length->(∀(j:Nat)p,l[j]?=some p->∃v,m[j]?=some v/\PrV (Qdv H (n0+5) es xs ys) v p)->Paired (PrV (Qdv H (n0+5) es xs ys)) m l:=by
   intro m
   induction m with
   |nil=>intro l C _;cases l with
    |nil=>exact .nil
    |cons _ _=>simp at C
   |cons v m L=>intro l C E;cases l with
    |nil=>simp at C
    |cons p l=>
     obtain⟨W,a,d⟩:=E 0 p rfl
     simp at a
     subst a
     exact .cons d (L l (by simpa using C) λj p n=>by
      have:=E (j+1) p (by simpa using n)
      simpa using this)
  refine all es (xs.zip ys) (by rw[g,M]) λj p n=>?_
  rw[EN]at n
  have A:j<acc.size:=by
   have h1:=(Ge.mp n.1).1
   have h2:=(Ge.mp n.2).1
   rw[M,EX];omega
  obtain⟨r,F⟩:=ex j A
  have:=f j r F
  exact⟨.ref r,this,r,Xb,D r p j this n.1 n.2⟩
end
section
variable{X:Cx}{a b:Expr}{ta:TA}{p1 p2 pos1 pos2:Pos}
theorem Qcj(hc:X.calm=true)(E:Gl X "list")(J:X.mg "list"=none)(F:Gl X "zip")(L:X.mg "zip"=none)(ha:PA X [a,b] ta)
  (z:starEach [Expr.Call (.Name "zip" p2) [a,b] [] pos2] X.env=(false,eval (.Call (.Name "zip" p2) [a,b] [] pos2) X.env)::starEach [] X.env:=by rfl)(D:starEach [a,b] X.env=(false,eval a X.env)::starEach [b] X.env:=by rfl)
  (P:(backTo pos1 (starEach ([]:List Expr) X.env)).any (·.1)=false:=by rfl)(R:(backTo pos2 (starEach [b] X.env)).any (·.1)=false:=by rfl):
  PE X (.Call (.Name "list" p1) [.Call (.Name "zip" p2) [a,b] [] pos2] [] pos1) (tCB (Q1b X.K) ta):=by
 intro pins s σ H Q I h
 refine Dm (V3 I E J boot_list ?_)
 refine callWith_type1 ?_ z P
 rw[z]
 show wpAny _ _ (spliced ((false,eval (.Call (.Name "zip" p2) [a,b] [] pos2) X.env)::backTo pos1 (starEach ([]:List Expr) X.env))) _ _ s
 refine SN ?_
 refine Dm (V3 I F L boot_zip ?_)
 refine callWith_type1 (Ys (ha pos2 pins s σ H _ I h) λus s1⟨vs,H1,i,r1,q1⟩=>?_) D R
 obtain⟨p,q,xs,ys,rfl,hq,Z⟩:=q1
 obtain⟨u,v,rfl,ru,rv⟩:=vals2 r1
 cases(show u=Value.ref p from ru)
 cases(show v=Value.ref q from rv)
 have Y:=i.ok.hd hc
 rcases hq with⟨h1,h2⟩|⟨h1,h2⟩
 ·obtain⟨us,A,d,U⟩:=i.list h1
  obtain⟨ws,W,f,V⟩:=i.list h2
  have x:p<s1.heap.objs.size:=by obtain⟨_,e,_⟩:=d.isList;exact Gw e
  have y:q<s1.heap.objs.size:=by obtain⟨_,e,_⟩:=f.isList;exact Gw e
  have lx:=A.length
  refine call_zip_2 d.isList f.isList λh' hz k l m n hsz t=>E4 ?_
  refine Qh5 (s:={s1 with heap:=h'}) (n0:=s1.heap.objs.size) Y (Qiu (Ts x)) (Qiu (Ts (Tv y (Dw _ _)))) x y hsz hz k l ⟨m,Heap.IsList.at d.isList (λo e=>t _ o e)⟩ ⟨n,Heap.IsList.at f.isList (λo e=>t _ o e)⟩ (by rw[GF,GF];omega) λC tk acc c w hS G N=>?_
  obtain⟨es,H',B,g,M,S,O⟩:=Ql2 (tk:=tk) i rfl A W (λb o hb e=>w b o hb (t b o e)) hS (by simpa using G) (by omega) (λj v T=>by simpa using N j v T)
  exact⟨.ref (s1.heap.objs.size+5),H',B,Xb,Z _ es H' g M S O⟩
 ·obtain⟨us,A,d,U⟩:=i.tuple h1
  obtain⟨ws,W,f,V⟩:=i.tuple h2
  have d:s1.heap.IsTuple p us.toArray:=d
  have f:s1.heap.IsTuple q ws.toArray:=f
  have x:p<s1.heap.objs.size:=by obtain⟨_,e,_⟩:=d;exact Gw e
  have y:q<s1.heap.objs.size:=by obtain⟨_,e,_⟩:=f;exact Gw e
  have lx:=A.length
  refine Qie d f λh' hz k l m n hsz t=>E4 ?_
  refine Qh5 (s:={s1 with heap:=h'}) (n0:=s1.heap.objs.size) Y (Qlc (Ts x)) (Qlc (Ts (Tv y (Dw _ _)))) x y hsz hz k l ⟨m,let⟨o,e,r⟩:=d;⟨o,t _ o e,r⟩⟩ ⟨n,let⟨o,e,r⟩:=f;⟨o,t _ o e,r⟩⟩ (by rw[GF,GF];omega) λC tk acc c w hS G N=>?_
  obtain⟨es,H',B,g,M,S,O⟩:=Ql2 (tk:=tk) i rfl A W (λb o hb e=>w b o hb (t b o e)) hS (by simpa using G) (by omega) (λj v T=>by simpa using N j v T)
  exact⟨.ref (s1.heap.objs.size+5),H',B,Xb,Z _ es H' g M S O⟩
end
end L2
namespace PySem
theorem Qje:typeLookup (.type "list_reverseiterator") "__len__"=pure none:=by rw[SE,EG];kernel_rfl
theorem Qgz:typeLookup (.type "list_reverseiterator") "__length_hint__"=pure (some (.builtin "list_reverseiterator.__length_hint__")):=by rw[SE,EG];kernel_rfl
section
variable{prog:Program}{w:World}{A:Around}{E:Value->Shared->Prop}{s:Shared}
theorem Qrc{z:Addr}{Q:Bool->Shared->Prop}(d:s.TypeIs (.ref z) "list_reverseiterator")(h:Q false s):wpAny (model prog w) A (Builtin.List.listLengthHint (.ref z)) Q E s:=by
 unfold Builtin.List.listLengthHint
 refine Ga (DS d Qje ?_)
 show wpAny _ A (specialOf (Value.ref z) (Str.ofString "__length_hint__")>>=_) _ _ _
 refine Ga (DS d Qgz ?_)
 generalize c:("list_reverseiterator.__length_hint__":String)=id0
 wp_delta
 rw[show splitId id0=some ("list_reverseiterator","__length_hint__")from by subst c;decide+kernel]
 subst c
 refine Ga (EK (T:="list_reverseiterator") (b:=true) d (by rw[isSubtype_type];kernel_rfl) ?_)
 refine SA (λa=>absurd a (by decide)) (λ_=>?_)
 refine SA (λ_=>?_) (λa=>absurd (by decide+kernel) a)
 refine SA (λa=>absurd a (by decide+kernel)) (λ_=>?_)
 exact Gf h
structure Q1d(xs:Array Value)(it l S:Addr)(i:Nat)(h:Heap)(acc:List Value):Prop where
 rv:h.IsRevIter it l ((xs.size:Int) - 1 - (i:Int))
 ls:h.IsList l xs
 acc:acc=xs.toList.reverse.take i
theorem Qsl{xs:Array Value}{it l S:Addr}(p:A.handled=none)(hS:S≠it/\S≠l)(d:l≠it):Qle prog w A it S [it] xs.size (Q1d xs it l S) (λ_ acc=>acc=xs.toList.reverse):=by
 refine⟨λi s acc Q E hi st c=>?_,λs acc Q E st c=>?_,λi h h' acc st k _=>?_⟩
 ·have g:xs[xs.size - 1 - i]?=some xs[xs.size - 1 - i]:=Tu (by omega)
  have e:(xs.size:Int) - 1 - (i:Int)=((xs.size - 1 - i:Nat):Int):=by omega
  have a:=st.rv
  rw[e]at a
  refine wpAny_pyNext_rev_item a st.ls g λh' f j=>?_
  have q:xs.toList.reverse[i]?=some xs[xs.size - 1 - i]:=by
   rw[List.getElem?_reverse (by rw[TX];exact hi),TX,Dl]
   exact g
  refine c _ h' s.toks ⟨?_,st.ls.extBut j.extBut d,?_⟩ λb o hb e=>j.extBut b o (λz=>hb (by simp[z])) e
  ·have m:((xs.size - 1 - i:Nat):Int) - 1=(xs.size:Int) - 1 - ((i+1:Nat):Int):=by omega
   rw[<-m]
   exact f
  ·rw[st.acc,Tf,q]
   rfl
 ·have a:=st.rv
  rw[show(xs.size:Int) - 1 - (xs.size:Int)= -1 by omega]at a
  refine wpAny_pyNext_rev_end p a λh' n=>c h' s.toks ?_ λb o hb e=>n b o (λz=>hb (by simp[z])) e
  rw[st.acc,<-TX,<-EO,Te]
 ·exact⟨st.rv.at λo e=>k it o (Gq hS.1) e,st.ls.at λo e=>k l o (Gq hS.2) e,st.acc⟩
end
end PySem
namespace L2
open PySem PySem.Spec PyProof.Rows
def Qyn(K:Gc):List V->Hp->VK->Prop:=λvs H Q=>∃p xs,vs=[.ref p]/\Zd K H p xs/\∀r,H r=none->Q (.ref r) (upd H r (.lst xs.reverse))
theorem Qh4:∀{xs:List V}{us:List Value},Zv xs us->Zv xs.reverse us.reverse
 |_,_,.nil=>.nil
 |_,_,.cons h t=>by
  rw[Ei,Ei]
  exact(Qh4 t).append (.cons h .nil)
theorem Qkj{X:Cx}{a:Expr}{ta:TA}{p1 p2 pos1 pos2:Pos}(f:X.calm=true)(r:Gl X "list")(v:X.mg "list"=none)(t:Gl X "reversed")(x:X.mg "reversed"=none)(J:PA X [a] ta)
  (g:starEach [Expr.Call (.Name "reversed" p2) [a] [] pos2] X.env=(false,eval (.Call (.Name "reversed" p2) [a] [] pos2) X.env)::starEach [] X.env:=by rfl)(p:starEach [a] X.env=(false,eval a X.env)::starEach [] X.env:=by rfl)
  (y:(backTo pos1 (starEach ([]:List Expr) X.env)).any (·.1)=false:=by rfl)(B:(backTo pos2 (starEach ([]:List Expr) X.env)).any (·.1)=false:=by rfl):
  PE X (.Call (.Name "list" p1) [.Call (.Name "reversed" p2) [a] [] pos2] [] pos1) (tCB (Qyn X.K) ta):=by
 intro pins s σ H Q I h
 refine Dm (V3 I r v boot_list ?_)
 refine callWith_type1 ?_ g y
 rw[g]
 show wpAny _ _ (spliced ((false,eval (.Call (.Name "reversed" p2) [a] [] pos2) X.env)::backTo pos1 (starEach ([]:List Expr) X.env))) _ _ s
 refine SN ?_
 refine Dm (V3 I t x boot_reversed ?_)
 refine callWith_type1 (Ys (J pos2 pins s σ H _ I h) λus s1⟨vs,H1,k,O,N⟩=>?_) p B
 obtain⟨b,xs,rfl,j,q⟩:=N
 obtain⟨u,rfl,P⟩:=vals1 O
 cases(show u=Value.ref b from P)
 obtain⟨its,rv,pt,hz⟩:=k.list j
 have R:=rv.length
 have C:b<s1.heap.objs.size:=by obtain⟨_,e,_⟩:=pt.isList;exact Gw e
 refine call_reversed_list pt.isList (E4 ?_)
 have hsz:(s1.heap.push (revObj b ((its.toArray.size:Int) - 1))).objs.size=s1.heap.objs.size+1:=DZ ..
 have m:(s1.heap.push (revObj b ((its.toArray.size:Int) - 1))).objs.size≠s1.heap.objs.size:=by rw[hsz];exact Nat.succ_ne_self _
 have n:(s1.heap.push (revObj b ((its.toArray.size:Int) - 1))).objs.size≠b:=by rw[hsz];exact TQ (Nat.lt_succ_of_lt C)
 refine Qhs (s:={s1 with heap:=s1.heap.push (revObj b ((its.toArray.size:Int) - 1))}) (T:="list_reverseiterator") (hb:=false) (Qsl (xs:=its.toArray) (l:=b) (k.ok.hd f) ⟨m,n⟩ (Ts C)) (λc f=>?_) (by show s1.heap.objs.size<(s1.heap.push _).objs.size;rw[hsz];exact DX _) (by rw[GF];omega)
  (λh2 D _=>⟨?_,pt.isList.at λo e=>D _ o (Gh _ e),by simp⟩) (λh acc st=>let⟨o,i,f,_⟩:=st.rv;⟨o,i,f⟩) (by decide) (by decide) (λA E h Q st j=>wpAny_pyIter_revIter (s:={s1 with heap:=h}) st.rv j) (λA E h Q st j=>Qrc (s:={s1 with heap:=h}) (let⟨o,i,f,_⟩:=st.rv;⟨o,i,f⟩) j) (λh' tk acc c L hS M i=>?_)
 ·have e:c=s1.heap.objs.size:=by simpa using f
  rw[e]
  show s1.heap.objs.size<(s1.heap.push _).objs.size
  rw[hsz];exact DX _
 ·have G:(its.toArray.size:Int) - 1 - ((0:Nat):Int)=(its.toArray.size:Int) - 1:=by omega
  rw[G]
  exact⟨_,D _ _ (Gz _ Xb),Xb,Xb⟩
 ·have hS:h'.get? (s1.heap.push (revObj b ((its.toArray.size:Int) - 1))).objs.size=some {cls:=.type "list",dict:=none,data:=.seq acc c,slots:=#[]}:=hS
  have d:s1.heap.objs.size<=(s1.heap.push (revObj b ((its.toArray.size:Int) - 1))).objs.size:=by rw[hsz];exact EZ _
  have F:Inv X pins σ (upd H1 (s1.heap.push (revObj b ((its.toArray.size:Int) - 1))).objs.size (.lst xs.reverse)) {s1 with heap:=h',toks:=tk}:=
   k.laid (t':=tk) (λc o e=>L c o (λz=>by
    have:c=s1.heap.objs.size:=by simpa using z
    exact absurd (Gw e) (by rw[this];exact DW _)) (Gh _ e)) d
    (show Z0 X.prog X.w _ h' _ (.lst _)from⟨by rw[EO];omega,acc.toList,c,by rw[i];exact Qh4 rv,by rw[Eh];exact hS⟩)
  exact⟨.ref (s1.heap.push (revObj b ((its.toArray.size:Int) - 1))).objs.size,_,F,Xb,q _ (k.Zy.fresh d)⟩
end L2
namespace Nt
inductive Oi:Nat->List (Nat×Nat)->Nat->Prop
 |nil (p:Nat):Oi p [] p
 |cons {p q z:Nat} {r:List (Nat×Nat)}:Oi q r z->Oi p ((p,q)::r) z
theorem Qgw:∀{l:List Nat}{p z:Nat},l.head?=some p->l.getLast?=some z->Oi p (l.zip (l.drop 1)) z
 |[],_,_,h,_=>by simp at h
 |[x],p,z,h1,h2=>by
  simp at h1 h2
  subst h1 h2
  exact .nil _
 |x::y::r,p,z,h1,h2=>by
  simp at h1
  subst h1
  have a:=Qgw (l:=y::r) (p:=y) (z:=z) rfl (by rw[List.getLast?_cons_cons]at h2;exact h2)
  simp only[LZ,List.drop_zero,SV]at a⊢
  exact .cons a
theorem Ch.last{up:Nat->Option Nat}{p:Nat}{l:List Nat}(h:Ch up p l):∃a,l=a++[Zw l]:=by
 have b:=h.ne
 refine⟨l.dropLast,?_⟩
 unfold Zw
 rw[EM,DA b]
 exact(EF b).symm
def Ov(up:Nat->Option Nat)(one a:Nat)(st:List (Nat×Nat)):Prop:=∃(l1 l2 P Q s:List Nat)(m:Nat),Ch up one l1/\Ch up a l2/\l1=P++m::s/\l2=Q++m::s/\(P=[]\/Q=[]\/P.getLast?≠Q.getLast?)/\st=(P++m::Q.reverse).zip ((P++m::Q.reverse).drop 1)
theorem Qpg{P b s s':List Nat}{m d:Nat}(h:P++m::s=b++d::s')(c:s.length<s'.length):∃u,P=b++d::u/\s'=u++m::s:=by
 rcases List.append_eq_append_iff.mp h with⟨a,h1,h2⟩|⟨a,h1,h2⟩
 ·have:=congrArg List.length h2
  simp at this
  cases a with
  |nil=>simp at h2;rw[h2.2]at c;omega
  |cons y a=>simp at this;omega
 ·cases a with
  |nil=>
   simp at h2
   rw[h2.2]at c
   omega
  |cons y a=>
   simp only[TM,Tx]at h2
   exact⟨a,by rw[h1,h2.1],h2.2⟩
theorem Ov.uniq{up:Nat->Option Nat}{one c:Nat}{st g:List (Nat×Nat)}(a:Ov up one c st)(b:Ov up one c g):st=g:=by
 obtain⟨l1,l2,P,Q,s,m,w,x,y,A,ne,rfl⟩:=a
 obtain⟨B,C,h,i,s',f,j,k,l,n,q,rfl⟩:=b
 have E:=w.uniq j
 have F:=x.uniq k
 subst E F
 have o:P++m::s=h++f::s':=by rw[<-y,l]
 have p:Q++m::s=i++f::s':=by rw[<-A,n]
 have d:∀{P Q h i s s':List Nat}{m f:Nat},P++m::s=h++f::s'->Q++m::s=i++f::s'->(P=[]\/Q=[]\/P.getLast?≠Q.getLast?)->¬s.length<s'.length:=λh1 h2 ne e=>by
  obtain⟨u,p1,p2⟩:=Qpg h1 e
  obtain⟨v,r,D⟩:=Qpg h2 e
  have:u=v:=by
   have:=p2.symm.trans D
   exact Lm this
  subst this
  rcases ne with z|z|z
  ·rw[p1]at z;simp at z
  ·rw[r]at z;simp at z
  ·rw[p1,r,Ej,Ej,DA (List.cons_ne_nil _ _)]at z
   exact z rfl
 have e:s.length=s'.length:=by
  have h1:=d o p ne
  have h2:=d o.symm p.symm q
  omega
 obtain⟨G,t⟩:=List.append_inj' o (by simp[e])
 obtain⟨H,_⟩:=List.append_inj' p (by simp[e])
 simp only[Tx]at t
 rw[G,H,t.1]
structure Way(x:Nst W ρ)(one other:Nat)(st:List (Nat×Nat)):Prop where
 path:Oi one st other
 lk:∀p q,(p,q)∈st->∃k,x.Y1 p q=some k/\∀n,Cn (x.links.take n) one other->k<n
 len:st.length<=2*x.S.length
 rel:Ov x.up one other st
end Nt
namespace K05
open PySem L2 Sb Nt
def Qt8(H:Hp)(v:V)(p:Nat×Nat):Prop:=∃c,v=.ref c/\H c=some (.tup [jv p.1,jv p.2])
def Qo8(P:Program)(w:World)(C:Addr):Sp:=λvs H Q _=>∃(n:Addr)(A:Na)(fs:List Fm)(tb:Nat)(x:Nn)(one a:Nat),vs=[.ref n,jv one,jv a]/\Z1 P w C H n A fs tb x/\Xv (Ya fs) (Zi fs) x []/\one∈x.S/\a∈x.S/\x.lead one=x.lead a/\x.S.length<=1000/\
 ∀(r:Addr)(es:List V)(st:List (Nat×Nat))(H':Hp),Q3 H H'->H r=none->H' r=some (.lst es)->Paired (Qt8 H') es st->Way x one a st->Q (.ref r) H'
theorem Qvo(P:List Nat)(a m:Nat):atI ((P++[a,m]).map jv) (-2:Int)=some (jv a):=by
 unfold atI ixN
 rw[Gj (by decide),Gp (by simp;omega)]
 have e:((-2:Int)+(((P++[a,m]).map jv).length:Int)).toNat=P.length:=by simp;omega
 rw[e]
 simp
theorem Qw6(Q:List Nat)(m:Nat):Uj ((Q++[m]).map jv) none (some (-1:Int))=Q.map jv:=by
 unfold Uj
 rw[HT.Ro]
 have e:HT.Wb ((Q++[m]).map jv).length ((Q++[m]).map jv).length (some (-1:Int))=Q.length:=by
  show(if(-1:Int)<0 then((-1:Int)+(((Q++[m]).map jv).length:Int)).toNat else min (-1:Int).toNat ((Q++[m]).map jv).length)=_
  rw[Gp (by decide)]
  simp
  omega
 rw[e]
 simp
theorem Qzf(l:List V):Uj l (some 1) none=l.drop 1:=by
 cases l with
 |nil=>rfl
 |cons x r=>rw[Qjw];rfl
theorem Qca{H:Hp}:∀{es:List V}{l m:List Nat},Paired (PrV H) es ((l.map jv).zip (m.map jv))->Paired (Qt8 H) es (l.zip m)
 |_,[],m,h=>by simp at h;cases h;simp;exact .nil
 |_,x::l,[],h=>by simp at h;cases h;simp;exact .nil
 |_,x::l,y::m,h=>by
  simp only[GO,SV]at h⊢
  cases h with
  |cons h t=>exact .cons h (Qca t)
section
variable{P:Program}{w:World}{K:Gc}{mg:Str->Option Value}{base:Heap}
theorem Quw:Qx ["self","one","other","climb","descent","stops"] ["self","one","other"] (Qk Qt3):=⟨Xb,Xb,Xb,by decide+kernel,Xb,by decide+kernel,by decide+kernel⟩
set_option hygiene false
local macro_rules
 |`(tactic|infer_instance)=>`(tactic|(
 refine⟨_,Xb,_,Xb,_,Xb,_,Xb,⟨rd,_,Xb,Zd.of ed,λr1 hr1'=>?_⟩⟩
 rw[Qw6]
 have z1:=Qi (o:=.lst (_root_.List.map jv Qq)) ec (Qc ec hr1')
 refine⟨r1,_,Xb,Zd.of Qb,λr2 hr2'=>?_⟩
 have z2:=Qi (o:=.lst (_root_.List.map jv Qq).reverse) z1 (Qc z1 hr2')
 refine⟨rc,r2,_,_,Xb,Xb,z2,Qb,small (by rw[EO,Gn,Gn,Gk];simp only[Tb,Sw];omega),λr3 hr3'=>?_⟩
 have ecat:List.map jv (Pp++[mm])++(List.map jv Qq).reverse=(Pp++mm::Qq.reverse).map jv:=by simp
 rw[ecat]
 dsimp only[V8]
 refine⟨_,Xb,_,Xb,⟨_,Xb,⟨r3,_,Xb,Zd.of Qb,λr4 hr4'=>?_⟩⟩⟩
 rw[Qzf]
 have n34:r3≠r4:=Qc Qb hr4'
 have s5:Q3 H3 (upd (upd (upd (upd H3 r1 (.lst (List.map jv Qq))) r2 (.lst (List.map jv Qq).reverse)) r3 (.lst ((Pp++mm::Qq.reverse).map jv))) r4 (.lst (((Pp++mm::Qq.reverse).map jv).drop 1))):=((Qg hr1' _).trans (Qg hr2' _)).trans ((Qg hr3' _).trans (Qg hr4' _))
 refine⟨r3,r4,_,_,Xb,.inl ⟨Zd.of (Qi Qb n34),Zd.of Qb⟩,λr es H' sm r0 hr' pr=>?_⟩
 rw[<-List.map_drop]at pr
 exact q r es _ H' (g3.trans (s5.trans sm)) (g3.free (s5.free r0)) hr' (Qca pr) ⟨Qgw hone hoth,λp q' hm=>I.fst.way h1 h2 k1 k2 hne p q' hm,by rw[EX,Gk,Tb,EO];omega,_,_,_,_,_,_,h1,h2,k1,k2,hne,Xb⟩))
set_option hygiene true
theorem Qxc{f fU C:Addr}{fd L:FuncData}(F:W5 K "way" "Net.way" Qt3 f fd)(T:Vt K mg C)(B:Jv mg)(mU:Z9 K C "way_up" fU)(GU:Qt P w K mg base Z7 1 fU L ["self","place"] (Ql5 P w C))(bU:Binds K L ["self","place"] []):
  Qt P w K mg base Z7 2 f fd ["self","one","other"] (Qo8 P w C):=by
 refine F.ok Quw (λvs H Q E h=>?_) (λcdv A outer s H vs Q E g h=>?_)
 ·obtain⟨n,A,fs,tb,x,one,d,rfl,_⟩:=h
  rfl
 obtain⟨n,A,fs,tb,x,one,d,rfl,X,I,oS,tS,he,hS,q⟩:=h
 have R:Yc 1 _:=g.mono (by omega)
 have nd:=Quw.nd
 refine⟨_,Qd (Ql (i:=3) nd rfl (Or.inl Xb) (Q9 (pv 0) T.cl mU GU R bU .nil Q5 (Qa (pv 1) Qe)))
  (Qd (Ql (i:=4) nd rfl (Or.inl Xb) (Q9 (pv 0) T.cl mU GU R bU .nil Q5 (Qa (pv 2) Qe)))
  (Qd (Wx GX (PW.pt (V1 (Qs Qii (Qp Zk rfl B.len Tj (Qa (pv 3) Qe)) Qj (Q7 _)) (V1 (Qs Qii (Qp Zk rfl B.len Tj (Qa (pv 4) Qe)) Qj (Q7 _))
    (Vf (Qs Wf (Qo Zh (pv 3) (Qdf Iw Qj) (λ_ _=>rfl)) (Qo Zh (pv 4) (Qdf Iw Qj) (λ_ _=>rfl)) (Q7 _))))))
   (Qd (Zb (Qcf Gy D9 Ea Qds (pv 3)))
   (Qh (Zb (Qcf Gy D9 Ea Qds (pv 4))))))
  (Qd (Ql (i:=5) nd rfl (Or.inl Xb) (Zp V0 (pv 3) (Qkj rfl rfl B.list rfl B.reversed (Qa (Yx Vc (pv 4) Xy (Yy (Qdf Iw Qj))) Qe))))
  (Qh (Qy (Qcj rfl rfl B.list rfl B.zip (Qa (pv 5) (Qa (Yx Vc (pv 5) (Yy Qj) Xy) Qe)))))))),?_⟩
 obtain⟨l1,h1⟩:=I.fst.chain one oS
 obtain⟨l2,h2⟩:=I.fst.chain d tS
 have sub1:=I.fst.chS h1 oS
 have y:=I.fst.chS h2 tS
 have af:=Xf h1.nodup sub1
 have ag:=Xf h2.nodup y
 obtain⟨dx,o1⟩:=X.ob
 refine⟨_,Xb,n,dx,_,Xb,o1,Qhv _,_,Xb,n,A,fs,tb,x,one,l1,Xb,X,h1,sub1,by omega,λrc H1 W c1 e1=>?_⟩
 refine⟨_,Xb,n,dx,_,Xb,W _ _ o1,Qhv _,_,Xb,n,A,fs,tb,x,d,l2,Xb,X.same W,h2,y,by omega,λrd H2 g2 d2 e2=>?_⟩
 have ad:=W.trans g2
 have ae:H rd=none:=W.free d2
 have V:rc≠rd:=Qc e1 d2
 have er:Zw l1=Zw l2:=(I.root one d l1 l2 oS tS h1 h2).mp he
 obtain⟨P0,f1⟩:=h1.last
 obtain⟨Q0,f2⟩:=h2.last
 dsimp only[V8]
 refine⟨λm σ H3=>∃(Pp Qq Y:List Nat)(mm:Nat),m=Pp.length/\l1=Pp++mm::Y/\l2=Qq++mm::Y/\σ=[some (.ref n),some (jv one),some (jv d),some (.ref rc),some (.ref rd),none]/\Q3 H H3/\H3 rc=some (.lst ((Pp++[mm]).map jv))/\H3 rd=some (.lst ((Qq++[mm]).map jv)),
  ⟨_,P0,Q0,[],Zw l1,Xb,f1,by rw[er];exact f2,Xb,ad,by rw[<-f1];exact g2 _ _ e1,by rw[er,<-f2];exact e2⟩,?_⟩
 rintro m σ H3 ⟨Pp,Qq,Y,mm,rfl,k1,k2,rfl,g3,ec,ed⟩
 have lc:((Pp++[mm]).map jv).length=Pp.length+1:=by simp
 have ld:((Qq++[mm]).map jv).length=Qq.length+1:=by simp
 have lP:Pp.length+1<=l1.length:=by rw[k1];simp
 have lQ:Qq.length+1<=l2.length:=by rw[k2];simp
 have hone:(Pp++mm::Qq.reverse).head?=some one:=by
  obtain⟨r,g⟩:=h1.head
  rw[k1]at g
  cases Pp with
  |nil=>simp at g⊢;exact g.1
  |cons a Pp=>simp at g⊢;exact g.1
 have hoth:(Pp++mm::Qq.reverse).getLast?=some d:=by
  obtain⟨r,g⟩:=h2.head
  rw[k2]at g
  rw[Ej]
  have:(mm::Qq.reverse).getLast?=some d:=by
   cases Qq with
   |nil=>simp at g⊢;exact g.1
   |cons a Qq=>
    simp at g
    rw[Ei,<-TM,El,g.1]
  rw[this]
  rfl
 refine⟨_,Xb,rc,_,Xb,.inl (Zd.of ec),_,_,Xb,Xb,_,Xb,?_⟩
 rw[lc]
 by_cases N:Pp=[]
 ·have hne:Pp=[]\/Qq=[]\/Pp.getLast?≠Qq.getLast?:=.inl N
  rw[Tg (by rw[N];decide)]
  refine Zq (Zq ?_)
  infer_instance
 rw[Tp (by have:0<Pp.length:=L1.mpr N;omega)]
 refine Y0 ⟨_,Xb,rd,_,Xb,.inl (Zd.of ed),_,_,Xb,Xb,_,Xb,?_⟩
 rw[ld]
 by_cases O:Qq=[]
 ·have hne:Pp=[]\/Qq=[]\/Pp.getLast?≠Qq.getLast?:=.inr (.inl O)
  rw[Tg (by rw[O];decide)]
  refine Zq (Zq ?_)
  infer_instance
 rw[Tp (by have:0<Qq.length:=L1.mpr O;omega)]
 obtain⟨l,a,eP⟩:∃l a,Pp=l++[a]:=⟨Pp.dropLast,Pp.getLast N,(EF N).symm⟩
 obtain⟨u,b,eQ⟩:∃u b,Qq=u++[b]:=⟨Qq.dropLast,Qq.getLast O,(EF O).symm⟩
 have ab:H3 rc=some (.lst ((l++[a,mm]).map jv)):=by rw[ec,eP];simp
 have ac:H3 rd=some (.lst ((u++[b,mm]).map jv)):=by rw[ed,eQ];simp
 refine Y0 ⟨_,Xb,⟨_,Xb,rc,_,_,_,Xb,Xb,Zd.of ab,Qvo _ _ _,_,Xb,⟨_,Xb,rd,_,_,_,Xb,Xb,Zd.of ac,Qvo _ _ _,Xb,_,Xb,?_⟩⟩⟩
 rw[Qgh]
 by_cases G:a=b
 ·subst G
  subst eP eQ
  rw[Tp rfl]
  refine Y0 ⟨_,λ_ _ h=>h,?_⟩
  have S:((l++[a]++[mm]).map jv)[((l++[a]++[mm]).map jv).length - 1]?=some (jv mm):=by simp
  have U:((u++[a]++[mm]).map jv)[((u++[a]++[mm]).map jv).length - 1]?=some (jv mm):=by simp
  have Z:((l++[a]++[mm]).map jv).dropLast=(l++[a]).map jv:=by rw[Tt (l₂:=[mm])];simp
  have aa:((u++[a]++[mm]).map jv).dropLast=(u++[a]).map jv:=by rw[Tt (l₂:=[mm])];simp
  refine⟨_,Xb,.inl ⟨Xb,_,Zd.of ec⟩,rc,_,_,Xb,Xb,ec,S,?_⟩
  rw[Z]
  have J:(upd H3 rc (.lst ((l++[a]).map jv))) rd=some (.lst ((u++[a]++[mm]).map jv)):=by rw[Qf (Gq V)];exact ed
  refine⟨_,Xb,.inl ⟨Xb,_,Zd.of J⟩,rd,_,_,Xb,Xb,J,U,?_⟩
  rw[aa]
  refine⟨l.length,by simp,l,u,mm::Y,a,Xb,by rw[k1];simp,by rw[k2];simp,Xb,λc o e=>?_,?_,Qb⟩
  ·rw[Qf (Qc e ae),Qf (Qc e c1)]
   exact g3 c o e
  ·rw[Qf V,Qb]
 ·have hne:Pp=[]\/Qq=[]\/Pp.getLast?≠Qq.getLast?:=.inr (.inr (by rw[eP,eQ,El,El];intro z;exact G (TF z)))
  rw[Tg G]
  refine Zq ?_
  infer_instance
end
end K05
namespace PySem
section
variable{prog:Program}{w:World}{A:Around}{E:Value->Shared->Prop}{s:Shared}{d v:Addr}{es:Array DictEntry}{ep:Nat}
theorem Qmu{Q:Value->Shared->Prop}(f:s.heap.IsValuesView v d)(j:s.heap.Jg d es ep)
  (h:Q (.ref s.heap.objs.size) {s with heap:=s.heap.push {cls:=.type "dict_valueiterator",data:=.fields #[.ref d,.int 0 0,.int es.size 0,.int ep 0]}}):
  wpAny (model prog w) A (pyIter (.ref v)) Q E s:=by
 obtain⟨ov,e,i,c⟩:=id f
 obtain⟨o,g,k,a⟩:=id j
 refine Le f.typeIs F.slot_dict_values_iter (TR F.slot_dict_values_iter f.typeIs F.entry_dict_values_iter ?_ (F.args_dict_values_iter_1 _))
 unfold Builtin.«dict_values.__iter__»
 refine Ga (Gf ?_)
 refine Ga ?_
 unfold Builtin.Dict_items.dictOf
 refine Ga (TZ e c (x:=.ref d) rfl (Gf ?_))
 refine Ga ?_
 unfold Builtin.Dict_items.newIterator
 refine Ga (DG g a ?_)
 refine Ga (EC g a ?_)
 have b:Builtin.Dict_items.ownsTuple "dict_valueiterator"=false:=by decide
 simp only[b,T4,DE]
 refine TU (Gf ⟨_,Xb,"dict_valueiterator",_,⟨_,Gz _ Xb,Xb⟩,Dx.lookup,?_⟩)
 simpa[rawInt]using h
theorem Qmn{it:Addr}{i:Nat}{e:DictEntry}{Q:Option Value->Shared->Prop}(a:s.heap.IsValIter it d i es.size ep)(r:s.heap.Jg d es ep)(k:es[i]?=some e)
  (m:∀h',h'.IsValIter it d (i+1) es.size ep->Heap.SameBut it s.heap h'->Q (some e.val) {s with heap:=h'}):
  wpAny (model prog w) A (pyNext (.ref it)) Q E s:=by
 obtain⟨o,l,n,hd⟩:=id a
 obtain⟨od,g,p,f⟩:=id r
 unfold pyNext
 refine Ga (Sn (T5 (name:=Str.ofString "__next__") a.typeIs Dx
  (TR Dx a.typeIs Sd ?_ (Sa _))))
 refine Ga (Gf ?_)
 refine Ga ?_
 refine Ga ?_
 first|refine Ga (DQ a.typeIs (Gf ?_))|refine Ga (Eo a.typeIs (Gf ?_))
 refine Ga (SR l hd ?_)
 have j:Builtin.Dict_items.ownsTuple "dict_valueiterator"=false:=by decide
 simp only[j,T4,DE]
 show wpAny _ _ (if(Value.ref d==Value.none)=true then _ else _) _ _ s
 rw[Gj (show¬((Value.ref d==Value.none)=true)from GV)]
 refine Ga (Gf ?_)
 refine Ga (DG g f ?_)
 rw[Gj (by simp)]
 refine Ga (Gf ?_)
 refine Ga (EC g f ?_)
 rw[Gj (by simp)]
 refine Gf ?_
 have c:i<es.size:=by
  rcases TC i es.size with h|h
  ·exact h
  ·rw[Du h]at k;cases k
 have q:es[i]=e:=by rw[Tu c]at k;exact TF k
 simp only[show¬((i:Int)<0)from by omega,DE,Dz,Tu c]
 refine Ga ?_
 first|refine Ga (DQ a.typeIs (Gf ?_))|refine Ga (Eo a.typeIs (Gf ?_))
 refine Ga (Sh a.typeIs ?_)
 show wpAny _ _ (setField (.ref it) 1 (rawInt ((i:Int)+1))>>=_) _ _ s
 refine Ga (EI l hd (by simp) ?_)
 have b:(s.heap.update it (Obj.mapFields (·.setIfInBounds 1 (rawInt ((i:Int)+1))))).IsValIter it d (i+1) es.size ep:=
  ⟨_,T9 _ l (Sg (D0 hd _)),(Lf ..).trans n,by rw[D0 hd];simp[rawInt]⟩
 refine Ga (Dj ?_)
 refine Ga (Sh (s:={s with heap:=s.heap.update it (Obj.mapFields (·.setIfInBounds 1 (rawInt ((i:Int)+1))))}) b.typeIs ?_)
 refine Ga (Sh (s:={s with heap:=s.heap.update it (Obj.mapFields (·.setIfInBounds 1 (rawInt ((i:Int)+1))))}) b.typeIs ?_)
 show wpAny _ _ (pure es[i].val) _ _ _
 rw[q]
 exact Gf (Gf ⟨_,Xb,Gf (m _ b (Dk ..))⟩)
theorem Qq1{it:Addr}{i:Nat}{Q:Option Value->Shared->Prop}(n:A.handled=none)(c:s.heap.IsValIter it d i es.size ep)(p:s.heap.Jg d es ep)(h:es.size<=i)
  (k:∀h',Heap.ExtBut it s.heap h'->Q none {s with heap:=h'}):wpAny (model prog w) A (pyNext (.ref it)) Q E s:=by
 obtain⟨o,j,q,hd⟩:=id c
 obtain⟨od,f,l,e⟩:=id p
 unfold pyNext
 refine Ga (Sn (T5 (name:=Str.ofString "__next__") c.typeIs Dx
  (TR Dx c.typeIs Sd ?_ (Sa _))))
 refine Ga (Gf ?_)
 refine Ga ?_
 refine Ga ?_
 first|refine Ga (DQ c.typeIs (Gf ?_))|refine Ga (Eo c.typeIs (Gf ?_))
 refine Ga (SR j hd ?_)
 have g:Builtin.Dict_items.ownsTuple "dict_valueiterator"=false:=by decide
 simp only[g,T4,DE]
 show wpAny _ _ (if(Value.ref d==Value.none)=true then _ else _) _ _ s
 rw[Gj (show¬((Value.ref d==Value.none)=true)from GV)]
 refine Ga (Gf ?_)
 refine Ga (DG f e ?_)
 rw[Gj (by simp)]
 refine Ga (Gf ?_)
 refine Ga (EC f e ?_)
 rw[Gj (by simp)]
 refine Gf ?_
 simp only[show¬((i:Int)<0)from by omega,DE,Dz,Du h]
 refine Ga ?_
 first|refine Ga (DQ c.typeIs (Gf ?_))|refine Ga (Eo c.typeIs (Gf ?_))
 show wpAny _ _ (setField (.ref it) 0 .none>>=_) _ _ s
 refine Ga (EI j hd (by simp) ?_)
 show wpAny _ _ (newExc (.type "StopIteration") []>>=_) _ _ _
 refine Ga ?_
 simp only[newExc,newTuple]
 refine Ga (TU ?_ (by size_fits))
 refine Ga (m:=firstArgMember _ _) (wpAny_of_eq (a:=Value.none) (by first|rfl|(simp only[firstArgMember];rfl)) ?_)
 refine TU ?_ (by size_fits)
 simp only[raiseNew]
 refine Ga (L8 ?_)
 rw[show A.in1.handled=none from n]
 refine Ga (Gf (wpAny_throw ?_))
 refine Ga (EK (T:="StopIteration") (b:=true) ⟨_,Gz _ Xb,Xb⟩ LQ ?_)
 exact Gf (k _ (((Dk ..).extBut.push _).push _))
theorem Walks.Qsi(m:A.handled=none)(I d:Addr)(j:d≠I)(es:Array DictEntry)(ep:Nat):
  Walks prog w A I [I,d] [I] es.size (λi v=>∃e,es[i]?=some e/\v=e.val) (λi h=>h.IsValIter I d i es.size ep/\h.Jg d es ep) where
 sub:=λb hb=>by simp at hb;simp[hb]
 frame:=λ_ _ _ st k=>⟨st.1.at λo e=>k I (by simp) o e,st.2.at λo e=>k d (by simp) o e⟩
 item:=λi s Q E hi st a=>by
  have l:es[i]?=some es[i]:=Tu hi
  refine Qmn st.1 st.2 l λh' c f=>?_
  exact a _ h' s.toks ⟨_,l,Xb⟩ ⟨c,st.2.at λo e=>(f.2 d j).trans e⟩ λb o hb e=>f.extBut b o (λh=>hb (by simp[h])) e
 done:=λs Q E st a=>Qq1 m st.1 st.2 (Gr _) λh' g=>a h' s.toks λb o hb e=>g b o (λh=>hb (by simp[h])) e
 self:=λ_ _ _ _ st a=>wpAny_pyIter_valiter st.1 a
theorem Qp7:PySem.W.KdlSrc prog w "dict_values" v d es.size (λi x=>∃e,es[i]?=some e/\x=e.val) (λh=>h.IsValuesView v d/\h.Jg d es ep) where
 type:=λ_ a=>a.1.typeIs
 there:=λ_ a=>⟨let⟨_,b,_⟩:=a.1;Gw b,a.2.lt⟩
 keep:=λ_ _ a f=>⟨let⟨o,b,x⟩:=a.1;⟨o,f v (.inl Xb) o b,x⟩,a.2.at λo e=>f d (.inr Xb) o e⟩
 notList:=by decide
 notTuple:=by decide
 hint:=λ_ _ _ _ a c=>PySem.W.kdl_hint_values a.1.typeIs c
 iter:=λ_ _ g a=>⟨_,_,(λ_ _ c=>Qmu a.1 a.2 c),Walks.Qsi g _ d (Ts a.2.lt) es ep,⟨⟨_,Gz _ Xb,Xb,Xb⟩,a.2.at λo e=>Gh _ e⟩⟩
end
end PySem
namespace L2
open PySem PySem.Spec PyProof.Rows
def vvw(v d:Addr):HO:=.ext λh=>h.IsValuesView v d
theorem Qwb{P:Program}{w:World}{H:Hp}{h:Heap}{v d:Addr}(x:h.IsValuesView v d):Z0 P w H h v (vvw v d):=by
 refine⟨x,?_,?_⟩
 ·obtain⟨o,a,_⟩:=x
  exact⟨o,a⟩
 ·rintro h1 h2 ⟨o,a,r⟩ k
  exact⟨o,k o a,r⟩
section
variable{X:Cx}{o:Expr}{to:TE}{name:Str}{apos cpos:Pos}{id:String}{r:V->List V->Hp->VK->Prop}
def Qy8(P:Program)(w:World)(r:V->List V->Hp->VK->Prop)(to:TE):TE:=λσ H Q=>to σ H λx H1=>(∃d kvs,x=.ref d/\H1 d=some (Uq P w d kvs))/\r x [] H1 Q
theorem Qts(slot:Slot "dict" name id)(c:typeOf (.builtin id)=pure (.type "method_descriptor"))(g:MtR X id r)(i:PE X o to)
  (a:attributeBase o name X.env (eval o X.env)=eval o X.env:=by rfl)(b:(apos.endLine==cpos.line)=true:=by rfl):PE X (.Call (.Attribute o name apos) [] [] cpos) (Qy8 X.prog X.w r to):=by
 intro pins s σ H Q I h
 refine wpAny_Call_method0_late a b (Ys (i pins s σ H _ I h) λv s1⟨x,H1,e,k,ty,j⟩=>?_)
 obtain⟨d,kvs,rfl,f⟩:=ty
 cases(show v=Value.ref d from k)
 obtain⟨h1,h2⟩:=Qit e f
 exact⟨"dict",id,Ev,slot,c,h1,h2,Ez rfl (LX (g pins s1 σ H1 (.ref d) [] _ [] Q e rfl .nil j))⟩
def Qyr(P:Program)(w:World):V->List V->Hp->VK->Prop:=λx vs H Q=>∃d kvs,x=.ref d/\vs=[]/\DH P w H d kvs/\∀v,H v=none->Q (.ref v) (upd H v (vvw v d))
theorem Qso:MtR X "dict.values" (Qyr X.prog X.w):=by
 intro pins s σ H x vs v us Q I c rv h
 obtain⟨d,kvs,rfl,rfl,D,q⟩:=h
 cases(show v=Value.ref d from c)
 cases rv
 obtain⟨z,hd,ys,rel,o,es,ep,h1,h2,e,f,nodup⟩:=On I D.at_
 have b:s.TypeIs (.ref d) "dict":=⟨o,h1,h2.1⟩
 refine TR Lq b PySem.F.entry_dict_values ?_ (PySem.F.args_dict_values_1 _)
 refine Ga ?_
 unfold Builtin.Dict.noArgs
 refine Ga (Sf b ?_)
 show wpAny _ _ (pure d) _ _ s
 refine Gf ?_
 show wpAny _ _ (Builtin.Dict.showsAll d>>=_) _ _ s
 unfold Builtin.Dict.showsAll
 rw[Gj (by rw[hd];exact GV)]
 refine Ga (Gf ?_)
 refine Ga (TU (Gf ⟨_,Xb,?_⟩))
 exact⟨.ref s.heap.objs.size,_,I.laid (a:=s.heap.objs.size) (o:=vvw s.heap.objs.size d) (t':=s.toks) (λ_ _ q=>Gh _ q) (Gr _) (Qwb ⟨_,Gz _ Xb,Xb,Xb⟩),Xb,q _ (I.Zy.fresh (Gr _))⟩
theorem Qdu(B:X.calm=true):Vr X (.type "list") (λxs H Q=>∃v d kvs,xs=[.ref v]/\H v=some (vvw v d)/\DH X.prog X.w H d kvs/\∀l,H l=none->Q (.ref l) (upd H l (.lst (kvs.map λp=>p.2.2)))):=by
 intro pins s σ H xs us Q I r h
 obtain⟨v,d,kvs,rfl,k,D,q⟩:=h
 obtain⟨u,rfl,G⟩:=vals1 r
 cases(show u=Value.ref v from G)
 obtain⟨z,hd,ys,rel,o,es,ep,h1,h2,A,m,nodup⟩:=On I D.at_
 have n:s.heap.IsValuesView v d:=(I.Zy v _ k).1
 have e:es.size=kvs.length:=by rw[Gs rel,<-Gn (f:=entryOfKey (W6 X.prog X.w)),<-m,TX]
 refine PySem.W.kdl_call (Qp7 (es:=es) (ep:=ep)) (I.ok.hd B) ⟨n,o,h1,h2,A⟩ (by rw[e];exact z) λh' tk a y kp hS b=>?_
 have g:(kvs.map λp=>p.2.2).length<=sizeLine:=by rw[Gn];exact z
 have k:Zv (kvs.map λp=>p.2.2) a.toList:=by
  have j:es.toList.map (·.val)=ys.map λq=>q.2.2:=by rw[m,TJ];rfl
  have c:a.toList=es.toList.map (·.val):=by
   refine E9 λi=>?_
   by_cases hi:i<a.size
   ·obtain⟨en,C,k⟩:=b.2 i a[i] (Tu hi)
    rw[Dl,Tu hi,GY,Dl,C,k]
    rfl
   ·have hsz:=b.1
    rw[Tz (by simp;omega),Tz (by simp;omega)]
  rw[c,j]
  clear q z m j c g e b D nodup
  induction rel with
  |nil=>exact .nil
  |@cons p q ps J E t F=>
   rw[GO,GO]
   exact .cons E.2.2 F
 have x:Inv X pins σ (upd H s.heap.objs.size (.lst (kvs.map λp=>p.2.2))) {s with heap:=h',toks:=tk}:=
  I.laid (t':=tk) kp (Gr _) (show Z0 X.prog X.w _ h' _ (.lst _)from⟨g,a.toList,y,k,by rw[Eh];exact hS⟩)
 exact⟨.ref s.heap.objs.size,_,x,Xb,q _ (I.Zy.fresh (Gr _))⟩
end
def Pln:HO->Prop
 |.dK _=>True
 |.frz _ (.dK _)=>True
 |_=>False
theorem Inv.swap{X:Cx}{pins:List (Addr×Obj)}{σ:St}{H:Hp}{s:Shared}{a:Addr}{u d:HO}(I:Inv X pins σ H s)(e:H a=some u)(f:Pln u)(k:Pln d)(hz:∀o v,X.H₀ a≠some (.frz o v))(new:Z0 X.prog X.w (upd H a d) s.heap a d):Inv X pins σ (upd H a d) s:=by
 have nn:∀b,H b=none->b≠a:=λb hb z=>by rw[z,e]at hb;cases hb
 have tp:∀b xs,H b=some (.tup xs)->b≠a:=λb xs hb z=>by
  rw[z,e]at hb
  cases hb
  exact f
 have r:∀b y,H b=some (.own y)->b≠a:=λb xs hb z=>by
  rw[z,e]at hb
  cases hb
  exact f
 have tb:∀b ps,H b=some (.tbl ps)->b≠a:=λb xs hb z=>by
  rw[z,e]at hb
  cases hb
  exact f
 refine⟨I.ok,I.os,I.bare,⟨I.base.keep,I.base.slot,λb o i n l=>?_,I.base.there,λb xs h=>?_,λb o v h=>?_,λb ps h=>?_⟩,I.loc,I.cell,?_,λx c h=>?_,λp h=>?_,λb o h=>?_,I.len⟩
 ·have:=I.base.free b o i n l
  rw[Qf (nn b this)]
  exact this
 ·have:=I.base.Qm b xs h
  rw[Qf (tp b xs this)]
  exact this
 ·have ne:b≠a:=λz=>hz o v (z▸h)
  rw[Qf ne]
  exact I.base.R1 b o v h
 ·obtain⟨m,g⟩:=I.base.Qa5 b ps h
  exact⟨m,by rw[Qf (tb _ _ g)];exact g⟩
 ·rw[Qf (nn _ I.free)]
  exact I.free
 ·rw[Qf (nn _ (I.Je x c h))]
  exact I.Je x c h
 ·obtain⟨h1,h2,j⟩:=I.pin p h
  exact⟨h1,by rw[Qf (nn _ h2)];exact h2,j⟩
 ·by_cases hb:b=a
  ·subst hb
   rw[Qb]at h
   cases h
   exact new
  ·rw[Qf hb]at h
   exact(I.Zy b o h).Qif (λc v _ q=>q) (λc q=>by rw[Qf (r c b q)];exact q) λc xs q=>by rw[Qf (tp c xs q)];exact q
def fz(o:Obj)(kvs:List (Xo×V)):HO:=.frz o (.dK kvs)
theorem Qsm{P:Program}{w:World}{H H':Hp}{h:Heap}{a:Addr}{kvs:List (Xo×V)}(x:Z0 P w H h a (.dK kvs)):Z0 P w H' h a (.dK kvs):=x
def ItF(a:Addr)(o:Obj)(kvs:List (Xo×V)):It:=⟨λi H=>i<kvs.length/\H a=some (fz o kvs),λi H x H'=>H'=H/\∃p,kvs[i]?=some p/\x=kV p.1,λi H=>kvs.length<=i/\H a=some (fz o kvs)⟩
theorem Qvs{k:Xo}{u:Value}(h:Qbs k u=true):RelV (kV k) u:=by
 rcases Yq h with⟨i,t,rfl,rfl⟩|⟨x,t,rfl,rfl⟩
 ·exact⟨t,Xb⟩
 ·exact⟨t,Xb⟩
theorem Qwz{kvs:List (Xo×V)}{vs:List (Xo×Value)}(r:KV kvs vs){i:Nat}{p:Xo×V}(h:kvs[i]?=some p):∃u,vs[i]?=some (p.1,u):=by
 unfold KV at r
 induction r generalizing i with
 |nil=>simp at h
 |@cons a b f bs d t e=>
  cases i with
  |zero=>
   simp at h
   subst h
   obtain⟨g,c⟩:=b
   exact⟨c,by simp[d.1]⟩
  |succ i=>
   simp only[Lx]at h⊢
   exact e h
theorem Qmm{P:Program}{w:World}{K:Gc}{tg:Expr}(a it:Addr)(o:Obj)(kvs:List (Xo×V))(es:Array DictEntry)(ep:Nat)(p:o.data=.dict es ep):Qg8 P w K tg (ItF a o kvs) [it] it (λi h=>h.IsKeyIter it a i kvs.length ep) where
 mem:=by simp
 obj:=λi h st b hb=>by
  have e:b=it:=by simpa using hb
  subst e
  obtain⟨o,e,c,d⟩:=st
  exact⟨o,e,λv z=>by rw[d]at z;cases z⟩
 keep:=λi h h' st k=>st.at λo e=>k it (by simp) o e
 item:=by
  intro X F hw D M i pins s σ H E I n st G
  subst F hw D
  obtain⟨hi,J⟩:=G
  obtain⟨h1,z,hd,vs,rel,q⟩:=I.Zy a _ J
  obtain⟨r,o',t,g,j,f,L⟩:=q.dictAt
  rw[h1]at g
  cases g
  rw[p]at f
  cases f
  have N:kvs[i]?=some kvs[i]:=Gg hi
  obtain⟨u,hu⟩:=Qwz rel N
  obtain⟨x,y,U,A,B,C⟩:=n it (by simp)
  have m:s.heap.IsKeyIter it a i vs.length ep:=by rw[<-rel.length];exact st
  refine wpAny_pyNext_dict_item (knd:=Yh X.prog X.w) m ⟨o,es,h1,j,p,L⟩ hu λkey h' Y l sb=>?_
  have O:Inv X pins σ H {s with heap:=h'}:=I.turned (t':=s.toks) (λb o hb e=>(sb.2 b hb).trans e) x y A B C
  rw[<-rel.length]at l
  obtain⟨o2,S,Q,R⟩:=id l
  exact⟨key,Xb,Qhj (s:={s with heap:=h'}) S Q R (by decide) ⟨kV kvs[i].1,H,O,Qvs Y,⟨Xb,_,N,Xb⟩,l,λb hb=>(n b hb).1⟩⟩
 done:=by
  intro X F hw D M i pins s σ H E I n st G
  subst F hw D
  obtain⟨hi,J⟩:=G
  obtain⟨h1,z,hd,vs,rel,q⟩:=I.Zy a _ J
  obtain⟨r,o',t,g,j,f,L⟩:=q.dictAt
  rw[h1]at g
  cases g
  rw[p]at f
  cases f
  obtain⟨x,y,U,A,B,C⟩:=n it (by simp)
  have Z:kvs.length=vs.length:=rel.length
  have m:s.heap.IsKeyIter it a i vs.length ep:=by rw[<-Z];exact st
  exact wpAny_pyNext_dict_end (knd:=Yh X.prog X.w) (I.ok.hd M) m ⟨o,es,h1,j,p,L⟩ (Tz (by omega)) λh' T=>⟨Xb,I.turned (t':=s.toks) (λb o hb e=>T b o hb e) x y A B C⟩
 self:=λ_ _ _ _ _ st h=>wpAny_pyIter_keyiter st h
def Qy5(te:TE):TI:=λσ H R=>te σ H λx H1=>∃a kvs,x=.ref a/\((H1 a=some (.dK kvs)/\∀o,R (ItF a o kvs) (upd H1 a (fz o kvs))))
def Qy7(t:TS):TS:=λD σ H=>∃a kvs,H a=some (.dK kvs)/\t {nx:=(λb H'=>∃o,H' a=some (fz o kvs)/\D.nx b (upd H' a (.dK kvs))),rt:=(λv H'=>∃o,H' a=some (fz o kvs)/\D.rt v (upd H' a (.dK kvs))),bk:=(λb H'=>∃o,H' a=some (fz o kvs)/\D.bk b (upd H' a (.dK kvs))),ct:=(λb H'=>∃o,H' a=some (fz o kvs)/\D.ct b (upd H' a (.dK kvs)))} σ H
section
variable{X:Cx}{tg:Expr}
theorem Inv.Qyz{pins:List (Addr×Obj)}{σ:St}{H:Hp}{s:Shared}{a:Addr}{kvs:List (Xo×V)}(I:Inv X pins σ H s)(e:H a=some (.dK kvs)):∀o v,X.H₀ a≠some (.frz o v):=λo v z=>by
 rw[I.base.R1 a o v z]at e
 cases e
theorem Qll{e:Expr}{te:TE}(l:PE X e te):PI X tg e (Qy5 te):=by
 intro pins s σ H R I h
 refine Ys (l pins s σ H _ I h) λv s1⟨x,H1,d,n,m⟩=>?_
 obtain⟨a,kvs,e,g,q⟩:=m
 subst e
 cases n
 obtain⟨z,hd,vs,rel,i⟩:=Qlj d.Zy g
 obtain⟨ep,o,es,j,k,c,r⟩:=i.dictAt
 refine wpAny_pyIter_dict (knd:=Yh X.prog X.w) hd ⟨o,es,j,k,c,r⟩ ?_
 have f:Inv X pins σ (upd H1 a (fz o kvs)) s1:=d.swap g trivial trivial (d.Qyz g) ⟨j,z,hd,vs,rel,i⟩
 refine⟨s1.heap.objs.size,[s1.heap.objs.size],_,_,_,Xb,f.kept (t':=s1.toks) λb o e=>Gh _ e,Qmm a _ o kvs es ep c,?_,λb hb=>?_,q o⟩
 ·rw[rel.length]
  exact⟨_,Gz _ Xb,Xb,Xb⟩
 ·have e:b=s1.heap.objs.size:=by simpa using hb
  subst e
  exact f.Qkg (Gr _) (f.Zy.fresh (Gr _))
theorem Qma{st:Stmt}{t:TS}(h:PS X st t):PS X st (Qy7 t):=by
 intro pins s σ H D I i
 obtain⟨a,kvs,e,q⟩:=i
 have j:=I.Qyz e
 have un:∀{b:St}{H':Hp}{s':Shared}{o:Obj},Inv X pins b H' s'->H' a=some (fz o kvs)->Inv X pins b (upd H' a (.dK kvs)) s':=λc d=>c.swap d trivial trivial j (by
  obtain⟨_,r⟩:=c.Zy a _ d
  exact Qsm r)
 refine Ys (h pins s σ H _ I q) λf s' r=>?_
 cases f with
 |next=>obtain⟨b,H',c,o,d,g⟩:=r;exact⟨b,_,un c d,g⟩
 |cont=>obtain⟨b,H',c,o,d,g⟩:=r;exact⟨b,_,un c d,g⟩
 |brk=>obtain⟨b,H',c,o,d,g⟩:=r;exact⟨b,_,un c d,g⟩
 |ret v=>obtain⟨x,b,H',c,k,o,d,g⟩:=r;exact⟨x,b,_,un c d,k,g⟩
end
theorem Qg6{a:Addr}{o:Obj}{kvs:List (Xo×V)}{g:TG}{tb:TS}{D:Ends}{σ:St}{H:Hp}(Pv:Nat->St->Hp->Prop)(j:Pv 0 σ H)(k:∀i σ H,i<=kvs.length->Pv i σ H->H a=some (fz o kvs))
  (l:∀i p σ H,kvs[i]?=some p->Pv i σ H->g (kV p.1) σ H λc H2=>tb {D with nx:=Pv (i+1),ct:=Pv (i+1),bk:=D.nx} c H2)(hd:∀σ H,Pv kvs.length σ H->D.nx σ H):
  ∃W:Nat->Nat->St->Hp->Prop,(∃m,W 0 m σ H)/\∀i m σ H,W i m σ H->
   ((ItF a o kvs).stop i H/\D.nx σ H)\/((ItF a o kvs).go i H/\∃N:St->Hp->Prop,(∀b H',N b H'->∃f,f<m/\W (i+1) f b H')/\∀x H',(ItF a o kvs).yld i H x H'->g x σ H' λc H2=>tb {D with nx:=N,ct:=N,bk:=D.nx} c H2):=by
 refine⟨λi m σ H=>m=kvs.length - i/\i<=kvs.length/\Pv i σ H,⟨kvs.length,by simp,Ta _,j⟩,?_⟩
 rintro i m σ H ⟨rfl,hi,p⟩
 have q:=k i σ H hi p
 by_cases d:i<kvs.length
 ·refine .inr ⟨⟨d,q⟩,Pv (i+1),λb H' r=>⟨kvs.length - (i+1),by omega,Xb,d,r⟩,λx H' y=>?_⟩
  obtain⟨e,y,n,h⟩:=y
  subst e h
  exact l i y σ _ n p
 ·have e:i=kvs.length:=by omega
  subst e
  exact .inl ⟨⟨Gr _,q⟩,hd σ H p⟩
def Itd(lo:Int)(n:Nat):It:=⟨λi _=>i<n,λi H x H'=>H'=H/\x=.int (lo - i),λi _=>n<=i⟩
theorem Qn1{P:Program}{w:World}{K:Gc}{tg:Expr}(it:Addr)(lo:Int)(n:Nat):Qg8 P w K tg (Itd lo n) [it] it (λi h=>IsRangeIter h it (lo+(i:Nat)*(-1)) ((n:Int) - (i:Nat)) (-1)) where
 mem:=by simp
 obj:=λi h st b hb=>by
  have e:b=it:=by simpa using hb
  subst e
  exact⟨_,st,λv z=>by
   have C:Data.fields _=Data.cell v:=z
   cases C⟩
 keep:=λi h h' st k=>k it (by simp) _ st
 item:=by
  intro X p hw m q i pins s σ H E I c st r
  subst p hw m
  obtain⟨d,f,y,g,j,l⟩:=c it (by simp)
  have W:=Walks.range (prog:=X.prog) (w:=X.w) (I.ok.hd q) it lo (-1) n
  refine W.item i s _ _ r st λv h' tk A a B=>?_
  obtain⟨t,rfl⟩:=A
  have u:Inv X pins σ H {s with heap:=h',toks:=tk}:=I.turned (λb o hb e=>B b o (by simpa using hb) e) d f g j l
  refine⟨_,Xb,Qhj (s:={s with heap:=h',toks:=tk}) (n:="range_iterator") a rfl rfl (by decide) ⟨.int (lo - i),H,u,⟨t,?_⟩,⟨Xb,Xb⟩,a,λb hb=>(c b hb).1⟩⟩
  congr 1
  omega
 done:=by
  intro X p hw m q i pins s σ H E I c st r
  subst p hw m
  obtain⟨d,f,y,g,j,l⟩:=c it (by simp)
  exact wpAny_pyNext_range_end (I.ok.hd q) st (by have:n<=i:=r;omega) λh' x=>⟨Xb,I.turned (t':=s.toks) (λb o hb e=>x b o hb e) d f g j l⟩
 self:=λ_ _ _ _ _ st h=>wpAny_pyIter_rangeiter st h
theorem rangeSize_down(n:Nat):Builtin.Range.rangeSize ((n:Int) - 1) (-1) (-1)=n:=by
 unfold Builtin.Range.rangeSize
 simp only[show¬((-1:Int)>0) by decide,DE,show -(-1:Int)=1 by decide,Int.ediv_one]
 split<;>omega
theorem small_down{n:Nat}(h:n<=1000000):Builtin.Range.small ((n:Int) - 1) (-1) (-1)=true:=by
 unfold Builtin.Range.small
 rw[rangeSize_down]
 simp only[Builtin.Range.rangeFitsLong,TD,Bool.or_eq_true,decide_eq_true_eq,SM,show¬((-1:Int)>0) by decide,DE]
 omega
def Qzi(ta:TA):TI:=λσ H R=>ta σ H λvs H1=>∃n:Nat,vs=[.int ((n:Int) - 1),.int (-1),.int (-1)]/\n<=1000000/\R (Itd ((n:Int) - 1) n) H1
theorem Qs0{X:Cx}{tg:Expr}{a b c:Expr}{ta:TA}{p pos:Pos}(v:Gl X "range")(w:X.mg "range"=none)(u:PA X [a,b,c] ta)(y:starEach [a,b,c] X.env=[(false,eval a X.env),(false,eval b X.env),(false,eval c X.env)]:=by rfl)(f:starEach [b,c] X.env=[(false,eval b X.env),(false,eval c X.env)]:=by rfl):
  PI X tg (.Call (.Name "range" p) [a,b,c] [] pos) (Qzi ta):=by
 intro pins s σ H R I h
 refine Call_ (V3 I v w boot_range (DT (Ys (u pos pins s σ H _ I h) λus s1⟨vs,H1,k,B,z⟩=>?_) (by rw[y,f]) (by rw[f];rfl)))
 obtain⟨n,e,x,q⟩:=z
 subst e
 cases B with
 |cons r g=>
  cases g with
  |cons A g=>
   cases g with
   |cons j g=>
    cases g
    obtain⟨t,rfl⟩:=r
    obtain⟨t',rfl⟩:=A
    obtain⟨d,rfl⟩:=j
    refine call_range_3 (by decide) ?_ (.inl (LF (by omega)))
    refine wpAny_pyIter_range (IsRange.new ..) (small_down x) ?_
    have i:Inv X pins σ H1 {s1 with heap:=s1.heap.push {cls:=.type "range",data:=.fields #[.int ((n:Int) - 1) t,.int (-1) t',.int (-1) d]},toks:=s1.toks}:=k.kept λb o e=>Gh _ e
    refine⟨(s1.heap.push {cls:=.type "range",data:=.fields #[.int ((n:Int) - 1) t,.int (-1) t',.int (-1) d]}).objs.size,[(s1.heap.push {cls:=.type "range",data:=.fields #[.int ((n:Int) - 1) t,.int (-1) t',.int (-1) d]}).objs.size],_,_,H1,Xb,
     i.kept (t':=s1.toks) λb o e=>Gh _ e,Qn1 _ ((n:Int) - 1) n,?_,λb hb=>?_,q⟩
    ·have l:((n:Int) - 1)+((0:Nat):Int)*(-1)=(n:Int) - 1:=by simp
     have m:(n:Int) - ((0:Nat):Int)=Builtin.Range.rangeSize ((n:Int) - 1) (-1) (-1):=by rw[rangeSize_down];simp
     show IsRangeIter _ _ (((n:Int) - 1)+((0:Nat):Int)*(-1)) ((n:Int) - ((0:Nat):Int)) (-1)
     rw[l,m]
     exact Gz _ rfl
    ·have e:b=(s1.heap.push {cls:=.type "range",data:=.fields #[.int ((n:Int) - 1) t,.int (-1) t',.int (-1) d]}).objs.size:=by simpa using hb
     subst e
     exact i.Qkg (Gr _) (i.Zy.fresh (Gr _))
theorem Qrb{lo:Int}{n:Nat}{g:TG}{tb:TS}{D:Ends}{σ:St}{H:Hp}(Pv:Nat->St->Hp->Prop)(f:Pv 0 σ H)
  (h:∀i σ H,i<n->Pv i σ H->g (.int (lo - i)) σ H λc H2=>tb {D with nx:=Pv (i+1),ct:=Pv (i+1),bk:=D.nx} c H2)(hd:∀σ H,Pv n σ H->D.nx σ H):
  ∃W:Nat->Nat->St->Hp->Prop,(∃m,W 0 m σ H)/\∀i m σ H,W i m σ H->
   ((Itd lo n).stop i H/\D.nx σ H)\/((Itd lo n).go i H/\∃N:St->Hp->Prop,(∀b H',N b H'->∃d,d<m/\W (i+1) d b H')/\∀x H',(Itd lo n).yld i H x H'->g x σ H' λc H2=>tb {D with nx:=N,ct:=N,bk:=D.nx} c H2):=by
 refine⟨λi m σ H=>m=n - i/\i<=n/\Pv i σ H,⟨n,by simp,Ta _,f⟩,?_⟩
 rintro i m σ H ⟨rfl,hi,p⟩
 by_cases a:i<n
 ·refine .inr ⟨a,Pv (i+1),λb H' j=>⟨n - (i+1),by omega,Xb,a,j⟩,λx H' y=>?_⟩
  obtain⟨e,y⟩:=y
  subst e y
  exact h i σ _ a p
 ·have e:i=n:=by omega
  subst e
  exact .inl ⟨Gr _,hd σ H p⟩
def Qsv:List V->Hp->VK->Prop:=λvs H Q=>∃d kvs a,vs=[.ref d]/\H d=some (.dK kvs)/\kvs.map (·.1)=a.map Sum.inl/\kvs.length<64/\∀(r:Addr)(ns:List Int),H r=none->ns.Perm a->ns.Pairwise (·<=·)->Q (.ref r) (upd H r (.lst (ns.map V.int)))
theorem Qmi{P:Program}{w:World}{h:Heap}:∀{kvs:List (Xo×V)}{vs:List (Xo×Value)}{b:List Int}{acc:List Value},KV kvs vs->kvs.map (·.1)=b.map Sum.inl->acc.length=vs.length->(∀(i:Nat)(u:Value),acc[i]?=some u->∃k x,vs[i]?=some (k,x)/\(Yh P w).is k u=true)->IntsAre acc b
 |[],[],[],[],_,_,_,_=>.nil
 |[],[],[],_::_,_,_,a,_=>by simp at a
 |[],[],_::_,_,_,e,_,_=>by simp at e
 |p::kvs,q::vs,[],_,_,e,_,_=>by simp at e
 |p::kvs,q::vs,k::b,[],_,_,a,_=>by simp at a
 |p::kvs,q::vs,k::b,u::acc,.cons r t,e,a,c=>by
  simp only[GO,Tx]at e
  obtain⟨j,x,d,f⟩:=c 0 u rfl
  simp at d
  have:j=Sum.inl k:=by rw[<-e.1,r.1,d]
  subst this
  obtain⟨t',rfl⟩:=Value.isInt_shape (k:=k) (v:=u) f
  exact .cons _ _ (Qmi (P:=P) (w:=w) (h:=h) t e.2 (by simpa using a) λi u g=>c (i+1) u g)
theorem Qm4{acc:List Value}{a:List Int}(h:IntsAre acc a):Zv (a.map V.int) acc:=by
 induction h with
 |nil=>exact .nil
 |cons n t r b=>exact .cons ⟨_,Xb⟩ b
theorem Qg9{X:Cx}(K:X.calm=true):Vr X (.builtin "sorted") Qsv:=by
 intro pins s σ H xs us Q I r h
 obtain⟨d,kvs,B,rfl,N,y,M,q⟩:=h
 obtain⟨u,rfl,R⟩:=vals1 r
 cases(show u=Value.ref d from R)
 obtain⟨z,hd,vs,rel,G⟩:=Qlj I.Zy N
 obtain⟨ep,l⟩:=G.dictAt
 have c:kvs.length=vs.length:=rel.length
 refine S0 kind_sorted plain_sorted entry_sorted (args_sorted1 _) ?_
 unfold Builtin.«sorted»
 refine Ga (m:=checkCount "sorted" 1 1 _) (Gf ?_)
 refine Ga (PySem.W.kdu_collect (A:=X.A.in1) (PySem.W.kdl_dict (knd:=Yh X.prog X.w) (kvs:=vs) (ep:=ep) hd) (I.ok.hd K) l (by rw[<-c];exact z) λh' tk acc p f=>?_)
 have g:acc.toList.length=vs.length:=by rw[TX];exact f.1
 have J:IntsAre acc.toList B:=Qmi (P:=X.prog) (w:=X.w) (h:=h') rel y g λi u O=>f.2 i u (by rw[<-Dl];exact O)
 have v:Inv X pins σ H {s with heap:=h',toks:=tk}:=I.kept p
 refine Ga (wpAny_newList ?_ (by rw[g,<-c];exact z))
 have n:(h'.push {cls:=.type "list",data:=.seq acc.toList.toArray}).get? h'.objs.size=some (seqObj "list" acc.toList.toArray 0):=Gz _ rfl
 refine Ga (Dj ?_)
 refine TR PySem.F.slot_list_sort ⟨_,n,Xb⟩ PySem.F.entry_list_sort ?_ (PySem.F.args_list_sort_1 _)
 refine list_sort_tree n J (by rw[g,<-c];exact M) λout j D x E=>?_
 refine⟨_,Xb,?_⟩
 refine Gf ⟨_,Xb,?_⟩
 obtain⟨e,L⟩:=sortedHeap_at (out:=out) n
 have keep:∀b o,h'.get? b=some o->(sortedHeap (h'.push {cls:=.type "list",data:=.seq acc.toList.toArray}) h'.objs.size acc.toList out).get? b=some o:=λb o k=>by
  rw[sortedHeap_old (Ts (Gw k)) (by rw[size_push'];exact Nat.lt_succ_of_lt (Gw k))]
  exact Gh _ k
 have t:j.length<=sizeLine:=by
  rw[x.length_eq]
  have:B.length=kvs.length:=by
   have:=congrArg List.length y
   simpa using this.symm
  rw[this]
  exact z
 have C:=v.laid (a:=h'.objs.size) (o:=.lst (j.map V.int)) (t':=tk) keep (Gr _) ⟨by rw[Gn];exact t,out.toList,e,Qm4 D,by rw[Eh];exact L⟩
 exact⟨.ref h'.objs.size,_,C,Xb,q _ _ (v.Zy.fresh (Gr _)) x E⟩
end L2
namespace K05
open PySem L2 Sb Nt
def Qip(C:Addr):Sp:=λvs H Q _=>∃(n:Addr)(A:Na)(fs:List Fm)(x:Nn)(p:Nat),vs=[.ref n,jv p]/\(∃dx,H n=some (.ins C dx (Yw A)))/\(∃a,H A.f=some (.lst a)/\Paired (I0 H) a fs)/\Rd H A.l (.dK (dS x.S λp=>jv (x.lead p)))/\p<fs.length/\(∀q∈Zi fs p,q∈x.S)/\(Zi fs p).length<=1000000/\
 ∀(c:Addr)(H':Hp),Q3 H H'->H c=none->I0 H' (.ref c) (Zg (Ya fs) (Zi fs) x.lead p)->Q (.ref c) H'
abbrev Row:=Str×List Nat×Nat
def Ju(H:Hp)(X:Addr->Prop)(v:V)(r:Row):Prop:=∃c l,v=.ref c/\H c=some (.tup [.str r.1,.ref l,jv r.2.2])/\H l=some (.lst (r.2.1.map jv))/\¬X l
theorem Ju.kp{X:Addr->Prop}{H H':Hp}(tp:∀{c:Addr}{ys:List V},H c=some (.tup ys)->H' c=some (.tup ys))(lp:∀{c:Addr}{ys:List V},H c=some (.lst ys)->¬X c->H' c=some (.lst ys)){v:V}{r:Row}(h:Ju H X v r):Ju H' X v r:=by
 obtain⟨c,l,h1,h2,b,a⟩:=h
 exact⟨c,l,h1,tp h2,lp b a,a⟩
theorem Ju.ex{X Y:Addr->Prop}{H:Hp}(d:∀c ys,H c=some (.lst ys)->¬X c->¬Y c){v:V}{r:Row}(h:Ju H X v r):Ju H Y v r:=by
 obtain⟨c,l,h1,h2,a,b⟩:=h
 exact⟨c,l,h1,h2,a,d _ _ a b⟩
def U9(H:Hp)(X:Addr->Prop)(v:V)(a:List Row):Prop:=∃r es,v=.ref r/\H r=some (.lst es)/\¬X r/\Paired (Ju H X) es a
theorem U9.kp{X:Addr->Prop}{H H':Hp}(tp:∀{c:Addr}{ys:List V},H c=some (.tup ys)->H' c=some (.tup ys))(lp:∀{c:Addr}{ys:List V},H c=some (.lst ys)->¬X c->H' c=some (.lst ys)){v:V}{b:List Row}(h:U9 H X v b):U9 H' X v b:=by
 obtain⟨r,es,h1,h2,a,d⟩:=h
 exact⟨r,es,h1,lp h2 a,a,L2.Paired.Z8 d λ_ _ h=>h.kp tp lp⟩
theorem U9.ex{X Y:Addr->Prop}{H:Hp}(a:∀c ys,H c=some (.lst ys)->¬X c->¬Y c){v:V}{b:List Row}(h:U9 H X v b):U9 H Y v b:=by
 obtain⟨r,es,h1,h2,d,e⟩:=h
 exact⟨r,es,h1,h2,a _ _ h2 d,L2.Paired.Z8 e λ_ _ h=>h.ex a⟩
def Wy(fs:List Fm)(x:Nn)(N:Nat->Nat)(p:Nat):Row:=(Ya fs p,(Zi fs p).map (λq=>N (x.lead q)),N (x.lead p))
structure Wok(fs:List Fm)(x:Nn)(rs:List Row):Prop where
 ex:∃N:Nat->Nat,(∀p∈x.S,∀q∈x.S,N (x.lead p)=N (x.lead q)->x.lead p=x.lead q)/\(∀p∈x.S,Wy fs x N p∈rs)/\∀r∈rs,∃p∈x.S,r=Wy fs x N p
 nd:(rs.map λr=>(r.1,r.2.1)).Nodup
def Qpz(P:Program)(w:World)(C:Addr):Sp:=λvs H Q _=>∃(n:Addr)(A:Na)(fs:List Fm)(tb:Nat)(x:Nn),vs=[.ref n]/\Z1 P w C H n A fs tb x/\Qd1 fs x.S/\Xv (Ya fs) (Zi fs) x []/\x.S.length<=1000/\
 ∀(v:V)(a:List Row)(H':Hp),Q3 H H'->U9 H' (λb=>∃o,H b=some o) v a->Wok fs x a->Q v H'
theorem Qpp{a:List Nat}{l k:Nat}(c:l∉a)(b:k∈a++[l]):(a++[l]).idxOf k=if k=l then a.length else a.idxOf k:=by
 rw[List.idxOf_append]
 by_cases h:k=l
 ·subst h
  rw[Gj c,Gp rfl]
  simp
 ·have:k∈a:=by
   rcases Gd.mp b with z|z
   ·exact z
   ·exact absurd (by simpa using z) h
  rw[Gp this,Gj h]
theorem Qf7{c:List Nat}{a b:Nat}(d:a∈c)(hb:b∈c)(h:c.idxOf a=c.idxOf b):a=b:=by
 have h1:=SS (DV d)
 have h2:=SS (DV hb)
 rw[<-h1,<-h2]
 simp only[h]
def EnR(fs:List Fm)(x:Nn)(N:Nat->Nat)(X:Addr->Prop)(H:Hp)(e:KE)(p:Nat):Prop:=e.1=Yt (Zg (Ya fs) (Zi fs) x.lead p)/\Ju H X e.2.2 (Wy fs x N p)
theorem Qhw{fs:List Fm}{x:Nn}{N:Nat->Nat}{X:Addr->Prop}{H:Hp}{d:List KE}{ps:List Nat}(h:Paired (EnR fs x N X H) d ps)(k:Fm):(Yd d (Yt k)).isSome=true↔∃p∈ps,Zg (Ya fs) (Zi fs) x.lead p=k:=by
 induction h with
 |nil=>simp[Yd]
 |@cons e p d ps f t g=>
  by_cases c:e.1=Yt k
  ·rw[Yi c]
   simp only[Ff,true_iff]
   exact⟨p,GJ,Ui (f.1.symm.trans c)⟩
  ·rw[Yj c,g]
   constructor
   ·rintro⟨q,a,b⟩
    exact⟨q,Gm _ a,b⟩
   ·rintro⟨q,a,b⟩
    rcases Gu.mp a with rfl|a
    ·exact absurd (by rw[f.1,b]) c
    ·exact⟨q,a,b⟩
theorem Quh{fs:List Fm}{x:Nn}{N:Nat->Nat}{X:Addr->Prop}{H:Hp}{d:List KE}{ps:List Nat}{p:Nat}{v:V}(g:Ju H X v (Wy fs x N p))(a:∀q∈ps,Zg (Ya fs) (Zi fs) x.lead q=Zg (Ya fs) (Zi fs) x.lead p->Wy fs x N q=Wy fs x N p)(h:Paired (EnR fs x N X H) d ps):
  Paired (EnR fs x N X H) (d.map λe=>if e.1=Yt (Zg (Ya fs) (Zi fs) x.lead p)then(e.1,e.2.1,v)else e) ps:=by
 induction h with
 |nil=>exact .nil
 |@cons e q d ps c t i=>
  refine .cons ?_ (i λq f=>a q (Gm _ f))
  dsimp only
  by_cases b:e.1=Yt (Zg (Ya fs) (Zi fs) x.lead p)
  ·rw[Gp b]
   refine⟨c.1,?_⟩
   rw[a q GJ (Ui (c.1.symm.trans b))]
   exact g
  ·rw[Gj b]
   exact c
theorem Qtp{H H':Hp}{a:Addr}{u:HO}(r:Rd H a u)(g:Q3 H H'):Rd H' a u:=by
 rcases r with r|⟨o,r⟩
 ·exact .inl (g _ _ r)
 ·exact .inr ⟨o,g _ _ r⟩
theorem Qgf{H:Hp}{a:Addr}{S:List Nat}{f:Nat->V}{p:Nat}(h:Rd H a (.dK (dS S f)))(b:p∈S):Wk H a (jv p) (some (f p)):=.inl ⟨_,ki p,h,Xb,(Qe5 b).symm⟩
section
variable{P:Program}{w:World}{K:Gc}{mg:Str->Option Value}{base:Heap}
theorem Qny{f C:Addr}{fd:FuncData}(F:W5 K "key_of" "Net.key_of" Ri f fd)(T:Vt K mg C)(B:Jv mg):Qt P w K mg base Z7 1 f fd ["self","place"] (Qip C):=by
 refine F.ok Qbg (λvs H Q E h=>?_) (λcdv A outer s H vs Q E Z h=>?_)
 ·obtain⟨n,A,fs,x,p,rfl,_⟩:=h
  rfl
 obtain⟨n,A,fs,x,p,rfl,⟨dx,M⟩,⟨O,X,I⟩,le,J,v,hl,g⟩:=h
 have hu:=Ul Z
 have nd:=Qbg.nd
 refine⟨_,Qd (Ql (i:=2) nd rfl (Or.inl Xb) (Qo Zh (Qn (pv 0) rfl) (pv 1) (λ_ _=>rfl)))
  (Qh (Qy (Za (Qa (Qo Q4 (pv 2) Qj (λ_ _=>rfl)) (Qa (Xn Ww rfl B.tuple De (Qa
   (Vw (te:=Qgv (Qun K (V2 1) "leads") (V2 0)) (own:=["part"]) (fv:=[(0,"self")]) rfl (S:=(⟨by rfl,by decide+kernel,by decide+kernel,by decide+kernel⟩:Wc (Qk Ri) _)) (.cons rfl (Or.inl Xb) rfl .nil) (U2 (Qo Q4 (pv 2) Qj (λ_ _=>rfl)))
    (λ_ _ _ _ _=>Qr (i:=0) Qy1 rfl (Or.inl Xb) (Or.inr Xb)) (λ_ _ _ _ _=>Wa) (λ_ _ _ _ _=>Zs hu (Qn (pv 1) rfl) (pv 0) (λ_ _=>rfl))) Qe)) Qe))))),?_⟩
 have hw:p<O.length:=by rw[Gs I];exact J
 obtain⟨y,L,c,e,W,h1,h2⟩:=Qv I (Gg hw)
 rw[Qev J]at L
 cases L
 have U:atI [V.str (Ya fs p),V.ref e] (1:Int)=some (.ref e):=Qz (j:=1) rfl
 refine⟨_,Xb,n,C,dx,_,_,Xb,M,T.cl,T.Qbu,Uc _,_,Xb,A.f,O,_,_,Xb,Xb,Zd.of X,Qz (Gg hw),?_⟩
 rw[W]
 refine⟨_,Xb,c,_,_,_,Xb,Xb,Z4.of h1,Rm _ _,_,Xb,c,_,_,_,Xb,Xb,Z4.of h1,U,e,Xb,⟨_,Z4.of h2⟩,λr t=>?_⟩
 have s3:=Qg t (.lst [])
 refine Jy (K:=K) (a:=e) (xs:=(Zi fs p).map jv) (small (by rw[Gn];omega)) (λi ys σ H2=>(∃R,σ=[R,some (.ref n)])/\Q3 H H2/\ys=((Zi fs p).take i).map λq=>jv (x.lead q))
  ⟨⟨_,Xb⟩,s3,by simp⟩ (λi ys σ H2 _ h=>Z4.of (h.2.1 _ _ h2)) ?_ ?_
 ·rintro i y ys σ H2 hi z ⟨⟨R,rfl⟩,d,rfl⟩ u
  rw[GY]at hi
  cases eq:(Zi fs p)[i]? with
  |none=>rw[eq]at hi;cases hi
  |some q=>
   rw[eq]at hi
   cases hi
   refine⟨_,Xb,n,C,dx,_,_,Xb,d _ _ M,T.cl,T.Wm,Yk _,_,Xb,A.l,_,Xb,Qgf (Qtp le d) (v q (Gb eq)),u,⟨_,Xb⟩,λb o G=>?_,?_⟩
   ·rw[Qf (Qc G t)]
    exact d _ _ G
   ·rw[Tf,eq,Tt]
    rfl
 ·rintro ys σ H2 z ⟨_,d,rfl⟩ u
  rw[Gn,Te]at u
  refine⟨r,_,Xb,.inl ⟨Zd.of u,λm Y=>?_⟩⟩
  have s4:=Qg Y (.tup ((Zi fs p).map λq=>jv (x.lead q)))
  refine⟨by show 2<=sizeLine;decide,λD k=>?_⟩
  have N:=Qg k (.tup [.str (Ya fs p),.ref m])
  refine g D _ ((d.trans s4).trans N) (d.free (s4.free k)) ⟨D,m,Xb,Qb,?_⟩
  rw[N _ _ Qb]
  simp only[Zg,TJ]
  rfl
theorem Quy{S:List Nat}{f:Nat->V}{i:Nat}{a:Xo×V}(h:(dS S f)[i]?=some a):∃p,S[i]?=some p/\a=(ki p,f p):=by
 unfold dS at h
 rw[GY]at h
 cases e:S[i]? with
 |none=>rw[e]at h;cases h
 |some p=>rw[e]at h;cases h;exact⟨p,Xb,Xb⟩
theorem Qp2:Qx ["self","numbers","place","found","key"] ["self"] (Qk Qig):=⟨Xb,Xb,Xb,by decide+kernel,Xb,by decide+kernel,by decide+kernel⟩
theorem Q0f:(["lead","numbers"]:List Str).Nodup:=by decide+kernel
theorem Qth{f fK C:Addr}{fd av:FuncData}(F:W5 K "rows" "Net.rows" Qig f fd)(T:Vt K mg C)(B:Jv mg)(mK:Z9 K C "key_of" fK)(GK:Qt P w K mg base Z7 1 fK av ["self","place"] (Qip C))(bK:Binds K av ["self","place"] []):
  Qt P w K mg base Z7 2 f fd ["self"] (Qpz P w C):=by
 refine F.ok Qp2 (λvs H Q E h=>?_) (λcdv A outer s H vs Q E hr h=>?_)
 ·obtain⟨n,A,fs,tb,x,rfl,_⟩:=h
  rfl
 obtain⟨n,A,fs,tb,x,rfl,X,FO,I,hS,q⟩:=h
 have hu:=Ul hr
 have aA:=hr.units
 have aM:Yc 1 _:=hr.mono (by omega)
 have nd:=Qp2.nd
 refine⟨_,Qd (Ql (i:=1) nd rfl (Or.inr Xb) Up)
  (Qd (Qma (Ye GX rfl (Qll (Qn (pv 0) rfl)) (Qr (i:=2) nd rfl (Or.inl Xb))
   (Qh (Zb (Xr Ev ED EE Qi3 (pv 1) (Qa (Zs hu (Qn (pv 0) rfl) (pv 2) (λ_ _=>rfl)) (Qa (Qp Qng rfl B.len Tj (Qa (pv 1) Qe)) Qe)))))))
  (Qd (Ql (i:=3) (te:=Qkt P w) nd rfl (Or.inl Xb) R5)
  (Qd (Qma (Ye GX rfl (Qll (Qn (pv 0) rfl)) (Qr (i:=2) nd rfl (Or.inl Xb))
   (Qd (Ql (i:=4) nd rfl (Or.inl Xb) (Q9 (pv 0) T.cl mK GK aM bK .nil Q5 (Qa (pv 2) Qe)))
   (Qh (Qaa (Za (Qa (Qo Q4 (pv 4) Qj (λ_ _=>rfl)) (Qa
     (Vw (te:=Qgv (V2 1) (V2 0)) (own:=["lead"]) (fv:=[(1,"numbers")]) rfl (S:=(⟨by rfl,by decide+kernel,by decide+kernel,by decide+kernel⟩:Wc (Qk Qig) _)) (.cons rfl (Or.inl Xb) rfl .nil) (U2 (Qo Q4 (pv 4) Qj (λ_ _=>rfl)))
      (λ_ _ _ _ _=>Qr (i:=0) Q0f rfl (Or.inl Xb) (Or.inr Xb)) (λ_ _ _ _ _=>Wa) (λ_ _ _ _ _=>Zs hu (pv 1) (pv 0) (λ_ _=>rfl)))
     (Qa (Zs hu (pv 1) (Zs hu (Qn (pv 0) rfl) (pv 2) (λ_ _=>rfl)) (λ_ _=>rfl)) Qe))))
    (Qb9 (pv 3) (pv 4) (Qdn aA)))))))
  (Qh (Qy (Xn (Qdu Xb) rfl B.list TY (Qa (Qts Lq PySem.F.type_dict_values Qso (pv 3)) Qe))))))),?_⟩
 obtain⟨dx,o1⟩:=X.ob
 intro num aa
 have s1:=Qg aa (.dK [])
 have X1:=X.same s1
 have nl:num≠A.l:=Gq (Qc X.le aa)
 have nn:num≠n:=Gq (Qc o1 aa)
 have ln:n≠A.l:=Yb o1 X.le (λz=>nomatch z)
 refine⟨A.l,_,X1.le,?_⟩
 refine⟨_,Xb,n,C,dx,_,_,Xb,s1 _ _ o1,T.cl,T.Wm,Yk _,A.l,_,Xb,X1.le,λo=>Qg6 (λi σ H2=>∃(x2:Option V)(M:List Nat),σ=[some (.ref n),some (.ref num),x2,none,none]/\H2 num=some (.dK (dS M λk=>jv (M.idxOf k)))/\M.Nodup/\M.length<=i/\(∀p∈x.S.take i,x.lead p∈M)/\H2 A.l=some (fz o (dS x.S λp=>jv (x.lead p)))/\∀b u,H b=some u->b≠A.l->H2 b=some u)
  ⟨_,[],Xb,Qi Qb nl,Et,Ta _,by simp,Qb,λb u e hb=>Qi (s1 _ _ e) hb⟩ (λi σ H2 _⟨_,_,_,_,_,_,_,h,_⟩=>h) ?_ ?_⟩
 ·rintro i pr σ H2 hi ⟨x2,M,rfl,Y,aq,ak,G,af,fr⟩
  obtain⟨p,D,rfl⟩:=Quy hi
  have pS:p∈x.S:=Gb D
  have aK:i<x.S.length:=(Ge.mp D).1
  refine⟨_,Xb,.inr (.inr (.inl ⟨Xb,.inl ⟨_,Y⟩⟩)),_,Xb,n,C,dx,_,_,Xb,fr _ _ o1 ln,T.cl,T.Wm,Yk _,_,Xb,A.l,_,Xb,Qgf (.inr ⟨o,af⟩) pS,_,Xb,num,_,Xb,Y,num,ki (x.lead p),_,_,Xb,Xb,Y,by rw[Wq,Td];omega,λv hv=>?_,λhv=>?_⟩
  ·have L:x.lead p∈M:=by
    refine Classical.byContradiction λz=>?_
    rw[Qks z]at hv;cases hv
   refine⟨_,M,Xb,Y,aq,by omega,λr hr=>?_,af,fr⟩
   rw[Tf,D]at hr
   rcases Gd.mp hr with h|h
   ·exact G r h
   ·have:r=p:=by simpa using h
    rw[this];exact L
  ·have L:x.lead p∉M:=λz=>by rw[Qe5 z]at hv;cases hv
   have eo:Wo (dS M λk=>jv (M.idxOf k)) (ki (x.lead p)) (.int ((dS M λk=>jv (M.idxOf k)).length:Int))=dS (M++[x.lead p]) λk=>jv ((M++[x.lead p]).idxOf k):=by
    rw[Ou L,Wq]
    refine X9 λk hk=>?_
    rw[Qpp L hk]
    split<;>rfl
   rw[eo]
   refine⟨_,M++[x.lead p],Xb,Qb,Df.mpr ⟨aq,by simp,λa ha b hb=>by simp at hb;subst hb;exactλz=>L (z▸ha)⟩,by rw[Gk,Gv];omega,λr hr=>?_,Qi af (Gq nl),λb u e hb=>Qi (fr b u e hb) (Qc e aa)⟩
   rw[Tf,D]at hr
   rcases Gd.mp hr with h|h
   ·exact Gi _ (G r h)
   ·have:r=p:=by simpa using h
    rw[this];simp
 rintro σ H2 ⟨x2,M,rfl,Y,aq,ak,G,af,fr⟩
 rw[Wq,Te]at G
 rw[Wq]at ak
 refine⟨o,af,?_⟩
 have t2:∀b u,H b=some u->(upd H2 A.l (.dK (dS x.S λp=>jv (x.lead p)))) b=some u:=λb u e=>by
  by_cases h:b=A.l
  ·subst h;rw[Qb,<-e];exact X.le.symm
  ·exact Qi (fr b u e h) h
 generalize ax:(dS M λk=>jv (M.idxOf k))=kvs at Y
 have ad:∀p∈x.S,Yu kvs (ki (x.lead p))=some (jv (M.idxOf (x.lead p))):=λp D=>by rw[<-ax];exact Qe5 (G p D)
 generalize aw:(λk=>M.idxOf k)=Nf
 have ad:∀p∈x.S,Yu kvs (ki (x.lead p))=some (jv (Nf (x.lead p))):=λp D=>by rw[<-aw];exact ad p D
 have ai:∀p∈x.S,∀q∈x.S,Nf (x.lead p)=Nf (x.lead q)->x.lead p=x.lead q:=λp D q O e=>by rw[<-aw]at e;exact Qf7 (G p D) (G q O) e
 have ar:(upd H2 A.l (.dK (dS x.S λp=>jv (x.lead p)))) num=some (.dK kvs):=Qi Y nl
 generalize upd H2 A.l (.dK (dS x.S λp=>jv (x.lead p)))=H3 at t2 ar
 intro fo ag
 have s4:=Qg ag (Uq P w fo [])
 have g4:Q3 H (upd H3 fo (Uq P w fo [])):=λb u e=>s4 _ _ (t2 b u e)
 have X4:=X.same g4
 have nf:num≠fo:=Qc ar ag
 have fl:A.l≠fo:=Qc (t2 _ _ X.le) ag
 refine⟨A.l,_,X4.le,?_⟩
 refine⟨_,Xb,n,C,dx,_,_,Xb,g4 _ _ o1,T.cl,T.Wm,Yk _,A.l,_,Xb,X4.le,λo=>Qg6 (λi σ R=>∃(x2 x4:Option V)(N:List KE),σ=[some (.ref n),some (.ref num),x2,some (.ref fo),x4]/\DH P w R fo N/\(∃ps:List Nat,ps.length<=i/\Paired (EnR fs x Nf (λb=>∃o,H b=some o) R) N ps/\(ps.map λp=>Zg (Ya fs) (Zi fs) x.lead p).Nodup/\(∀p∈ps,p∈x.S)/\∀p∈x.S.take i,∃p'∈ps,Zg (Ya fs) (Zi fs) x.lead p'=Zg (Ya fs) (Zi fs) x.lead p)/\R num=some (.dK kvs)/\R A.l=some (fz o (dS x.S λp=>jv (x.lead p)))/\∀b u,H b=some u->b≠A.l->R b=some u)
  ⟨_,_,[],Xb,⟨Qi Qb (Gq fl),(λp D=>nomatch D)⟩,⟨[],Ta _,.nil,Et,(λp D=>nomatch D),by simp⟩,Qi (Qi ar nf) nl,Qb,λb u e hb=>Qi (g4 _ _ e) hb⟩ (λi σ R _⟨_,_,_,_,_,_,_,h,_⟩=>h) ?_ ?_⟩
 ·rintro i pr σ R hi ⟨x2,x4,N,rfl,D5,⟨ps,an,ab,ae,J,U⟩,al,d,W⟩
  obtain⟨p,D,rfl⟩:=Quy hi
  have pS:p∈x.S:=Gb D
  have aK:i<x.S.length:=(Ge.mp D).1
  have few:=FO.few p
  obtain⟨ws,f1,f2⟩:=X.fo
  have tu:Qu H R:=λb xs e=>W b _ e (Yb e X.le (λz=>nomatch z))
  have fA:R A.f=some (.lst ws):=W _ _ f1 (Yb f1 X.le (λz=>nomatch z))
  have o5:=W _ _ o1 ln
  refine⟨_,Xb,n,dx,_,Xb,o5,Qcb _,_,Xb,n,A,fs,x,p,Xb,⟨dx,o5⟩,⟨ws,fA,L2.Paired.Z8 f2 λ_ _ h=>h.Qm tu⟩,.inr ⟨o,d⟩,FO.lt p pS,FO.pts p pS,by omega,λc H6 g6 aV fm=>?_⟩
  obtain⟨c',e,ec,h1,h2⟩:=id fm
  cases ec
  simp only[Zg]at h1 h2
  have au:=g6 _ _ al
  have D6:DH P w H6 fo N:=⟨g6 _ _ D5.at_,Ze (Qu.of g6) D5.keys⟩
  refine⟨_,Xb,c,_,_,_,Xb,Xb,Z4.of h1,Rm _ _,_,Xb,c,_,_,_,Xb,Xb,Z4.of h1,Im _ _ _,e,Xb,⟨_,Z4.of h2⟩,λr ao=>?_⟩
  have s7:=Qg ao (.lst [])
  have aW:=Gs ab
  refine Jy (K:=K) (a:=e) (xs:=((Zi fs p).map x.lead).map jv) (small (by rw[Gn,Gn];omega)) (λi ys σ H7=>(∃x0,σ=[x0,some (.ref num)])/\Q3 H6 H7/\ys=((Zi fs p).take i).map λq=>jv (Nf (x.lead q))) ⟨⟨_,Xb⟩,s7,by simp⟩ (λi ys σ H7 _ h=>Z4.of (h.2.1 _ _ h2)) ?_ ?_
  ·rintro j y ys σ H7 hj aP ⟨⟨x0,rfl⟩,g7,rfl⟩ ah
   rw[GY,GY]at hj
   cases eq:(Zi fs p)[j]? with
   |none=>rw[eq]at hj;cases hj
   |some r'=>
    rw[eq]at hj
    cases hj
    have hv:=ad r' (FO.pts p pS r' (Gb eq))
    refine⟨_,Xb,_,Xb,num,_,Xb,(by have:=Wk.k (k:=ki (x.lead r')) (g7 _ _ au);rw[hv]at this;exact this),ah,⟨_,Xb⟩,λb o eb=>Qi (g7 _ _ eb) (Qc eb ao),?_⟩
    rw[Tf,eq,Tt]
    rfl
  ·rintro ys σ H7 aP ⟨_,g7,rfl⟩ ah
   rw[Gn,Gn,Te]at ah
   have hv:=ad p pS
   have aT:=g7 _ _ au
   have dg:Wk H7 num (jv (x.lead p)) (some (jv (Nf (x.lead p)))):=by have:=Wk.k (k:=ki (x.lead p)) aT;rw[hv]at this;exact this
   refine⟨_,Xb,_,Xb,n,C,dx,_,_,Xb,g7 _ _ (g6 _ _ o5),T.cl,T.Wm,Yk _,_,Xb,A.l,_,Xb,Qgf (.inr ⟨o,g7 _ _ (g6 _ _ d)⟩) pS,num,_,Xb,dg,by show 3<=sizeLine;decide,λm hm=>?_⟩
   generalize aN:jv (Nf (x.lead p))=v
   have s8:=Qg hm (.tup [.str (Ya fs p),.ref r,v])
   have g8:Q3 H6 (upd H7 m (.tup [.str (Ya fs p),.ref r,v])):=g7.trans s8
   have D8:DH P w (upd H7 m (.tup [.str (Ya fs p),.ref r,v])) fo N:=⟨g8 _ _ D6.at_,Ze (Qu.of g8) D6.keys⟩
   have k8:=(fm.Qm (Qu.of g8)).key (FO.str p)
   refine⟨_,Xb,_,Xb,fo,c,_,N,Xb,Xb,D8,k8,by rw[Td];omega,?_⟩
   have aU:∀b o,H b=some o->∃u,H6 b=some u:=λb o eb=>by
    by_cases hb:b=A.l
    ·rw[hb];exact⟨_,g6 _ _ d⟩
    ·exact⟨o,g6 _ _ (W b o eb hb)⟩
   have aB:Ju (upd H7 m (.tup [.str (Ya fs p),.ref r,v])) (λb=>∃o,H b=some o) (.ref m) (Wy fs x Nf p):=⟨m,r,Xb,by rw[<-aN];exact Qb,by
    show _=some (HO.lst (((Zi fs p).map λq=>Nf (x.lead q)).map jv))
    rw[TJ]
    exact s8 _ _ ah,λ⟨o,eo⟩=>by
    obtain⟨u,az⟩:=aU _ _ eo
    rw[ao]at az;cases az⟩
   generalize aj:Wl N (Yt (Zg (Ya fs) (Zi fs) x.lead p)) c (.ref m)=kv'
   have aE:∀{b:Addr}{xs:List V},(upd H7 m (.tup [.str (Ya fs p),.ref r,v])) b=some (.tup xs)->(upd (upd H7 m (.tup [.str (Ya fs p),.ref r,v])) fo (Uq P w fo kv')) b=some (.tup xs):=λe=>Qi e (Yb e D8.at_ (λz=>nomatch z))
   have aR:∀{b:Addr}{xs:List V},(upd H7 m (.tup [.str (Ya fs p),.ref r,v])) b=some (.lst xs)->(upd (upd H7 m (.tup [.str (Ya fs p),.ref r,v])) fo (Uq P w fo kv')) b=some (.lst xs):=λe=>Qi e (Yb e D8.at_ (λz=>nomatch z))
   have ac:Paired (EnR fs x Nf (λb=>∃o,H b=some o) (upd H7 m (.tup [.str (Ya fs p),.ref r,v]))) N ps:=L2.Paired.Z8 ab λ_ _ h=>⟨h.1,h.2.kp (λe=>g8 _ _ (g6 _ _ e)) (λe _=>g8 _ _ (g6 _ _ e))⟩
   have ap:∀q∈ps,Zg (Ya fs) (Zi fs) x.lead q=Zg (Ya fs) (Zi fs) x.lead p->Wy fs x Nf q=Wy fs x Nf p:=λq O e=>by
    have hl:=I.cong (J q O) pS e
    simp only[Zg,Ds]at e
    unfold Wy
    rw[e.1,hl]
    congr 2
    have:=congrArg (List.map Nf) e.2
    rw[TJ,TJ]at this
    exact this
   have fin:∃Z:List Nat,Z.length<=i+1/\Paired (EnR fs x Nf (λb=>∃o,H b=some o) (upd H7 m (.tup [.str (Ya fs p),.ref r,v]))) kv' Z/\(Z.map λp=>Zg (Ya fs) (Zi fs) x.lead p).Nodup/\(∀p∈Z,p∈x.S)/\∀q∈x.S.take (i+1),∃p'∈Z,Zg (Ya fs) (Zi fs) x.lead p'=Zg (Ya fs) (Zi fs) x.lead q:=by
    rw[<-aj]
    unfold Wl
    by_cases L:(Yd N (Yt (Zg (Ya fs) (Zi fs) x.lead p))).isSome=true
    ·rw[Gp L]
     refine⟨ps,by omega,Quh aB ap ac,ae,J,λq O=>?_⟩
     rw[Tf,D]at O
     rcases Gd.mp O with h|h
     ·exact U q h
     ·have:q=p:=by simpa using h
      rw[this]
      exact(Qhw ac _).mp L
    ·rw[Gj L]
     have aL:∀q∈ps,Zg (Ya fs) (Zi fs) x.lead q≠Zg (Ya fs) (Zi fs) x.lead p:=λq O e=>L ((Qhw ac _).mpr ⟨q,O,e⟩)
     refine⟨ps++[p],by rw[Gk,Gv];omega,DO ac ⟨Xb,aB⟩,?_,λq O=>?_,λq O=>?_⟩
     ·rw[Tt]
      refine Df.mpr ⟨ae,by simp,λa ha b hb=>?_⟩
      obtain⟨q,O,rfl⟩:=Ti.mp ha
      have:b=Zg (Ya fs) (Zi fs) x.lead p:=by simpa using hb
      rw[this]
      exact aL q O
     ·rcases Gd.mp O with h|h
      ·exact J q h
      ·have:q=p:=by simpa using h
       rw[this];exact pS
     ·rw[Tf,D]at O
      rcases Gd.mp O with h|h
      ·obtain⟨p',h1,h2⟩:=U q h
       exact⟨p',Gi _ h1,h2⟩
      ·have:q=p:=by simpa using h
       rw[this]
       exact⟨p,by simp,Xb⟩
   obtain⟨Z,aF,aG,aH,aI,aJ⟩:=fin
   exact⟨_,_,kv',Xb,⟨Qb,Ze (λb xs e=>aE e) (by rw[<-aj];exact D8.keys.put k8)⟩,⟨Z,aF,L2.Paired.Z8 aG λ_ _ h=>⟨h.1,h.2.kp aE (λe _=>aR e)⟩,aH,aI,aJ⟩,Qi (g8 _ _ au) nf,Qi (g8 _ _ (g6 _ _ d)) fl,λb u e hb=>Qi (g8 _ _ (g6 _ _ (W b u e hb))) (Qc (t2 _ _ e) ag)⟩
 ·rintro σ R ⟨x2,x4,N,rfl,D5,⟨ps,an,ab,ae,J,U⟩,al,d,W⟩
  rw[Wq,Te]at U
  refine⟨o,d,?_⟩
  have t6:Q3 H (upd R A.l (.dK (dS x.S λp=>jv (x.lead p)))):=λb u e=>by
   by_cases h:b=A.l
   ·subst h;rw[Qb,<-e];exact X.le.symm
   ·exact Qi (W b u e h) h
  have aD:∀{b:Addr}{xs:List V},R b=some (.tup xs)->(upd R A.l (.dK (dS x.S λp=>jv (x.lead p)))) b=some (.tup xs):=λe=>Qi e (Yb e d (λz=>nomatch z))
  have aQ:∀{b:Addr}{xs:List V},R b=some (.lst xs)->(upd R A.l (.dK (dS x.S λp=>jv (x.lead p)))) b=some (.lst xs):=λe=>Qi e (Yb e d (λz=>nomatch z))
  have D6:DH P w (upd R A.l (.dK (dS x.S λp=>jv (x.lead p)))) fo N:=⟨Qi D5.at_ (Gq fl),Ze (λb xs e=>aD e) D5.keys⟩
  have am:Paired (EnR fs x Nf (λb=>∃o,H b=some o) (upd R A.l (.dK (dS x.S λp=>jv (x.lead p))))) N ps:=L2.Paired.Z8 ab λ_ _ h=>⟨h.1,h.2.kp aD (λe _=>aQ e)⟩
  generalize upd R A.l (.dK (dS x.S λp=>jv (x.lead p)))=H6 at t6 D6 am
  refine⟨_,Xb,⟨fo,N,Xb,D6.at_⟩,fo,N,Xb,Xb,D6,λvw aO=>?_⟩
  have s7:=Qg aO (vvw vw fo)
  have D7:DH P w (upd H6 vw (vvw vw fo)) fo N:=⟨s7 _ _ D6.at_,Ze (Qu.of s7) D6.keys⟩
  refine⟨vw,fo,N,Xb,Qb,D7,λl hl=>?_⟩
  have s8:=Qg hl (.lst (N.map λp=>p.2.2))
  have aC:=s7.trans s8
  refine q (.ref l) (ps.map (Wy fs x Nf)) _ (t6.trans aC) ⟨l,_,Xb,Qb,(λ⟨o,eo⟩=>by rw[s7.free hl|>t6.free]at eo;cases eo),?_⟩ ⟨⟨Nf,ai,λp D=>?_,λr hr=>?_⟩,?_⟩
  ·have gen:∀{H':Hp},Q3 H6 H'->∀{N:List KE}{ps:List Nat},Paired (EnR fs x Nf (λb=>∃o,H b=some o) H6) N ps->Paired (Ju H' (λb=>∃o,H b=some o)) (N.map λp=>p.2.2) (ps.map (Wy fs x Nf)):=λ{H'}g{N ps}h=>by
    induction h with
    |nil=>exact .nil
    |cons h t ih=>exact .cons (h.2.kp (λe=>g _ _ e) (λe _=>g _ _ e)) ih
   exact gen aC am
  ·obtain⟨p',h1,h2⟩:=U p D
   have hl:=I.cong (J p' h1) D h2
   refine Ti.mpr ⟨p',h1,?_⟩
   simp only[Zg,Ds]at h2
   unfold Wy
   rw[h2.1,hl]
   congr 2
   have:=congrArg (List.map Nf) h2.2
   rw[TJ,TJ]at this
   exact this
  ·obtain⟨p,D,rfl⟩:=Ti.mp hr
   exact⟨p,J p D,Xb⟩
  ·rw[TJ]
   have:∀{ps:List Nat},(∀p∈ps,p∈x.S)->(ps.map λp=>Zg (Ya fs) (Zi fs) x.lead p).Nodup->(ps.map ((λr:Row=>(r.1,r.2.1))∘Wy fs x Nf)).Nodup:=by
    intro ps ay nd
    unfold List.Nodup at nd⊢
    rw[List.pairwise_map]at nd⊢
    refine List.Pairwise.imp_of_mem (λ{a b}ha hb h z=>h ?_) nd
    simp only[Function.comp,Wy,Ds]at z
    simp only[Zg,Ds]
    refine⟨z.1,?_⟩
    have aS:=ay a ha
    have bS:=ay b hb
    have inj:∀{l m:List Nat},(∀q∈l,q∈x.S)->(∀q∈m,q∈x.S)->l.map (λq=>Nf (x.lead q))=m.map (λq=>Nf (x.lead q))->l.map x.lead=m.map x.lead:=by
     intro l
     induction l with
     |nil=>intro m _ _ e;cases m with
      |nil=>rfl
      |cons _ _=>simp at e
     |cons u l ih=>
      intro m hl hm e
      cases m with
      |nil=>simp at e
      |cons u' m=>
       simp only[GO,Tx]at e⊢
       exact⟨ai u (hl u GJ) u' (hm u' GJ) e.1,ih (λq O=>hl q (Gm _ O)) (λq O=>hm q (Gm _ O)) e.2⟩
    exact inj (FO.pts a aS) (FO.pts b bS) z.2
   exact this J ae
end
open PySem L2 Sb Nt
def Xw(fs:List Fm)(lk:Lk):List (Nat×Nat):=match lk.2.2 with
 |none=>(Zi fs lk.1).zip (Zi fs lk.2.1)
 |some _=>[]
def Qgl(P:Program)(w:World)(C:Addr):Sp:=λvs H Q _=>∃(n:Addr)(A:Na)(fs:List Fm)(tb:Nat)(x:Nn)(v:V)(lk:Lk),vs=[.ref n,v]/\Z1 P w C H n A fs tb x/\Ra H v lk/\lk.1<fs.length/\lk.2.1<fs.length/\
 ∀(r:Addr)(es:List V)(H':Hp),Q3 H H'->H r=none->H' r=some (.lst es)->Paired (Qt8 H') es (Xw fs lk)->Q (.ref r) H'
structure Nd(fs:List Fm)(x:Nn)(one other:Nat)(ns:List Nat):Prop where
 lt:∀k∈ns,k<x.links.length
 top:∀st,Ov x.up one other st->∀p q,(p,q)∈st->∀k,x.Y1 p q=some k->k∈ns
 low:∀k∈ns,∀lk,x.links[k]?=some lk->∀p q,(p,q)∈Xw fs lk->∀st,Ov x.up p q st->∀u v,(u,v)∈st->∀j,x.Y1 u v=some j->j∈ns/\j<k
 only:∀k∈ns,∃st p q j,Ov x.up one other st/\(p,q)∈st/\x.Y1 p q=some j/\k<=j
def Qgs(P:Program)(w:World)(C:Addr):Sp:=λvs H Q _=>∃(n:Addr)(A:Na)(fs:List Fm)(tb:Nat)(x:Nn)(one a:Nat),vs=[.ref n,jv one,jv a]/\Z1 P w C H n A fs tb x/\Xv (Ya fs) (Zi fs) x []/\Qd1 fs x.S/\one∈x.S/\a∈x.S/\x.lead one=x.lead a/\x.S.length<=1000/\x.links.length<64/\
 ∀(r:Addr)(ns:List Nat)(H':Hp),Q3 H H'->H r=none->H' r=some (.lst (ns.map jv))->ns.Nodup->ns.Pairwise (·<=·)->Nd fs x one a ns->Q (.ref r) H'
theorem Qqf{H:Hp}{v:V}{r:Option Uu}(h:Qn7 H v r):decide (v=V.non)= !r.isSome:=by
 cases r with
 |none=>rw[show v=V.non from h];rfl
 |some r=>
  cases r with
  |told n=>obtain⟨c,rfl,_⟩:=h;rfl
  |asked=>obtain⟨c,rfl,_⟩:=h;rfl
theorem Qlh{fs:List Fm}{x:Nn}(I:Xv (Ya fs) (Zi fs) x []){k:Nat}{lk:Lk}(d:x.links[k]?=some lk){p q:Nat}(c:(p,q)∈Xw fs lk):p∈x.S/\q∈x.S/\Cn (x.links.take k) p q:=by
 obtain⟨a,b,r⟩:=lk
 obtain⟨aS,bS,h⟩:=I.lnk k a b r d
 cases r with
 |some r=>simp[Xw]at c
 |none=>
  simp only[Xw]at c
  obtain⟨_,e,h⟩:=h rfl
  obtain⟨i,hi⟩:=TL.mp c
  rw[EN]at hi
  exact⟨I.pt_ a aS p (Gb hi.1),I.pt_ b bS q (Gb hi.2),h i p q hi.1 hi.2⟩
section
variable{P:Program}{w:World}{K:Gc}{mg:Str->Option Value}{base:Heap}
theorem Qlk:Qx ["net","link"] ["net","link"] (Qk Qf6):=⟨Xb,Xb,Xb,by decide+kernel,Xb,by decide+kernel,by decide+kernel⟩
theorem Qrh{f C:Addr}{fd:FuncData}(F:W5 K "pairs_below" "pairs_below" Qf6 f fd)(T:Vt K mg C)(B:Jv mg):Qt P w K mg base Z7 1 f fd ["net","link"] (Qgl P w C):=by
 refine F.ok Qlk (λvs H Q E h=>?_) (λcdv A outer s H vs Q E Y h=>?_)
 ·obtain⟨n,A,fs,tb,x,v,lk,rfl,_⟩:=h
  rfl
 obtain⟨n,A,fs,tb,x,v,lk,rfl,X,⟨c,r,rfl,z,G⟩,l1,l2,q⟩:=h
 have nd:=Qlk.nd
 refine⟨_,Qd (Zm (Qs Rn (Qo Q4 (pv 1) Qj (λ_ _=>rfl)) Ja (Q7 _)) (Qh (Qy (Zt Qe))) Q8)
  (Qh (Qy (Qcj rfl rfl B.list rfl B.zip (Qa (Qo Q4 (Qo Zh (Qn (pv 0) rfl) (Qo Q4 (pv 1) Qj (λ_ _=>rfl)) (λ_ _=>rfl)) Qj (λ_ _=>rfl)) (Qa (Qo Q4 (Qo Zh (Qn (pv 0) rfl) (Qo Q4 (pv 1) Qj (λ_ _=>rfl)) (λ_ _=>rfl)) Qj (λ_ _=>rfl)) Qe))))),?_⟩
 refine⟨_,Xb,c,_,_,_,Xb,Xb,Z4.of z,Qgt _ _ _ _,Xb,_,Xb,?_⟩
 rw[Qqf G]
 obtain⟨a,b,M⟩:=lk
 cases M with
 |some M=>
  refine Y0 ⟨Ta _,λp J=>?_⟩
  exact q p [] _ (Qg J _) J Qb .nil
 |none=>
  refine Zq ?_
  obtain⟨dx,L⟩:=X.ob
  obtain⟨k,I,j⟩:=X.fo
  have d:a<k.length:=by rw[Gs j];exact l1
  have e:b<k.length:=by rw[Gs j];exact l2
  obtain⟨Z,g,N,R,l,o,u⟩:=Qv j (Gg d)
  obtain⟨y2,i,O,S,m,t,y⟩:=Qv j (Gg e)
  rw[Qev l1]at g
  rw[Qev l2]at i
  cases g
  cases i
  refine⟨_,Xb,n,C,dx,_,_,Xb,L,T.cl,T.Qbu,Uc _,_,Xb,c,_,_,_,Xb,Xb,Z4.of z,Rm _ _,A.f,k,_,_,Xb,Xb,Zd.of I,Qz (Gg d),N,_,_,_,l,Xb,Z4.of o,Im _ _ _,?_⟩
  refine⟨_,Xb,n,C,dx,_,_,Xb,L,T.cl,T.Qbu,Uc _,_,Xb,c,_,_,_,Xb,Xb,Z4.of z,Im _ _ _,A.f,k,_,_,Xb,Xb,Zd.of I,Qz (Gg e),O,_,_,_,m,Xb,Z4.of t,Im _ _ _,?_⟩
  exact⟨R,S,_,_,Xb,.inr ⟨Z4.of u,Z4.of y⟩,λr es H' W V D U=>q r es H' W V D (Qca U)⟩
theorem Qcy{C n L d:Addr}{A:Na}{fs:List Fm}{tb:Nat}{x:Nn}(T:Vt K mg C){H H1:Hp}{es:List V}{st:List (Nat×Nat)}{N0:List Nat}{m:Nat}{v1 v2 l x5 x6 x7:Option V}{D:Ends}
  (X:Z1 P w C H n A fs tb x)(g1:Q3 H H1)(d0:H d=none)(hd:H1 d=some (.dK (dS N0 λ_=>V.bl true)))(hL:H1 L=some (.lst es))(G:Paired (Qt8 H1) es st)(hk:∀p q,(p,q)∈st->∃k,x.Y1 p q=some k/\k<m)(ad:N0.Nodup)(hm:m<=64)(hN:∀k∈N0,k<64)
  (q:∀N l H',N.Nodup->(∀k∈N0,k∈N)->(∀k∈N,k∈N0\/(k<m/\∃p q,(p,q)∈st/\x.Y1 p q=some k))->(∀p q k,(p,q)∈st->x.Y1 p q=some k->k∈N)->Jm d H1 H'->H' d=some (.dK (dS N λ_=>V.bl true))->D.nx [some (.ref n),v1,v2,some (.ref d),l,x5,x6,x7] H'):
  ∃W:Nat->Nat->St->Hp->Prop,(∃m,W 0 m [some (.ref n),v1,v2,some (.ref d),l,x5,x6,x7] H1)/\∀i m σ H,W i m σ H->
   ((Itl K L).stop i H/\D.nx σ H)\/((Itl K L).go i H/\∃N:St->Hp->Prop,(∀M H',N M H'->∃m',m'<m/\W (i+1) m' M H')/\∀x H',(Itl K L).yld i H x H'->V8 4 x σ H' λae H2=>Qu3 (V2 3) (Qgv (Qun K (V2 0) "link_at") (V2 4)) (tC (V.bl true)) {D with nx:=N,ct:=N,bk:=D.nx} ae H2):=by
 obtain⟨dx,o1⟩:=X.ob
 obtain⟨kvs,Q,af,Y⟩:=X.at_
 have Ld:L≠d:=Yb hL hd (λz=>nomatch z)
 refine Y2 (K:=K) (a:=L) (xs:=es) (λi σ H2=>∃(l:Option V)(N:List Nat),σ=[some (.ref n),v1,v2,some (.ref d),l,x5,x6,x7]/\N.Nodup/\(∀k∈N0,k∈N)/\(∀k∈N,k∈N0\/(k<m/\∃p q,(p,q)∈st/\x.Y1 p q=some k))/\(∀p q k,(p,q)∈st.take i->x.Y1 p q=some k->k∈N)/\Jm d H1 H2/\H2 d=some (.dK (dS N λ_=>V.bl true)))
  ⟨l,N0,Xb,ad,λ_ h=>h,λ_ h=>.inl h,by simp,Jm.refl,hd⟩ (λi σ H2 _⟨_,_,_,_,_,_,_,b,_⟩=>Zd.of (b _ _ hL Ld)) ?_ ?_
 ·rintro i y σ H2 hi ⟨l,N,rfl,f,s1,s2,R,E,S⟩
  obtain⟨⟨p,r⟩,he,c,rfl,hc⟩:=Qv G hi
  have s:(p,r)∈st:=Gb he
  obtain⟨k,u,ab⟩:=hk p r s
  have nd1:n≠d:=Qc o1 d0
  have ac:A.a≠d:=Qc Q d0
  have o2:=E _ _ (g1 _ _ o1) nd1
  have U:=E _ _ (g1 _ _ Q) ac
  have Z:=E _ _ hc (Yb hc hd (λz=>nomatch z))
  have dg:Wk H2 A.a (.ref c) (some (jv k)):=by
   have:=Wk.t (k:=[ki p,ki r]) U (show H2 c=some (.tup ([ki p,ki r].map kV))from Z)
   rw[Y p r,u]at this
   exact this
  have ag:N.length<=64:=by
   have:N.length<=(List.range 64).length:=Xf f λk hk=>DY.mpr ((s2 k hk).elim (hN k) (λh=>by have:=h.1;omega))
   rwa[DR]at this
  have dp:=Ij.k (k:=ki k) (v:=V.bl true) S (by rw[Wq,Td];omega)
  refine⟨_,Xb,_,Xb,n,C,dx,_,_,Xb,o2,T.cl,T.Qbo,O5 _,_,Xb,A.a,_,Xb,dg,d,_,Xb,dp,?_⟩
  have F:Jm d H1 (upd H2 d (.dK (Wo (dS N λ_=>V.bl true) (ki k) (V.bl true)))):=λc o e h=>Qi (E c o e h) h
  have tk:∀{O:List Nat},(∀j∈N,j∈O)->k∈O->∀p q k,(p,q)∈st.take (i+1)->x.Y1 p q=some k->k∈O:=λ{O}hs aa p' q' k' J B=>by
   rw[Tf,he]at J
   rcases Gd.mp J with h|h
   ·exact hs _ (R p' q' k' h B)
   ·have:(p',q')=(p,r):=by simpa using h
    cases this
    rw[u]at B
    cases B
    exact aa
  by_cases g:k∈N
  ·refine⟨_,N,Xb,f,s1,s2,tk (λ_ h=>h) g,F,?_⟩
   rw[Qb,Qjf g]
   congr 2
   exact X9 λp _=>by split<;>rfl
  ·refine⟨_,N++[k],Xb,Df.mpr ⟨f,by simp,λa Q b hb=>by simp at hb;subst hb;exactλz=>g (z▸Q)⟩,λj I=>Gi _ (s1 j I),λj I=>?_,tk (λj I=>Gi _ I) (by simp),F,?_⟩
   ·rcases Gd.mp I with h|h
    ·exact s2 j h
    ·have:j=k:=by simpa using h
     rw[this];exact .inr ⟨ab,p,r,s,u⟩
   ·rw[Qb,Ou g]
    congr 2
    exact X9 λp _=>by split<;>rfl
 ·rintro σ H2 ⟨l,N,rfl,f,s1,s2,R,E,S⟩
  rw[Gs G,Te]at R
  exact q N l H2 f s1 s2 R E S
theorem Qio:Qx ["net","one","other","needed","step","number","part","twin"] ["net","one","other"] (Qk Qbk):=⟨Xb,Xb,Xb,by decide+kernel,Xb,by decide+kernel,by decide+kernel⟩
theorem Qna{f fW fB C:Addr}{fd aj ai:FuncData}(F:W5 K "links_needed" "links_needed" Qbk f fd)(T:Vt K mg C)(B:Jv mg)(mW:Z9 K C "way" fW)(GW:Qt P w K mg base Z7 2 fW aj ["self","one","other"] (Qo8 P w C))(bW:Binds K aj ["self","one","other"] [])
  (GB:Qt P w K mg base Z7 1 fB ai ["net","link"] (Qgl P w C))(kB:PySem.W.keepIn K (.ref fB)=true)(bB:Binds K ai ["net","link"] [])(mB:mg "pairs_below"=some (.ref fB)):
  Qt P w K mg base Z7 3 f fd ["net","one","other"] (Qgs P w C):=by
 refine F.ok Qio (λvs H Q E h=>?_) (λcdv A outer s H vs Q E hr h=>?_)
 ·obtain⟨n,A,fs,tb,x,one,G,rfl,_⟩:=h
  rfl
 obtain⟨n,A,fs,tb,x,one,G,rfl,X,I,FO,oS,tS,he,hS,aJ,q⟩:=h
 have hu:=Ul hr
 have aH:Yc 1 _:=hr.mono (by omega)
 have nd:=Qio.nd
 refine⟨_,Qd (Ql (i:=3) nd rfl (Or.inl Xb) Up)
  (Qd (Ye GX rfl (Yp (Q9 (pv 0) T.cl mW GW hr bW .nil Q5 (Qa (pv 1) (Qa (pv 2) Qe)))) (Qr (i:=4) nd rfl (Or.inl Xb))
   (Qh (We hu (pv 3) (Zs hu (Qn (pv 0) rfl) (pv 4) (λ_ _=>rfl)) W0 Xb)))
  (Qd (Ye GX rfl (Qs0 rfl B.range (Qa (Zp Qf0 (Qp Zk rfl B.len Tj (Qa (Qn (pv 0) rfl) Qe)) Qj) (Qa (Qdf Iw Qj) (Qa (Qdf Iw Qj) Qe)))) (Qr (i:=5) nd rfl (Or.inl Xb))
   (Qh (Zm (Oo (Qjp hu (pv 5) (pv 3)))
    (Qh (Ye GX rfl (Yp (Z6 GB aH rfl mB kB bB .nil Q5 (Qa (pv 0) (Qa (Qo Zh (Qn (pv 0) rfl) (pv 5) (λ_ _=>rfl)) Qe)))) (W9 rfl (Zj (Qr (i:=6) nd rfl (Or.inl Xb)) (Zj (Qr (i:=7) nd rfl (Or.inl Xb)) Xz)))
     (Qh (Ye GX rfl (Yp (Q9 (pv 0) T.cl mW GW hr bW .nil Q5 (Qa (pv 6) (Qa (pv 7) Qe)))) (Qr (i:=4) nd rfl (Or.inl Xb))
      (Qh (We hu (pv 3) (Zs hu (Qn (pv 0) rfl) (pv 4) (λ_ _=>rfl)) W0 Xb)))))) Q8)))
  (Qh (Qy (Qp (Qg9 Xb) rfl B.sorted PyProof.Rows.boot_sorted (Qa (pv 3) Qe)))))),?_⟩
 intro d d0
 have s1:=Qg d0 (.dK [])
 obtain⟨dx,o1⟩:=X.ob
 obtain⟨ls,ao,aw⟩:=X.li
 have au:=Gs aw
 have aI:∀p q k,x.Y1 p q=some k->k<x.links.length:=λp q k h=>by
  obtain⟨r,h|h⟩:=I.fst.Qgm p q k h<;>exact(Ge.mp h).1
 refine⟨_,Xb,n,dx,_,Xb,s1 _ _ o1,Qkh _,_,Xb,_,Xb,n,A,fs,tb,x,one,G,Xb,X.same s1,I,oS,tS,he,hS,λL es st H2 g2 L0 hL aC W=>⟨L,Xb,⟨_,Zd.of hL⟩,?_⟩⟩
 refine Qcy T X (s1.trans g2) d0 (N0:=[]) (g2 _ _ Qb) hL aC (m:=x.links.length) (λp q h=>?_) Et (by omega) (λk g=>nomatch g) λN x4 H3 O i1 i2 i3 bt e3=>?_
 ·obtain⟨k,h1,h2⟩:=W.lk p q h
  exact⟨k,h1,aI _ _ _ h1⟩
 have g3:Q3 H H3:=λb o e=>bt _ _ (g2 _ _ (s1 _ _ e)) (Qc e d0)
 refine⟨_,Xb,n,C,dx,_,_,Xb,g3 _ _ o1,T.cl,T.links,Uk _,A.k,_,Xb,.inl (Zd.of (g3 _ _ ao)),_,_,Xb,Xb,_,Xb,_,Xb,x.links.length,by rw[au],by omega,?_⟩
 refine Qrb (λi σ H4=>∃(x4 x5 x6 x7:Option V)(N:List Nat),σ=[some (.ref n),some (jv one),some (jv G),some (.ref d),x4,x5,x6,x7]/\Q3 H H4/\H4 d=some (.dK (dS N λ_=>V.bl true))/\N.Nodup/\(∀k∈N,k<x.links.length)/\(∀p q k,(p,q)∈st->x.Y1 p q=some k->k∈N)/\(∀k∈N,∃p q j,(p,q)∈st/\x.Y1 p q=some j/\k<=j)/\
   ∀k∈N,x.links.length - i<=k->∀lk,x.links[k]?=some lk->∀p q,(p,q)∈Xw fs lk->∀st,Ov x.up p q st->∀u v,(u,v)∈st->∀j,x.Y1 u v=some j->j∈N/\j<k)
  ⟨_,_,_,_,N,Xb,g3,e3,O,λk g=>(i2 k g).elim (λz=>nomatch z) (·.1),i3,λk g=>(i2 k g).elim (λz=>nomatch z) (λ⟨_,p,q,h1,h2⟩=>⟨p,q,k,h1,h2,Gr _⟩),λk g h=>?_⟩ ?_ ?_
 ·have:=(i2 k g).elim (λz=>nomatch z) (·.1)
  omega
 ·rintro i σ H4 hi ⟨x4,x5,x6,x7,N,rfl,g4,e4,O,Y,U,l,S⟩
  have ah:((x.links.length:Int) - 1 - (i:Int))=((x.links.length - 1 - i:Nat):Int):=by omega
  rw[ah]
  generalize aM:x.links.length - 1 - i=k0
  have kl:k0<x.links.length:=by omega
  have dg:Wk H4 d (jv k0) (Yu (dS N λ_=>V.bl true) (ki k0)):=Wk.k (k:=ki k0) e4
  refine⟨_,Xb,_,Xb,d,_,Xb,dg,_,Xb,?_⟩
  rw[Qmf]
  by_cases ae:k0∈N
  ·rw[Tp ae]
   refine Y0 ?_
   have an:k0<ls.length:=by omega
   obtain⟨lk,ab,ar⟩:=Qv aw (Gg an)
   have ag:=ar.Qm (Qu.of g4)
   obtain⟨a,b,rs⟩:=lk
   obtain⟨aS,bS,_⟩:=I.lnk k0 a b rs ab
   refine⟨_,Xb,_,Xb,n,C,dx,_,_,Xb,g4 _ _ o1,T.cl,T.links,Uk _,_,Xb,A.k,ls,_,_,Xb,Xb,Zd.of (g4 _ _ ao),Qz (Gg an),n,A,fs,tb,x,_,(a,b,rs),Xb,X.same g4,ag,FO.lt a aS,FO.lt b bS,λL5 aB H5 g5 ax ak af=>⟨L5,Xb,⟨_,Zd.of ak⟩,?_⟩⟩
   have ay:L5≠d:=Gq (Qc e4 ax)
   have low:∀{M:List Nat}{i':Nat},(∀k∈N,k∈M)->(∀k∈M,k∈N\/k<k0)->(∀p q,(p,q)∈Xw fs (a,b,rs)->∀st,Ov x.up p q st->∀u v,(u,v)∈st->∀j,x.Y1 u v=some j->j∈M/\j<k0)->
     ∀k∈M,x.links.length - (i+1)<=k->∀lk,x.links[k]?=some lk->∀p q,(p,q)∈Xw fs lk->∀st,Ov x.up p q st->∀u v,(u,v)∈st->∀j,x.Y1 u v=some j->j∈M/\j<k:=λ{M i'}a1 a2 a3 k g h lk ac p q t R D u v J j hj=>by
    rcases TC k (x.links.length - i)with h2|h2
    ·have:k=k0:=by omega
     subst this
     rw[ab]at ac
     cases ac
     exact a3 p q t R D u v J j hj
    ·have aE:k∈N:=(a2 k g).elim id λz=>by omega
     obtain⟨b1,b2⟩:=S k aE h2 lk ac p q t R D u v J j hj
     exact⟨a1 _ b1,b2⟩
   refine Y2 (K:=K) (a:=L5) (xs:=aB) (λi5 σ H6=>∃(x4 x6 x7:Option V)(M:List Nat),σ=[some (.ref n),some (jv one),some (jv G),some (.ref d),x4,some (jv k0),x6,x7]/\Jm d H5 H6/\H6 d=some (.dK (dS M λ_=>V.bl true))/\M.Nodup/\(∀k∈N,k∈M)/\(∀k∈M,k∈N\/k<k0)/\
     ∀p q,(p,q)∈(Xw fs (a,b,rs)).take i5->∀st,Ov x.up p q st->∀u v,(u,v)∈st->∀j,x.Y1 u v=some j->j∈M/\j<k0)
    ⟨_,_,_,N,Xb,Jm.refl,g5 _ _ e4,O,λ_ h=>h,λ_ h=>.inl h,by simp⟩ (λi5 σ H6 _⟨_,_,_,_,_,bt,_⟩=>Zd.of (bt _ _ ak ay)) ?_ ?_
   ·rintro i5 y σ H6 aD ⟨x4,x6,x7,M,rfl,aa,e6,ad,sub,only,done⟩
    obtain⟨⟨p,r⟩,aq,c,rfl,hc⟩:=Qv af aD
    have ap:(p,r)∈Xw fs (a,b,rs):=Gb aq
    obtain⟨pS,rS,cn⟩:=Qlh I ab ap
    have g6:Q3 H H6:=λb o e=>aa _ _ (g5 _ _ (g4 _ _ e)) (Qc e d0)
    have aG:x.lead p=x.lead r:=(I.conn p pS r rS).mpr (cn.mono λz hz=>Dp hz)
    have c6:=aa _ _ hc (Yb hc (g5 _ _ e4) (λz=>nomatch z))
    refine⟨c,_,Xb,Z4.of c6,Xb,_,_,Xb,_,_,Xb,Xb,?_⟩
    refine⟨_,Xb,n,dx,_,Xb,g6 _ _ o1,Qkh _,_,Xb,_,Xb,n,A,fs,tb,x,p,r,Xb,X.same g6,I,pS,rS,aG,hS,λL7 aL aN H7 g7 aK al am W7=>⟨L7,Xb,⟨_,Zd.of al⟩,?_⟩⟩
    refine Qcy T X (g6.trans g7) d0 (N0:=M) (g7 _ _ e6) al am (m:=k0) (λp q h=>?_) ad (by omega) (λk g=>?_) λN8 x4 H8 av i1 i2 i3 az e8=>?_
    ·obtain⟨k,h1,h2⟩:=W7.lk p q h
     exact⟨k,h1,h2 k0 cn⟩
    ·rcases only k g with h|h
     ·have:=Y k h;omega
     ·omega
    ·refine⟨_,_,_,N8,Xb,λb o e h=>az _ _ (g7 _ _ (aa _ _ e h)) h,e8,av,λk g=>i1 k (sub k g),λk g=>(i2 k g).elim (only k) (λh=>.inr h.1),λp' q' t R D u v J j hj=>?_⟩
     rw[Tf,aq]at t
     rcases Gd.mp t with h|h
     ·obtain⟨b1,b2⟩:=done p' q' h R D u v J j hj
      exact⟨i1 _ b1,b2⟩
     ·have:(p',q')=(p,r):=by simpa using h
      cases this
      have:=D.uniq W7.rel
      subst this
      obtain⟨k,h1,h2⟩:=W7.lk u v J
      rw[hj]at h1
      cases h1
      exact⟨i3 u v j J hj,h2 k0 cn⟩
   ·rintro σ H6 ⟨x4,x6,x7,M,rfl,aa,e6,ad,sub,only,done⟩
    rw[Gs af,Te]at done
    exact⟨_,_,_,_,M,Xb,λb o e=>aa _ _ (g5 _ _ (g4 _ _ e)) (Qc e d0),e6,ad,λk g=>(only k g).elim (Y k) (λh=>by omega),λp q k h1 h2=>sub _ (U p q k h1 h2),λk g=>(only k g).elim (l k) (λh=>by obtain⟨p,q,j,h1,h2,h3⟩:=l k0 ae;exact⟨p,q,j,h1,h2,by omega⟩),low (i':=0) sub only done⟩
  ·rw[Tg ae]
   refine Zq ⟨_,_,_,_,N,Xb,g4,e4,O,Y,U,l,λk g h=>?_⟩
   rcases TC k (x.links.length - i)with h2|h2
   ·have:k=k0:=by omega
    exact absurd (this▸g) ae
   ·exact S k g h2
 ·rintro σ H4 ⟨x4,x5,x6,x7,N,rfl,g4,e4,O,Y,U,l,S⟩
  have aF:N.length<64:=by
   have:N.length<=(List.range x.links.length).length:=Xf O λk g=>DY.mpr (Y k g)
   rw[DR]at this
   omega
  refine⟨_,Xb,d,_,N.map (λk:Nat=>(k:Int)),Xb,e4,?_,by rw[Wq];exact aF,λr ns r0 hp hs=>?_⟩
  ·unfold dS
   rw[TJ,TJ]
   rfl
  have aA:ns=(ns.map Int.toNat).map (λk:Nat=>(k:Int)):=by
   rw[TJ]
   refine(Lg ns).symm.trans (Tw λz hz=>?_)
   have:=hp.mem_iff.mp hz
   obtain⟨k,_,rfl⟩:=Ti.mp this
   rfl
  have Z:(ns.map Int.toNat).Perm N:=by
   have:=hp.map Int.toNat
   rw[TJ]at this
   have e:(N.map (Int.toNat∘λk:Nat=>(k:Int)))=N:=by
    refine(Tw λk _=>?_).trans (Lg N)
    rfl
   rwa[e]at this
  have eo:HO.lst (ns.map V.int)=HO.lst ((ns.map Int.toNat).map jv):=by
   congr 1
   conv=>lhs;rw[aA]
   rw[TJ]
   rfl
  have pw:(ns.map Int.toNat).Pairwise (·<=·):=by
   rw[List.pairwise_map]
   exact hs.imp λh=>by omega
  rw[eo]
  refine q r (ns.map Int.toNat) _ (g4.trans (Qg r0 _)) (g4.free r0) Qb (Z.nodup_iff.mpr O) pw ⟨λk g=>Y k (Z.mem_iff.mp g),λR D p q' t k g=>?_,λk g lk ab p q' t R D u v J j hj=>?_,λk g=>?_⟩
  ·have:=D.uniq W.rel
   subst this
   exact Z.mem_iff.mpr (U p q' k t g)
  ·obtain⟨b1,b2⟩:=S k (Z.mem_iff.mp g) (by omega) lk ab p q' t R D u v J j hj
   exact⟨Z.mem_iff.mpr b1,b2⟩
  ·obtain⟨p,q',j,h1,h2,h3⟩:=l k (Z.mem_iff.mp g)
   exact⟨st,p,q',j,W.rel,h1,h2,h3⟩
end
open PySem L2 Sb Nt
inductive Lr where
 |told (n:Nat)
 |asked
 |turn (k:Nat)
 |chain (ks:List Nat)
 |like (ks:List Nat)
abbrev Ln:=Nat×Nat×Lr
def Chn(pre:List Ln):Nat->List Nat->Nat->Prop
 |p,[],q=>p=q
 |p,k::a,q=>∃m r,pre[k]?=some (p,m,r)/\Chn pre m a q
def Okl(fs:List Fm)(lks:List Lk)(pre:List Ln)(a b:Nat):Lr->Prop
 |.told n=>(a,b,some (.told n))∈lks
 |.asked=>(a,b,some .asked)∈lks
 |.turn k=>∃r,pre[k]?=some (b,a,r)
 |.chain c=>Chn pre a c b
 |.like c=>Ya fs a=Ya fs b/\(Zi fs a).length=(Zi fs b).length/\c.length=(Zi fs a).length/\∀j k p q:Nat,c[j]?=some k->(Zi fs a)[j]?=some p->(Zi fs b)[j]?=some q->∃r,pre[k]?=some (p,q,r)
def Gdl(fs:List Fm)(lks:List Lk)(ls:List Ln):Prop:=∀(i a b:Nat)r,ls[i]?=some (a,b,r)->Okl fs lks (ls.take i) a b r
theorem Gdl.nil{fs:List Fm}{lks:List Lk}:Gdl fs lks []:=λi a b r h=>by simp at h
theorem Gdl.snoc{fs:List Fm}{lks:List Lk}{ls:List Ln}{a b:Nat}{r:Lr}(g:Gdl fs lks ls)(h:Okl fs lks ls a b r):Gdl fs lks (ls++[(a,b,r)]):=λi d e f hi=>by
 rcases TC i ls.length with c|c
 ·rw[GQ c]at hi
  rw[Ey (by omega)]
  exact g i d e f hi
 ·rw[To c]at hi
  have:i=ls.length:=by
   rcases TC (i - ls.length) 1 with h1|h1
   ·omega
   ·rw[Tz (by simpa using h1)]at hi;cases hi
  subst this
  simp at hi
  obtain⟨rfl,rfl,rfl⟩:=hi
  rw[List.take_left]
  exact h
def Qai(H:Hp)(X:Addr->Prop)(v:V):Lr->Prop
 |.told n=>∃c,v=.ref c/\H c=some (.tup [.str "told",jv n])
 |.asked=>∃c,v=.ref c/\H c=some (.tup [.str "asked"])
 |.turn k=>∃c,v=.ref c/\H c=some (.tup [.str "turn",jv k])
 |.chain a=>∃c l,v=.ref c/\H c=some (.tup [.str "chain",.ref l])/\H l=some (.lst (a.map jv))/\¬X l
 |.like a=>∃c l,v=.ref c/\H c=some (.tup [.str "like",.ref l])/\H l=some (.lst (a.map jv))/\¬X l
def Qf9(H:Hp)(X:Addr->Prop)(us:List V)(v:V)(l:Ln):Prop:=∃c a b rv,v=.ref c/\H c=some (.tup [a,b,rv])/\us[l.1]?=some a/\us[l.2.1]?=some b/\Qai H X rv l.2.2
structure J2(L M:Addr)(H H':Hp):Prop where
 keep:∀b o,H b=some o->b≠L->b≠M->H' b=some o
 there:∀b,H' b=none->H b=none
theorem J2.refl{L M:Addr}{H:Hp}:J2 L M H H:=⟨λ_ _ e _ _=>e,λ_ h=>h⟩
theorem J2.trans{L M:Addr}{H H1 H2:Hp}(a:J2 L M H H1)(b:J2 L M H1 H2):J2 L M H H2:=⟨λc o e h1 h2=>b.keep c o (a.keep c o e h1 h2) h1 h2,λc h=>a.there c (b.there c h)⟩
theorem J2.of{L M:Addr}{H H1:Hp}(g:Q3 H H1):J2 L M H H1:=⟨λc o e _ _=>g c o e,λc h=>g.free h⟩
theorem Qai.kp{X:Addr->Prop}{H H':Hp}(tp:∀{c:Addr}{ys:List V},H c=some (.tup ys)->H' c=some (.tup ys))(lp:∀{c:Addr}{ys:List V},H c=some (.lst ys)->¬X c->H' c=some (.lst ys)){v:V}:∀{r:Lr},Qai H X v r->Qai H' X v r:=by
 intro r h
 cases r with
 |told n=>obtain⟨c,h1,h2⟩:=h;exact⟨c,h1,tp h2⟩
 |asked=>obtain⟨c,h1,h2⟩:=h;exact⟨c,h1,tp h2⟩
 |turn k=>obtain⟨c,h1,h2⟩:=h;exact⟨c,h1,tp h2⟩
 |chain d=>obtain⟨c,l,h1,h2,b,a⟩:=h;exact⟨c,l,h1,tp h2,lp b a,a⟩
 |like d=>obtain⟨c,l,h1,h2,b,a⟩:=h;exact⟨c,l,h1,tp h2,lp b a,a⟩
theorem Qf9.kp{X:Addr->Prop}{H H':Hp}(tp:∀{c:Addr}{ys:List V},H c=some (.tup ys)->H' c=some (.tup ys))(lp:∀{c:Addr}{ys:List V},H c=some (.lst ys)->¬X c->H' c=some (.lst ys)){us:List V}{v:V}{l:Ln}(h:Qf9 H X us v l):Qf9 H' X us v l:=by
 obtain⟨c,e,f,rv,h1,h2,a,b,d⟩:=h
 exact⟨c,e,f,rv,h1,tp h2,a,b,d.kp tp lp⟩
theorem Qai.ex{X Y:Addr->Prop}{H:Hp}(d:∀c ys,H c=some (.lst ys)->¬X c->¬Y c){v:V}:∀{r:Lr},Qai H X v r->Qai H Y v r:=by
 intro r h
 cases r with
 |told n=>exact h
 |asked=>exact h
 |turn k=>exact h
 |chain e=>obtain⟨c,l,h1,h2,a,b⟩:=h;exact⟨c,l,h1,h2,a,d _ _ a b⟩
 |like e=>obtain⟨c,l,h1,h2,a,b⟩:=h;exact⟨c,l,h1,h2,a,d _ _ a b⟩
theorem Qf9.ex{X Y:Addr->Prop}{H:Hp}(e:∀c ys,H c=some (.lst ys)->¬X c->¬Y c){us:List V}{v:V}{l:Ln}(h:Qf9 H X us v l):Qf9 H Y us v l:=by
 obtain⟨c,f,g,rv,h1,h2,a,b,d⟩:=h
 exact⟨c,f,g,rv,h1,h2,a,b,d.ex e⟩
structure Sv where
 sh:Addr
 n:Addr
 t:Addr
 L:Addr
 M:Addr
 A:Na
 fs:List Fm
 tb:Nat
 x:Nn
 us:List V
 H0:Hp
 Ex:Addr->Prop
def Qav(v:Sv):List (Str×V):=[("things",.ref v.t),("net",.ref v.n),("lines",.ref v.L),("numbers",.ref v.M)]
structure Wr(P:Program)(w:World)(C D:Addr)(v:Sv)(H:Hp)(ls:List Ln)(N:Nat->Nat->Option Nat):Prop where
 ob:∃dx,H v.sh=some (.ins D dx (Qav v))
 Og:Q3 v.H0 H
 L0:v.H0 v.L=none
 M0:v.H0 v.M=none
 net:Z1 P w C v.H0 v.n v.A v.fs v.tb v.x
 th:v.H0 v.t=some (.lst v.us)
 li:∃vs,H v.L=some (.lst vs)/\Paired (Qf9 H v.Ex v.us) vs ls
 nu:∃kvs,H v.M=some (.dT kvs)/\kvs.length<=ls.length/\∀i j:Nat,Yu kvs [ki i,ki j]=(N i j).map jv
 ok:∀i j k,N i j=some k->∃r,ls[k]?=some (i,j,r)
 good:Gdl v.fs v.x.links ls
 exL:v.Ex v.L
 exA:∀b,v.Ex b->∃o,H b=some o
theorem J2.tp{L M:Addr}{H H':Hp}{kvs:List (List Xo×V)}{xs:List V}(F:J2 L M H H')(b:H M=some (.dT kvs))(a:H L=some (.lst xs)){c:Addr}{ys:List V}(e:H c=some (.tup ys)):H' c=some (.tup ys):=F.keep _ _ e (Yb e a (λz=>nomatch z)) (Yb e b (λz=>nomatch z))
theorem J2.lp{L M:Addr}{X:Addr->Prop}{H H':Hp}{kvs:List (List Xo×V)}(F:J2 L M H H')(b:H M=some (.dT kvs))(a:X L){c:Addr}{ys:List V}(e:H c=some (.lst ys))(h:¬X c):H' c=some (.lst ys):=F.keep _ _ e (λz=>h (z▸a)) (Yb e b (λz=>nomatch z))
theorem Wr.fr{P:Program}{w:World}{C D:Addr}{v:Sv}{H H':Hp}{ls:List Ln}{N:Nat->Nat->Option Nat}(S:Wr P w C D v H ls N)(g:Q3 H H'):Wr P w C D v H' ls N:=by
 obtain⟨dx,a⟩:=S.ob
 obtain⟨vs,l1,l2⟩:=S.li
 obtain⟨kvs,n1,n2,n3⟩:=S.nu
 exact⟨⟨dx,g _ _ a⟩,S.Og.trans g,S.L0,S.M0,S.net,S.th,⟨vs,g _ _ l1,L2.Paired.Z8 l2 λ_ _ h=>h.kp (λe=>g _ _ e) (λe _=>g _ _ e)⟩,⟨kvs,g _ _ n1,n2,n3⟩,S.ok,S.good,S.exL,λb hb=>let⟨o,e⟩:=S.exA b hb;⟨o,g _ _ e⟩⟩
theorem Wr.more{P:Program}{w:World}{C D:Addr}{v:Sv}{H:Hp}{ls:List Ln}{N:Nat->Nat->Option Nat}{r:Addr}(S:Wr P w C D v H ls N)(d:H r=none):Wr P w C D {v with Ex:=λb=>v.Ex b\/b=r} (upd H r (.lst [])) ls N:=by
 have S1:=S.fr (Qg d (.lst []))
 obtain⟨vs,l1,l2⟩:=S.li
 obtain⟨f,a,i⟩:=S1.li
 have:f=vs:=by
  rw[Qg d (.lst []) _ _ l1]at a
  cases a
  rfl
 subst this
 refine⟨S1.ob,S1.Og,S1.L0,S1.M0,S1.net,S1.th,⟨f,a,L2.Paired.Z8 l2 λ_ _ h=>(h.ex (Y:=λb=>v.Ex b\/b=r) λc ys e g z=>?_).kp (λe=>Qg d _ _ _ e) (λe _=>Qg d _ _ _ e)⟩,S1.nu,S1.ok,S1.good,.inl S1.exL,λb hb=>?_⟩
 ·rcases z with z|z
  ·exact g z
  ·rw[z,d]at e;cases e
 ·rcases hb with hb|hb
  ·exact S1.exA b hb
  ·exact⟨_,by rw[hb];exact Qb⟩
theorem Wr.less{P:Program}{w:World}{C D:Addr}{v:Sv}{H:Hp}{ls:List Ln}{N:Nat->Nat->Option Nat}{r:Addr}(S:Wr P w C D {v with Ex:=λb=>v.Ex b\/b=r} H ls N)(a:v.Ex v.L):Wr P w C D v H ls N:=by
 obtain⟨vs,l1,l2⟩:=S.li
 exact⟨S.ob,S.Og,S.L0,S.M0,S.net,S.th,⟨vs,l1,L2.Paired.Z8 l2 λ_ _ h=>h.ex λc ys e d z=>d (.inl z)⟩,S.nu,S.ok,S.good,a,λb hb=>S.exA b (.inl hb)⟩
theorem Wr.grow{P:Program}{w:World}{C D:Addr}{v:Sv}{H:Hp}{ls:List Ln}{N:Nat->Nat->Option Nat}{r:Addr}{ys zs:List V}(S:Wr P w C D v H ls N)(j:v.Ex r)(c:H r=some (.lst ys))(g:r≠v.L)(f:v.H0 r=none):Wr P w C D v (upd H r (.lst zs)) ls N:=by
 obtain⟨dx,d⟩:=S.ob
 obtain⟨vs,l1,l2⟩:=S.li
 obtain⟨kvs,n1,n2,n3⟩:=S.nu
 refine⟨⟨dx,Qi d (Yb d c (λz=>nomatch z))⟩,λb o e=>Qi (S.Og _ _ e) (Qc e f),S.L0,S.M0,S.net,S.th,⟨vs,Qi l1 (Gq g),L2.Paired.Z8 l2 λ_ _ h=>h.kp (λe=>Qi e (Yb e c (λz=>nomatch z))) (λe i=>Qi e (λz=>i (z▸j)))⟩,⟨kvs,Qi n1 (Yb n1 c (λz=>nomatch z)),n2,n3⟩,S.ok,S.good,S.exL,λb hb=>?_⟩
 by_cases a:b=r
 ·exact⟨_,by rw[a];exact Qb⟩
 ·obtain⟨o,e⟩:=S.exA b hb
  exact⟨o,Qi e a⟩
theorem Wr.same{P:Program}{w:World}{C D:Addr}{v:Sv}{H H':Hp}{ls:List Ln}{N:Nat->Nat->Option Nat}(S:Wr P w C D v H ls N)(F:J2 v.L v.M H H'):Q3 v.H0 H':=λb o e=>F.keep b o (S.Og b o e) (Qc e S.L0) (Qc e S.M0)
def putN(N:Nat->Nat->Option Nat)(a b m:Nat):Nat->Nat->Option Nat:=λi j=>if i=a/\j=b then some m else N i j
structure Qmv(K:Gc)(D:Addr):Prop where
 cl:Cls K D
 things:Yo K D "things"
 net:Yo K D "net"
 lines:Yo K D "lines"
 U4:Yo K D "numbers"
theorem Qeq(v:Sv):(Qav v).lookup ("things":Str)=some (.ref v.t):=by rfl
theorem Qok(v:Sv):(Qav v).lookup ("net":Str)=some (.ref v.n):=by rfl
theorem Qdm(v:Sv):(Qav v).lookup ("lines":Str)=some (.ref v.L):=by rfl
theorem Wp(v:Sv):(Qav v).lookup ("numbers":Str)=some (.ref v.M):=by rfl
theorem Qih(v:Sv):(Qav v).lookup ("write":Str)=none:=by rfl
theorem Qgi(v:Sv):(Qav v).lookup ("write_link":Str)=none:=by rfl
theorem Rc(v:Sv):(Qav v).lookup ("line_for":Str)=none:=by rfl
def Qfw(P:Program)(w:World)(C D:Addr):Sp:=λvs H Q _=>∃(v:Sv)(ls:List Ln)(N:Nat->Nat->Option Nat)(a b:Nat)(rv:V)(r:Lr),vs=[.ref v.sh,jv a,jv b,rv]/\Wr P w C D v H ls N/\a<v.us.length/\b<v.us.length/\Qai H v.Ex rv r/\Okl v.fs v.x.links ls a b r/\ls.length<=1000000/\
 ∀H',Wr P w C D v H' (ls++[(a,b,r)]) (putN N a b ls.length)->J2 v.L v.M H H'->Q .non H'
section
variable{P:Program}{w:World}{K:Gc}{mg:Str->Option Value}{base:Heap}
theorem Qsx:Qx ["self","one","other","reason"] ["self","one","other","reason"] (Qk Qf2):=⟨Xb,Xb,Xb,by decide+kernel,Xb,by decide+kernel,by decide+kernel⟩
theorem Qpj{f C D:Addr}{fd:FuncData}(F:W5 K "write" "Showing.write" Qf2 f fd)(T:Qmv K D)(B:Jv mg):Qt P w K mg base Z7 1 f fd ["self","one","other","reason"] (Qfw P w C D):=by
 refine F.ok Qsx (λvs H Q E h=>?_) (λcdv A outer s H vs Q E hr h=>?_)
 ·obtain⟨v,ls,N,a,b,rv,r,rfl,_⟩:=h
  rfl
 obtain⟨v,ls,N,a,b,rv,r,rfl,S,al,bl,U,Zy,X,q⟩:=h
 have hu:=Ul hr
 refine⟨_,Qd (We hu (Qn (pv 0) rfl) (Za (Qa (pv 1) (Qa (pv 2) Qe))) (Qp Zk rfl B.len Tj (Qa (Qn (pv 0) rfl) Qe)) rfl)
  (Qh (Zb (Xr Gy Tc Tk Z2 (Qn (pv 0) rfl) (Qa (Za (Qa (Qo Zh (Qn (pv 0) rfl) (pv 1) (λ_ _=>rfl)) (Qa (Qo Zh (Qn (pv 0) rfl) (pv 2) (λ_ _=>rfl)) (Qa (pv 3) Qe)))) Qe)))),?_⟩
 obtain⟨dx,n⟩:=S.ob
 obtain⟨vs,l1,l2⟩:=S.li
 obtain⟨kvs,n1,n2,n3⟩:=S.nu
 have R:=Gs l2
 refine⟨_,Xb,v.sh,D,dx,_,_,Xb,n,T.cl,T.lines,Qdm _,v.L,vs,Xb,.inl (Zd.of l1),_,Xb,v.sh,D,dx,_,_,Xb,n,T.cl,T.U4,Wp _,_,Xb,_,Xb,by show 2<=sizeLine;decide,λc hc=>?_⟩
 have s1:=Qg hc (.tup [jv a,jv b])
 have dp:=Ij.t (k:=[ki a,ki b]) (v:=.int (vs.length:Int)) (s1 _ _ n1) (show(upd H c (.tup [jv a,jv b])) c=some (.tup ([ki a,ki b].map kV))from Qb) (by rw[Td];omega)
 refine⟨v.M,_,Xb,dp,?_⟩
 have W:v.L≠v.M:=Yb l1 n1 (λz=>nomatch z)
 have Y:v.sh≠v.M:=Yb n n1 (λz=>nomatch z)
 have oL:v.sh≠v.L:=Yb n l1 (λz=>nomatch z)
 generalize l:upd (upd H c (.tup [jv a,jv b])) v.M (.dT (Wo kvs [ki a,ki b] (.int (vs.length:Int))))=H2
 have G:∀{d o},H d=some o->d≠v.M->H2 d=some o:=λe h=>by rw[<-l];exact Qi (s1 _ _ e) h
 have t2:∀{d},H2 d=none->H d=none:=λ{d}h=>by
  rw[<-l]at h
  exact s1.free (Zx h)
 have M2:H2 v.M=some (.dT (Wo kvs [ki a,ki b] (.int (vs.length:Int)))):=by rw[<-l];exact Qb
 have V:=G n Y
 have g:=G l1 W
 have Z:H v.t=some (.lst v.us):=S.Og _ _ S.th
 have y:=G Z (Yb Z n1 (λz=>nomatch z))
 have ua:v.us[a]?=some v.us[a]:=Gg al
 have ub:v.us[b]?=some v.us[b]:=Gg bl
 refine⟨_,Xb,v.sh,D,dx,_,_,Xb,V,T.cl,T.lines,Qdm _,.inl ⟨Xb,_,Zd.of g⟩,_,Xb,v.sh,D,dx,_,_,Xb,V,T.cl,T.things,Qeq _,_,Xb,v.t,v.us,_,_,Xb,Xb,Zd.of y,Qz ua,_,Xb,v.sh,D,dx,_,_,Xb,V,T.cl,T.things,Qeq _,_,Xb,v.t,v.us,_,_,Xb,Xb,Zd.of y,Qz ub,_,Xb,by show 3<=sizeLine;decide,λp m=>?_⟩
 have I:=Qg m (.tup [v.us[a],v.us[b],rv])
 have J:p≠v.L:=Gq (Qc g m)
 have aa:p≠v.M:=Gq (Qc M2 m)
 refine⟨v.L,vs,_,Xb,Xb,I _ _ g,by rw[Td];omega,?_⟩
 have F:J2 v.L v.M H (upd (upd H2 p (.tup [v.us[a],v.us[b],rv])) v.L (.lst (vs++[.ref p]))):=⟨λd o e h1 h2=>Qi (I _ _ (G e h2)) h1,λd h=>t2 (I.free (Zx h))⟩
 refine q _ ⟨⟨dx,F.keep _ _ n oL Y⟩,S.same F,S.L0,S.M0,S.net,S.th,⟨_,Qb,DO (L2.Paired.Z8 l2 λ_ _ h=>h.kp (F.tp n1 l1) (F.lp n1 S.exL)) ⟨p,v.us[a],v.us[b],rv,Xb,Qi Qb J,ua,ub,U.kp (F.tp n1 l1) (F.lp n1 S.exL)⟩⟩,⟨_,Qi (I _ _ M2) (Gq W),?_,λi j=>?_⟩,λi j k u=>?_,S.good.snoc Zy,S.exL,λd O=>?_⟩ F
 ·have:=X6 kvs [ki a,ki b] (.int (vs.length:Int))
  rw[Gk,Gv]
  omega
 ·rw[Qdi,n3]
  unfold putN
  by_cases h:i=a/\j=b
  ·obtain⟨rfl,rfl⟩:=h
   rw[Gp Xb,Gp ⟨Xb,Xb⟩,R]
   rfl
  ·rw[Gj h,Gj]
   intro z
   simp only[Tx,Fp]at z
   exact h ⟨U6 z.1,U6 z.2⟩
 ·unfold putN at u
  by_cases h:i=a/\j=b
  ·rw[Gp h]at u
   cases u
   obtain⟨rfl,rfl⟩:=h
   exact⟨r,by simp⟩
  ·rw[Gj h]at u
   obtain⟨r',x⟩:=S.ok i j k u
   exact⟨r',by rw[GQ (Ge.mp x).1];exact x⟩
 ·obtain⟨o,e⟩:=S.exA d O
  exact SX.mp λz=>by rw[F.there d z]at e;cases e
end
open PySem L2 Sb Nt
def Dr(N:Nat->Nat->Option Nat)(a b:Nat):Prop:=(N a b).isSome=true\/(N b a).isSome=true
def Qgd(N a:Nat->Nat->Option Nat):Prop:=∀i j,(N i j).isSome=true->(a i j).isSome=true
def Cov(v:Sv)(N:Nat->Nat->Option Nat)(m:Nat):Prop:=∀i j,(N i j).isSome=true->Cn (v.x.links.take m) i j
theorem Dr.sub{N c:Nat->Nat->Option Nat}{a b:Nat}(h:Dr N a b)(s:Qgd N c):Dr c a b:=h.elim (λh=>.inl (s _ _ h)) λh=>.inr (s _ _ h)
theorem Qk8{N:Nat->Nat->Option Nat}{a b m:Nat}:Qgd N (putN N a b m):=λi j h=>by
 unfold putN
 split
 ·rfl
 ·exact h
theorem Qk2{v:Sv}{N:Nat->Nat->Option Nat}{a b k m:Nat}(h:Cov v N m)(c:Cn (v.x.links.take m) a b):Cov v (putN N a b k) m:=λi j z=>by
 unfold putN at z
 split at z
 ·rename_i e
  rw[e.1,e.2]
  exact c
 ·exact h i j z
theorem Qjc{N:Nat->Nat->Option Nat}{a b m:Nat}:putN N a b m a b=some m:=Gp ⟨Xb,Xb⟩
structure Go(v:Sv)(N:Nat->Nat->Option Nat)(a b:Nat):Prop where
 inv:Xv (Ya v.fs) (Zi v.fs) v.x []
 aS:a∈v.x.S
 bS:b∈v.x.S
 eq:v.x.lead a=v.x.lead b
 hS:v.x.S.length<=1000
 st:∀st,Ov v.x.up a b st->∀p q,(p,q)∈st->Dr N p q
def Qdl(P:Program)(w:World)(C D:Addr)(g:Bool):Sp:=λvs H Q _=>∃(v:Sv)(ls:List Ln)(N:Nat->Nat->Option Nat)(a b:Nat),vs=[.ref v.sh,jv a,jv b]/\Wr P w C D v H ls N/\a<v.us.length/\b<v.us.length/\(∀p∈v.x.S,p<v.us.length)/\(Dr N a b\/(g=true/\Go v N a b))/\ls.length+(if g=true then 3000 else 0)<=900000/\
 ∀(k:Nat)(more:List Ln)(c:Nat->Nat->Option Nat)(H':Hp),Wr P w C D v H' (ls++more) c->J2 v.L v.M H H'->c a b=some k->Qgd N c->more.length<=2*v.x.S.length+1->(∀m,Cov v N m->Cn (v.x.links.take m) a b->Cov v c m)->(N a b=none->∃r,(ls++more).getLast?=some (a,b,r))->(g=false->more.length<=1)->(N a b≠none->more=[])->Q (jv k) H'
def Qpm(P:Program)(w:World)(C D:Addr):Bool->Sp
 |true=>Qdl P w C D false
 |false=>λ_ _ _ _=>False
theorem Qri{ls:List Ln}:∀{st:List (Nat×Nat)}{a:List Nat}{p q:Nat},Oi p st q->a.length=st.length->(∀j k u v:Nat,a[j]?=some k->st[j]?=some (u,v)->∃r,ls[k]?=some (u,v,r))->Chn ls p a q
 |[],[],p,q,h,_,_=>by cases h;rfl
 |[],_::_,_,_,_,h,_=>by simp at h
 |_::_,[],_,_,_,h,_=>by simp at h
 |_::st,k::a,p,q,.cons t,h,f=>by
  obtain⟨r,b⟩:=f 0 k _ _ rfl rfl
  exact⟨_,r,b,Qri t (by simpa using h) λj c u v h1 h2=>f (j+1) c u v h1 h2⟩
theorem Qpc{ls more:List Ln}{k:Nat}{l:Ln}(h:ls[k]?=some l):(ls++more)[k]?=some l:=by rw[GQ (Ge.mp h).1];exact h
section
variable{P:Program}{w:World}{K:Gc}{mg:Str->Option Value}{base:Heap}
theorem Qfa:Qx ["self","one","other","reason"] ["self","one","other"] (Qk Ji):=⟨Xb,Xb,Xb,by decide+kernel,Xb,by decide+kernel,by decide+kernel⟩
theorem Qys:(["start","end","self"]:List Str).Nodup:=by decide+kernel
set_option hygiene false
local macro_rules
 |`(tactic|infer_instance)=>`(tactic|(
 obtain⟨dx1,o1'⟩:=S1.ob
 refine⟨_,Xb,v.sh,dx1,_,Xb,o1',Qih _,_,Xb,_,Xb,_,Xb,v,ls++more1,N1,a,b,rv,r,Xb,S1,al,bl,hrv,Zy,by rw[Gk];omega,λH2 S2 F2=>?_⟩
 obtain⟨dx2,o2⟩:=S2.ob
 obtain⟨kv2,m2,_,vv2⟩:=S2.nu
 refine⟨_,Xb,v.sh,D,dx2,_,_,Xb,o2,T.cl,T.U4,Wp _,_,Xb,_,Xb,by show 2<=sizeLine;decide,λc3 hc3=>?_⟩
 have s3:=Qg hc3 (.tup [jv a,jv b])
 have dg3:=Wk.t (k:=[ki a,ki b]) (s3 _ _ m2) (show(upd H2 c3 (.tup [jv a,jv b])) c3=some (.tup ([ki a,ki b].map kV))from Qb)
 rw[vv2,Qjc]at dg3
 refine⟨v.M,_,Xb,dg3,?_⟩
 have S3:=S2.fr s3
 rw[TH]at S3
 exact q _ (more1++[(a,b,r)]) _ _ S3 ((F1.trans F2).trans (J2.of s3)) Qjc (λi j h=>Qk8 _ _ (sub1 i j h)) (by rw[Gk,Gv];omega) (λm hc hm=>Qk2 (cov1 m hc hm) hm) (λ_=>⟨r,by rw[<-TH,El]⟩) (λhg=>by rw[Gk,Gv];have:=mof hg;omega) (λz=>absurd hN z)))
set_option hygiene true
theorem Qln{g:Bool}{k:Nat}(hk:2<=k){f fW fR C D:Addr}{fd an am:FuncData}(F:W5 K "line_for" "Showing.line_for" Ji f fd)(T:Qmv K D)(TN:Vt K mg C)(mL:Z9 K D "line_for" f)(bL:Binds K fd ["self","one","other"] [])(G:Qt P w K mg base Z7 k f fd ["self","one","other"] (Qpm P w C D g))
  (mW:Z9 K C "way" fW)(GW:Qt P w K mg base Z7 2 fW an ["self","one","other"] (Qo8 P w C))(bW:Binds K an ["self","one","other"] [])(mR:Z9 K D "write" fR)(GR:Qt P w K mg base Z7 1 fR am ["self","one","other","reason"] (Qfw P w C D))(bR:Binds K am ["self","one","other","reason"] []):
  Qt P w K mg base Z7 (k+1) f fd ["self","one","other"] (Qdl P w C D g):=by
 refine F.ok Qfa (λvs H Q E h=>?_) (λcdv A outer s H vs Q E hr h=>?_)
 ·obtain⟨v,ls,N,a,b,rfl,_⟩:=h
  rfl
 obtain⟨v,ls,N,a,b,rfl,S,al,bl,Sl,pre,aq,q⟩:=h
 have hu:=Ul hr
 have aH:Yc 1 _:=hr.mono (by omega)
 have aI:Yc 2 _:=hr.mono (by omega)
 have nd:=Qfa.nd
 have aF:ls.length<=900000:=by omega
 refine⟨_,Qd (Zm (Oo (Qn8 hu (Za (Qa (pv 1) (Qa (pv 2) Qe))) (Qn (pv 0) rfl)))
   (Qd (Zm (Oo (Qjp hu (Za (Qa (pv 2) (Qa (pv 1) Qe))) (Qn (pv 0) rfl)))
    (Qh (Ql (i:=3) nd rfl (Or.inl Xb) (Za (Qa Zc (Qa (Zs hu (Qn (pv 0) rfl) (Za (Qa (pv 2) (Qa (pv 1) Qe))) (λ_ _=>rfl)) Qe)))))
    (Qh (Ql (i:=3) nd rfl (Or.inl Xb) (Za (Qa Zc (Qa
     (Vw (te:=Qib D "line_for" (Qpm P w C D g) [] E0 (V2 2) (Qe2 (V2 0) (Qe2 (V2 1) Qnq))) (g:=Qv1 K 2 (Qhy (V8 0) (Qhy (V8 1) Qv7))) (own:=["start","end"]) (fv:=[(0,"self")]) rfl (S:=(⟨by rfl,by decide+kernel,by decide+kernel,by decide+kernel⟩:Wc (Qk Ji) _)) (.cons rfl (Or.inl Xb) rfl .nil)
      (Yp (Q9 (Qn (pv 0) rfl) TN.cl mW GW aI bW .nil Q5 (Qa (pv 1) (Qa (pv 2) Qe))))
      (λ_ _ _ _ _=>W9 rfl (Zj (Qr (i:=0) Qys rfl (Or.inl Xb) (Or.inr Xb)) (Zj (Qr (i:=1) Qys rfl (Or.inl Xb) (Or.inr Xb)) Xz))) (λ_ _ _ _ _=>Wa)
      (λ_ _ _ _ _=>Q9 (pv 2) T.cl mL G hr bL .nil Q5 (Qa (pv 0) (Qa (pv 1) Qe)))) Qe))))))
   (Qh (Zb (Q9 (pv 0) T.cl mR GR aH bR .nil Q5 (Qa (pv 1) (Qa (pv 2) (Qa (pv 3) Qe))))))) Q8)
  (Qh (Qy (Zs hu (Qn (pv 0) rfl) (Za (Qa (pv 1) (Qa (pv 2) Qe))) (λ_ _=>rfl)))),?_⟩
 obtain⟨dx,o1⟩:=S.ob
 obtain⟨kvs,n1,n2,n3⟩:=S.nu
 refine⟨_,Xb,_,Xb,by show 2<=sizeLine;decide,λc hc=>?_⟩
 have s1:=Qg hc (.tup [jv a,jv b])
 have aj:=Wk.t (k:=[ki a,ki b]) (s1 _ _ n1) (show(upd H c (.tup [jv a,jv b])) c=some (.tup ([ki a,ki b].map kV))from Qb)
 rw[n3]at aj
 refine⟨_,Xb,v.sh,D,dx,_,_,Xb,s1 _ _ o1,T.cl,T.U4,Wp _,v.M,_,Xb,aj,_,Xb,?_⟩
 cases hN:N a b with
 |some l=>
  refine Zq ?_
  have S1:=S.fr s1
  obtain⟨dx2,o2⟩:=S1.ob
  obtain⟨kv2,m2,_,vv2⟩:=S1.nu
  refine⟨_,Xb,v.sh,D,dx2,_,_,Xb,o2,T.cl,T.U4,Wp _,_,Xb,_,Xb,by show 2<=sizeLine;decide,λc3 hc3=>?_⟩
  have s3:=Qg hc3 (.tup [jv a,jv b])
  have dg3:=Wk.t (k:=[ki a,ki b]) (s3 _ _ m2) (show(upd (upd H c (.tup [jv a,jv b])) c3 (.tup [jv a,jv b])) c3=some (.tup ([ki a,ki b].map kV))from Qb)
  rw[vv2,hN]at dg3
  refine⟨v.M,_,Xb,dg3,?_⟩
  have S3:=S1.fr s3
  exact q l [] N _ (by rw[Db];exact S3) (J2.of (s1.trans s3)) hN (λ_ _ h=>h) (Ta _) (λ_ h _=>h) (λz=>by rw[hN]at z;cases z) (λ_=>Ta _) (λ_=>rfl)
 |none=>
  refine Y0 ?_
  refine⟨_,Xb,_,Xb,by show 2<=sizeLine;decide,λc2 aA=>?_⟩
  have s2:=s1.trans (Qg aA (.tup [jv b,jv a]))
  have ak:=Wk.t (k:=[ki b,ki a]) (s2 _ _ n1) (show(upd (upd H c (.tup [jv a,jv b])) c2 (.tup [jv b,jv a])) c2=some (.tup ([ki b,ki a].map kV))from Qb)
  rw[n3]at ak
  refine⟨_,Xb,v.sh,D,dx,_,_,Xb,s2 _ _ o1,T.cl,T.U4,Wp _,v.M,_,Xb,ak,_,Xb,?_⟩
  generalize upd (upd H c (.tup [jv a,jv b])) c2 (.tup [jv b,jv a])=Hb at s2
  have Sb:=S.fr s2
  cases hT:N b a with
  |some l=>
   refine Y0 ?_
   obtain⟨r0,aG⟩:=S.ok b a l hT
   obtain⟨dx2,o2⟩:=Sb.ob
   obtain⟨kv2,m2,_,vv2⟩:=Sb.nu
   refine⟨_,Xb,v.sh,D,dx2,_,_,Xb,o2,T.cl,T.U4,Wp _,_,Xb,_,Xb,by show 2<=sizeLine;decide,λc3 hc3=>?_⟩
   have s3:=Qg hc3 (.tup [jv b,jv a])
   have dg3:=Wk.t (k:=[ki b,ki a]) (s3 _ _ m2) (show(upd Hb c3 (.tup [jv b,jv a])) c3=some (.tup ([ki b,ki a].map kV))from Qb)
   rw[vv2,hT]at dg3
   refine⟨v.M,_,Xb,dg3,by show 2<=sizeLine;decide,λO ad=>?_⟩
   have s4:=Qg ad (.tup [.str "turn",jv l])
   have S1:Wr P w C D v (upd (upd Hb c3 (.tup [jv b,jv a])) O (.tup [.str "turn",jv l])) (ls++[]) N:=by rw[Db];exact(Sb.fr s3).fr s4
   have F1:J2 v.L v.M H (upd (upd Hb c3 (.tup [jv b,jv a])) O (.tup [.str "turn",jv l])):=J2.of ((s2.trans s3).trans s4)
   generalize J:V.ref O=rv
   have hrv:Qai (upd (upd Hb c3 (.tup [jv b,jv a])) O (.tup [.str "turn",jv l])) v.Ex rv (.turn l):=⟨O,J.symm,Qb⟩
   have Zy:Okl v.fs v.x.links (ls++[]) a b (.turn l):=⟨r0,by rw[Db];exact aG⟩
   obtain⟨more1,B⟩:∃m:List Ln,m=[]:=⟨_,Xb⟩
   rw[<-B]at S1 Zy
   obtain⟨r,hr'⟩:∃r:Lr,r=.turn l:=⟨_,Xb⟩
   rw[<-hr']at hrv Zy
   obtain⟨N1,ac⟩:∃N1:Nat->Nat->Option Nat,N1=N:=⟨_,Xb⟩
   have sub1:Qgd N N1:=by rw[ac];exactλ_ _ h=>h
   have cov1:∀m,Cov v N m->Cn (v.x.links.take m) a b->Cov v N1 m:=by rw[ac];exactλ_ h _=>h
   rw[<-ac]at S1
   have ml:more1.length=0:=by rw[B];rfl
   have mof:g=false->more1.length=0:=λ_=>ml
   infer_instance
  |none=>
   refine Zq ?_
   cases g with
   |false=>
    exfalso
    rcases pre with(h|h)|⟨h,_⟩
    ·rw[hN]at h;cases h
    ·rw[hT]at h;cases h
    ·cases h
   |true=>
   have go:Go v N a b:=by
    rcases pre with(h|h)|⟨_,h⟩
    ·rw[hN]at h;cases h
    ·rw[hT]at h;cases h
    ·exact h
   have X2:=S.net.same Sb.Og
   obtain⟨az,on⟩:=X2.ob
   obtain⟨dx2,o2⟩:=Sb.ob
   refine⟨_,Xb,v.sh,D,dx2,_,_,Xb,o2,T.cl,T.net,Qok _,v.n,az,_,Xb,on,Qkh _,_,Xb,_,Xb,v.n,v.A,v.fs,v.tb,v.x,a,b,Xb,X2,go.inv,go.aS,go.bS,go.eq,go.hS,λL5 es st H5 g5 X ao ap W=>⟨L5,Xb,⟨_,Zd.of ao⟩,λU d=>?_⟩⟩
   have aR:=W.len
   have aQ:=Gs ap
   have hS:=go.hS
   have S5:=Sb.fr g5
   have aw:L5≠v.L:=λz=>by
    obtain⟨vs,l1,_⟩:=Sb.li
    rw[z,l1]at X;cases X
   have ax:L5≠v.M:=λz=>by
    obtain⟨vs,l1,_⟩:=Sb.nu
    rw[z,l1]at X;cases X
   have au:U≠v.L:=λz=>by
    obtain⟨vs,l1,_⟩:=S5.li
    rw[z,l1]at d;cases d
   have aP:U≠v.M:=λz=>by
    obtain⟨vs,l1,_⟩:=S5.nu
    rw[z,l1]at d;cases d
   have aO:v.H0 U=none:=S5.Og.free d
   have s5:=Qg d (.lst [])
   obtain⟨aW,aJ,_⟩:=S5.li
   obtain⟨aU,aK,_⟩:=S5.nu
   refine Qac (K:=K) (a:=L5) (xs:=es) (small (by omega)) (λi ys σ H6=>∃(x0 x1:Option V)(more:List Ln)(N1:Nat->Nat->Option Nat)(R:List Nat),σ=[x0,x1,some (.ref v.sh)]/\ys=R.map jv/\R.length=i/\Wr P w C D {v with Ex:=λb=>v.Ex b\/b=U} H6 (ls++more) N1/\J2 v.L v.M H5 H6/\Qgd N N1/\more.length<=i/\(∀m,Cov v N m->Cn (v.x.links.take m) a b->Cov v N1 m)/\
     (∀j k u u':Nat,R[j]?=some k->st[j]?=some (u,u')->∃r,(ls++more)[k]?=some (u,u',r)))
    ⟨_,_,[],N,[],Xb,Xb,Xb,by rw[Db];exact S5.more d,J2.of s5,λ_ _ h=>h,Ta _,λ_ h _=>h,by simp⟩ (λi ys σ H6 _⟨_,_,_,_,_,_,_,_,_,F6,_⟩=>Zd.of (F6.keep _ _ ao aw ax)) ?_ ?_
   ·rintro i y ys σ H6 hi aL ⟨x0,x1,more,N1,R,rfl,rfl,ae,S6,F6,aa,aN,ah,ab⟩ af
    obtain⟨⟨p,Z⟩,hp,c5,rfl,aB⟩:=Qv ap hi
    have Y:(p,Z)∈st:=Gb hp
    have c6:=F6.tp aK aJ aB
    have il:i<es.length:=(Ge.mp hi).1
    obtain⟨kk,aC,aD⟩:=W.lk p Z Y
    obtain⟨rr,ar⟩:=go.inv.fst.Qgm p Z kk aC
    have pS:p∈v.x.S/\Z∈v.x.S:=by
     rcases ar with h|h
     ·exact⟨(go.inv.lnk _ _ _ _ h).1,(go.inv.lnk _ _ _ _ h).2.1⟩
     ·exact⟨(go.inv.lnk _ _ _ _ h).2.1,(go.inv.lnk _ _ _ _ h).1⟩
    have cn:∀m,Cn (v.x.links.take m) a b->Cn (v.x.links.take m) p Z:=λm hm=>by
     have km:=aD m hm
     rcases ar with h|h
     ·exact .link (Gb (i:=kk) (by rw[DB km];exact h))
     ·exact .symm (.link (Gb (i:=kk) (by rw[DB km];exact h)))
    obtain⟨ay,o6⟩:=S6.ob
    refine⟨c5,_,Xb,Z4.of c6,Xb,_,_,Xb,_,_,Xb,Xb,?_⟩
    refine⟨_,Xb,v.sh,ay,_,Xb,o6,Rc v,_,Xb,_,Xb,{v with Ex:=λb=>v.Ex b\/b=U},ls++more,N1,p,Z,Xb,S6,Sl p pS.1,Sl Z pS.2,Sl,.inl ((go.st st W.rel p Z Y).sub aa),by rw[Gj (by decide)];rw[Gp rfl]at aq;rw[Gk];omega,λk' ag N2 H7 S7 F7 aE av aV ai _ aM _=>?_⟩
    have r7:=F7.keep _ _ af au aP
    have aT:=aM rfl
    refine⟨r7,_,_,more++ag,N2,R++[k'],Xb,by rw[Tt];rfl,by rw[Gk,Gv,ae],by rw[<-TH];exact S7.grow (.inr Xb) r7 au aO,⟨λb' o e h1 h2=>Qi (F7.keep _ _ (F6.keep _ _ e h1 h2) h1 h2) (Qc e d),λb' h=>F6.there _ (F7.there _ (Zx h))⟩,λi j h=>av _ _ (aa _ _ h),by rw[Gk];omega,λm hc hm=>ai m (ah m hc hm) (cn m hm),λj l u u' h1 h2=>?_⟩
    ·rcases TC j R.length with hj|hj
     ·rw[GQ hj]at h1
      obtain⟨r,hr'⟩:=ab j l u u' h1 h2
      rw[<-TH]
      exact⟨r,Qpc hr'⟩
     ·rw[To hj]at h1
      have:j=R.length:=by
       rcases TC (j - R.length) 1 with h'|h'
       ·omega
       ·rw[Tz (by simpa using h')]at h1;cases h1
      subst this
      simp at h1
      subst h1
      rw[ae,hp]at h2
      cases h2
      rw[<-TH]
      exact S7.ok _ _ _ aE
   ·rintro ys σ H6 aL ⟨x0,x1,more1,N1,R,rfl,rfl,ae,S6,F6,sub1,aN,cov1,ab⟩ af
    refine⟨by show 2<=sizeLine;decide,λO ad=>?_⟩
    have s4:=Qg ad (.tup [.str "chain",.ref U])
    have S1:=(S6.less S.exL).fr s4
    have F1:J2 v.L v.M H (upd H6 O (.tup [.str "chain",.ref U])):=(J2.of (s2.trans g5)).trans (F6.trans (J2.of s4))
    generalize J:V.ref O=rv
    obtain⟨r,hr'⟩:∃r:Lr,r=.chain R:=⟨_,Xb⟩
    have hrv:Qai (upd H6 O (.tup [.str "chain",.ref U])) v.Ex rv r:=by
     rw[hr']
     exact⟨O,U,J.symm,Qb,s4 _ _ af,λz=>by obtain⟨o,e⟩:=S5.exA U z;rw[d]at e;cases e⟩
    have Zy:Okl v.fs v.x.links (ls++more1) a b r:=by
     rw[hr']
     exact Qri W.path (by omega) ab
    have ml:more1.length<=2*v.x.S.length:=by omega
    have mof:true=false->more1.length=0:=λz=>by cases z
    infer_instance
theorem Qyf{f C D:Addr}{fd:FuncData}:Qt P w K mg base Z7 2 f fd ["self","one","other"] (Qpm P w C D false):=
 ⟨λvs H Q E h=>False.elim h,λA outer s H args us vs Q E _ _ _ _ h=>False.elim h⟩
end
open PySem L2 Sb Nt
def Qk6(P:Program)(w:World)(C D:Addr):Sp:=λvs H Q _=>∃(v:Sv)(ls:List Ln)(N:Nat->Nat->Option Nat)(lv:V)(a b:Nat)(c:Option Uu),vs=[.ref v.sh,lv]/\Wr P w C D v H ls N/\Ra H lv (a,b,c)/\(a,b,c)∈v.x.links/\a<v.fs.length/\b<v.fs.length/\v.fs.length=v.us.length/\(∀p∈v.x.S,p<v.us.length)/\v.x.S.length<=60/\(Zi v.fs a).length<=100/\
 (c=none->Ya v.fs a=Ya v.fs b/\(Zi v.fs a).length=(Zi v.fs b).length)/\(∀p q,(p,q)∈Xw v.fs (a,b,c)->Go v N p q)/\ls.length<=880000/\
 ∀(more:List Ln)(d:Nat->Nat->Option Nat)(r:Lr)(H':Hp),Wr P w C D v H' (ls++more++[(a,b,r)]) (putN d a b (ls++more).length)->J2 v.L v.M H H'->Qgd N d->more.length<=12100->(∀m,Cov v N m->(∀p q,(p,q)∈Xw v.fs (a,b,c)->Cn (v.x.links.take m) p q)->Cov v d m)->Q .non H'
theorem Go.sub{v:Sv}{N d:Nat->Nat->Option Nat}{a b:Nat}(g:Go v N a b)(s:Qgd N d):Go v d a b:=⟨g.inv,g.aS,g.bS,g.eq,g.hS,λst c p q h=>(g.st st c p q h).sub s⟩
section
variable{P:Program}{w:World}{K:Gc}{mg:Str->Option Value}{base:Heap}
theorem Ql6:Qx ["self","link","reason"] ["self","link"] (Qk Vj):=⟨Xb,Xb,Xb,by decide+kernel,Xb,by decide+kernel,by decide+kernel⟩
theorem Qxx:(["part","twin","self"]:List Str).Nodup:=by decide+kernel
set_option hygiene false
local macro_rules
 |`(tactic|infer_instance)=>`(tactic|(
 obtain⟨dx1,o1'⟩:=S1.ob
 refine⟨_,Xb,v.sh,dx1,_,Xb,o1',Qih _,_,Xb,c,_,_,_,Xb,Xb,Z4.of hc1,Rm _ _,_,Xb,c,_,_,_,Xb,Xb,Z4.of hc1,Im _ _ _,_,Xb,v,ls++more1,N1,a,b,rv,r,Xb,S1,al,bl,hrv,Zy,by rw[Gk];omega,λH2 S2 F2=>?_⟩
 exact q more1 N1 r H2 S2 (F1.trans F2) sub1 ml cov1))
set_option hygiene true
theorem Qrg{f fL fR fB C D:Addr}{fd ai aj ah:FuncData}(F:W5 K "write_link" "Showing.write_link" Vj f fd)(T:Qmv K D)(mL:Z9 K D "line_for" fL)(bL:Binds K ai ["self","one","other"] [])(GL:Qt P w K mg base Z7 4 fL ai ["self","one","other"] (Qdl P w C D true))
  (GB:Qt P w K mg base Z7 1 fB ah ["net","link"] (Qgl P w C))(kB:PySem.W.keepIn K (.ref fB)=true)(bB:Binds K ah ["net","link"] [])(mB:mg "pairs_below"=some (.ref fB))(mR:Z9 K D "write" fR)(GR:Qt P w K mg base Z7 1 fR aj ["self","one","other","reason"] (Qfw P w C D))(bR:Binds K aj ["self","one","other","reason"] []):
  Qt P w K mg base Z7 5 f fd ["self","link"] (Qk6 P w C D):=by
 refine F.ok Ql6 (λvs H Q E h=>?_) (λcdv A outer s H vs Q E hr h=>?_)
 ·obtain⟨v,ls,N,lv,a,b,rs,rfl,_⟩:=h
  rfl
 obtain⟨v,ls,N,lv,a,b,rs,rfl,S,⟨c,rv,rfl,hc,R⟩,an,ay,az,aQ,Sl,hS,few,ad,aE,aO,q⟩:=h
 have al:a<v.us.length:=by omega
 have bl:b<v.us.length:=by omega
 have ao:Yc 1 _:=hr.mono (by omega)
 have nd:=Ql6.nd
 refine⟨_,Qd (Ql (i:=2) nd rfl (Or.inl Xb) (Qo Q4 (pv 1) Qj (λ_ _=>rfl)))
  (Qd (Zm (Qs Qxe (pv 2) Ja (Q7 _))
   (Qh (Ql (i:=2) nd rfl (Or.inl Xb) (Za (Qa Zc (Qa
     (Vw (te:=Qib D "line_for" (Qdl P w C D true) [] E0 (V2 2) (Qe2 (V2 0) (Qe2 (V2 1) Qnq))) (g:=Qv1 K 2 (Qhy (V8 0) (Qhy (V8 1) Qv7))) (own:=["part","twin"]) (fv:=[(0,"self")]) rfl (S:=(⟨by rfl,by decide+kernel,by decide+kernel,by decide+kernel⟩:Wc (Qk Vj) _)) (.cons rfl (Or.inl Xb) rfl .nil)
      (Yp (Z6 GB ao rfl mB kB bB .nil Q5 (Qa (Qn (pv 0) rfl) (Qa (pv 1) Qe))))
      (λ_ _ _ _ _=>W9 rfl (Zj (Qr (i:=0) Qxx rfl (Or.inl Xb) (Or.inr Xb)) (Zj (Qr (i:=1) Qxx rfl (Or.inl Xb) (Or.inr Xb)) Xz))) (λ_ _ _ _ _=>Wa)
      (λ_ _ _ _ _=>Q9 (pv 2) T.cl mL GL hr bL .nil Q5 (Qa (pv 0) (Qa (pv 1) Qe)))) Qe))))) Q8)
  (Qh (Zb (Q9 (pv 0) T.cl mR GR ao bR .nil Q5 (Qa (Qo Q4 (pv 1) Qj (λ_ _=>rfl)) (Qa (Qo Q4 (pv 1) Qj (λ_ _=>rfl)) (Qa (pv 2) Qe))))))),?_⟩
 refine⟨_,Xb,c,_,_,_,Xb,Xb,Z4.of hc,Qgt _ _ _ _,?_⟩
 refine⟨_,Xb,Xb,_,Xb,?_⟩
 rw[Qqf R]
 cases rs with
 |some rs=>
  refine Zq ?_
  have S1:Wr P w C D v H (ls++[]) N:=by rw[Db];exact S
  have F1:J2 v.L v.M H H:=J2.refl
  have hc1:=hc
  obtain⟨r,hrv,Zy⟩:∃r:Lr,Qai H v.Ex rv r/\Okl v.fs v.x.links (ls++[]) a b r:=by
   cases rs with
   |told n=>exact⟨.told n,R,an⟩
   |asked=>exact⟨.asked,R,an⟩
  obtain⟨more1,l⟩:∃m:List Ln,m=[]:=⟨_,Xb⟩
  rw[<-l]at S1 Zy
  obtain⟨N1,ab⟩:∃N1:Nat->Nat->Option Nat,N1=N:=⟨_,Xb⟩
  have sub1:Qgd N N1:=by rw[ab];exactλ_ _ h=>h
  have cov1:∀m,Cov v N m->(∀p q,(p,q)∈Xw v.fs (a,b,some rs)->Cn (v.x.links.take m) p q)->Cov v N1 m:=by rw[ab];exactλ_ h _=>h
  rw[<-ab]at S1
  have ml:more1.length<=12100:=by rw[l];exact Ta _
  infer_instance
 |none=>
  refine Y0 ?_
  have X2:=S.net.same S.Og
  obtain⟨dx,o1⟩:=S.ob
  refine⟨_,Xb,v.sh,D,dx,_,_,Xb,o1,T.cl,T.net,Qok _,_,Xb,v.n,v.A,v.fs,v.tb,v.x,.ref c,(a,b,none),Xb,X2,⟨c,rv,Xb,hc,R⟩,ay,az,λL5 es H5 g5 O ak am=>⟨L5,Xb,⟨_,Zd.of ak⟩,λJ d=>?_⟩⟩
  obtain⟨aH,aG⟩:=ad rfl
  have aN:=Gs am
  have aR:(Xw v.fs (a,b,none)).length=(Zi v.fs a).length:=by
   simp only[Xw,EX]
   omega
  have S5:=S.fr g5
  have aw:L5≠v.L:=λz=>by
   obtain⟨vs,l1,_⟩:=S.li
   rw[z,l1]at O;cases O
  have ax:L5≠v.M:=λz=>by
   obtain⟨vs,l1,_⟩:=S.nu
   rw[z,l1]at O;cases O
  have au:J≠v.L:=λz=>by
   obtain⟨vs,l1,_⟩:=S5.li
   rw[z,l1]at d;cases d
  have aM:J≠v.M:=λz=>by
   obtain⟨vs,l1,_⟩:=S5.nu
   rw[z,l1]at d;cases d
  have aL:v.H0 J=none:=S5.Og.free d
  have s5:=Qg d (.lst [])
  obtain⟨aU,aq,_⟩:=S5.li
  obtain⟨aT,ar,_⟩:=S5.nu
  refine Qac (K:=K) (a:=L5) (xs:=es) (small (by omega)) (λi ys σ Z=>∃(x0 x1:Option V)(more:List Ln)(N1:Nat->Nat->Option Nat)(G:List Nat),σ=[x0,x1,some (.ref v.sh)]/\ys=G.map jv/\G.length=i/\Wr P w C D {v with Ex:=λb=>v.Ex b\/b=J} Z (ls++more) N1/\J2 v.L v.M H5 Z/\Qgd N N1/\more.length<=i*121/\(∀m,Cov v N m->(∀p q,(p,q)∈Xw v.fs (a,b,none)->Cn (v.x.links.take m) p q)->Cov v N1 m)/\
    (∀j k u u':Nat,G[j]?=some k->(Xw v.fs (a,b,none))[j]?=some (u,u')->∃r,(ls++more)[k]?=some (u,u',r)))
   ⟨_,_,[],N,[],Xb,Xb,Xb,by rw[Db];exact S5.more d,J2.of s5,λ_ _ h=>h,Ta _,λ_ h _=>h,by simp⟩ (λi ys σ Z _⟨_,_,_,_,_,_,_,_,_,U,_⟩=>Zd.of (U.keep _ _ ak aw ax)) ?_ ?_
  ·rintro i y ys σ Z hi aI ⟨x0,x1,more,N1,G,rfl,rfl,ac,S6,U,Y,aJ,af,aa⟩ ae
   obtain⟨⟨p,p'⟩,hp,c5,rfl,aC⟩:=Qv am hi
   have X:(p,p')∈Xw v.fs (a,b,none):=Gb hp
   have c6:=U.tp ar aq aC
   have il:i<es.length:=(Ge.mp hi).1
   have go:=(aE p p' X).sub Y
   obtain⟨aA,o6⟩:=S6.ob
   refine⟨c5,_,Xb,Z4.of c6,Xb,_,_,Xb,_,_,Xb,Xb,?_⟩
   refine⟨_,Xb,v.sh,aA,_,Xb,o6,Rc v,_,Xb,_,Xb,{v with Ex:=λb=>v.Ex b\/b=J},ls++more,N1,p,p',Xb,S6,Sl p go.aS,Sl p' go.bS,Sl,.inr ⟨Xb,⟨go.inv,go.aS,go.bS,go.eq,go.hS,go.st⟩⟩,by rw[Gp Xb,Gk];omega,λk' B N2 H7 S7 F7 aF av aK ag _ _ _=>?_⟩
   have r7:=F7.keep _ _ ae au aM
   have aP:B.length<=2*v.x.S.length+1:=aK
   refine⟨r7,_,_,more++B,N2,G++[k'],Xb,by rw[Tt];rfl,by rw[Gk,Gv,ac],by rw[<-TH];exact S7.grow (.inr Xb) r7 au aL,⟨λb' o e h1 h2=>Qi (F7.keep _ _ (U.keep _ _ e h1 h2) h1 h2) (Qc e d),λb' h=>U.there _ (F7.there _ (Zx h))⟩,λi j h=>av _ _ (Y _ _ h),by rw[Gk];omega,λm aD hm=>ag m (af m aD hm) (hm p p' X),λj k0 u u' h1 h2=>?_⟩
   rcases TC j G.length with hj|hj
   ·rw[GQ hj]at h1
    obtain⟨r,hr'⟩:=aa j k0 u u' h1 h2
    rw[<-TH]
    exact⟨r,Qpc hr'⟩
   ·rw[To hj]at h1
    have:j=G.length:=by
     rcases TC (j - G.length) 1 with h'|h'
     ·omega
     ·rw[Tz (by simpa using h')]at h1;cases h1
    subst this
    simp at h1
    subst h1
    rw[ac,hp]at h2
    cases h2
    rw[<-TH]
    exact S7.ok _ _ _ aF
  ·rintro ys σ Z aI ⟨x0,x1,more1,N1,G,rfl,rfl,ac,S6,U,sub1,aJ,cov1,aa⟩ ae
   refine⟨by show 2<=sizeLine;decide,λc4 aB=>?_⟩
   have s4:=Qg aB (.tup [.str "like",.ref J])
   have S1:=(S6.less S.exL).fr s4
   have F1:J2 v.L v.M H (upd Z c4 (.tup [.str "like",.ref J])):=(J2.of g5).trans (U.trans (J2.of s4))
   have hc1:=s4 _ _ (U.tp ar aq (g5 _ _ hc))
   generalize ap:V.ref c4=rv
   obtain⟨r,hr'⟩:∃r:Lr,r=.like G:=⟨_,Xb⟩
   have hrv:Qai (upd Z c4 (.tup [.str "like",.ref J])) v.Ex rv r:=by
    rw[hr']
    exact⟨c4,J,ap.symm,Qb,s4 _ _ ae,λz=>by obtain⟨o,e⟩:=S5.exA J z;rw[d]at e;cases e⟩
   have Zy:Okl v.fs v.x.links (ls++more1) a b r:=by
    rw[hr']
    refine⟨aH,aG,by omega,λj k p p' h1 h2 h3=>aa j k p p' h1 ?_⟩
    simp only[Xw]
    rw[EN]
    exact⟨h2,h3⟩
   have ml:more1.length<=12100:=by omega
   infer_instance
end
open PySem L2 Sb Nt
def Qhq(P:Program)(w:World)(C D:Addr):Sp:=λvs H Q _=>∃(sh dx t n:Addr)(A:Na)(fs:List Fm)(tb:Nat)(x:Nn)(us:List V)(H0:Hp),vs=[.ref sh,.ref t,.ref n]/\H sh=some (.ins D dx [])/\H0 sh=none/\Q3 H0 H/\Z1 P w C H0 n A fs tb x/\H0 t=some (.lst us)/\
 ∀(L M:Addr)(H':Hp),Wr P w C D ⟨sh,n,t,L,M,A,fs,tb,x,us,H0,λb=>b=L\/∃o,H0 b=some o⟩ H' [] (λ_ _=>none)->Q .non H'
def Qlr(H:Hp)(X:Addr->Prop)(us:List V)(v:V)(ls:List Ln):Prop:=∃L vs,v=.ref L/\H L=some (.lst vs)/\¬X L/\Paired (Qf9 H X us) vs ls
def Qhf(P:Program)(w:World)(C:Addr):Sp:=λvs H Q _=>∃(t n:Addr)(A:Na)(fs:List Fm)(tb:Nat)(x:Nn)(us:List V)(one a:Nat),vs=[.ref t,.ref n,jv one,jv a]/\Z1 P w C H n A fs tb x/\Xv (Ya fs) (Zi fs) x []/\Qd1 fs x.S/\one∈x.S/\a∈x.S/\x.lead one=x.lead a/\x.S.length<=60/\x.links.length<64/\(∀p,(Zi fs p).length<=100)/\H t=some (.lst us)/\fs.length=us.length/\
 ∀(v:V)(ls:List Ln)(H':Hp),Q3 H H'->Qlr H' (λb=>∃o,H b=some o) us v ls->Gdl fs x.links ls->(∃r,ls.getLast?=some (one,a,r))->Q v H'
abbrev mkv(sh n t L M:Addr)(A:Na)(fs:List Fm)(tb:Nat)(x:Nn)(us:List V)(H0:Hp):Sv:=⟨sh,n,t,L,M,A,fs,tb,x,us,H0,λb=>b=L\/∃o,H0 b=some o⟩
theorem Qfl{fs:List Fm}{x:Nn}(I:Xv (Ya fs) (Zi fs) x []){a b:Nat}{st:List (Nat×Nat)}(h:Ov x.up a b st){p q:Nat}(g:(p,q)∈st):∃k,x.Y1 p q=some k/\∀n,Cn (x.links.take n) a b->k<n:=by
 obtain⟨l1,l2,P,Q,s,m,c,d,e,f,ne,rfl⟩:=h
 exact I.fst.way c d e f ne p q g
section
variable{P:Program}{w:World}{K:Gc}{mg:Str->Option Value}{base:Heap}
theorem Qrv:Qx ["self","things","net"] ["self","things","net"] (Qk Qa7):=⟨Xb,Xb,Xb,by decide+kernel,Xb,by decide+kernel,by decide+kernel⟩
theorem Qni{u C D:Addr}{fd:FuncData}(F:W5 K "__init__" "Showing.__init__" Qa7 u fd)(T:Qmv K D):Qt P w K mg base Z7 1 u fd ["self","things","net"] (Qhq P w C D):=by
 refine F.ok Qrv (λvs H Q E h=>?_) (λcdv A outer s H vs Q E I h=>?_)
 ·obtain⟨sh,dx,t,n,A,fs,tb,x,us,H0,rfl,_⟩:=h
  rfl
 obtain⟨sh,dx,t,n,A,fs,tb,x,us,H0,rfl,g,v,d,X,G,q⟩:=h
 refine⟨_,Qd (Y9 (pv 0) (pv 1) rfl) (Qd (Y9 (pv 0) (pv 2) rfl) (Qd (Y9 (pv 0) (Zt Qe) rfl) (Qh (Y9 (pv 0) Qce Xb)))),?_⟩
 refine⟨_,Xb,_,Xb,sh,D,dx,[],Xb,g,T.cl,T.things,by show 0<1000;decide,?_⟩
 refine⟨_,Xb,_,Xb,sh,D,dx,_,Xb,Qb,T.cl,T.net,by show 1<1000;decide,Ta _,λL y=>?_⟩
 rw[U1]at y⊢
 have a:H L=none:=Zx y
 have l:L≠sh:=Gq (Qc g a)
 refine⟨_,Xb,sh,D,dx,_,Xb,Qi Qb (Gq l),T.cl,T.lines,by show 2<1000;decide,λM B=>?_⟩
 have f:=Zx B
 have m:=Zx f
 have c:H M=none:=Zx m
 have r:M≠sh:=Gq (Qc g c)
 have p:L≠M:=λz=>by rw[<-z,Qb]at f;cases f
 refine⟨_,Xb,sh,D,dx,_,Xb,Qi Qb (Gq r),T.cl,T.U4,by show 3<1000;decide,?_⟩
 refine q L M _ ⟨⟨dx,Qb⟩,λb o e=>?_,d.free a,d.free c,X,G,⟨[],?_,.nil⟩,⟨[],?_,Ta _,λi j=>rfl⟩,(λi j k h=>nomatch h),Gdl.nil,.inl Xb,λb hb=>?_⟩
 ·have bs:b≠sh:=Qc e v
  exact Qi (Qi (Qi (Qi (Qi (d _ _ e) bs) (Qc (d _ _ e) a)) bs) (Qc (d _ _ e) c)) bs
 ·exact Qi (Qi (Qi Qb l) p) l
 ·exact Qi Qb r
 ·have hb:b=L\/∃o,H0 b=some o:=hb
  rcases hb with hb|⟨o,e⟩
  ·rw[hb]
   exact⟨_,Qi (Qi (Qi Qb l) p) l⟩
  ·have bs:b≠sh:=Qc e v
   exact⟨o,Qi (Qi (Qi (Qi (Qi (d _ _ e) bs) (Qc (d _ _ e) a)) bs) (Qc (d _ _ e) c)) bs⟩
theorem Qg2:Qx ["things","net","one","other","showing","number"] ["things","net","one","other"] (Qk Qgj):=⟨Xb,Xb,Xb,by decide+kernel,Xb,by decide+kernel,by decide+kernel⟩
theorem Qmw{f fI fN fL fW C D:Addr}{fd ao aq ap ar:FuncData}(F:W5 K "lines_between" "lines_between" Qgj f fd)(T:Qmv K D)(TN:Vt K mg C)(mD:mg "Showing"=some (.ref D))(aF:Mk K D fI)(GI:Qt P w K mg base Z7 1 fI ao ["self","things","net"] (Qhq P w C D))(bI:Binds K ao ["self","things","net"] [])
  (GN:Qt P w K mg base Z7 3 fN aq ["net","one","other"] (Qgs P w C))(kN:PySem.W.keepIn K (.ref fN)=true)(bN:Binds K aq ["net","one","other"] [])(mN:mg "links_needed"=some (.ref fN))
  (mL:Z9 K D "line_for" fL)(bL:Binds K ap ["self","one","other"] [])(GL:Qt P w K mg base Z7 4 fL ap ["self","one","other"] (Qdl P w C D true))(mW:Z9 K D "write_link" fW)(bW:Binds K ar ["self","link"] [])(GW:Qt P w K mg base Z7 5 fW ar ["self","link"] (Qk6 P w C D)):
  Qt P w K mg base Z7 6 f fd ["things","net","one","other"] (Qhf P w C):=by
 refine F.ok Qg2 (λvs H Q E h=>?_) (λcdv A outer s H vs Q E hr h=>?_)
 ·obtain⟨t,n,A,fs,tb,x,us,one,d,rfl,_⟩:=h
  rfl
 obtain⟨t,n,A,fs,tb,x,us,one,d,rfl,X,I,FO,oS,tS,he,hS,aw,few,ht,af,q⟩:=h
 have aM:Yc 2 _:=hr.mono (by omega)
 have aN:Yc 3 _:=hr.mono (by omega)
 have aO:Yc 4 _:=hr.mono (by omega)
 have nd:=Qg2.nd
 refine⟨_,Qd (Ql (i:=4) nd rfl (Or.inl Xb) (Qlp aF GI aM rfl mD bI .nil Q5 (Qa (pv 0) (Qa (pv 1) Qe))))
  (Qd (Ye GX rfl (Yp (Z6 GN aN rfl mN kN bN .nil Q5 (Qa (pv 1) (Qa (pv 2) (Qa (pv 3) Qe))))) (Qr (i:=5) nd rfl (Or.inl Xb))
   (Qh (Zb (Q9 (pv 4) T.cl mW GW hr bW .nil Q5 (Qa (Qo Zh (Qn (pv 1) rfl) (pv 5) (λ_ _=>rfl)) Qe)))))
  (Qd (Zb (Q9 (pv 4) T.cl mL GL aO bL .nil Q5 (Qa (pv 2) (Qa (pv 3) Qe))))
  (Qh (Qy (Qn (pv 4) rfl))))),?_⟩
 refine⟨_,Xb,_,Xb,λsh dx az aK a0=>?_⟩
 have s0:Q3 H (upd (upd H dx (.own sh)) sh (.ins D dx [])):=λc o e=>by
  rw[Qf (Qc e az),Qf (Qc e aK)]
  exact e
 refine⟨sh,dx,t,n,A,fs,tb,x,us,H,Xb,Qb,az,s0,X,ht,λL M H1 S1=>⟨Xb,?_⟩⟩
 have X1:=X.same S1.Og
 obtain⟨aB,ay,aC⟩:=X.li
 obtain⟨aI,on⟩:=X.ob
 refine⟨_,Xb,_,Xb,_,Xb,n,A,fs,tb,x,one,d,Xb,X1,I,FO,oS,tS,he,by omega,aw,λL2 ns H2 g2 ab au ak aU Dn=>⟨L2,Xb,⟨_,Zd.of au⟩,?_⟩⟩
 have S2:=S1.fr g2
 have S2:Wr P w C D (mkv sh n t L M A fs tb x us H) H2 [] (λ_ _=>none):=S2
 have aD:L2≠L:=λz=>by
  obtain⟨vs,l1,_⟩:=S1.li
  rw[z,l1]at ab;cases ab
 have aE:L2≠M:=λz=>by
  obtain⟨vs,l1,_⟩:=S1.nu
  rw[z,l1]at ab;cases ab
 have al:∀{j i k J:Nat},j<i->ns[j]?=some k->ns[i]?=some J->k<J:=λ{j i k J}ac h1 h2=>by
  obtain⟨a1,b1⟩:=Ge.mp h1
  obtain⟨a2,b2⟩:=Ge.mp h2
  have le:=La.mp aU j i a1 a2 ac
  have ne:=La.mp ak j i a1 a2 ac
  rw[b1,b2]at le ne
  omega
 have an:∀{N:Nat->Nat->Option Nat}{i:Nat},(∀j k a b r,j<i->ns[j]?=some k->x.links[k]?=some (a,b,r)->(N a b).isSome=true)->∀{u u' j k:Nat},j<i->ns[j]?=some k->x.Y1 u u'=some k->Dr N u u':=λ{N i}h{u u' j k}B hk hl=>by
  obtain⟨r,h1|h1⟩:=I.fst.Qgm u u' k hl
  ·exact .inl (h j k u u' r B hk h1)
  ·exact .inr (h j k u' u r B hk h1)
 have aW:=Gs aC
 refine Y2 (K:=K) (a:=L2) (xs:=ns.map jv) (λi σ H3=>∃(x5:Option V)(ls:List Ln)(N:Nat->Nat->Option Nat),σ=[some (.ref t),some (.ref n),some (jv one),some (jv d),some (.ref sh),x5]/\Wr P w C D (mkv sh n t L M A fs tb x us H) H3 ls N/\J2 L M H2 H3/\ls.length<=i*12101/\
   (∀j k a b r,j<i->ns[j]?=some k->x.links[k]?=some (a,b,r)->(N a b).isSome=true)/\(∀m,(∀j k,j<i->ns[j]?=some k->k<m)->Cov (mkv sh n t L M A fs tb x us H) N m)/\((N one d).isSome=true->∃r,ls.getLast?=some (one,d,r)))
  ⟨_,[],_,Xb,S2,J2.refl,Ta _,(λj k a b r h=>by omega),(λm _ i j h=>by cases h),(λh=>by cases h)⟩ (λi σ H3 _⟨_,_,_,_,_,F3,_⟩=>Zd.of (F3.keep _ _ au aD aE)) ?_ ?_
 ·rintro i y σ H3 hi ⟨x5,ls,N,rfl,S3,F3,ax,aa,R,U⟩
  rw[GY]at hi
  cases eq:ns[i]? with
  |none=>rw[eq]at hi;cases hi
  |some k=>
   rw[eq]at hi
   cases hi
   have ai:k∈ns:=Gb eq
   have kl:=Dn.lt k ai
   have kw:k<aB.length:=by omega
   have aX:i<ns.length:=(Ge.mp eq).1
   have aL:ns.length<=64:=by
    have:ns.length<=(List.range x.links.length).length:=Xf ak λk hk=>DY.mpr (Dn.lt k hk)
    rw[DR]at this
    omega
   obtain⟨⟨a,b,rs⟩,l,aA⟩:=Qv aC (Gg kw)
   obtain⟨aS,bS,Y⟩:=I.lnk k a b rs l
   have aT:=S3.Og _ _ on
   have aP:=S3.Og _ _ ay
   obtain⟨ae,o3⟩:=S3.ob
   have aV:Qu H H3:=Qu.of S3.Og
   have aJ:∀p q,(p,q)∈Xw fs (a,b,rs)->Go (mkv sh n t L M A fs tb x us H) N p q:=λp q v=>by
    obtain⟨pS,qS,cn⟩:=Qlh I l v
    refine⟨I,pS,qS,(I.conn p pS q qS).mpr (cn.mono λz hz=>Dp hz),by show x.S.length<=1000;omega,λst G u u' Z=>?_⟩
    obtain⟨J,g,_⟩:=Qfl I G Z
    obtain⟨d1,d2⟩:=Dn.low k ai _ l p q v st G u u' Z J g
    obtain⟨j,B⟩:=TL.mp d1
    have ac:j<i:=by
     rcases Nat.lt_trichotomy j i with h|h|h
     ·exact h
     ·subst h;rw[eq]at B;cases B;omega
     ·have:=al h eq B;omega
    exact an aa ac B g
   refine⟨_,Xb,sh,ae,_,Xb,o3,Qgi _,_,Xb,n,C,aI,_,_,Xb,aT,TN.cl,TN.links,Uk _,_,Xb,A.k,aB,_,_,Xb,Xb,Zd.of aP,Qz (Gg kw),mkv sh n t L M A fs tb x us H,ls,N,_,a,b,rs,Xb,S3,aA.Qm aV,Gb l,FO.lt a aS,FO.lt b bS,af,λp hp=>by show p<us.length;rw[<-af];exact FO.lt p hp,hS,few a,λz=>⟨(Y z).1,(Y z).2.1⟩,aJ,by omega,λmore N1 r H4 S4 F4 ad aQ O=>?_⟩
   have aG:∀m,k<m->∀p q,(p,q)∈Xw fs (a,b,rs)->Cn (x.links.take m) p q:=λm hm p q v=>by
    obtain⟨pS,qS,cn⟩:=Qlh I l v
    refine cn.mono λz hz=>?_
    have:x.links.take k=(x.links.take m).take k:=by rw[SU,Sy (by omega)]
    rw[this]at hz
    exact Dp hz
   have am:Cov (mkv sh n t L M A fs tb x us H) N1 k:=O k (R k λj J B g=>al B g eq) λp q v=>(Qlh I l v).2.2
   refine⟨_,ls++more++[(a,b,r)],_,Xb,S4,F3.trans F4,by rw[Gk,Gk,Gv];omega,λj J a' b' r' B ag ah=>?_,λm hm=>?_,λh=>?_⟩
   ·rcases TC j i with h|h
    ·exact Qk8 _ _ (ad _ _ (aa j J a' b' r' h ag ah))
    ·have:j=i:=by omega
     subst this
     rw[eq]at ag
     cases ag
     rw[l]at ah
     cases ah
     rw[Qjc]
     rfl
   ·have km:=hm i k (by omega) eq
    exact Qk2 (O m (R m λj J B g=>hm j J (by omega) g) (aG m km)) (.link (Gb (i:=k) (by rw[DB km];exact l)))
   ·by_cases av:one=a/\d=b
    ·obtain⟨rfl,rfl⟩:=av
     exact⟨r,El⟩
    ·unfold putN at h
     rw[Gj av]at h
     have cn:=am _ _ h
     obtain⟨st,p,q',j,G,v,B,aZ⟩:=Dn.only k ai
     obtain⟨J,g,hb⟩:=Qfl I G v
     rw[B]at g
     cases g
     have:=hb k cn
     omega
 ·rintro σ H3 ⟨x5,ls,N,rfl,S3,F3,ax,aa,R,U⟩
  rw[Gn]at ax aa
  have aL:ns.length<=64:=by
   have:ns.length<=(List.range x.links.length).length:=Xf ak λk hk=>DY.mpr (Dn.lt k hk)
   rw[DR]at this
   omega
  obtain⟨ae,o3⟩:=S3.ob
  have go:Go (mkv sh n t L M A fs tb x us H) N one d:=by
   refine⟨I,oS,tS,he,by show x.S.length<=1000;omega,λst G u u' Z=>?_⟩
   obtain⟨J,g,_⟩:=Qfl I G Z
   obtain⟨j,B⟩:=TL.mp (Dn.top st G u u' Z J g)
   exact an aa (Ge.mp B).1 B g
  have Sl:∀p∈x.S,p<us.length:=λp hp=>by rw[<-af];exact FO.lt p hp
  refine⟨_,Xb,sh,ae,_,Xb,o3,Rc _,_,Xb,_,Xb,mkv sh n t L M A fs tb x us H,ls,N,one,d,Xb,S3,Sl one oS,Sl d tS,Sl,.inr ⟨Xb,go⟩,by rw[Gp rfl];omega,λk more N4 H4 S4 F4 aY ad aQ O aj _ aR=>?_⟩
  obtain⟨aH,o4⟩:=S4.ob
  obtain⟨vs,l1,l2⟩:=S4.li
  refine⟨_,Xb,sh,D,aH,_,_,Xb,o4,T.cl,T.lines,Qdm _,q (.ref L) (ls++more) H4 S4.Og ⟨L,vs,Xb,l1,(λ⟨o,e⟩=>by have:=S4.L0;dsimp only[mkv]at this;rw[this]at e;cases e),_root_.L2.Paired.Z8 l2 λ_ _ h=>h.ex λc ys _ hx z=>hx (.inr z)⟩ S4.good ?_⟩
  cases hN:N one d with
  |none=>exact aj hN
  |some k0=>
   rw[aR (by rw[hN];exactλz=>nomatch z),Db]
   exact U (by rw[hN];rfl)
end
open PySem L2 Sb Nt
def tfs(ts:List Th):List Fm:=ts.map (fm ts)
def tg(ts:List Th)(p:Nat):Th:=ts.getD p (.mk Str.empty [])
theorem Vy{ts:List Th}{p:Nat}{t:Th}(h:ts[p]?=some t):tg ts p=t:=by
 unfold tg
 rw[DI,h]
 rfl
theorem Rj{ts:List Th}{t:Th}(h:t∈ts):tg ts (ts.idxOf t)=t:=Vy (Ic h)
theorem X8{ts:List Th}{p:Nat}(h:p<ts.length):ts[p]?=some (tg ts p):=by
 rw[Gg h,Vy (Gg h)]
theorem Wd{ts:List Th}{p:Nat}{t:Th}(h:ts[p]?=some t):Ya (tfs ts) p=t.word/\Zi (tfs ts) p=t.parts.map λq=>ts.idxOf q:=by
 unfold Ya Zi tfs
 rw[DI,GY,h]
 exact⟨Xb,Xb⟩
theorem Wu(ts:List Th):(tfs ts).length=ts.length:=by simp[tfs]
structure Eqs(fs:List Fm)(x:Nn)(sm:List (Nat×Nat)):Prop where
 ins:∀p q,(p,q)∈sm->p∈x.S/\q∈x.S
 eq:∀p q,(p,q)∈sm->x.lead p=x.lead q
 snd:∀E,Ec (Ya fs) (Zi fs) x.S E->(∀p q,(p,q)∈sm->E p q)->∀p∈x.S,∀q∈x.S,x.lead p=x.lead q->E p q
def Qdg(a:List En):List (Nat×Nat):=a.filterMap λ(e:En)=>if e.1=("same":Str)then some e.2 else none
theorem Vn{c:List En}{p q:Nat}:(p,q)∈Qdg c↔sme p q∈c:=by
 unfold Qdg
 rw[SK]
 constructor
 ·rintro⟨⟨k,a,b⟩,h,e⟩
  split at e
  ·rename_i d
   have d:k=("same":Str):=d
   cases e
   subst d
   exact h
  ·cases e
 ·exactλh=>⟨_,h,Gp Xb⟩
theorem Qmg{fs:List Fm}{x:Nn}{a:List En}(U:Tup fs x a a.length):Eqs fs x (Qdg a):=by
 refine⟨λp q h=>U.ins _ (Vn.mp h),λp q h=>?_,λE X h=>U.snd E X λj p q _ b=>h p q (Vn.mpr (Gb b))⟩
 obtain⟨j,b⟩:=TL.mp (Vn.mp h)
 exact U.eq j p q (Ge.mp b).1 b
theorem Qtz{fs:List Fm}{x d:Nn}{c:List (Nat×Nat)}{a b:Nat}{r:Option Uu}(Q:Eqs fs x c)(M:Mgd fs x d a b r [])(aS:a∈x.S)(bS:b∈x.S):Eqs fs d (c++[(a,b)]):=by
 have e:=M.S
 refine⟨λp q h=>?_,λp q h=>?_,λE X h=>?_⟩
 ·rw[e]
  rcases Gd.mp h with h|h
  ·exact Q.ins p q h
  ·simp at h
   rw[h.1,h.2]
   exact⟨aS,bS⟩
 ·rcases Gd.mp h with h|h
  ·obtain⟨i,j⟩:=Q.ins p q h
   exact M.mono p i q j (Q.eq p q h)
  ·simp at h
   rw[h.1,h.2]
   exact M.eq.nil
 ·rw[e]at X
  have f:=Q.snd E X λp q g=>h p q (Gi _ g)
  exact(M.snd E X ⟨f,λu v s m=>by
   simp at m
   rw[m.1,m.2.1]
   exact h a b (by simp)⟩).1
theorem Eqs.cg{ts:List Th}(nd:ts.Nodup)(cl:Vi ts){x:Nn}{y:List (Nat×Nat)}(I:Xv (Ya (tfs ts)) (Zi (tfs ts)) x [])(C:Qd1 (tfs ts) x.S)(Q:Eqs (tfs ts) x y){tl:Tl}
  (h1:∀a b,(true,a,b)∈tl->∃p q,(p,q)∈y/\ts[p]?=some a/\ts[q]?=some b)(h2:∀p q,(p,q)∈y->(true,tg ts p,tg ts q)∈tl){p q:Nat}(d:p∈x.S)(f:q∈x.S):x.lead p=x.lead q↔Cg tl (tg ts p) (tg ts q):=by
 have lt:∀p∈x.S,p<ts.length:=λp d=>by have:=C.lt p d;rwa[Wu]at this
 have at_:∀p∈x.S,ts[p]?=some (tg ts p):=λp d=>X8 (lt p d)
 have mem:∀p∈x.S,tg ts p∈ts:=λp d=>Gb (at_ p d)
 have m:∀p∈x.S,ts.idxOf (tg ts p)=p:=λp d=>Rf nd (at_ p d)
 constructor
 ·refineλh=>Q.snd (λp q=>Cg tl (tg ts p) (tg ts q)) ⟨λ_=>.refl _,λ_ _ h=>.symm h,λ_ _ _ h k=>.trans h k,λp d q f hw g=>?_⟩ (λp q h=>.told (h2 p q h)) p d q f h
  obtain⟨A,l⟩:=Wd (at_ p d)
  obtain⟨B,z⟩:=Wd (at_ q f)
  rw[A,B]at hw
  rw[l,z]at g
  have K:=mem p d
  have L:=mem q f
  generalize tg ts p=a at*
  generalize tg ts q=b at*
  cases a with
  |mk u ps=>
   cases b with
   |mk v O=>
    simp only[Th.word,Th.parts]at hw g
    subst hw
    have p1:=Xl cl K
    have p2:=Xl cl L
    simp only[Th.parts]at p1 p2
    obtain⟨G,g⟩:=g
    rw[Gn,Gn]at G
    refine .cong (CgL.of G λi s t J j=>?_)
    have:=g i (ts.idxOf s) (ts.idxOf t) (by rw[GY,J];rfl) (by rw[GY,j];rfl)
    dsimp only at this
    rwa[Rj (p1 s (Gb J)),Rj (p2 t (Gb j))]at this
 ·intro c
  have T:Ip tl (x.S.map (tg ts)) (λt=>((x.lead (ts.idxOf t):Nat):Int)):=by
   refine⟨λw ps h q f=>?_,λa b h=>?_,λw ps O n r e=>?_⟩
   ·obtain⟨p,d,e⟩:=Ti.mp h
    have o:=Xl cl (mem p d) q (by rw[e];exact f)
    obtain⟨_,l⟩:=Wd (at_ p d)
    have:ts.idxOf q∈Zi (tfs ts) p:=by rw[l,e];exact Ti.mpr ⟨q,f,Xb⟩
    exact Ti.mpr ⟨_,C.pts p d _ this,Rj o⟩
   ·obtain⟨p,q,H,ea,F⟩:=h1 a b h
    obtain⟨M,N⟩:=Q.ins p q H
    refine⟨Ti.mpr ⟨p,M,Vy ea⟩,Ti.mpr ⟨q,N,Vy F⟩,?_⟩
    rw[Rf nd ea,Rf nd F,Q.eq p q H]
   ·obtain⟨p,d,D⟩:=Ti.mp n
    obtain⟨q,f,E⟩:=Ti.mp r
    obtain⟨A,l⟩:=Wd (at_ p d)
    obtain⟨B,z⟩:=Wd (at_ q f)
    have:=I.cong d f (by
     simp only[Zg,Ds]
     rw[A,B,l,z,D,E]
     refine⟨Xb,?_⟩
     simp only[Th.parts,TJ]
     have:=congrArg (List.map Int.toNat) e
     simp only[TJ]at this
     exact this)
    rw[<-D,<-E,m p d,m q f,this]
  have:=T.complete (Ti.mpr ⟨p,d,Xb⟩) (Ti.mpr ⟨q,f,Xb⟩) c
  simp only[m p d,m q f]at this
  omega
abbrev Lt:=Th×Th×Lr
def Cht(pre:List Lt):Th->List Nat->Th->Prop
 |p,[],q=>p=q
 |p,k::a,q=>∃m r,pre[k]?=some (p,m,r)/\Cht pre m a q
def Okt(tl:Tl)(d:Option (Th×Th))(pre:List Lt)(a b:Th):Lr->Prop
 |.told n=>tl[n]?=some (true,a,b)
 |.asked=>d=some (a,b)
 |.turn k=>∃r,pre[k]?=some (b,a,r)
 |.chain c=>Cht pre a c b
 |.like c=>a.word=b.word/\a.parts.length=b.parts.length/\c.length=a.parts.length/\∀(j k:Nat)(p q:Th),c[j]?=some k->a.parts[j]?=some p->b.parts[j]?=some q->∃r,pre[k]?=some (p,q,r)
def Gdt(tl:Tl)(c:Option (Th×Th))(ls:List Lt):Prop:=∀(i:Nat)a b r,ls[i]?=some (a,b,r)->Okt tl c (ls.take i) a b r
def lth(ts:List Th)(l:Ln):Lt:=(tg ts l.1,tg ts l.2.1,l.2.2)
theorem Qfy{ts:List Th}{pre:List Ln}{k p q:Nat}{r:Lr}(h:pre[k]?=some (p,q,r)):(pre.map (lth ts))[k]?=some (tg ts p,tg ts q,r):=by
 rw[GY,h]
 rfl
theorem Qov{ts:List Th}{pre:List Ln}:∀{a:List Nat}{p q:Nat},Chn pre p a q->Cht (pre.map (lth ts)) (tg ts p) a (tg ts q)
 |[],p,q,h=>by
  have:p=q:=h
  rw[this]
  rfl
 |k::a,p,q,⟨m,r,h1,h2⟩=>⟨tg ts m,r,Qfy h1,Qov h2⟩
theorem Qj3{ts:List Th}(cl:Vi ts){lks:List Lk}{ls:List Ln}{tl:Tl}{w:Option (Th×Th)}(g:Gdl (tfs ts) lks ls)(lt:∀l∈ls,l.1<ts.length/\l.2.1<ts.length)
  (B:∀a b n,(a,b,some (.told n))∈lks->tl[n]?=some (true,tg ts a,tg ts b))(z:∀a b,(a,b,some .asked)∈lks->w=some (tg ts a,tg ts b)):Gdt tl w (ls.map (lth ts)):=by
 intro i a b r hi
 rw[GY]at hi
 cases e:ls[i]? with
 |none=>rw[e]at hi;cases hi
 |some l=>
  rw[e]at hi
  obtain⟨p,q,G⟩:=l
  cases hi
  dsimp only
  generalize G=r at*
  have ok:=g i p q r e
  obtain⟨lp,t⟩:=lt _ (Gb e)
  rw[<-Ls]
  cases r with
  |told n=>exact B p q n ok
  |asked=>exact z p q ok
  |turn k=>obtain⟨d,h⟩:=ok;exact⟨d,Qfy h⟩
  |chain D=>exact Qov ok
  |like D=>
   obtain⟨h1,h2,m,y⟩:=ok
   obtain⟨H,f⟩:=Wd (X8 lp)
   obtain⟨I,x⟩:=Wd (X8 t)
   have E:tg ts p∈ts:=Gb (X8 lp)
   have F:tg ts q∈ts:=Gb (X8 t)
   rw[f,x,Gn,Gn]at h2
   rw[f,Gn]at m
   refine⟨by rw[<-H,<-I];exact h1,h2,m,λj k u v A o s=>?_⟩
   have C:=y j k (ts.idxOf u) (ts.idxOf v) A (by rw[f,GY,o];rfl) (by rw[x,GY,s];rfl)
   obtain⟨d,c⟩:=C
   have:=Qfy (ts:=ts) c
   rw[Rj (Xl cl E u (Gb o)),Rj (Xl cl F v (Gb s))]at this
   exact⟨d,this⟩
def Qxy(H:Hp)(X:Addr->Prop)(v:V)(l:Lt):Prop:=∃c a b rv,v=.ref c/\H c=some (.tup [a,b,rv])/\Yl H a l.1/\Yl H b l.2.1/\Qai H X rv l.2.2
def Wi(H:Hp)(X:Addr->Prop)(v:V)(ls:List Lt):Prop:=∃L vs,v=.ref L/\H L=some (.lst vs)/\¬X L/\Paired (Qxy H X) vs ls
theorem Wi.kp{X:Addr->Prop}{H H':Hp}(a:Qu H H')(lp:∀{c:Addr}{ys:List V},H c=some (.lst ys)->¬X c->H' c=some (.lst ys)){v:V}{ls:List Lt}(h:Wi H X v ls):Wi H' X v ls:=by
 obtain⟨L,vs,h1,h2,b,d⟩:=h
 exact⟨L,vs,h1,lp h2 b,b,L2.Paired.Z8 d λ_ _⟨c,l,m,rv,f,g,i,j,k⟩=>⟨c,l,m,rv,f,a _ _ g,i.Qm a,j.Qm a,k.kp (λe=>a _ _ e) lp⟩⟩
theorem Wi.ex{X Y:Addr->Prop}{H:Hp}(a:∀c ys,H c=some (.lst ys)->¬X c->¬Y c){v:V}{ls:List Lt}(h:Wi H X v ls):Wi H Y v ls:=by
 obtain⟨L,vs,h1,h2,b,d⟩:=h
 exact⟨L,vs,h1,h2,a _ _ h2 b,L2.Paired.Z8 d λ_ _⟨c,k,l,rv,e,f,g,i,j⟩=>⟨c,k,l,rv,e,f,g,i,j.ex a⟩⟩
theorem Qpd{H:Hp}{X:Addr->Prop}{us:List V}{ts:List Th}{v:V}{ls:List Ln}(d:Zn H us ts)(h:Qlr H X us v ls):Wi H X v (ls.map (lth ts))/\∀l∈ls,l.1<ts.length/\l.2.1<ts.length:=by
 obtain⟨L,vs,h1,h2,o,g⟩:=h
 have a:=d.length
 have key:∀{vs:List V}{ls:List Ln},Paired (Qf9 H X us) vs ls->Paired (Qxy H X) vs (ls.map (lth ts))/\∀l∈ls,l.1<ts.length/\l.2.1<ts.length:=by
  intro vs ls h
  induction h with
  |nil=>exact⟨.nil,λl m=>nomatch m⟩
  |@cons v l vs ls n t i=>
   obtain⟨c,u,w,rv,p,q,j,k,r⟩:=n
   have l1:l.1<ts.length:=by rw[<-a];exact(Ge.mp j).1
   have l2:l.2.1<ts.length:=by rw[<-a];exact(Ge.mp k).1
   obtain⟨x,e,i1⟩:=d.at (X8 l1)
   obtain⟨y,f,i2⟩:=d.at (X8 l2)
   rw[j]at e
   rw[k]at f
   cases e
   cases f
   refine⟨.cons ⟨c,u,w,rv,p,q,i1,i2,r⟩ i.1,λs b=>?_⟩
   rcases Gu.mp b with rfl|b
   ·exact⟨l1,l2⟩
   ·exact i.2 s b
 exact⟨⟨L,vs,h1,h2,o,(key g).1⟩,(key g).2⟩
structure Wth(tl:Tl)(S:List Th)(rs:List Row):Prop where
 ex:∃L:Th->Nat,(∀s∈S,∀t∈S,L s=L t↔Cg tl s t)/\(∀t∈S,(t.word,t.parts.map L,L t)∈rs)/\∀r∈rs,∃t∈S,r=(t.word,t.parts.map L,L t)
 cl:∀t∈S,∀p∈t.parts,p∈S
 nd:(rs.map λr=>(r.1,r.2.1)).Nodup
theorem Qph{ts:List Th}(nd:ts.Nodup)(cl:Vi ts){x:Nn}{k:List Row}{tl:Tl}(j:Qd1 (tfs ts) x.S)(W:Wok (tfs ts) x k)(h:∀p∈x.S,∀q∈x.S,x.lead p=x.lead q↔Cg tl (tg ts p) (tg ts q)):Wth tl (x.S.map (tg ts)) k:=by
 have lt:∀p∈x.S,p<ts.length:=λp a=>by have:=j.lt p a;rwa[Wu]at this
 have at_:∀p∈x.S,ts[p]?=some (tg ts p):=λp a=>X8 (lt p a)
 have mem:∀p∈x.S,tg ts p∈ts:=λp a=>Gb (at_ p a)
 have g:∀p∈x.S,ts.idxOf (tg ts p)=p:=λp a=>Rf nd (at_ p a)
 obtain⟨N,n1,n2,n3⟩:=W.ex
 have d:∀p∈x.S,Wy (tfs ts) x N p=((tg ts p).word,(tg ts p).parts.map (λt=>N (x.lead (ts.idxOf t))),N (x.lead (ts.idxOf (tg ts p)))):=λp a=>by
  obtain⟨n,i⟩:=Wd (at_ p a)
  unfold Wy
  rw[n,i,TJ,g p a]
  rfl
 refine⟨⟨λt=>N (x.lead (ts.idxOf t)),λs m t c=>?_,λt c=>?_,λr l=>?_⟩,λt c q b=>?_,W.nd⟩
 ·obtain⟨p,a,rfl⟩:=Ti.mp m
  obtain⟨q,b,rfl⟩:=Ti.mp c
  dsimp only
  rw[g p a,g q b,<-h p a q b]
  exact⟨n1 p a q b,λe=>by rw[e]⟩
 ·obtain⟨p,a,rfl⟩:=Ti.mp c
  rw[<-d p a]
  exact n2 p a
 ·obtain⟨p,a,rfl⟩:=n3 r l
  exact⟨_,Ti.mpr ⟨p,a,Xb⟩,d p a⟩
 ·obtain⟨p,a,rfl⟩:=Ti.mp c
  have f:=Xl cl (mem p a) q b
  obtain⟨_,i⟩:=Wd (at_ p a)
  have:ts.idxOf q∈Zi (tfs ts) p:=by rw[i];exact Ti.mpr ⟨q,b,Xb⟩
  exact Ti.mpr ⟨_,j.pts p a _ this,Rj f⟩
open PySem L2 Sb Nt
def Wh(p t e:Addr):List (Str×V):=[("places",.ref p),("told",.ref t),("entries",.ref e)]
theorem Ut(p t e:Addr):(Wh p t e).lookup ("places":Str)=some (.ref p):=by rfl
theorem Qbh(p t e:Addr):(Wh p t e).lookup ("told":Str)=some (.ref t):=by rfl
theorem Vo(p t e:Addr):(Wh p t e).lookup ("entries":Str)=some (.ref e):=by rfl
theorem Qd9(p t e:Addr):(Wh p t e).lookup ("answer":Str)=none:=by rfl
theorem Qnu(p t e:Addr):(Wh p t e).lookup ("go_back":Str)=none:=by rfl
theorem Qud(p t e:Addr):(Wh p t e).lookup ("tell":Str)=none:=by rfl
theorem Qvv(p t e:Addr):(Wh p t e).lookup ("ask":Str)=none:=by rfl
theorem Jo(p t e:Addr):(Wh p t e).lookup ("lines_for":Str)=none:=by rfl
theorem Qm1(a f d:Addr):(Il a f d).lookup ("things":Str)=some (.ref a):=by rfl
theorem Qh9(a f d:Addr):(Il a f d).lookup ("forms":Str)=some (.ref f):=by rfl
theorem Qb1(a f d:Addr):(Il a f d).lookup ("place_of":Str)=none:=by rfl
theorem Qm3(p t e t':Addr):Yn "told" (.ref t') (Wh p t e)=Wh p t' e:=by rfl
theorem Of(p t e a:Addr):Yn "entries" (.ref a) (Wh p t e)=Wh p t a:=by rfl
def Qdx(ts:List Th):List En->Tl->Prop:=Paired λ(e:En)(p:Bool×Th×Th)=>e.1=tw p.1/\ts[e.2.1]?=some p.2.1/\ts[e.2.2]?=some p.2.2
structure W8(P:Program)(w:World)(CP CB:Addr)(H:Hp)(bk p a f d t e:Addr)(ts:List Th)(tl:Tl):Prop where
 ob:∃dx,H bk=some (.ins CB dx (Wh p t e))
 pl:Pl P w CP H p a f d ts
 to:∃vs,H t=some (.lst vs)/\Ub H vs tl
 en:∃es ens,H e=some (.lst es)/\Paired (Qb7 H) es ens/\Qdx ts ens tl
 ta:t≠a
 tf:t≠f
 te:t≠e
 ea:e≠a
 ef:e≠f
structure Few(U ts:List Th)(tl:Tl):Prop where
 sub:∀t∈ts,t∈U
 cl:Vi U
 good:∀t∈U,t.good
 len:U.length<=60
 tl:tl.length<=900
theorem Qpn{l S:List Th}(nd:l.Nodup)(h:∀p∈l,p∈S):l.length<=S.length:=by
 induction l generalizing S with
 |nil=>simp
 |cons a r c=>
  rw[TV]at nd
  have:=c (S:=S.erase a) nd.2 λp b=>(LU (show p≠a fromλz=>nd.1 (by rw[<-z];exact b))).mpr (h p (Gm _ b))
  have e:=Lo (h a GJ)
  have pos:0<S.length:=LJ (h a GJ)
  simp only[Tb]
  omega
theorem Few.le{U ts:List Th}{tl:Tl}(h:Few U ts tl)(nd:ts.Nodup):ts.length<=60:=Dg (Qpn nd h.sub) h.len
def Lst(tl b:Tl)(n:Nat)(a c:Th):Prop:=tl[n]?=some (false,a,c)/\Cg b a c/\∀(j:Nat)d e,j<n->tl[j]?=some (false,d,e)->¬Cg b d e
def Jd(H:Hp)(X:Addr->Prop)(tl:Tl):Dd->V->Prop
 |.back i,v=>v=(W4 tl (.back i)).2
 |.tell b s t,v=>(¬Iy (tl++[(b,s,t)])/\v=.int ((tl.length:Int)+1))\/
   ∃d n a c lv ls,v=.ref d/\H d=some (.tup [.str "clash",jv n,lv])/\Lst (tl++[(b,s,t)]) (tl++[(b,s,t)]) n a c/\Wi H X lv ls/\Gdt (tl++[(b,s,t)]) none ls/\∃r,ls.getLast?=some (a,c,r)
 |.ask s t,v=>(Cg tl s t/\∃d lv ls,v=.ref d/\H d=some (.tup [.str "equal",lv])/\Wi H X lv ls/\Gdt tl none ls/\∃r,ls.getLast?=some (s,t,r))\/
   (¬Cg tl s t/\∃d n a c lv ls,v=.ref d/\H d=some (.tup [.str "unlike",jv n,lv])/\Lst tl (tl++[(true,s,t)]) n a c/\Wi H X lv ls/\Gdt tl (some (s,t)) ls/\∃r,ls.getLast?=some (a,c,r))\/
   (¬Cg tl s t/\(∀a c,(false,a,c)∈tl->¬Cg (tl++[(true,s,t)]) a c)/\∃d g h e f S,v=.ref d/\H d=some (.tup [.str "open",g,h])/\U9 H X g e/\U9 H X h f/\Wth tl S e/\Wth (tl++[(true,s,t)]) S f/\s∈S/\t∈S/\∀b a c,(b,a,c)∈tl->a∈S/\c∈S)
theorem Jd.kp{X:Addr->Prop}{H H':Hp}(f:Qu H H')(lp:∀{c:Addr}{ys:List V},H c=some (.lst ys)->¬X c->H' c=some (.lst ys)){tl:Tl}:∀{d:Dd}{v:V},Jd H X tl d v->Jd H' X tl d v
 |.back i,v,h=>h
 |.tell b s t,v,h=>by
  rcases h with h|⟨g,n,a,c,lv,ls,h1,h2,j,k,m⟩
  ·exact .inl h
  ·exact .inr ⟨g,n,a,c,lv,ls,h1,f _ _ h2,j,k.kp f lp,m⟩
 |.ask s t,v,h=>by
  rcases h with⟨l,g,lv,ls,h1,h2,j,k⟩|⟨l,g,n,a,c,lv,ls,h1,h2,j,k,m⟩|⟨l,o,g,r,u,p,q,S,h1,h2,j,k,m⟩
  ·exact .inl ⟨l,g,lv,ls,h1,f _ _ h2,j.kp f lp,k⟩
  ·exact .inr (.inl ⟨l,g,n,a,c,lv,ls,h1,f _ _ h2,j,k.kp f lp,m⟩)
  ·exact .inr (.inr ⟨l,o,g,r,u,p,q,S,h1,f _ _ h2,j.kp (λe=>f _ _ e) lp,k.kp (λe=>f _ _ e) lp,m⟩)
theorem Jd.ex{X Y:Addr->Prop}{H:Hp}(l:∀c ys,H c=some (.lst ys)->¬X c->¬Y c){tl:Tl}:∀{d:Dd}{v:V},Jd H X tl d v->Jd H Y tl d v
 |.back i,v,h=>h
 |.tell b s t,v,h=>by
  rcases h with h|⟨e,n,a,c,lv,ls,h1,h2,f,g,k⟩
  ·exact .inl h
  ·exact .inr ⟨e,n,a,c,lv,ls,h1,h2,f,g.ex l,k⟩
 |.ask s t,v,h=>by
  rcases h with⟨j,e,lv,ls,h1,h2,f,g⟩|⟨j,e,n,a,c,lv,ls,h1,h2,f,g,k⟩|⟨j,m,e,q,r,o,p,S,h1,h2,f,g,k⟩
  ·exact .inl ⟨j,e,lv,ls,h1,h2,f.ex l,g⟩
  ·exact .inr (.inl ⟨j,e,n,a,c,lv,ls,h1,h2,f,g.ex l,k⟩)
  ·exact .inr (.inr ⟨j,m,e,q,r,o,p,S,h1,h2,f.ex l,g.ex l,k⟩)
theorem Jd.head{X:Addr->Prop}{H:Hp}{tl:Tl}:∀{d:Dd}{v:V},Jd H X tl d v->Qc8 H v (W4 tl d).2
 |.back i,v,h=>.inl h
 |.tell b s t,v,h=>by
  rcases h with⟨h1,h2⟩|⟨e,n,a,c,lv,ls,h1,h2,g,_⟩
  ·left
   simp only[W4]
   rw[Gj h1,h2]
  ·right
   have hb:Iy (tl++[(b,s,t)]):=⟨a,c,Gb g.1,g.2.1⟩
   simp only[W4]
   rw[Gp hb]
   exact⟨e,_,h1,h2⟩
 |.ask s t,v,h=>by
  right
  rcases h with⟨f,e,lv,ls,h1,h2,_⟩|⟨f,e,n,a,c,lv,ls,h1,h2,g,_⟩|⟨f,j,e,m,o,p,q,S,h1,h2,_⟩
  ·refine⟨e,[lv],h1,?_⟩
   simp only[W4,kindOf]
   rw[Gp f]
   exact h2
  ·refine⟨e,[jv n,lv],h1,?_⟩
   simp only[W4,kindOf]
   rw[Gj f,Gp ⟨a,c,Gb g.1,g.2.1⟩]
   exact h2
  ·refine⟨e,[m,o],h1,?_⟩
   simp only[W4,kindOf]
   rw[Gj f,Gj λ⟨a,c,k,l⟩=>j a c k l]
   exact h2
open PySem L2 Sb Nt
theorem Qnl{t:Th}(h:t.good):t.parts.length<=100:=by
 cases t with
 |mk u ps=>
  have:=Zz ps
  have:=h.2.2
  simp only[Th.size]at this
  simp only[Th.parts]
  omega
theorem Qjj{t p:Th}(h:p∈t.parts):p.depth<t.depth:=by
 cases t with
 |mk u ps=>
  simp only[Th.parts]at h
  have:=Vh h
  simp only[Th.depth]
  omega
theorem Qsz{t:Th}(h:t.ok=true):PyData.strOk t.word=true:=by
 cases t with
 |mk u ps=>
  simp only[Th.ok,TD]at h
  exact h.1
theorem Ql0{ts:List Th}{p:Nat}(h:¬p<ts.length):Ya (tfs ts) p=Str.empty/\Zi (tfs ts) p=[]:=by
 unfold Ya Zi tfs
 rw[DI,Tz (by rw[Gn];omega)]
 exact⟨Xb,Xb⟩
theorem Qvd{ts:List Th}(nd:ts.Nodup)(cl:Vi ts)(c:∀t∈ts,t.good)(l:ts.length<=60):Qv0 (tfs ts) (λp=>(tg ts p).depth)/\∀p,(tg ts p).depth<59:=by
 have mem:∀{p:Nat},p<ts.length->tg ts p∈ts:=λh=>Gb (X8 h)
 refine⟨⟨λp=>?_,λp=>?_,λp a q b=>?_,λp q a b d e=>?_,by rw[Wu];omega⟩,λp=>?_⟩
 ·by_cases h:p<ts.length
  ·rw[(Wd (X8 h)).1]
   exact Qsz (c _ (mem h)).1
  ·rw[(Ql0 h).1]
   decide+kernel
 ·by_cases h:p<ts.length
  ·rw[(Wd (X8 h)).2,Gn]
   exact Qnl (c _ (mem h))
  ·rw[(Ql0 h).2]
   exact Ta _
 ·rw[Wu]at a⊢
  rw[(Wd (X8 a)).2]at b
  obtain⟨s,f,rfl⟩:=Ti.mp b
  have:=Xl cl (mem a) s f
  refine⟨DV this,?_⟩
  rw[Rj this]
  exact Qjj f
 ·rw[Wu]at a b
  obtain⟨j,g⟩:=Wd (X8 a)
  obtain⟨k,i⟩:=Wd (X8 b)
  rw[j,k]at d
  rw[g,i]at e
  have:=Qjt (ts:=ts) (Xl cl (mem a)) (Xl cl (mem b)) (Fl d e)
  rw[<-Rf nd (X8 a),<-Rf nd (X8 b),this]
 ·by_cases h:p<ts.length
  ·have:=(c _ (mem h)).2.1
   omega
  ·have:tg ts p=.mk Str.empty []:=by
    unfold tg
    rw[DI,Tz (by omega)]
    rfl
   rw[this]
   simp[Th.depth,X5]
theorem Qdj{b:Bool}(h:("same":Str)=tw b):b=true:=by
 cases b with
 |true=>rfl
 |false=>exact absurd h (by decide+kernel)
theorem Qkk{b:Bool}(h:("unlike":Str)=tw b):b=false:=by
 cases b with
 |true=>exact absurd h (by decide+kernel)
 |false=>rfl
theorem Qbe{ts:List Th}{a:List En}{tl:Tl}(R:Qdx ts a tl){j:Nat}{k:Str}{p q:Nat}(h:a[j]?=some (k,p,q)):∃b,k=tw b/\tl[j]?=some (b,tg ts p,tg ts q):=by
 obtain⟨⟨b,s,t⟩,h1,h2,c,d⟩:=Qv R h
 exact⟨b,h2,by rw[h1,Vy c,Vy d]⟩
theorem R3{ts:List Th}{a:List En}{tl:Tl}(R:Qdx ts a tl){j:Nat}{b:Bool}{s t:Th}(h:tl[j]?=some (b,s,t)):∃p q,a[j]?=some (tw b,p,q)/\ts[p]?=some s/\ts[q]?=some t:=by
 have f:=Gs R
 have c:j<a.length:=by rw[f];exact(Ge.mp h).1
 obtain⟨⟨g,s',t'⟩,h1,h2,d,e⟩:=Qv R (Gg c)
 rw[h]at h1
 cases h1
 refine⟨a[j].2.1,a[j].2.2,?_,d,e⟩
 rw[Gg c,<-h2]
theorem Qha{ts:List Th}{d c:List En}{tl:Tl}(R:Qdx ts d tl)(f:∀p q,sme p q∈c↔sme p q∈d):
  (∀a b,(true,a,b)∈tl->∃p q,(p,q)∈Qdg c/\ts[p]?=some a/\ts[q]?=some b)/\∀p q,(p,q)∈Qdg c->(true,tg ts p,tg ts q)∈tl:=by
 constructor
 ·intro a b h
  obtain⟨j,e⟩:=TL.mp h
  obtain⟨p,q,h1,h2,g⟩:=R3 R e
  exact⟨p,q,Vn.mpr ((f p q).mpr (Gb h1)),h2,g⟩
 ·intro p q h
  obtain⟨j,e⟩:=TL.mp ((f p q).mp (Vn.mp h))
  obtain⟨b,h1,h2⟩:=Qbe R e
  rw[Qdj h1]at h2
  exact Gb h2
theorem Qmc{ts:List Th}{b:List En}{tl d:Tl}{x:Nn}(R:Qdx ts b tl)(hS:∀e∈b,e.2.1∈x.S/\e.2.2∈x.S)(cg:∀p∈x.S,∀q∈x.S,x.lead p=x.lead q↔Cg d (tg ts p) (tg ts q))(h:Qvt x b none):∀a c,(false,a,c)∈tl->¬Cg d a c:=λa c k g=>by
 obtain⟨j,i⟩:=TL.mp k
 obtain⟨p,q,h1,h2,f⟩:=R3 R i
 obtain⟨l,m⟩:=hS _ (Gb h1)
 refine h j p q h1 ((cg p l q m).mpr ?_)
 rw[Vy h2,Vy f]
 exact g
theorem Qk5{ts:List Th}{a:List En}{tl c:Tl}{x:Nn}{n:Nat}(R:Qdx ts a tl)(hS:∀e∈a,e.2.1∈x.S/\e.2.2∈x.S)(cg:∀p∈x.S,∀q∈x.S,x.lead p=x.lead q↔Cg c (tg ts p) (tg ts q))(h:Qvt x a (some n)):
  ∃p q,a[n]?=some (unl p q)/\x.lead p=x.lead q/\p∈x.S/\q∈x.S/\Lst tl c n (tg ts p) (tg ts q):=by
 obtain⟨⟨p,q,h1,h2⟩,s⟩:=h
 obtain⟨m,r⟩:=hS _ (Gb h1)
 obtain⟨b,hb,i⟩:=Qbe R h1
 rw[Qkk hb]at i
 refine⟨p,q,h1,h2,m,r,i,(cg p m q r).mp h2,λj y z u d t=>?_⟩
 obtain⟨l,o,k,v,w⟩:=R3 R d
 obtain⟨f,g⟩:=hS _ (Gb k)
 refine s j l o u k ((cg l f o g).mpr ?_)
 rw[Vy v,Vy w]
 exact t
structure Qdw(K:Gc)(mg:Str->Option Value)(C:Addr):Prop where
 cl:Cls K C
 places:Yo K C "places"
 told:Yo K C "told"
 entries:Yo K C "entries"
 mgC:mg "Book"=some (.ref C)
 no:∃u,mg "NO_MOMENT"=some u/\RelV (.str "no moment") u
structure Lng(fs:List Fm)(x:Nn):Prop where
 inv:Xv (Ya fs) (Zi fs) x []
 fok:Qd1 fs x.S
 len:x.S.length<=60
 lk:x.links.length<64
 few:∀p,(Zi fs p).length<=100
def Iu(P:Program)(w:World)(C CP c:Addr):Sp:=λvs H Q _=>∃(bk p a f d t e:Addr)(ts:List Th)(tl:Tl)(n:Addr)(A:Na)(tb:Nat)(x:Nn)(ev:V)(k:Str)(p1 p2:Nat),vs=[.ref bk,.ref n,ev]/\W8 P w CP c H bk p a f d t e ts tl/\Qb7 H ev (k,p1,p2)/\Z1 P w C H n A (tfs ts) tb x/\Lng (tfs ts) x/\p1∈x.S/\p2∈x.S/\x.lead p1=x.lead p2/\
 ∀(v:V)(ls:List Ln)(H':Hp),Q3 H H'->Wi H' (λb=>∃o,H b=some o) v (ls.map (lth ts))->(∀l∈ls,l.1<ts.length/\l.2.1<ts.length)->Gdl (tfs ts) x.links ls->(∃r,ls.getLast?=some (p1,p2,r))->Q v H'
section
variable{P:Program}{w:World}{K:Gc}{mg:Str->Option Value}{base:Heap}
theorem W8.same{CP c:Addr}{H H':Hp}{bk p a f d t e:Addr}{ts:List Th}{tl:Tl}(B:W8 P w CP c H bk p a f d t e ts tl)(g:Q3 H H'):W8 P w CP c H' bk p a f d t e ts tl:=by
 obtain⟨dx,l⟩:=B.ob
 obtain⟨vs,m,n⟩:=B.to
 obtain⟨es,b,i,j,k⟩:=B.en
 exact⟨⟨dx,g _ _ l⟩,B.pl.same g,⟨vs,g _ _ m,n.Qm (Qu.of g)⟩,⟨es,b,g _ _ i,L2.Paired.Z8 j λ_ _ h=>h.Qm (Qu.of g),k⟩,B.ta,B.tf,B.te,B.ea,B.ef⟩
theorem Qkw:Qx ["self","net","entry"] ["self","net","entry"] (Qk J9):=⟨Xb,Xb,Xb,by decide+kernel,Xb,by decide+kernel,by decide+kernel⟩
theorem Qh1{o m C CP l:Addr}{fd j:FuncData}(F:W5 K "lines_for" "Book.lines_for" J9 o fd)(T:Qdw K mg l)(TP:Qb3 K mg CP)(G:Qt P w K mg base Z7 6 m j ["things","net","one","other"] (Qhf P w C))(L:PySem.W.keepIn K (.ref m)=true)(y:Binds K j ["things","net","one","other"] [])(M:mg "lines_between"=some (.ref m)):
  Qt P w K mg base Z7 7 o fd ["self","net","entry"] (Iu P w C CP l):=by
 refine F.ok Qkw (λvs H Q E h=>?_) (λcdv A outer s H vs Q E J h=>?_)
 ·obtain⟨bk,p,a,f,d,t,e,ts,tl,n,A,tb,x,ev,k,p1,p2,rfl,_⟩:=h
  rfl
 obtain⟨bk,p,a,f,d,t,e,ts,tl,n,A,tb,x,ev,k,p1,p2,rfl,B,⟨c,rfl,r⟩,X,i,R,S,z,q⟩:=h
 refine⟨_,Qh (Qy (Z6 G J rfl M L y .nil Q5 (Qa (Qn (Qn (pv 0) rfl) rfl) (Qa (pv 1) (Qa (Qo Q4 (pv 2) Qj (λ_ _=>rfl)) (Qa (Qo Q4 (pv 2) Qj (λ_ _=>rfl)) Qe)))))),?_⟩
 obtain⟨dx,N⟩:=B.ob
 obtain⟨dp,O⟩:=B.pl.ob
 obtain⟨us,U,u⟩:=B.pl.th
 refine⟨_,Xb,bk,l,dx,_,_,Xb,N,T.cl,T.places,Ut _ _ _,p,CP,dp,_,_,Xb,O,TP.cl,TP.nT,Qm1 _ _ _,_,Xb,_,Xb,c,_,_,_,Xb,Xb,Z4.of r,Im _ _ _,_,Xb,c,_,_,_,Xb,Xb,Z4.of r,Qgt _ _ _ _,a,n,A,tfs ts,tb,x,us,p1,p2,Xb,X,i.inv,i.fok,R,S,z,i.len,i.lk,i.few,U,by rw[Wu,u.length],λv ls H' g I D b=>?_⟩
 obtain⟨l1,l2⟩:=Qpd (u.same g) I
 exact q v ls H' g l1 l2 D b
end
open PySem L2 Sb Nt
theorem Nok.same{P:Program}{w:World}{C:Addr}{H0 H H':Hp}{n:Addr}{A:Na}{fs:List Fm}{tb:Nat}{x:Nn}(N:Nok P w C H0 H n A fs tb x)(g:Q3 H H'):Nok P w C H0 H' n A fs tb x:=⟨N.at_.same g,N.inv,N.fok,N.new,N.nn,N.Og.trans g,N.len,N.tt,N.cl,N.tbb⟩
theorem Nok.lng{P:Program}{w:World}{C:Addr}{H0 H:Hp}{n:Addr}{A:Na}{fs:List Fm}{tb:Nat}{x:Nn}(N:Nok P w C H0 H n A fs tb x)(few:∀p,(Zi fs p).length<=100):Lng fs x:=⟨N.inv,N.fok,N.len,by have:=N.cl;have:=N.len;omega,few⟩
theorem Nok.room{P:Program}{w:World}{C:Addr}{H0 H:Hp}{n:Addr}{A:Na}{fs:List Fm}{tb:Nat}{x:Nn}(N:Nok P w C H0 H n A fs tb x):x.S.length<=10000/\Vk x<=10000/\cls x+x.links.length<=10000/\tb+cls x*Vk x<=900000:=by
 have b:=N.len
 have a:=N.tt
 have c:=N.cl
 have d:=N.tbb
 have e:x.links.length*Vk x+cls x*Vk x<=60*6000:=by
  rw[<-Ew]
  exact Nat.mul_le_mul (by omega) a
 exact⟨by omega,by omega,by omega,by omega⟩
def Qvc(P:Program)(w:World)(CP c:Addr):Sp:=λvs H Q _=>∃(bk p a f d t e:Addr)(ts:List Th)(tl:Tl)(U:List Th)(ev:V)(p1 p2:Nat),vs=[.ref bk,ev]/\W8 P w CP c H bk p a f d t e ts tl/\Few U ts tl/\Qb7 H ev (("ask":Str),p1,p2)/\p1<ts.length/\p2<ts.length/\
 ∀(v:V)(H':Hp),Q3 H H'->Jd H' (λb=>∃o,H b=some o) tl (.ask (tg ts p1) (tg ts p2)) v->Q v H'
theorem Qop{ts:List Th}{a:List En}{tl:Tl}(R:Qdx ts a tl):∀e∈a,e.2.1<ts.length/\e.2.2<ts.length:=λe d=>by
 obtain⟨j,f⟩:=TL.mp d
 obtain⟨y,_,_,b,c⟩:=Qv R f
 exact⟨(Ge.mp b).1,(Ge.mp c).1⟩
theorem Qc9{ts:List Th}{ls:List Ln}{p q:Nat}(h:∃r,ls.getLast?=some (p,q,r)):∃r,(ls.map (lth ts)).getLast?=some (tg ts p,tg ts q,r):=by
 obtain⟨r,h⟩:=h
 exact⟨r,by rw[List.getLast?_map,h];rfl⟩
section
variable{P:Program}{w:World}{K:Gc}{mg:Str->Option Value}{base:Heap}
theorem Qu6:Qx ["self","entry","net","apart","number"] ["self","entry"] (Qk Quc):=⟨Xb,Xb,Xb,by decide+kernel,Xb,by decide+kernel,by decide+kernel⟩
theorem Qw3{f0 fN fE fR fM fC fL C CP CB:Addr}{fd aq an ar ap am ao:FuncData}(F:W5 K "ask" "Book.ask" Quc f0 fd)(T:Qdw K mg CB)(TP:Qb3 K mg CP)(TN:Vt K mg C)
  (GN:Qt P w K mg base Z7 61 fN aq ["forms","told"] (Qf8 P w C))(kN:PySem.W.keepIn K (.ref fN)=true)(bN:Binds K aq ["forms","told"] [])(mN:mg "net_of"=some (.ref fN))
  (mE:Z9 K C "equal" fE)(GE:Qt P w K mg base Z7 1 fE an ["self","one","other"] (Qbm P w C))(bE:Binds K an ["self","one","other"] [])(mR:Z9 K C "rows" fR)(GR:Qt P w K mg base Z7 2 fR ar ["self"] (Qpz P w C))(bR:Binds K ar ["self"] [])
  (mM:Z9 K C "merge" fM)(GM:Qt P w K mg base Z7 4 fM ap ["self","one","other","reason"] (Qfi P w C))(bM:Binds K ap ["self","one","other","reason"] [])
  (GC:Qt P w K mg base Z7 2 fC am ["net","entries"] (Qfm P w C))(kC:PySem.W.keepIn K (.ref fC)=true)(bC:Binds K am ["net","entries"] [])(mC:mg "least_clash"=some (.ref fC))
  (mL:Z9 K CB "lines_for" fL)(GL:Qt P w K mg base Z7 7 fL ao ["self","net","entry"] (Iu P w C CP CB))(bL:Binds K ao ["self","net","entry"] []):
  Qt P w K mg base Z7 62 f0 fd ["self","entry"] (Qvc P w CP CB):=by
 refine F.ok Qu6 (λvs H Q E h=>?_) (λcdv A outer s H vs Q E hr h=>?_)
 ·obtain⟨bk,p,a,f,d,t,e,ts,tl,U,ev,p1,p2,rfl,_⟩:=h
  rfl
 obtain⟨bk,p,a,f,d,t,e,ts,tl,U,ev,p1,p2,rfl,B,FW,⟨k,rfl,G⟩,av,aw,q⟩:=h
 have aT:Yc 1 _:=hr.mono (by omega)
 have ah:Yc 2 _:=hr.mono (by omega)
 have aU:Yc 4 _:=hr.mono (by omega)
 have ay:Yc 7 _:=hr.mono (by omega)
 have nd:=Qu6.nd
 refine⟨_,Qd (Ql (i:=2) nd rfl (Or.inl Xb) (Z6 GN hr rfl mN kN bN .nil Q5 (Qa (Qn (Qn (pv 0) rfl) rfl) (Qa (Zp V0 (Qn (pv 0) rfl) (Zt (Qa (pv 1) Qe))) Qe))))
  (Qd (Zm (Xs (Q9 (pv 2) TN.cl mE GE aT bE .nil Q5 (Qa (Qo Q4 (pv 1) Qj (λ_ _=>rfl)) (Qa (Qo Q4 (pv 1) Qj (λ_ _=>rfl)) Qe))))
   (Qh (Qy (Za (Qa Zc (Qa (Q9 (pv 0) T.cl mL GL ay bL .nil Q5 (Qa (pv 2) (Qa (pv 1) Qe))) Qe))))) Q8)
  (Qd (Ql (i:=3) nd rfl (Or.inl Xb) (Qis (pv 2) TN.cl mR GR ah bR .nil Q5))
  (Qd (Zb (Q9 (pv 2) TN.cl mM GM aU bM .nil Q5 (Qa (Qo Q4 (pv 1) Qj (λ_ _=>rfl)) (Qa (Qo Q4 (pv 1) Qj (λ_ _=>rfl)) (Qa (Za (Qa Zc Qe)) Qe)))))
  (Qd (Ql (i:=4) nd rfl (Or.inl Xb) (Z6 GC ah rfl mC kC bC .nil Q5 (Qa (pv 2) (Qa (Qn (pv 0) rfl) Qe))))
  (Qd (Zm (Qs Rn (pv 4) Ja (Q7 _))
   (Qh (Qy (Za (Qa Zc (Qa (pv 4) (Qa (Q9 (pv 0) T.cl mL GL ay bL .nil Q5 (Qa (pv 2) (Qa (Qo Zh (Qn (pv 0) rfl) (pv 4) (λ_ _=>rfl)) Qe))) Qe)))))) Q8)
  (Qh (Qy (Za (Qa Zc (Qa (pv 3) (Qa (Qis (pv 2) TN.cl mR GR ah bR .nil Q5) Qe))))))))))),?_⟩
 obtain⟨dx,o1⟩:=B.ob
 obtain⟨dp,o2⟩:=B.pl.ob
 obtain⟨ws,f1,f2⟩:=B.pl.fo
 obtain⟨es,g,e1,e2,R⟩:=B.en
 have I:=B.pl.nd
 have l:=B.pl.cl
 have ab:=FW.le I
 obtain⟨TK,aE⟩:=Qvd I l (λt ht=>FW.good t (FW.sub t ht)) ab
 have aW:es.length=tl.length:=(Gs e2).trans (Gs R)
 have aX:=FW.tl
 refine⟨_,Xb,bk,CB,dx,_,_,Xb,o1,T.cl,T.places,Ut _ _ _,p,CP,dp,_,_,Xb,o2,TP.cl,TP.nF,Qh9 _ _ _,_,Xb,bk,CB,dx,_,_,Xb,o1,T.cl,T.entries,Vo _ _ _,_,Xb,by show 1<=sizeLine;decide,λr0 aS=>?_⟩
 have s0:=Qg aS (.lst [.ref k])
 refine⟨e,r0,es,[.ref k],Xb,Xb,s0 _ _ e1,Qb,by rw[Td];simp only[Gv];omega,λr1 ax=>?_⟩
 have s1:=s0.trans (Qg ax (.lst (es++[.ref k])))
 have g1:(upd (upd H r0 (.lst [.ref k])) r1 (.lst (es++[.ref k]))) r1=some (.lst (es++[.ref k])):=Qb
 generalize upd (upd H r0 (.lst [.ref k])) r1 (.lst (es++[.ref k]))=H1 at s1 g1
 have al:=Qu.of s1
 have aD:Paired (Qb7 H1) (es++[.ref k]) (g++[(("ask":Str),p1,p2)]):=DO (L2.Paired.Z8 e2 λ_ _ h=>h.Qm al) ⟨k,Xb,al _ _ G⟩
 refine⟨f,r1,ws,_,tfs ts,_,_,Xb,s1 _ _ f1,L2.Paired.Z8 f2 λ_ _ h=>h.Qm al,g1,aD,TK,by rw[Wu];exact ab,aE,λen ag=>?_,by rw[<-Gs aD,Gk,Gv];omega,λn A tb x H2 N _ U=>?_⟩
 ·rw[Wu]
  rcases Gd.mp ag with h|h
  ·exact Qop R en h
  ·have:en=(("ask":Str),p1,p2):=by simpa using h
   rw[this];exact⟨av,aw⟩
 have S2:Q3 H H2:=s1.trans N.Og
 have L:∀p q,sme p q∈g++[(("ask":Str),p1,p2)]↔sme p q∈g:=λp q=>by
  rw[Gd]
  constructor
  ·rintro(h|h)
   ·exact h
   ·rw[Gx]at h
    exact absurd (show("same":Str)="ask"from congrArg (·.1) h) (by decide+kernel)
  ·exact .inl
 obtain⟨aF,aG⟩:=Qha R L
 have EQ:=Qmg U
 have ac:∀p∈x.S,∀q∈x.S,x.lead p=x.lead q↔Cg tl (tg ts p) (tg ts q):=λp hp q hq=>EQ.cg I l N.inv N.fok aF aG hp hq
 have O:∀a b n,(a,b,some (.told n))∈x.links->tl[n]?=some (true,tg ts a,tg ts b):=λa b n h=>by
  rcases U.rsn _ h with z|⟨j,p',q',h1,h2⟩
  ·cases z
  ·cases h1
   have hj:n<g.length:=by
    rcases TC n g.length with h|h
    ·exact h
    ·rw[To h]at h2
     have:n - g.length=0:=by
      rcases TC (n - g.length) 1 with h'|h'
      ·omega
      ·rw[Tz (by simpa using h')]at h2;cases h2
     rw[this]at h2
     have h2:((("ask":Str),p1,p2):En)=sme a b:=by simpa using h2
     exact absurd (show("ask":Str)="same"from congrArg (·.1) h2) (by decide+kernel)
   rw[GQ hj]at h2
   obtain⟨b',h3,h4⟩:=Qbe R h2
   rw[Qdj h3]at h4
   exact h4
 have M:∀a b,¬(a,b,some Uu.asked)∈x.links:=λa b h=>by
  rcases U.rsn _ h with z|⟨j,p',q',h1,h2⟩
  ·cases z
  ·cases h1
 obtain⟨Z,qS⟩:=U.ins (("ask":Str),p1,p2) (by simp)
 have Z:p1∈x.S:=Z
 have qS:p2∈x.S:=qS
 have aa:∀en∈g,en.2.1∈x.S/\en.2.2∈x.S:=λen ag=>U.ins en (Gi _ ag)
 obtain⟨dn,on⟩:=N.at_.ob
 refine⟨_,Xb,n,dn,_,Xb,on,Qco _,_,Xb,k,_,_,_,Xb,Xb,Z4.of (S2 _ _ G),Im _ _ _,_,Xb,k,_,_,_,Xb,Xb,Z4.of (S2 _ _ G),Qgt _ _ _ _,n,A,_,tb,x,p1,p2,Xb,N.at_,Z,qS,_,Xb,?_⟩
 by_cases J:x.lead p1=x.lead p2
 ·rw[Tp J]
  refine Y0 ?_
  have hC:=(ac p1 Z p2 qS).mp J
  refine⟨_,Xb,bk,dx,_,Xb,S2 _ _ o1,Jo _ _ _,_,Xb,_,Xb,bk,p,a,f,d,t,e,ts,tl,n,A,tb,x,.ref k,_,p1,p2,Xb,B.same S2,⟨k,Xb,S2 _ _ G⟩,N.at_,N.lng TK.few,Z,qS,J,λlv ls H3 g3 hl hb hg r=>?_⟩
  refine⟨by show 2<=sizeLine;decide,λc5 aO=>?_⟩
  have s5:=Qg aO (.tup [.str "equal",lv])
  refine q _ _ ((S2.trans g3).trans s5) (.inl ⟨hC,c5,lv,ls.map (lth ts),Xb,Qb,(hl.ex λc ys _ L⟨o,ho⟩=>L ⟨o,S2 _ _ ho⟩).kp (Qu.of s5) (λe _=>s5 _ _ e),Qj3 l hg hb O (λa b h=>absurd h (M a b)),Qc9 r⟩)
 ·rw[Tg J]
  refine Zq ?_
  have hC:¬Cg tl (tg ts p1) (tg ts p2):=λz=>J ((ac p1 Z p2 qS).mpr z)
  refine⟨_,Xb,n,dn,_,Xb,on,Ql7 _,n,A,_,tb,x,Xb,N.at_,N.fok,N.inv,by have:=N.len;omega,λv1 aH H3 g3 az W1=>?_⟩
  have S3:=S2.trans g3
  have N3:=N.same g3
  refine⟨_,Xb,n,dn,_,Xb,g3 _ _ on,Qhc _,_,Xb,k,_,_,_,Xb,Xb,Z4.of (S3 _ _ G),Im _ _ _,_,Xb,k,_,_,_,Xb,Xb,Z4.of (S3 _ _ G),Qgt _ _ _ _,by show 1<=sizeLine;decide,λc4 aN=>?_⟩
  have s4:=Qg aN (.tup [.str "asked"])
  have N4:=N3.same s4
  obtain⟨z1,z2,z3,z4⟩:=N.room
  refine⟨n,A,_,tb,x,p1,p2,.ref c4,some .asked,Xb,N4.at_,N.fok,⟨c4,Xb,Qb⟩,by simp,Z,qS,N.inv,z1,z2,z3,z4,λx' H5 Y5 M5 F5=>?_⟩
  have N5:=N4.merged Y5 M5 F5
  have S5:Q3 H H5:=s1.trans N5.Og
  have aK:=Qtz EQ M5 Z qS
  have eS:=M5.S
  have ad:∀p∈x'.S,∀q∈x'.S,x'.lead p=x'.lead q↔Cg (tl++[(true,tg ts p1,tg ts p2)]) (tg ts p) (tg ts q):=λp hp q hq=>aK.cg I l N5.inv N5.fok (λa b h=>by
   rcases Gd.mp h with h|h
   ·obtain⟨u,v,h1,h2⟩:=aF a b h
    exact⟨u,v,Gi _ h1,h2⟩
   ·have:(true,a,b)=(true,tg ts p1,tg ts p2):=by simpa using h
    cases this
    exact⟨p1,p2,by simp,X8 av,X8 aw⟩) (λu v h=>by
   rcases Gd.mp h with h|h
   ·exact Gi _ (aG u v h)
   ·have:(u,v)=(p1,p2):=by simpa using h
    cases this
    simp) hp hq
  have D:∀en∈g,en.2.1∈x'.S/\en.2.2∈x'.S:=by rw[eS];exact aa
  refine⟨_,Xb,_,Xb,bk,CB,dx,_,_,Xb,S5 _ _ o1,T.cl,T.entries,Vo _ _ _,n,e,A,_,_,x',es,g,Xb,N5.at_,S5 _ _ e1,L2.Paired.Z8 e2 λ_ _ h=>h.Qm (Qu.of S5),D,λo H6 g6 au=>?_⟩
  have X:=S5.trans g6
  have N6:=N5.same g6
  have aJ:∀{c:Addr}{ys:List V},H3 c=some (.tup ys)->H6 c=some (.tup ys):=λ{c ys}ec=>g6 _ _ (F5.keep _ _ (s4 _ _ ec) (N4.at_.Qju (s4 _ _ ec)))
  have aC:∀{c:Addr}{ys:List V},H3 c=some (.lst ys)->¬(∃o,H2 c=some o)->H6 c=some (.lst ys):=λ{c ys}ec L=>g6 _ _ (F5.keep _ _ (s4 _ _ ec) (λz=>L (by
   have:=N.at_.own z
   rcases this with⟨_,h⟩|⟨_,h⟩|⟨_,h⟩|⟨_,h⟩<;>exact⟨_,h⟩)))
  have ai:=(az.kp aJ aC).ex (Y:=λb=>∃o,H b=some o) λc ys _ L⟨o,ho⟩=>L ⟨o,S2 _ _ ho⟩
  refine⟨_,Xb,Xb,_,Xb,?_⟩
  rw[Qf3]
  cases o with
  |some m=>
   refine Y0 ?_
   obtain⟨p',q',h1,h2,aj,ak,aQ⟩:=Qk5 R D ad au
   have hm:m<es.length:=by rw[Gs e2];exact(Ge.mp h1).1
   obtain⟨y,hy,aB⟩:=Qv e2 (Gg hm)
   rw[h1]at hy
   cases hy
   obtain⟨cm,aM,aP⟩:=aB
   refine⟨_,Xb,_,Xb,bk,dx,_,Xb,X _ _ o1,Jo _ _ _,_,Xb,_,Xb,bk,CB,dx,_,_,Xb,X _ _ o1,T.cl,T.entries,Vo _ _ _,_,Xb,e,es,_,_,Xb,Xb,Zd.of (X _ _ e1),Qz (Gg hm),bk,p,a,f,d,t,e,ts,tl,n,A,_,x',_,_,p',q',Xb,B.same X,⟨cm,aM,X _ _ aP⟩,N6.at_,N6.lng TK.few,aj,ak,h2,λlv ls H7 g7 hl hb hg r=>?_⟩
   refine⟨by show 3<=sizeLine;decide,λc8 af=>?_⟩
   have s8:=Qg af (.tup [.str "unlike",jv m,lv])
   refine q _ _ ((X.trans g7).trans s8) (.inr (.inl ⟨hC,c8,m,_,_,lv,ls.map (lth ts),Xb,Qb,aQ,(hl.ex λc ys _ L⟨o,ho⟩=>L ⟨o,X _ _ ho⟩).kp (Qu.of s8) (λe _=>s8 _ _ e),Qj3 l hg hb (λa b n h=>?_) (λa b h=>?_),Qc9 r⟩))
   ·rcases M5.rsn _ h with z|z|z
    ·exact O a b n z
    ·cases z
    ·cases z
   ·rcases M5.rsn _ h with z|z|z
    ·exact absurd z (M a b)
    ·cases z;rfl
    ·cases z
  |none=>
   refine Zq ?_
   have aR:=Qmc R D ad au
   obtain⟨aL,aV⟩:=N6.at_.ob
   refine⟨_,Xb,_,Xb,n,aL,_,Xb,aV,Ql7 _,n,A,_,_,x',Xb,N6.at_,N6.fok,N6.inv,by have:=N6.len;omega,λv2 aI H7 g7 aA W2=>?_⟩
   refine⟨by show 3<=sizeLine;decide,λc8 af=>?_⟩
   have s8:=Qg af (.tup [.str "open",v1,v2])
   have ae:=g7.trans s8
   refine q _ _ (X.trans ae) (.inr (.inr ⟨hC,aR,c8,v1,v2,aH,aI,x.S.map (tg ts),Xb,Qb,ai.kp (λe=>ae _ _ e) (λe _=>ae _ _ e),(aA.ex λc ys _ L⟨o,ho⟩=>L ⟨o,X _ _ ho⟩).kp (λe=>s8 _ _ e) (λe _=>s8 _ _ e),Qph I l N.fok W1 ac,by rw[<-eS];exact Qph I l N5.fok W2 ad,Ti.mpr ⟨p1,Z,Xb⟩,Ti.mpr ⟨p2,qS,Xb⟩,λb a c hm=>?_⟩))
   obtain⟨j,hj⟩:=TL.mp hm
   obtain⟨p',q',h1,h2,h3⟩:=R3 R hj
   obtain⟨aj,ak⟩:=aa _ (Gb h1)
   exact⟨Ti.mpr ⟨p',aj,Vy h2⟩,Ti.mpr ⟨q',ak,Vy h3⟩⟩
end
open PySem L2 Sb Nt
theorem Qqy(xs:List V){i:Int}(a:0<=i)(h1:i<=(xs.length:Int)):Uj xs none (some i)=xs.take i.toNat:=by
 unfold Uj
 rw[HT.Ro]
 have:HT.Wb xs.length xs.length (some i)=i.toNat:=by
  show(if i<0 then(i+(xs.length:Int)).toNat else min i.toNat xs.length)=_
  rw[Gj (by omega)]
  omega
 rw[this]
 simp
theorem Qux(a f d p t e:Addr){C c dx b:Addr}:HO.ins C dx (Il a f d)=HO.ins c b (Wh p t e)->False:=λz=>by
 injection z with _ _ z
 unfold Il Wh at z
 injection z with z _
 injection z with z _
 exact absurd z (by decide+kernel)
theorem Qo5{ts:List Th}{a:List En}{tl:Tl}(R:Qdx ts a tl)(k:Nat):Qdx ts (a.take k) (tl.take k):=by
 induction R generalizing k with
 |nil=>simp;exact .nil
 |cons h t b=>
  cases k with
  |zero=>exact .nil
  |succ k=>exact .cons h (b k)
theorem Qao{α β:Type}{F:α->β->Prop}{xs:List α}{ys:List β}(R:Paired F xs ys)(k:Nat):Paired F (xs.take k) (ys.take k):=by
 induction R generalizing k with
 |nil=>simp;exact .nil
 |cons h t a=>
  cases k with
  |zero=>exact .nil
  |succ k=>exact .cons h (a k)
structure FrK(bk t:Addr)(H H':Hp):Prop where
 keep:∀b o,H b=some o->b≠bk->b≠t->H' b=some o
 there:∀b,H' b=none->H b=none
def Qpi(P:Program)(w:World)(CP g:Addr):Sp:=λvs H Q _=>∃(bk p a f d t e:Addr)(ts:List Th)(tl:Tl)(U:List Th)(h ev:V)(b:Bool)(p1 p2:Nat),vs=[.ref bk,h,ev]/\W8 P w CP g H bk p a f d t e ts tl/\Few U ts tl/\Qa3 H h (.tell b (tg ts p1) (tg ts p2))/\Qb7 H ev (tw b,p1,p2)/\p1<ts.length/\p2<ts.length/\
 ∀(v:V)(c:Addr)(H':Hp),W8 P w CP g H' bk p a f d t c ts (W4 tl (.tell b (tg ts p1) (tg ts p2))).1->Jd H' (λb=>∃o,H b=some o) tl (.tell b (tg ts p1) (tg ts p2)) v->FrK bk t H H'->(c=e\/H c=none)->Q v H'
def Qh8(P:Program)(w:World)(CP c:Addr):Sp:=λvs H Q _=>∃(bk p a f d t e:Addr)(ts:List Th)(tl:Tl)(i:Int),vs=[.ref bk,.int i]/\W8 P w CP c H bk p a f d t e ts tl/\
 ∀(v:V)(t' b:Addr)(H':Hp),W8 P w CP c H' bk p a f d t' b ts (W4 tl (.back i)).1->v=(W4 tl (.back i)).2->FrK bk bk H H'->(t'=t\/H t'=none)->(b=e\/H b=none)->Q v H'
section
variable{P:Program}{w:World}{K:Gc}{mg:Str->Option Value}{base:Heap}
theorem Qhm:Qx ["self","moment","forgotten"] ["self","moment"] (Qk Qbp):=⟨Xb,Xb,Xb,by decide+kernel,Xb,by decide+kernel,by decide+kernel⟩
theorem Qnn{U CP j:Addr}{fd:FuncData}(F:W5 K "go_back" "Book.go_back" Qbp U fd)(T:Qdw K mg j)(Y:Jv mg):Qt P w K mg base Z7 1 U fd ["self","moment"] (Qh8 P w CP j):=by
 refine F.ok Qhm (λvs H Q E h=>?_) (λcdv A outer s H vs Q E hr h=>?_)
 ·obtain⟨bk,p,a,f,d,t,e,ts,tl,i,rfl,_⟩:=h
  rfl
 obtain⟨bk,p,a,f,d,t,e,ts,tl,i,rfl,B,q⟩:=h
 obtain⟨nu,n1,n2⟩:=T.no
 have nd:=Qhm.nd
 refine⟨_,Qd (Ql (i:=2) nd rfl (Or.inl Xb) (Zp Qf0 (Qp Zk rfl Y.len Tj (Qa (Qn (pv 0) rfl) Qe)) (pv 1)))
  (Qd (Zm (PW.pt (Qcn (Qs Qg3 (pv 1) Qj (Q7 _)) (Qc6 (Qs Qg3 (pv 2) Qj (Q7 _))))) (Qh (Qy (Qs1 rfl n1 n2))) Q8)
  (Qd (Y9 (pv 0) (Yx Vc (Qn (pv 0) rfl) Xy (Yy (pv 1))) rfl)
  (Qd (Y9 (pv 0) (Yx Vc (Qn (pv 0) rfl) Xy (Yy (pv 1))) rfl)
  (Qh (Qy (pv 2)))))),?_⟩
 obtain⟨dx,g⟩:=B.ob
 obtain⟨dp,op⟩:=B.pl.ob
 obtain⟨vs,W,X⟩:=B.to
 obtain⟨es,aa,O,S,R⟩:=B.en
 have lv:=Gs X
 have le:=(Gs S).trans (Gs R)
 refine⟨_,Xb,bk,j,dx,_,_,Xb,g,T.cl,T.told,Qbh _ _ _,t,vs,Xb,.inl (Zd.of W),_,Xb,_,_,Xb,Xb,?_⟩
 refine⟨_,Xb,_,_,Xb,Xb,_,Xb,?_⟩
 have no:¬(0<=i/\i<=(tl.length:Int))->Q (.str "no moment") H:=λh=>q _ t e H (by simp only[W4];rw[Gj h];exact B) (by simp only[W4];rw[Gj h]) ⟨λ_ _ e _ _=>e,λ_ h=>h⟩ (.inl Xb) (.inl Xb)
 by_cases hi:i<0
 ·rw[Tp hi]
  refine Y0 (Y0 ?_)
  exact no (λz=>by omega)
 rw[Tg hi]
 refine Zq ⟨_,Xb,_,_,Xb,Xb,_,Xb,?_⟩
 by_cases V:(vs.length:Int) - i<0
 ·rw[Tp V]
  refine Y0 ?_
  exact no (λz=>by omega)
 rw[Tg V]
 refine Zq ?_
 have C:0<=i:=by omega
 have h1:i<=(tl.length:Int):=by omega
 refine⟨_,Xb,bk,j,dx,_,_,Xb,g,T.cl,T.told,Qbh _ _ _,_,Xb,_,Xb,t,vs,Xb,Zd.of W,λt' l=>?_⟩
 rw[Qqy vs C (by omega)]
 have s1:=Qg l (.lst (vs.take i.toNat))
 refine⟨_,Xb,bk,j,dx,_,Xb,s1 _ _ g,T.cl,T.told,by show 3<1000;decide,?_⟩
 rw[Qm3]
 have v:bk≠t':=Qc g l
 have be:e≠bk:=Yb O g (λz=>nomatch z)
 generalize m:upd (upd H t' (.lst (vs.take i.toNat))) bk (.ins j dx (Wh p t' e))=H2
 have D:∀{b o},H b=some o->b≠bk->H2 b=some o:=λe h=>by rw[<-m];exact Qi (s1 _ _ e) h
 have M:H2 bk=some (.ins j dx (Wh p t' e)):=by rw[<-m];exact Qb
 have y:H2 t'=some (.lst (vs.take i.toNat)):=by rw[<-m];exact Qi Qb (Gq v)
 have x:∀{b},H2 b=none->H b=none:=λ{b}h=>by rw[<-m]at h;exact s1.free (Zx h)
 refine⟨_,Xb,bk,j,dx,_,_,Xb,M,T.cl,T.entries,Vo _ _ _,_,Xb,_,Xb,e,es,Xb,Zd.of (D O be),λr c=>?_⟩
 rw[Qqy es C (by omega)]
 have G:=Qg c (.lst (es.take i.toNat))
 refine⟨_,Xb,bk,j,dx,_,Xb,G _ _ M,T.cl,T.entries,by show 3<1000;decide,?_⟩
 rw[Of]
 have L:bk≠r:=Qc M c
 have N:t'≠r:=Qc y c
 generalize k:upd (upd H2 r (.lst (es.take i.toNat))) bk (.ins j dx (Wh p t' r))=H4
 have u:∀{b o},H b=some o->b≠bk->H4 b=some o:=λe h=>by rw[<-k];exact Qi (G _ _ (D e h)) h
 have n:Qu H H4:=λb xs e=>u e (Yb e g (λz=>nomatch z))
 obtain⟨us,I,_⟩:=B.pl.th
 obtain⟨ws,J,_⟩:=B.pl.fo
 obtain⟨kvs,d1,_⟩:=B.pl.kn
 have Z:W8 P w CP j H4 bk p a f d t' r ts (tl.take i.toNat):=by
  refine⟨⟨dx,by rw[<-k];exact Qb⟩,B.pl.keep (λo e=>u e (Yb op g (Qux _ _ _ _ _ _))) (λo e=>u e (Yb I g (λz=>nomatch z))) (λo e=>u e (Yb J g (λz=>nomatch z))) (λo e=>u e (Yb d1.at_ g (λz=>nomatch z))) n,⟨_,by rw[<-k];exact Qi (G _ _ y) (Gq v),Ub.Qm n (Qao X _)⟩,⟨_,_,by rw[<-k];exact Qi Qb (Gq L),L2.Paired.Z8 (Qao S _) λ_ _ h=>h.Qm n,Qo5 R _⟩,Gq (Qc I l),Gq (Qc J l),N,?_,?_⟩
  ·exact Gq (Qc (D I (Yb I g (λz=>nomatch z))) c)
  ·exact Gq (Qc (D J (Yb J g (λz=>nomatch z))) c)
 refine⟨_,Xb,q _ t' r H4 (by simp only[W4];rw[Gp ⟨C,h1⟩];exact Z) (by simp only[W4];rw[Gp ⟨C,h1⟩,lv]) ⟨λb o e h _=>u e h,λb h=>x (by rw[<-k]at h;exact G.free (Zx h))⟩ (.inr l) (.inr (x c))⟩
theorem Qq8:Qx ["self","deed","entry","entries","net","number"] ["self","deed","entry"] (Qk Qme):=⟨Xb,Xb,Xb,by decide+kernel,Xb,by decide+kernel,by decide+kernel⟩
theorem Qsn{f0 fN fC fL C CP I:Addr}{fd ah af ag:FuncData}(F:W5 K "tell" "Book.tell" Qme f0 fd)(T:Qdw K mg I)(TP:Qb3 K mg CP)(B0:Jv mg)
  (GN:Qt P w K mg base Z7 61 fN ah ["forms","told"] (Qf8 P w C))(kN:PySem.W.keepIn K (.ref fN)=true)(bN:Binds K ah ["forms","told"] [])(mN:mg "net_of"=some (.ref fN))
  (GC:Qt P w K mg base Z7 2 fC af ["net","entries"] (Qfm P w C))(kC:PySem.W.keepIn K (.ref fC)=true)(bC:Binds K af ["net","entries"] [])(mC:mg "least_clash"=some (.ref fC))
  (mL:Z9 K I "lines_for" fL)(GL:Qt P w K mg base Z7 7 fL ag ["self","net","entry"] (Iu P w C CP I))(bL:Binds K ag ["self","net","entry"] []):
  Qt P w K mg base Z7 62 f0 fd ["self","deed","entry"] (Qpi P w CP I):=by
 refine F.ok Qq8 (λvs H Q E h=>?_) (λcdv A outer s H vs Q E hr h=>?_)
 ·obtain⟨bk,p,a,f,d,t,e,ts,tl,U,dv,ev,b,p1,p2,rfl,_⟩:=h
  rfl
 obtain⟨bk,p,a,f,d,t,e,ts,tl,U,dv,ev,b,p1,p2,rfl,B,FW,aA,⟨l,rfl,az⟩,aE,aF,q⟩:=h
 have aH:Yc 2 _:=hr.mono (by omega)
 have aI:Yc 7 _:=hr.mono (by omega)
 have nd:=Qq8.nd
 refine⟨_,Qd (Ql (i:=3) nd rfl (Or.inl Xb) (Zp V0 (Qn (pv 0) rfl) (Zt (Qa (pv 2) Qe))))
  (Qd (Ql (i:=4) nd rfl (Or.inl Xb) (Z6 GN hr rfl mN kN bN .nil Q5 (Qa (Qn (Qn (pv 0) rfl) rfl) (Qa (pv 3) Qe))))
  (Qd (Ql (i:=5) nd rfl (Or.inl Xb) (Z6 GC aH rfl mC kC bC .nil Q5 (Qa (pv 4) (Qa (pv 3) Qe))))
  (Qd (Zm (Qs Rn (pv 5) Ja (Q7 _))
   (Qh (Qy (Za (Qa Zc (Qa (pv 5) (Qa (Q9 (pv 0) T.cl mL GL aI bL .nil Q5 (Qa (pv 4) (Qa (Qo Zh (pv 3) (pv 5) (λ_ _=>rfl)) Qe))) Qe)))))) Q8)
  (Qd (Zb (Xr Gy Tc Tk Z2 (Qn (pv 0) rfl) (Qa (pv 1) Qe)))
  (Qd (Y9 (pv 0) (pv 3) rfl)
  (Qh (Qy (Qp Zk rfl B0.len Tj (Qa (pv 3) Qe))))))))),?_⟩
 obtain⟨dx,u⟩:=B.ob
 obtain⟨dp,o2⟩:=B.pl.ob
 obtain⟨ws,f1,f2⟩:=B.pl.fo
 obtain⟨us,u1,_⟩:=B.pl.th
 obtain⟨kvs,d1,_⟩:=B.pl.kn
 obtain⟨vs,t1,t2⟩:=B.to
 obtain⟨es,ae,e1,e2,R⟩:=B.en
 have Z:=B.pl.nd
 have O:=B.pl.cl
 have M:=FW.le Z
 obtain⟨TK,ao⟩:=Qvd Z O (λt ht=>FW.good t (FW.sub t ht)) M
 have aB:es.length=tl.length:=(Gs e2).trans (Gs R)
 have aQ:vs.length=tl.length:=Gs t2
 have aP:=FW.tl
 refine⟨_,Xb,bk,I,dx,_,_,Xb,u,T.cl,T.entries,Vo _ _ _,_,Xb,by show 1<=sizeLine;decide,λr0 aG=>?_⟩
 have s0:=Qg aG (.lst [.ref l])
 refine⟨e,r0,es,[.ref l],Xb,Xb,s0 _ _ e1,Qb,by rw[Td];simp only[Gv];omega,λk L=>?_⟩
 have D:H k=none:=s0.free L
 have s1:=s0.trans (Qg L (.lst (es++[.ref l])))
 have g1:(upd (upd H r0 (.lst [.ref l])) k (.lst (es++[.ref l]))) k=some (.lst (es++[.ref l])):=Qb
 generalize upd (upd H r0 (.lst [.ref l])) k (.lst (es++[.ref l]))=H1 at s1 g1
 have ac:=Qu.of s1
 have v:Paired (Qb7 H1) (es++[.ref l]) (ae++[(tw b,p1,p2)]):=DO (L2.Paired.Z8 e2 λ_ _ h=>h.Qm ac) ⟨l,Xb,ac _ _ az⟩
 have R':Qdx ts (ae++[(tw b,p1,p2)]) (tl++[(b,tg ts p1,tg ts p2)]):=DO R ⟨Xb,X8 aE,X8 aF⟩
 refine⟨_,Xb,bk,I,dx,_,_,Xb,s1 _ _ u,T.cl,T.places,Ut _ _ _,p,CP,dp,_,_,Xb,s1 _ _ o2,TP.cl,TP.nF,Qh9 _ _ _,_,Xb,f,k,ws,_,tfs ts,_,_,Xb,s1 _ _ f1,L2.Paired.Z8 f2 λ_ _ h=>h.Qm ac,g1,v,TK,by rw[Wu];exact M,ao,λen aC=>by rw[Wu];exact Qop R' en aC,by rw[<-Gs v,Gk,Gv];omega,λn A tb x H2 N _ U=>?_⟩
 have S2:Q3 H H2:=s1.trans N.Og
 obtain⟨aM,aN⟩:=Qha R' (λp q=>Iff.rfl)
 have EQ:=Qmg U
 have ad:∀p∈x.S,∀q∈x.S,x.lead p=x.lead q↔Cg (tl++[(b,tg ts p1,tg ts p2)]) (tg ts p) (tg ts q):=λp hp q hq=>EQ.cg Z O N.inv N.fok aM aN hp hq
 have ab:∀a b' n,(a,b',some (.told n))∈x.links->(tl++[(b,tg ts p1,tg ts p2)])[n]?=some (true,tg ts a,tg ts b'):=λa b' n h=>by
  rcases U.rsn _ h with z|⟨j,p',q',h1,h2⟩
  ·cases z
  ·cases h1
   obtain⟨aO,h3,h4⟩:=Qbe R' h2
   rw[Qdj h3]at h4
   exact h4
 have aa:∀a b,¬(a,b,some Uu.asked)∈x.links:=λa b h=>by
  rcases U.rsn _ h with z|⟨j,p',q',h1,h2⟩
  ·cases z
  ·cases h1
 refine⟨_,Xb,_,Xb,n,k,A,_,tb,x,_,_,Xb,N.at_,N.Og _ _ g1,L2.Paired.Z8 v λ_ _ h=>h.Qm (Qu.of N.Og),U.ins,λo H3 g3 ai=>?_⟩
 have J:=S2.trans g3
 have N3:=N.same g3
 have al:=N3.Og _ _ g1
 refine⟨_,Xb,Xb,_,Xb,?_⟩
 rw[Qf3]
 cases o with
 |some m=>
  refine Y0 ?_
  obtain⟨p',q',h1,h2,aJ,aK,Y⟩:=Qk5 R' U.ins ad ai
  have hm:m<(es++[V.ref l]).length:=by rw[Gs v];exact(Ge.mp h1).1
  obtain⟨y,hy,ak⟩:=Qv v (Gg hm)
  rw[h1]at hy
  cases hy
  obtain⟨cm,aw,ay⟩:=ak
  refine⟨_,Xb,_,Xb,bk,dx,_,Xb,J _ _ u,Jo _ _ _,_,Xb,_,Xb,_,Xb,k,_,_,_,Xb,Xb,Zd.of al,Qz (Gg hm),bk,p,a,f,d,t,e,ts,tl,n,A,_,x,_,_,p',q',Xb,B.same J,⟨cm,aw,N3.Og _ _ ay⟩,N3.at_,N3.lng TK.few,aJ,aK,h2,λlv ls H7 g7 hl hb hg X=>?_⟩
  refine⟨by show 3<=sizeLine;decide,λc8 ax=>?_⟩
  have s8:=Qg ax (.tup [.str "clash",jv m,lv])
  have S8:=(J.trans g7).trans s8
  have g:Iy (tl++[(b,tg ts p1,tg ts p2)]):=⟨_,_,Gb Y.1,Y.2.1⟩
  refine q _ e _ (by simp only[W4];rw[Gp g];exact B.same S8) (.inr ⟨c8,m,_,_,lv,ls.map (lth ts),Xb,Qb,Y,(hl.ex λc ys _ hx⟨o,ho⟩=>hx ⟨o,J _ _ ho⟩).kp (Qu.of s8) (λe _=>s8 _ _ e),Qj3 O hg hb ab (λa b h=>absurd h (aa a b)),Qc9 X⟩) ⟨λb o e _ _=>S8 _ _ e,λb h=>S8.free h⟩ (.inl Xb)
 |none=>
  refine Zq ?_
  have aD:=Qmc R' U.ins ad ai
  have g:¬Iy (tl++[(b,tg ts p1,tg ts p2)]):=λ⟨a,c,h1,h2⟩=>aD a c h1 h2
  have t3:=J _ _ t1
  refine⟨_,Xb,bk,I,dx,_,_,Xb,J _ _ u,T.cl,T.told,Qbh _ _ _,.inl ⟨Xb,_,Zd.of t3⟩,_,Xb,t,vs,_,Xb,Xb,t3,by rw[Td];omega,?_⟩
  have tb:t≠bk:=Yb t1 u (λz=>nomatch z)
  refine⟨_,Xb,_,Xb,bk,I,dx,_,Xb,Qi (J _ _ u) (Gq tb),T.cl,T.entries,by show 3<1000;decide,?_⟩
  rw[Of]
  have an:t≠k:=Qc t1 D
  have aL:bk≠k:=Qc u D
  generalize r:upd (upd H3 t (.lst (vs++[dv]))) bk (.ins I dx (Wh p t k))=H4
  have k4:∀{b o},H b=some o->b≠bk->b≠t->H4 b=some o:=λe h1 h2=>by rw[<-r];exact Qi (Qi (J _ _ e) h2) h1
  have G:Qu H H4:=λb xs e=>k4 e (Yb e u (λz=>nomatch z)) (Yb e t1 (λz=>nomatch z))
  have am:H4 k=some (.lst (es++[.ref l])):=by rw[<-r];exact Qi (Qi al (Gq an)) (Gq aL)
  have ap:Qu H1 H4:=λc xs ec=>by
   have:H3 c=some (.tup xs):=N3.Og _ _ ec
   rw[<-r]
   exact Qi (Qi this (Yb this t3 (λz=>nomatch z))) (Yb this (J _ _ u) (λz=>nomatch z))
  obtain⟨ca,v1,v2,aq,ar,au,av⟩:=aA
  have BK:W8 P w CP I H4 bk p a f d t k ts (tl++[(b,tg ts p1,tg ts p2)]):=by
   refine⟨⟨dx,by rw[<-r];exact Qb⟩,B.pl.keep (λo e=>k4 e (Yb o2 u (Qux _ _ _ _ _ _)) (Yb o2 t1 (λz=>nomatch z))) (λo e=>k4 e (Yb u1 u (λz=>nomatch z)) (Gq B.ta)) (λo e=>k4 e (Yb f1 u (λz=>nomatch z)) (Gq B.tf)) (λo e=>k4 e (Yb d1.at_ u (λz=>nomatch z)) (Yb d1.at_ t1 (λz=>nomatch z))) G,⟨_,by rw[<-r];exact Qi Qb tb,DO (t2.Qm G) ⟨ca,v1,v2,aq,G _ _ ar,au.Qm G,av.Qm G⟩⟩,⟨_,_,am,L2.Paired.Z8 v λ_ _ h=>h.Qm ap,R'⟩,B.ta,B.tf,an,Gq (Qc u1 D),Gq (Qc f1 D)⟩
  refine⟨_,Xb,k,_,Xb,.inl (Zd.of am),?_⟩
  have aj:((es++[V.ref l]).length:Int)=(tl.length:Int)+1:=by rw[Gk,Gv,aB];omega
  rw[aj]
  exact q _ k H4 (by simp only[W4];rw[Gj g];exact BK) (.inl ⟨g,Xb⟩) ⟨λb o e h1 h2=>k4 e h1 h2,λb h=>J.free (by rw[<-r]at h;exact Zx (Zx h))⟩ (.inr D)
end
open PySem L2 Sb Nt
structure FrA(bk a f d t:Addr)(H H':Hp):Prop where
 keep:∀b o,H b=some o->b≠bk->b≠a->b≠f->b≠d->b≠t->H' b=some o
 there:∀b,H' b=none->H b=none
def Oa(P:Program)(w:World)(CP i:Addr):Sp:=λvs H Q _=>∃(bk p a f d t e:Addr)(ts:List Th)(tl:Tl)(U:List Th)(j:V)(g:Dd),vs=[.ref bk,j]/\W8 P w CP i H bk p a f d t e ts tl/\Few U ts tl/\Qa3 H j g/\g.fits U/\
 ∀(v:V)(t' h:Addr)(c:List Th)(H':Hp),W8 P w CP i H' bk p a f d t' h c (W4 tl g).1->Jd H' (λb=>(∃o,H b=some o)\/b=t') tl g v->(∀x∈c,x∈U)->FrA bk a f d t H H'->(t'=t\/H t'=none)->(h=e\/H h=none)->Q v H'
def Qcq(P:Program)(w:World)(CP c:Addr):Sp:=λvs H Q _=>∃(bk dx:Addr),vs=[.ref bk]/\H bk=some (.ins c dx [])/\
 ∀(p a f d t e:Addr)(H':Hp),W8 P w CP c H' bk p a f d t e [] []->(∀b o,H b=some o->b≠bk->H' b=some o)->H a=none->H f=none->H d=none->H t=none->H e=none->Q .non H'
theorem Qfk{ts m:List Th}{j:Nat}{t:Th}(h:ts[j]?=some t):(ts++m)[j]?=some t:=by rw[GQ (Ge.mp h).1];exact h
section
variable{P:Program}{w:World}{K:Gc}{mg:Str->Option Value}{base:Heap}
theorem W8.place{CP i:Addr}{H H':Hp}{bk p a f d t e:Addr}{ts m:List Th}{tl:Tl}(B:W8 P w CP i H bk p a f d t e ts tl)(x:Pl P w CP H' p a f d (ts++m))(F:Fr3 a f d H H'):W8 P w CP i H' bk p a f d t e (ts++m) tl:=by
 obtain⟨dx,b⟩:=B.ob
 obtain⟨us,q,_⟩:=B.pl.th
 obtain⟨s,r,_⟩:=B.pl.fo
 obtain⟨kvs,c,_⟩:=B.pl.kn
 obtain⟨vs,k,o⟩:=B.to
 obtain⟨es,g,j,n,R⟩:=B.en
 have l:=F.Qm B.pl
 refine⟨⟨dx,F.keep _ _ b (Yb b q (λz=>nomatch z)) (Yb b r (λz=>nomatch z)) (Yb b c.at_ (λz=>nomatch z))⟩,x,⟨vs,F.keep _ _ k B.ta B.tf (Yb k c.at_ (λz=>nomatch z)),o.Qm l⟩,⟨es,g,F.keep _ _ j B.ea B.ef (Yb j c.at_ (λz=>nomatch z)),L2.Paired.Z8 n λ_ _ h=>h.Qm l,L2.Paired.Z8 R λ_ _ h=>⟨h.1,Qfk h.2.1,Qfk h.2.2⟩⟩,B.ta,B.tf,B.te,B.ea,B.ef⟩
theorem Few.grow{U ts:List Th}{tl:Tl}{t:Th}(F:Few U ts tl)(b:t∈U):Few U (Xg ts t.inside) tl:=⟨λs a=>by
 rw[Qcw]at a
 rcases a with h|h
 ·exact F.sub s h
 ·exact F.cl t b s h,F.cl,F.good,F.len,F.tl⟩
theorem Qox:Qx ["self"] ["self"] (Qk Qbb):=⟨Xb,Xb,Xb,by decide+kernel,Xb,by decide+kernel,by decide+kernel⟩
theorem Qnf{L M CP k:Addr}{fd r:FuncData}(F:W5 K "__init__" "Book.__init__" Qbb L fd)(T:Qdw K mg k)(TP:Qb3 K mg CP)(y:Mk K CP M)(O:Qt P w K mg base Z7 1 M r ["self"] (Qhg P w CP))(R:Binds K r ["self"] []):Qt P w K mg base Z7 3 L fd ["self"] (Qcq P w CP k):=by
 refine F.ok Qox (λvs H Q E h=>?_) (λcdv A outer s H vs Q E Y h=>?_)
 ·obtain⟨bk,dx,rfl,_⟩:=h
  rfl
 obtain⟨bk,dx,rfl,m,q⟩:=h
 refine⟨_,Qd (Y9 (pv 0) (Qbv y O Y rfl TP.mgC R .nil Q5) rfl) (Qd (Y9 (pv 0) (Zt Qe) rfl) (Qh (Y9 (pv 0) (Zt Qe) rfl))),?_⟩
 intro p dp C B X
 have x:Q3 H (upd (upd H dp (.own p)) p (.ins CP dp [])):=λc o e=>Qi (Qi e (Qc e B)) (Qc e C)
 refine⟨p,dp,Xb,Qb,λa f d H1 v k1 V W hd=>⟨Xb,?_⟩⟩
 have u:Q3 H H1:=λb o e=>k1 b o (x _ _ e) (Qc e C)
 have pb:p≠bk:=Gq (Qc m C)
 obtain⟨U,aa⟩:=v.ob
 obtain⟨us,D,_⟩:=v.th
 obtain⟨ws,G,_⟩:=v.fo
 obtain⟨kvs,S,_⟩:=v.kn
 refine⟨_,Xb,bk,k,dx,[],Xb,u _ _ m,T.cl,T.places,by show 0<1000;decide,Ta _,λt Z=>?_⟩
 have n:=u _ _ m
 have j:=Zx Z
 have tb:t≠bk:=Gq (Qc n j)
 refine⟨_,Xb,bk,k,dx,_,Xb,Qi Qb (Gq tb),T.cl,T.told,by show 1<1000;decide,Ta _,λe N=>?_⟩
 have i:=Zx (Zx (Zx N))
 have I:e≠bk:=Gq (Qc n i)
 have J:t≠e:=λz=>by
  have:=Zx N
  rw[<-z,Qb]at this
  cases this
 refine⟨_,Xb,bk,k,dx,_,Xb,Qi Qb (Gq I),T.cl,T.entries,by show 2<1000;decide,?_⟩
 have kp:∀{b o},H1 b=some o->b≠bk->(upd (upd (upd (upd (upd H1 bk (.ins k dx (Yn "places" (.ref p) []))) t (.lst [])) bk (.ins k dx (Yn "told" (.ref t) (Yn "places" (.ref p) [])))) e (.lst [])) bk (.ins k dx (Yn "entries" (.ref e) (Yn "told" (.ref t) (Yn "places" (.ref p) []))))) b=some o:=λl hb=>Qi (Qi (Qi (Qi (Qi l hb) (Qc l j)) hb) (Qc l i)) hb
 refine q p a f d t e _ ⟨⟨dx,Qb⟩,v.keep (λo g=>kp g pb) (λo g=>kp g (Yb D n (λz=>nomatch z))) (λo g=>kp g (Yb G n (λz=>nomatch z))) (λo g=>kp g (Yb S.at_ n (λz=>nomatch z))) (λb xs g=>kp g (Yb g n (λz=>nomatch z))),⟨[],Qi (Qi (Qi Qb tb) J) tb,.nil⟩,⟨[],[],Qi Qb I,.nil,.nil⟩,Gq (Qc D j),Gq (Qc G j),J,Gq (Qc D i),Gq (Qc G i)⟩ (λb o g hb=>kp (u _ _ g) hb) (x.free V) (x.free W) (x.free hd) (u.free j) (u.free i)
theorem Qg4:Qx ["self","deed","entry"] ["self","deed"] (Qk Qbn):=⟨Xb,Xb,Xb,by decide+kernel,Xb,by decide+kernel,by decide+kernel⟩
theorem Qus{H:Hp}{d:V}{a:Dd}(h:Qa3 H d a):∃c k xs,d=.ref c/\H c=some (.tup (.str k::xs))/\(k="back"↔∃i,a=.back i)/\(k="ask"↔∃s t,a=.ask s t):=by
 cases a with
 |tell b s t=>
  obtain⟨c,e,f,h1,h2,_⟩:=h
  refine⟨c,_,_,h1,h2,⟨λz=>?_,λ⟨i,z⟩=>by cases z⟩,⟨λz=>?_,λ⟨i,j,z⟩=>by cases z⟩⟩
  ·cases b<;>exact absurd z (by decide+kernel)
  ·cases b<;>exact absurd z (by decide+kernel)
 |ask s t=>
  obtain⟨c,e,f,h1,h2,_⟩:=h
  exact⟨c,_,_,h1,h2,⟨λz=>absurd z (by decide+kernel),λ⟨i,z⟩=>by cases z⟩,⟨λz=>⟨s,t,rfl⟩,λ_=>rfl⟩⟩
 |back i=>
  obtain⟨c,h1,h2⟩:=h
  exact⟨c,_,_,h1,h2,⟨λz=>⟨i,Xb⟩,λ_=>rfl⟩,⟨λz=>absurd z (by decide+kernel),λ⟨i,j,z⟩=>by cases z⟩⟩
theorem Qmt{f0 fG fP fA fT CP l:Addr}{fd ad ae ac af:FuncData}(F:W5 K "answer" "Book.answer" Qbn f0 fd)(T:Qdw K mg l)(TP:Qb3 K mg CP)
  (mG:Z9 K l "go_back" fG)(GG:Qt P w K mg base Z7 1 fG ad ["self","moment"] (Qh8 P w CP l))(bG:Binds K ad ["self","moment"] [])(mP:Z9 K CP "place_of" fP)(GP:Qt P w K mg base Z7 52 fP ae ["self","thing"] (Qej P w CP))(bP:Binds K ae ["self","thing"] [])
  (mA:Z9 K l "ask" fA)(GA:Qt P w K mg base Z7 62 fA ac ["self","entry"] (Qvc P w CP l))(bA:Binds K ac ["self","entry"] [])(mT:Z9 K l "tell" fT)(GT:Qt P w K mg base Z7 62 fT af ["self","deed","entry"] (Qpi P w CP l))(bT:Binds K af ["self","deed","entry"] []):
  Qt P w K mg base Z7 63 f0 fd ["self","deed"] (Oa P w CP l):=by
 refine F.ok Qg4 (λvs H Q E h=>?_) (λcdv A outer s H vs Q E hr h=>?_)
 ·obtain⟨bk,p,a,f,d,t,e,ts,tl,U,dv,dd,rfl,_⟩:=h
  rfl
 obtain⟨bk,p,a,f,d,t,e,ts,tl,U,dv,dd,rfl,B,Z,x,g,q⟩:=h
 have ar:Yc 1 _:=hr.mono (by omega)
 have D:Yc 52 _:=hr.mono (by omega)
 have nd:=Qg4.nd
 refine⟨_,Qd (Zm (Qs Wf (Qo Q4 (pv 1) Qj (λ_ _=>rfl)) Zc (Q7 _)) (Qh (Qy (Q9 (pv 0) T.cl mG GG ar bG .nil Q5 (Qa (Qo Q4 (pv 1) Qj (λ_ _=>rfl)) Qe)))) Q8)
  (Qd (Ql (i:=2) nd rfl (Or.inl Xb) (Za (Qa (Qo Q4 (pv 1) Qj (λ_ _=>rfl)) (Qa (Q9 (Qn (pv 0) rfl) TP.cl mP GP D bP .nil Q5 (Qa (Qo Q4 (pv 1) Qj (λ_ _=>rfl)) Qe)) (Qa (Q9 (Qn (pv 0) rfl) TP.cl mP GP D bP .nil Q5 (Qa (Qo Q4 (pv 1) Qj (λ_ _=>rfl)) Qe)) Qe)))))
  (Qd (Zm (Qs Wf (Qo Q4 (pv 1) Qj (λ_ _=>rfl)) Zc (Q7 _)) (Qh (Qy (Q9 (pv 0) T.cl mA GA hr bA .nil Q5 (Qa (pv 2) Qe)))) Q8)
  (Qh (Qy (Q9 (pv 0) T.cl mT GT hr bT .nil Q5 (Qa (pv 1) (Qa (pv 2) Qe))))))),?_⟩
 obtain⟨dx,o1⟩:=B.ob
 obtain⟨c,k,xs,rfl,R,kb,ka⟩:=Qus x
 refine⟨_,Xb,c,_,_,_,Xb,Xb,Z4.of R,Rm _ _,Xb,_,Xb,?_⟩
 rw[Yf]
 obtain⟨us,u1,_⟩:=B.pl.th
 obtain⟨ws,w1,_⟩:=B.pl.fo
 obtain⟨kvs,d1,_⟩:=B.pl.kn
 obtain⟨aE,t1,_⟩:=B.to
 by_cases hb:k="back"
 ·subst hb
  rw[EJ]
  refine Y0 ?_
  obtain⟨i,rfl⟩:=kb.mp rfl
  obtain⟨c',h1,h2⟩:=x
  cases h1
  refine⟨_,Xb,bk,dx,_,Xb,o1,Qnu _ _ _,_,Xb,c,_,_,_,Xb,Xb,Z4.of h2,Im _ _ _,bk,p,a,f,d,t,e,ts,tl,i,Xb,B,λv t' e' H' B' S F' au ao=>?_⟩
  exact q v t' e' ts H' B' S Z.sub ⟨λb o m h1 _ _ _ _=>F'.keep b o m h1 h1,F'.there⟩ au ao
 have aw:(k==("back":Str))=false:=by simpa using hb
 rw[aw]
 refine Zq ?_
 obtain⟨s,j,n,r,av,i1,i2,hs,ht,an⟩:∃s j n r,xs=[n,r]/\Yl H n s/\Yl H r j/\s∈U/\j∈U/\((k="ask"/\dd=.ask s j)\/(k≠"ask"/\∃b,k=tw b/\dd=.tell b s j)):=by
  cases dd with
  |tell b s j=>
   obtain⟨c',n,r,h1,h2,N,O⟩:=x
   cases h1
   rw[R]at h2
   cases h2
   exact⟨s,j,n,r,Xb,N,O,g.1,g.2,.inr ⟨(λz=>by obtain⟨_,_,z⟩:=ka.mp z;cases z),b,rfl,rfl⟩⟩
  |ask s j=>
   obtain⟨c',n,r,h1,h2,N,O⟩:=x
   cases h1
   rw[R]at h2
   cases h2
   exact⟨s,j,n,r,Xb,N,O,g.1,g.2,.inl ⟨Xb,Xb⟩⟩
  |back i=>exact absurd (kb.mpr ⟨i,Xb⟩) hb
 subst av
 obtain⟨dp,op⟩:=B.pl.ob
 have gs:=Z.good s hs
 have gt:=Z.good j ht
 have aA:=Z.le B.pl.nd
 refine⟨_,Xb,c,_,_,_,Xb,Xb,Z4.of R,Rm _ _,_,Xb,bk,l,dx,_,_,Xb,o1,T.cl,T.places,Ut _ _ _,p,dp,_,Xb,op,Qb1 _ _ _,_,Xb,c,_,_,_,Xb,Xb,Z4.of R,Im _ _ _,p,n,s,a,f,d,ts,Xb,B.pl,i1,gs.1,by have:=gs.2.1;omega,by have:=gs.2.2;omega,λG H1 x1 aq F1=>?_⟩
 obtain⟨m1,ab⟩:=W3 s.inside ts
 have ai:=x1
 rw[ab]at ai
 have I:=B.place ai F1
 rw[<-ab]at I
 have FW1:=Z.grow hs
 have aB:=FW1.le I.pl.nd
 have W:=F1.Qm B.pl
 obtain⟨al,ax⟩:=I.ob
 obtain⟨ak,ay⟩:=I.pl.ob
 refine⟨_,Xb,bk,l,al,_,_,Xb,ax,T.cl,T.places,Ut _ _ _,p,ak,_,Xb,ay,Qb1 _ _ _,_,Xb,c,_,_,_,Xb,Xb,Z4.of (W _ _ R),Qgt _ _ _ _,p,r,j,a,f,d,_,Xb,I.pl,i2.Qm W,gt.1,by have:=gt.2.1;omega,by have:=gt.2.2;omega,λV H2 x2 ag F2=>?_⟩
 obtain⟨m2,M⟩:=W3 j.inside (Xg ts s.inside)
 have aj:=x2
 rw[M]at aj
 have B2:=I.place aj F2
 rw[<-M]at B2
 have FW2:=FW1.grow ht
 have X:Qu H H2:=λb xs m=>(F2.Qm I.pl) _ _ (W _ _ m)
 have C:(Xg (Xg ts s.inside) j.inside)[G]?=some s:=by rw[M];exact Qfk aq
 refine⟨by show 3<=sizeLine;decide,λL am=>?_⟩
 have s3:=Qg am (.tup [.str k,jv G,jv V])
 have J:=B2.same s3
 generalize az:Xg (Xg ts s.inside) j.inside=ts2 at*
 have e1:=Vy C
 have e2:=Vy ag
 have l1:G<ts2.length:=(Ge.mp C).1
 have l2:V<ts2.length:=(Ge.mp ag).1
 have Y:Fr3 a f d H (upd H2 L (.tup [.str k,jv G,jv V])):=(F1.trans F2).trans (Fr3.of s3)
 obtain⟨aa,o3⟩:=J.ob
 obtain⟨aC,u3,_⟩:=J.pl.th
 obtain⟨aF,w3,_⟩:=J.pl.fo
 obtain⟨aD,t3,_⟩:=J.to
 have y:(upd H2 L (.tup [.str k,jv G,jv V])) c=some (.tup (.str k::[n,r])):=s3 _ _ (X _ _ R)
 have back:∀b o,H b=some o->∃u,(upd H2 L (.tup [.str k,jv G,jv V])) b=some u:=λb o m=>SX.mp λz=>by rw[Y.there b z]at m;cases m
 refine⟨_,Xb,c,_,_,_,Xb,Xb,Z4.of y,Rm _ _,Xb,_,Xb,?_⟩
 rw[Yf]
 rcases an with⟨rfl,rfl⟩|⟨hk,b,rfl,rfl⟩
 ·rw[EJ]
  refine Y0 ?_
  refine⟨_,Xb,bk,aa,_,Xb,o3,Qvv _ _ _,_,Xb,bk,p,a,f,d,t,e,ts2,tl,U,.ref L,G,V,Xb,J,FW2,⟨L,Xb,Qb⟩,l1,l2,λv H4 g4 S=>?_⟩
  rw[e1,e2]at S
  refine q v t e ts2 H4 (J.same g4) (S.ex λc' ys _ hx z=>hx ?_) FW2.sub ⟨λb o m h1 h2 N O h5=>g4 _ _ (Y.keep b o m h2 N O),λb h=>Y.there b (g4.free h)⟩ (.inl Xb) (.inl Xb)
  rcases z with⟨o,ho⟩|z
  ·exact back _ _ ho
  ·rw[z];exact⟨_,t3⟩
 ·have ah:(tw b==("ask":Str))=false:=by simpa using hk
  rw[ah]
  refine Zq ?_
  refine⟨_,Xb,bk,aa,_,Xb,o3,Qud _ _ _,_,Xb,_,Xb,bk,p,a,f,d,t,e,ts2,tl,U,.ref c,.ref L,b,G,V,Xb,J,FW2,?_,⟨L,Xb,Qb⟩,l1,l2,λv e' H4 B4 S F4 ap=>?_⟩
  ·rw[e1,e2]
   exact⟨c,n,r,Xb,y,(i1.Qm X).same s3,(i2.Qm X).same s3⟩
  ·rw[e1,e2]at B4 S
   refine q v t e' ts2 H4 B4 (S.ex λc' ys _ hx z=>hx ?_) FW2.sub ⟨λb o m h1 h2 N O h5=>F4.keep _ _ (Y.keep b o m h2 N O) h1 h5,λb h=>Y.there b (F4.there b h)⟩ (.inl Xb) (ap.elim .inl λz=>.inr (Y.there _ z))
   rcases z with⟨o,ho⟩|z
   ·exact back _ _ ho
   ·rw[z];exact⟨_,t3⟩
end
open PySem L2 Sb Nt
def Qu8(H:Hp)(X:Addr->Prop)(dl:List Dd)(a:List V):Prop:=∀(k:Nat)(d:Dd)(v:V),dl[k]?=some d->a[k]?=some v->Jd H X (after [] (dl.take k)) d v
def Qjz:Sp:=λvs H Q _=>∃(l:Addr)(es:List V)(dl:List Dd)(U:List Th),vs=[.ref l]/\H l=some (.lst es)/\Xx H es dl/\Qfg U/\(∀d∈dl,d.fits U)/\dl.length<=800/\
 ∀(r:Addr)(a:List V)(H':Hp),Q3 H H'->H r=none->H' r=some (.lst a)->a.length=dl.length->Qu8 H' (λb=>b=r) dl a->Q (.ref r) H'
def Qar(P:Program)(w:World)(CP b:Addr):Sp:=λvs H Q _=>∃(l:Addr)(es:List V)(dl:List Dd)(U:List Th),vs=[.ref l]/\H l=some (.lst es)/\Xx H es dl/\Qfg U/\(∀d∈dl,d.fits U)/\dl.length<=800/\
 ∀(bk p a f d t e:Addr)(ts:List Th)(H':Hp),Q3 H H'->W8 P w CP b H' bk p a f d t e ts (after [] dl)->(∀x∈ts,x∈U)->Q (.ref bk) H'
def Qf4:Sp:=λvs H Q _=>∃(l:Addr)(es:List V)(dl:List Dd)(U:List Th),vs=[.ref l]/\H l=some (.lst es)/\Xx H es dl/\Qfg U/\(∀d∈dl,d.fits U)/\dl.length<=800/\
 ∀(r:Addr)(a:List V)(H':Hp),Q3 H H'->H' r=some (.lst a)->Ub H' a (after [] dl)->Q (.ref r) H'
theorem Qpk{U ts:List Th}{dl:List Dd}(a:Qfg U)(h:∀x∈ts,x∈U)(b:dl.length<=800)(i:Nat):Few U ts (after [] (dl.take i)):=⟨h,a.cl,a.good,a.len,by
 have:=Ii (ds:=dl.take i) (tl:=[])
 rw[T6]at this
 simp only[Sw]at this
 omega⟩
section
variable{P:Program}{w:World}{K:Gc}{mg:Str->Option Value}{base:Heap}
theorem W8.but{CP g:Addr}{H:Hp}{bk p a f d t e r:Addr}{ts:List Th}{tl:Tl}{ys zs:List V}(B:W8 P w CP g H bk p a f d t e ts tl)(c:H r=some (.lst ys))(m:r≠a)(o:r≠f)(rt:r≠t)(n:r≠e):W8 P w CP g (upd H r (.lst zs)) bk p a f d t e ts tl:=by
 obtain⟨dx,i⟩:=B.ob
 obtain⟨vs,q,s⟩:=B.to
 obtain⟨es,b,k,l,R⟩:=B.en
 have j:Qu H (upd H r (.lst zs)):=Zr λxs e=>by rw[c]at e;cases e
 exact⟨⟨dx,Qi i (Yb i c (λz=>nomatch z))⟩,B.pl.but c m o,⟨vs,Qi q (Gq rt),s.Qm j⟩,⟨es,b,Qi k (Gq n),L2.Paired.Z8 l λ_ _ h=>h.Qm j,R⟩,B.ta,B.tf,B.te,B.ea,B.ef⟩
theorem FrA.Qm{CP g:Addr}{H H':Hp}{bk p a f d t e:Addr}{ts:List Th}{tl:Tl}(F:FrA bk a f d t H H')(B:W8 P w CP g H bk p a f d t e ts tl):Qu H H':=λb xs c=>by
 obtain⟨dx,i⟩:=B.ob
 obtain⟨us,k,_⟩:=B.pl.th
 obtain⟨n,l,_⟩:=B.pl.fo
 obtain⟨kvs,h,_⟩:=B.pl.kn
 obtain⟨vs,j,m⟩:=B.to
 exact F.keep _ _ c (Yb c i (λz=>nomatch z)) (Yb c k (λz=>nomatch z)) (Yb c l (λz=>nomatch z)) (Yb c h.at_ (λz=>nomatch z)) (Yb c j (λz=>nomatch z))
theorem FrA.lst{CP g:Addr}{H H':Hp}{bk p a f d t e:Addr}{ts:List Th}{tl:Tl}(F:FrA bk a f d t H H')(B:W8 P w CP g H bk p a f d t e ts tl){c:Addr}{xs:List V}(b:H c=some (.lst xs))(h1:c≠a)(h2:c≠f)(i:c≠t):H' c=some (.lst xs):=by
 obtain⟨dx,j⟩:=B.ob
 obtain⟨kvs,h,_⟩:=B.pl.kn
 exact F.keep _ _ b (Yb b j (λz=>nomatch z)) h1 h2 (Yb b h.at_ (λz=>nomatch z)) i
theorem Qea:Qx ["deeds","book"] ["deeds"] (Qk J1):=⟨Xb,Xb,Xb,by decide+kernel,Xb,by decide+kernel,by decide+kernel⟩
theorem Q0i:(["deed","book"]:List Str).Nodup:=by decide+kernel
theorem Qjr{f0 fI fA CP C:Addr}{fd aa Z:FuncData}(F:W5 K "answers" "answers" J1 f0 fd)(T:Qdw K mg C)(aj:Mk K C fI)(GI:Qt P w K mg base Z7 3 fI aa ["self"] (Qcq P w CP C))(bI:Binds K aa ["self"] [])
  (mA:Z9 K C "answer" fA)(GA:Qt P w K mg base Z7 63 fA Z ["self","deed"] (Oa P w CP C))(bA:Binds K Z ["self","deed"] []):Qt P w K mg base Z7 64 f0 fd ["deeds"] Qjz:=by
 refine F.ok Qea (λvs H Q E h=>?_) (λcdv A outer s H vs Q E hr h=>?_)
 ·obtain⟨l,es,dl,U,rfl,_⟩:=h
  rfl
 obtain⟨l,es,dl,U,rfl,hl,ab,hU,ac,ae,q⟩:=h
 have au:Yc 4 _:=hr.mono (by omega)
 have nd:=Qea.nd
 refine⟨_,Qd (Ql (i:=1) nd rfl (Or.inr Xb) (Qbv aj GI au rfl T.mgC bI .nil Q5))
  (Qh (Qy (Vw (te:=Qib C "answer" (Oa P w CP C) [] E0 (V2 1) (Qe2 (V2 0) Qnq)) (own:=["deed"]) (fv:=[(1,"book")]) rfl (S:=(⟨by rfl,by decide+kernel,by decide+kernel,by decide+kernel⟩:Wc (Qk J1) _)) (.cons rfl (Or.inl Xb) rfl .nil)
   (Yp (pv 0)) (λ_ _ _ _ _=>Qr (i:=0) Q0i rfl (Or.inl Xb) (Or.inr Xb)) (λ_ _ _ _ _=>Wa) (λ_ _ _ _ _=>Q9 (pv 1) T.cl mA GA hr bA .nil Q5 (Qa (pv 0) Qe))))),?_⟩
 intro bk dx N an aD
 have s0:Q3 H (upd (upd H dx (.own bk)) bk (.ins C dx [])):=λc o e=>Qi (Qi e (Qc e an)) (Qc e N)
 refine⟨bk,dx,Xb,Qb,λp a f d t e H1 W k1 ha hf hd ht he=>⟨Xb,?_⟩⟩
 have g1:Q3 H H1:=λb o B=>k1 b o (s0 _ _ B) (Qc B N)
 have al:=s0.free ha
 have ap:=s0.free hf
 have am:=s0.free hd
 have av:=s0.free ht
 refine⟨_,Xb,l,Xb,⟨_,Zd.of (g1 _ _ hl)⟩,λr n=>?_⟩
 obtain⟨us,u1,_⟩:=W.pl.th
 obtain⟨ws,w1,_⟩:=W.pl.fo
 obtain⟨aF,t1,_⟩:=W.to
 obtain⟨aB,aA,e1,_⟩:=W.en
 have ra:r≠a:=Gq (Qc u1 n)
 have rf:r≠f:=Gq (Qc w1 n)
 have rt:r≠t:=Gq (Qc t1 n)
 have re:r≠e:=Gq (Qc e1 n)
 have s2:=Qg n (.lst [])
 have aw:es.length=dl.length:=Gs ab
 refine Qac (K:=K) (a:=l) (xs:=es) (small (by omega)) (λi ys σ H2=>∃(x0:Option V)(t e:Addr)(ts:List Th),σ=[x0,some (.ref bk)]/\W8 P w CP C H2 bk p a f d t e ts (after [] (dl.take i))/\(∀x∈ts,x∈U)/\Q3 H H2/\H t=none/\r≠t/\r≠e/\Qu8 H2 (λb=>b=a\/b=f\/b=t\/b=r) (dl.take i) ys)
  ⟨_,t,e,[],Xb,W.same s2,(λx j=>nomatch j),g1.trans s2,av,rt,re,(λk d v G=>by simp at G)⟩ (λi ys σ H2 _⟨_,_,_,_,_,_,_,g,_⟩=>Zd.of (g _ _ hl)) ?_ ?_
 ·rintro i y ys σ H2 hi af ⟨x0,t,e,ts,rfl,J,sub,g2,t0,rt,re,I⟩ u
  obtain⟨dd,O,hy⟩:=Qv ab hi
  obtain⟨ak,o2⟩:=J.ob
  have az:Qu H H2:=Qu.of g2
  refine⟨_,Xb,bk,ak,_,Xb,o2,Qd9 _ _ _,_,Xb,bk,p,a,f,d,t,e,ts,_,U,y,dd,Xb,J,Qpk hU sub ae i,hy.Qm az,ac dd (Gb O),λv t' e' ay X B3 hv ai F3 R ao=>?_⟩
  have r3:=F3.lst J u ra rf rt
  have ah:r≠t':=R.elim (λz=>z▸rt) (λz=>Qc u z)
  have ag:r≠e':=ao.elim (λz=>z▸re) (λz=>Qc u z)
  have g3:Q3 H X:=λb o B=>F3.keep b o (g2 _ _ B) (Qc B N) (Qc B al) (Qc B ap) (Qc B am) (Qc B t0)
  have ax:H t'=none:=R.elim (λz=>z▸t0) (λz=>g2.free z)
  obtain⟨aE,u2,_⟩:=J.pl.th
  obtain⟨aG,w2,_⟩:=J.pl.fo
  refine⟨r3,_,t',e',ay,Xb,(by rw[I9 O];exact B3.but r3 ra rf ah ag),ai,λb o B=>Qi (g3 _ _ B) (Qc B (g1.free n)),ax,ah,ag,λk dk vk G m=>?_⟩
  have M:Qu X (upd X r (.lst (ys++[v]))):=Zr λxs e=>by rw[r3]at e;cases e
  have L:∀{c:Addr}{xs:List V},X c=some (.lst xs)->¬(c=a\/c=f\/c=t'\/c=r)->(upd X r (.lst (ys++[v]))) c=some (.lst xs):=λD j=>Qi D (λz=>j (.inr (.inr (.inr z))))
  have aq:k<i+1:=by
   have:=(Ge.mp G).1
   rw[T6]at this
   omega
  have ek:(dl.take (i+1)).take k=dl.take k:=by rw[SU,Sy (by omega)]
  rw[ek]
  rw[DB aq]at G
  rcases TC k i with ar|aC
  ·rw[GQ (by omega)]at m
   have h0:=I k dk vk (by rw[DB ar];exact G) m
   rw[SU,Sy (by omega)]at h0
   have h1:=h0.ex (Y:=λb=>b=a\/b=f\/b=t\/b=t'\/b=r) λc xs D j z=>by
    rcases z with z|z|z|z|z
    ·exact j (.inl z)
    ·exact j (.inr (.inl z))
    ·exact j (.inr (.inr (.inl z)))
    ·rcases R with w3|w3
     ·exact j (.inr (.inr (.inl (z.trans w3))))
     ·rw[z,w3]at D;cases D
    ·exact j (.inr (.inr (.inr z)))
   have h2:=h1.kp (F3.Qm J) λ{c xs}D j=>F3.lst J D (λz=>j (.inl z)) (λz=>j (.inr (.inl z))) (λz=>j (.inr (.inr (.inl z))))
   have h3:=h2.ex (Y:=λb=>b=a\/b=f\/b=t'\/b=r) λc xs D j z=>by
    rcases z with z|z|z|z
    ·exact j (.inl z)
    ·exact j (.inr (.inl z))
    ·exact j (.inr (.inr (.inr (.inl z))))
    ·exact j (.inr (.inr (.inr (.inr z))))
   exact h3.kp M L
  ·have ad:k=i:=by omega
   subst ad
   rw[To (by omega),af,Nat.sub_self]at m
   have m:v=vk:=by simpa using m
   subst m
   rw[O]at G
   cases G
   exact(hv.ex (Y:=λb=>b=a\/b=f\/b=t'\/b=r) λc xs D j z=>by
    rcases z with z|z|z|z
    ·exact j (.inl (by rw[z];exact⟨_,u2⟩))
    ·exact j (.inl (by rw[z];exact⟨_,w2⟩))
    ·exact j (.inr z)
    ·exact j (.inl (by rw[z];exact⟨_,u⟩))).kp M L
 ·rintro ys σ H2 af ⟨x0,t,e,ts,rfl,J,sub,g2,t0,rt,re,I⟩ u
  rw[aw,Te]at I
  exact q r ys H2 g2 (g1.free n) u (by omega) λk dk vk G m=>(I k dk vk G m).ex λc xs D j z=>j (.inr (.inr (.inr z)))
theorem Qak:Qx ["deeds","book","deed"] ["deeds"] (Qk U7):=⟨Xb,Xb,Xb,by decide+kernel,Xb,by decide+kernel,by decide+kernel⟩
theorem Qfd{f0 fI fA CP k:Addr}{fd u r:FuncData}(F:W5 K "book_after" "book_after" U7 f0 fd)(T:Qdw K mg k)(M:Mk K k fI)(GI:Qt P w K mg base Z7 3 fI u ["self"] (Qcq P w CP k))(bI:Binds K u ["self"] [])
  (mA:Z9 K k "answer" fA)(GA:Qt P w K mg base Z7 63 fA r ["self","deed"] (Oa P w CP k))(bA:Binds K r ["self","deed"] []):Qt P w K mg base Z7 64 f0 fd ["deeds"] (Qar P w CP k):=by
 refine F.ok Qak (λvs H Q E h=>?_) (λcdv A outer s H vs Q E hr h=>?_)
 ·obtain⟨l,es,dl,U,rfl,_⟩:=h
  rfl
 obtain⟨l,es,dl,U,rfl,hl,D,hU,G,I,q⟩:=h
 have X:Yc 4 _:=hr.mono (by omega)
 have nd:=Qak.nd
 refine⟨_,Qd (Ql (i:=1) nd rfl (Or.inl Xb) (Qbv M GI X rfl T.mgC bI .nil Q5))
  (Qd (Ye GX rfl (Yp (pv 0)) (Qr (i:=2) nd rfl (Or.inl Xb)) (Qh (Zb (Q9 (pv 1) T.cl mA GA hr bA .nil Q5 (Qa (pv 2) Qe)))))
  (Qh (Qy (pv 1)))),?_⟩
 intro bk dx m S ac
 have J:Q3 H (upd (upd H dx (.own bk)) bk (.ins k dx [])):=λc o e=>Qi (Qi e (Qc e S)) (Qc e m)
 refine⟨bk,dx,Xb,Qb,λp a f d t e H1 B1 k1 ha hf hd ht he=>⟨Xb,?_⟩⟩
 have g1:Q3 H H1:=λb o j=>k1 b o (J _ _ j) (Qc j m)
 have O:=J.free ha
 have W:=J.free hf
 have R:=J.free hd
 have Z:es.length=dl.length:=Gs D
 refine⟨_,Xb,l,Xb,⟨_,Zd.of (g1 _ _ hl)⟩,Y2 (K:=K) (a:=l) (xs:=es) (λi σ H2=>∃(x2:Option V)(t e:Addr)(ts:List Th),σ=[some (.ref l),some (.ref bk),x2]/\W8 P w CP k H2 bk p a f d t e ts (after [] (dl.take i))/\(∀x∈ts,x∈U)/\Q3 H H2/\H t=none)
  ⟨_,t,e,[],Xb,B1,(λx hx=>nomatch hx),g1,J.free ht⟩ (λi σ H2 _⟨_,_,_,_,_,_,_,g,_⟩=>Zd.of (g _ _ hl)) ?_ ?_⟩
 ·rintro i y σ H2 hi ⟨x2,t,e,ts,rfl,n,sub,B,t0⟩
  obtain⟨dd,C,hy⟩:=Qv D hi
  obtain⟨N,o2⟩:=n.ob
  refine⟨_,Xb,bk,N,_,Xb,o2,Qd9 _ _ _,_,Xb,bk,p,a,f,d,t,e,ts,_,U,y,dd,Xb,n,Qpk hU sub I i,hy.Qm (Qu.of B),G dd (Gb C),λv t' e' aa H3 B3 hv L F3 Y ab=>?_⟩
  exact⟨_,t',e',aa,Xb,(by rw[I9 C];exact B3),L,λb o j=>F3.keep b o (B _ _ j) (Qc j m) (Qc j O) (Qc j W) (Qc j R) (Qc j t0),Y.elim (λz=>z▸t0) (λz=>B.free z)⟩
 ·rintro σ H2 ⟨x2,t,e,ts,rfl,n,sub,B,t0⟩
  rw[Z,Te]at n
  exact⟨_,Xb,q bk p a f d t e ts H2 B n sub⟩
theorem Qhk:Qx ["deeds"] ["deeds"] (Qk Uv):=⟨Xb,Xb,Xb,by decide+kernel,Xb,by decide+kernel,by decide+kernel⟩
theorem Qge{n j CP i:Addr}{fd b:FuncData}(F:W5 K "told_after" "told_after" Uv n fd)(T:Qdw K mg i)(o:Qt P w K mg base Z7 64 j b ["deeds"] (Qar P w CP i))(z:PySem.W.keepIn K (.ref j)=true)(r:Binds K b ["deeds"] [])(B:mg "book_after"=some (.ref j)):Qt P w K mg base Z7 65 n fd ["deeds"] Qf4:=by
 refine F.ok Qhk (λvs H Q E h=>?_) (λcdv A outer s H vs Q E y h=>?_)
 ·obtain⟨l,es,dl,U,rfl,_⟩:=h
  rfl
 obtain⟨l,es,dl,U,rfl,x,k,v,c,g,q⟩:=h
 refine⟨_,Qh (Qy (Qn (Z6 o y rfl B z r .nil Q5 (Qa (pv 0) Qe)) rfl)),?_⟩
 refine⟨_,Xb,l,es,dl,U,Xb,x,k,v,c,g,λbk p a f d t e ts H1 u m sub=>?_⟩
 obtain⟨dx,C⟩:=m.ob
 obtain⟨vs,D,G⟩:=m.to
 exact⟨bk,i,dx,_,_,Xb,C,T.cl,T.told,Qbh _ _ _,q t vs H1 u D G⟩
theorem Qrr{m:Addr}{fd:FuncData}{k:Nat}{ps:List Str}(G:Qt P w K mg base Z7 k m fd ps Qjz):Qt P w K mg base Z7 k m fd ps O3:=by
 have imp:∀vs H Q E,O3 vs H Q E->Qjz vs H Q E:=by
  rintro vs H Q E ⟨l,es,dl,U,h1,h2,t,u,x,C,q⟩
  refine⟨l,es,dl,U,h1,h2,t,u,x,by omega,λr i H' g _ z j ok=>q r i H' g z ?_⟩
  have y:(Rr [] dl).length=dl.length:=Os [] dl
  have key:∀{i:List V}{e:List V},i.length=e.length->(∀(k:Nat)v h,i[k]?=some v->e[k]?=some h->Qc8 H' v h)->Paired (Qc8 H') i e:=by
   intro i
   induction i with
   |nil=>intro e j _;cases e with
    |nil=>exact .nil
    |cons _ _=>simp at j
   |cons v i B=>
    intro e j f
    cases e with
    |nil=>simp at j
    |cons h e=>exact .cons (f 0 v h rfl rfl) (B (by simpa using j) λk v h h1 h2=>f (k+1) v h h1 h2)
  refine key (by omega) λk v h p n=>?_
  have o:k<dl.length:=by rw[<-j];exact(Ge.mp p).1
  have:=(ok k _ v (Gg o) p).head
  rw[O0 (Gg o)]at n
  cases n
  exact this
 exact⟨λvs H Q E h=>G.1 vs H Q E (imp vs H Q E h),λA outer s H args us vs Q E a b c d h=>G.2 A outer s H args us vs Q E a b c d (imp vs H Q E h)⟩
theorem Qn6{e:Addr}{fd:FuncData}{k:Nat}{ps:List Str}(G:Qt P w K mg base Z7 k e fd ps Qf4):Qt P w K mg base Z7 k e fd ps Qj1:=by
 have imp:∀vs H Q E,Qj1 vs H Q E->Qf4 vs H Q E:=by
  rintro vs H Q E ⟨l,es,dl,U,h1,h2,f,g,i,j,q⟩
  exact⟨l,es,dl,U,h1,h2,f,g,i,by omega,q⟩
 exact⟨λvs H Q E h=>G.1 vs H Q E (imp vs H Q E h),λA outer s H args us vs Q E a b c d h=>G.2 A outer s H args us vs Q E a b c d (imp vs H Q E h)⟩
end
open PySem L2 Sb
structure Blt(mg:Str->Option Value):Prop where
 len:mg "len"=none
 min:mg "min"=none
 abs:mg "abs"=none
 list:mg "list"=none
 tuple:mg "tuple"=none
 str:mg "str"=none
 bool:mg "bool"=none
 int:mg "int"=none
 isinstance:mg "isinstance"=none
 range:mg "range"=none
 reversed:mg "reversed"=none
def Qls:Stmt->List Stmt
 |.While _ b _ _=>b
 |_=>[]
abbrev cSt(i:Nat):Stmt:=(Ve Wg).getD i (.Pass ⟨0,0,0,0⟩)
abbrev Qyt:Stmt:=(Qls (cSt 7)).getD 1 (.Pass ⟨0,0,0,0⟩)
abbrev Qyj:Stmt:=(Qls (cSt 7)).getD 2 (.Pass ⟨0,0,0,0⟩)
abbrev cN:List Str:=["_law_told","_law_things","_law_todo","_law_word","_law_one","_law_other","_law_leaders","_law_part","_law_pairs","_law_names","_law_going","_law_k","_law_j","_law_two","_law_inner","_law_old","_law_name"]
theorem V9:Qx cN ["_law_told","_law_things"] (Qk Wg):=⟨Xb,Xb,Xb,by decide+kernel,Xb,by decide+kernel,by decide+kernel⟩
theorem nd2:(["_law_part","_law_leaders"]:List Str).Nodup:=by decide+kernel
def Good(tl:Tl)(S:List Th)(a:List (Th×Th)):Prop:=∀p∈a,p.1∈S/\p.2∈S/\Cg tl p.1 p.2
def Snd(tl:Tl)(S:List Th)(L:Th->Int):Prop:=∀x∈S,∀y∈S,L x=L y->Cg tl x y
def Crs(S:List Th)(L a:Th->Int):Prop:=∀x∈S,∀y∈S,L x=L y->a x=a y
abbrev s4(j k l m n o:Option V)(d:Addr)(p:Option V)(pl i:Addr)(g:Bool)(a b c e f h:Option V):St:=[j,k,l,m,n,o,some (.ref d),p,some (.ref pl),some (.ref i),some (.bl g),a,b,c,e,f,h]
section
variable{P:Program}{w:World}{K:Gc}{mg:Str->Option Value}{base:Heap}{f:Addr}{cdv:Value}{A:Around}{outer:List Env}{s:Shared}{Hi:Hp}{E:XK}
abbrev XC(P:Program)(w:World)(K:Gc)(mg:Str->Option Value)(base:Heap)(f:Addr)(cdv:Value)(A:Around)(outer:List Env)(s:Shared)(Hi:Hp)(E:XK):Cx:=(Qh3 Z7 P w K mg base cN "_law_classes" (Qk Wg) f cdv A outer s Hi E).nox
theorem Qmj(hu:(XC P w K mg base f cdv A outer s Hi E).A.units+64<cLine):∃t,PS (XC P w K mg base f cdv A outer s Hi E) Qyj t/\∀(tl:Tl)(S:List Th)(L:Th->Int)(d pl U:Addr)(pq nv:List V)(m:List (Th×Th))(H0:Hp)(x0 x1 x2 x3 x7:Option V)
  (hN:Num P w H0 d S L)(R:H0 pl=some (.lst pq))(ac:Ot H0 pq m)(aa:H0 U=some (.lst nv))(ab:Zn H0 nv S)(hG:Good tl S m)(hS:Snd tl S L)(ae:S.length<=3000),
  Tr t
   (λσ H=>H=H0/\∃W X v B C F q l,σ=s4 x0 x1 x2 x3 W X d x7 pl U false v B C F q l)
   (λσ H=>∃g b W X v B C F q l,σ=s4 x0 x1 x2 x3 W X d x7 pl U g v B C F q l/\Jm d H0 H/\Num P w H d S b/\Snd tl S b/\Crs S L b/\(∀p∈m,b p.1=b p.2)/\(g=false->∀t∈S,b t=L t)/\(g=true->∃x∈S,∃y∈S,L x≠L y/\b x=b y)):=by
 have nd:=V9.nd
 refine⟨_,(Ye GX rfl (Yp (pv 8)) (W9 rfl (Zj (Qr (i:=4) nd rfl (Or.inl Xb)) (Zj (Qr (i:=5) nd rfl (Or.inl Xb)) Xz)))
  (Qd (Ql (i:=15) nd rfl (Or.inl Xb) (Qo (Ug hu) (pv 6) (pv 4) (λ_ _=>rfl)))
  (Qh (Zm (Qs Jq (pv 15) (Qo (Ug hu) (pv 6) (pv 5) (λ_ _=>rfl)) (Q7 _))
  (Qd (Ql (i:=10) nd rfl (Or.inl Xb) W0)
  (Qh (Ye GX rfl (Yp (pv 9)) (Qr (i:=16) nd rfl (Or.inl Xb))
  (Qh (Zm (Qs Wf (Qo (Ug hu) (pv 6) (pv 16) (λ_ _=>rfl)) (pv 15) (Q7 _))
  (Qh (Qaa (Qo (Ug hu) (pv 6) (pv 5) (λ_ _=>rfl)) (Qb9 (pv 6) (pv 16) (Qdn hu)))) Q8))))) Q8)))),?_⟩
 intro tl S L d pl U pq nv m H0 x0 x1 x2 x3 x7 hN R ac aa ab hG hS ae
 rintro D σ H ⟨rfl,W,X,v,B,C,F,q,l,rfl⟩ k
 obtain⟨od,Q⟩:=hN.at
 have am:pl≠d:=Zu R Q (by intro z;cases z)
 have ah:U≠d:=Zu aa Q (by intro z;cases z)
 refine⟨_,Xb,pl,Xb,⟨_,Zd.of R⟩,Y2 (K:=K) (a:=pl) (xs:=pq) (λi σ H1=>∃g b W X q l,σ=s4 x0 x1 x2 x3 W X d x7 pl U g v B C F q l/\Jm d H H1/\Num P w H1 d S b/\Snd tl S b/\Crs S L b/\(∀p∈m.take i,b p.1=b p.2)/\(g=false->∀t∈S,b t=L t)/\(g=true->∃x∈S,∃y∈S,L x≠L y/\b x=b y))
  ⟨false,L,W,X,q,l,Xb,Jm.refl,hN,hS,λ_ _ _ _ e=>e,by simp,λ_ _ _=>rfl,λe=>by cases e⟩ (λi σ H1 _⟨_,_,_,_,_,_,_,O,_⟩=>Zd.of (O _ _ R am)) ?_ ?_⟩
 ·rintro i x σ H1 hi ⟨g,b,W,X,q,l,rfl,O,N,snd,G,dn,gf,gt⟩
  obtain⟨⟨u1,M⟩,eu,a',v1,v2,rfl,ak,t1,t2⟩:=Qv ac hi
  have tu:Qu H H1:=O.Qm Q (λxs z=>by cases z)
  obtain⟨b1,_,_,_,rfl,_,_,_⟩:=t1.inv
  obtain⟨b2,_,_,_,rfl,_,_,_⟩:=t2.inv
  have t1:=t1.Qm tu
  have t2:=t2.Qm tu
  obtain⟨m1,m2,mc⟩:=hG (u1,M) (Gb eu)
  have tk:m.take (i+1)=m.take i++[(u1,M)]:=by rw[Tf,eu];rfl
  refine⟨a',_,Xb,Z4.of (tu _ _ ak),Xb,_,_,Xb,_,_,Xb,Xb,?_⟩
  refine⟨_,Xb,_,Xb,N.get m1 t1 ?_⟩
  refine⟨_,Xb,_,Xb,_,Xb,N.get m2 t2 ⟨Xb,_,Xb,?_⟩⟩
  rw[Vd]
  refine Ur (λc=>?_) (λc=>?_)
  ·have c:b u1≠b M:=by simpa using c
   generalize ho:b u1=o at*
   generalize hn:b M=n at*
   have al:∀t,mrg b o n t≠o:=λt z=>by
    unfold mrg at z
    split at z
    ·exact c z.symm
    ·rename_i h;exact h z
   have ad:mrg b o n M=n:=by unfold mrg;rw[Gj (by rw[hn];exactλz=>c z.symm)];exact hn
   have ag:=O _ _ aa ah
   refine⟨_,Xb,U,Xb,⟨_,Zd.of ag⟩,Y2 (K:=K) (a:=U) (xs:=nv) (λj σ H2=>∃L2 l,σ=s4 x0 x1 x2 x3 (some (.ref b1)) (some (.ref b2)) d x7 pl U true v B C F (some (.int o)) l/\Jm d H1 H2/\Num P w H2 d S L2/\(∀t∈S,L2 t=b t\/L2 t=mrg b o n t)/\(∀t∈S.take j,L2 t=mrg b o n t))
    ⟨b,_,Xb,Jm.refl,N,λt _=>.inl Xb,by simp⟩ (λj σ H2 _⟨_,_,_,r,_⟩=>Zd.of (r _ _ ag ah)) ?_ ?_⟩
   ·rintro j y σ H2 hj ⟨L2,l,rfl,r,N2,l1,l2⟩
    obtain⟨u0,e0,J⟩:=ab.get hj
    have T:=Gb e0
    have an:Qu H H2:=(O.trans r).Qm Q (λxs z=>by cases z)
    obtain⟨b0,_,_,_,rfl,_,_,_⟩:=J.inv
    have J:=J.Qm an
    have ai:S.take (j+1)=S.take j++[u0]:=by rw[Tf,e0];rfl
    refine⟨_,Xb,_,Xb,N2.get T J ⟨_,Xb,Xb,_,Xb,?_⟩⟩
    rw[Vd]
    refine Ur (λY=>?_) (λY=>?_)
    ·have Y:L2 u0=o:=by simpa using Y
     have e2:L2 M=n:=by
      rcases l1 M m2 with z|z
      ·rw[z,hn]
      ·rw[z,ad]
     have Z:mrg b o n u0=n:=by
      rcases l1 u0 T with z|z
      ·unfold mrg;rw[Gp (by rw[<-z];exact Y)]
      ·exact absurd (z.symm.trans Y) (al u0)
     refine⟨_,Xb,_,Xb,N2.get m2 (t2.Qm (r.Qm N.at.choose_spec (λxs z=>by cases z))) ⟨_,rfl,_,rfl,N2.put (by omega) T J λH3 aj N3=>?_⟩⟩
     refine⟨_,_,Xb,r.trans aj,N3,λt I=>?_,λt I=>?_⟩
     ·by_cases z:t=u0
      ·subst z;right;rw[Gp Xb,e2,Z]
      ·rw[Gj z];exact l1 t I
     ·by_cases z:t=u0
      ·subst z;rw[Gp Xb,e2,Z]
      ·rw[Gj z]
       rw[ai,Gd,Gx]at I
       exact l2 t (I.resolve_right z)
    ·have Y:L2 u0≠o:=by simpa using Y
     refine⟨_,_,Xb,r,N2,l1,λt I=>?_⟩
     rw[ai,Gd,Gx]at I
     rcases I with I|I
     ·exact l2 t I
     ·subst I
      rcases l1 t T with z|z
      ·rw[z];unfold mrg;rw[Gj (by rw[<-z];exact Y)]
      ·exact z
   ·rintro σ H2 ⟨L2,l,rfl,r,N2,l1,l2⟩
    rw[ab.length,Te]at l2
    have ml:∀x∈S,L2 x=mrg b o n x:=l2
    refine⟨true,L2,_,_,_,_,Xb,O.trans r,N2,?_,?_,?_,(λe=>by cases e),λ_=>?_⟩
    ·intro x hx y J e
     rw[ml x hx,ml y J]at e
     rw[<-ho,<-hn]at e
     exact Qnj m1 m2 snd mc x hx y J e
    ·intro x hx y J e
     rw[ml x hx,ml y J]
     exact Qp4 (G x hx y J e)
    ·intro p u
     rw[tk,Gd,Gx]at u
     rcases u with u|u
     ·have af:=hG p (Dp u)
      rw[ml _ af.1,ml _ af.2.1]
      exact Qp4 (dn p u)
     ·subst u
      show L2 u1=L2 M
      rw[ml _ m1,ml _ m2,ad]
      unfold mrg
      rw[Gp ho]
    ·refine⟨u1,m1,M,m2,λz=>c ?_,?_⟩
     ·have:=G u1 m1 M m2 z
      rw[ho,hn]at this
      exact this
     ·rw[ml _ m1,ml _ m2,ad]
      unfold mrg
      rw[Gp ho]
  ·have c:b u1=b M:=by simpa using c
   refine⟨g,b,_,_,_,_,Xb,O,N,snd,G,λp u=>?_,gf,gt⟩
   rw[tk,Gd,Gx]at u
   rcases u with u|u
   ·exact dn p u
   ·subst u;exact c
 ·rintro σ H1 ⟨g,b,W,X,q,l,rfl,O,N,snd,G,dn,gf,gt⟩
  have e:m.take pq.length=m:=by rw[show pq.length=m.length from Gs ac,Te]
  rw[e]at dn
  exact k _ _ ⟨g,b,_,_,_,_,_,_,_,_,Xb,O,N,snd,G,dn,gf,gt⟩
end
open PySem L2 Sb
def Cgt(L:Th->Int)(u v:Th):Prop:=∃w ps a,u=.mk w ps/\v=.mk w a/\ps.map L=a.map L
theorem Qw7{tl:Tl}{S:List Th}{L:Th->Int}(cl:∀w ps,Th.mk w ps∈S->∀p∈ps,p∈S)(hS:Snd tl S L){w:Str}{ps a:List Th}(h1:Th.mk w ps∈S)(h2:Th.mk w a∈S)(e:ps.map L=a.map L):Cg tl (.mk w ps) (.mk w a):=by
 refine .cong (CgL.of (by have:=congrArg List.length e;simpa using this) λi p q c d=>?_)
 have b:(ps.map L)[i]?=(a.map L)[i]?:=by rw[e]
 rw[GY,GY,c,d]at b
 exact hS p (cl _ _ h1 p (Gb c)) q (cl _ _ h2 q (Gb d)) (TF b)
section
variable{P:Program}{w:World}{K:Gc}{mg:Str->Option Value}{base:Heap}{f:Addr}{cdv:Value}{A:Around}{outer:List Env}{s:Shared}{Hi:Hp}{E:XK}
theorem Qhp(B:Blt mg)(U:(XC P w K mg base f cdv A outer s Hi E).A.units+64<cLine):∃t,PS (XC P w K mg base f cdv A outer s Hi E) Qyt t/\∀(tl:Tl)(S:List Th)(L:Th->Int)(d pl W:Addr)(pq nv:List V)(x:List (Th×Th))(H0:Hp)(x0 x1 x2 x3 x5 x7:Option V)
  (hN:Num P w H0 d S L)(ab:H0 pl=some (.lst pq))(aq:Ot H0 pq x)(ah:H0 W=some (.lst nv))(aa:Zn H0 nv S)(am:W≠pl)(hG:Good tl S x)(hS:Snd tl S L)(cl:∀w ps,Th.mk w ps∈S->∀p∈ps,p∈S)(hsz:∀t∈S,t.size<=3000)(al:S.length<=3000)(az:x.length<=3000),
  Tr t
   (λσ H=>H=H0/\∃J y m g l G I,σ=s4 x0 x1 x2 x3 J x5 d x7 pl W false y m g l G I)
   (λσ H=>∃q b J y m g l G I,σ=s4 x0 x1 x2 x3 J x5 d x7 pl W false y m g l G I/\Jm pl H0 H/\H pl=some (.lst q)/\Ot H q b/\Good tl S b/\(∀p∈x,p∈b)/\
    (∀(k j:Nat)u v,j<k->S[k]?=some u->S[j]?=some v->Cgt L u v->(u,v)∈b)):=by
 have nd:=V9.nd
 refine⟨_,(Ye GX rfl (Ue rfl B.range (Qa (Qp Yv rfl B.len Tj (Qa (pv 9) Qe)) Qe)) (Qr (i:=11) nd rfl (Or.inl Xb))
  (Qh (Ye GX rfl (Ue rfl B.range (Qa (pv 11) Qe)) (Qr (i:=12) nd rfl (Or.inl Xb))
  (Qd (Ql (i:=4) nd rfl (Or.inl Xb) (Qo Zh (pv 9) (pv 11) (λ_ _=>rfl)))
  (Qd (Ql (i:=13) nd rfl (Or.inl Xb) (Qo Zh (pv 9) (pv 12) (λ_ _=>rfl)))
  (Qh (Zm (PW.pt (V1 (Qs Wf (Qo Q4 (pv 4) Qj (λ_ _=>rfl)) (Qo Q4 (pv 13) Qj (λ_ _=>rfl)) (Q7 _)) (Vf (Qs Wf (Qp Yv rfl B.len Tj (Qa (pv 4) Qe)) (Qp Yv rfl B.len Tj (Qa (pv 13) Qe)) (Q7 _)))))
  (Qd (Qcd (i:=14) (own:=["_law_part"]) (fv:=[(6,"_law_leaders")]) nd rfl rfl rfl (S:=(⟨by rfl,by decide+kernel,by decide+kernel,by decide+kernel⟩:Wc (Qk Wg) _)) (.cons rfl (Or.inl Xb) rfl .nil) (U2 (Yx Ow (pv 4) (Yy Qj) Xy))
   (λ_ _ _ _ _=>Qr (i:=0) nd2 rfl (Or.inl Xb) (Or.inr Xb)) (λ_ _ _ _ _=>Wa) (λ_ _ _ _ _=>(Qo (r:=Qho P w) (Ug U) (pv 1) (pv 0) (λ_ _=>rfl))))
  (Qh (Zm (Qs (Qq6 U) (pv 14) (Vw (own:=["_law_part"]) (fv:=[(6,"_law_leaders")]) rfl (S:=(⟨by rfl,by decide+kernel,by decide+kernel,by decide+kernel⟩:Wc (Qk Wg) _)) (.cons rfl (Or.inl Xb) rfl .nil) (U2 (Yx Ow (pv 13) (Yy Qj) Xy))
   (λ_ _ _ _ _=>Qr (i:=0) nd2 rfl (Or.inl Xb) (Or.inr Xb)) (λ_ _ _ _ _=>Wa) (λ_ _ _ _ _=>(Qo (r:=Qho P w) (Ug U) (pv 1) (pv 0) (λ_ _=>rfl)))) (Q7 _))
  (Qh (Zb (Xr Gy Tc Tk Z2 (pv 8) (Qa (Za (Qa (pv 4) (Qa (pv 13) Qe))) Qe)))) Q8))) Q8))))))),?_⟩
 intro tl S L d pl W pq nv x H0 x0 x1 x2 x3 x5 x7 hN ab aq ah aa am hG hS cl hsz al az
 rintro D σ H ⟨rfl,J,y,m,g,l,G,I,rfl⟩ kk
 obtain⟨od,ak⟩:=hN.at
 have aC:d≠pl:=λz=>by rw[z,ab]at ak;cases ak
 have aH:=aa.length
 refine⟨_,Xb,_,_,Xb,.inl ⟨nv,Zd.of ah,Xb⟩,_,Xb,by omega,by omega,Ud (lo:=0) (n:=((nv.length:Int)).toNat) (λi σ H1=>∃q b J y m g l,σ=s4 x0 x1 x2 x3 J x5 d x7 pl W false y m g l G I/\Jm pl H H1/\H1 pl=some (.lst q)/\Ot H1 q b/\Good tl S b/\(∀p∈x,p∈b)/\
    (∀(k j:Nat)u v,k<i->j<k->S[k]?=some u->S[j]?=some v->Cgt L u v->(u,v)∈b)/\b.length<=3000+i*3000)
  ⟨pq,x,J,y,m,g,l,Xb,Jm.refl,ab,aq,hG,λ_ h=>h,λk j u v h=>by omega,by omega⟩ ?_ ?_⟩
 ·rintro i σ H1 hi ⟨ai,X,J,y,m,g,l,rfl,R,T,Z,g3,g4,g5,g6⟩
  have hi:i<S.length:=by omega
  refine⟨_,Xb,_,Xb,by omega,by omega,Ud (lo:=0) (n:=((0+(i:Int))).toNat) (λj σ H2=>∃q b J m g l,σ=s4 x0 x1 x2 x3 J x5 d x7 pl W false (some (.int (0+(i:Int)))) m g l G I/\Jm pl H H2/\H2 pl=some (.lst q)/\Ot H2 q b/\Good tl S b/\(∀p∈x,p∈b)/\
    (∀(k j:Nat)u v,k<i->j<k->S[k]?=some u->S[j]?=some v->Cgt L u v->(u,v)∈b)/\(∀(Q:Nat)u v,Q<j->S[i]?=some u->S[Q]?=some v->Cgt L u v->(u,v)∈b)/\b.length<=3000+i*3000+j)
   ⟨ai,X,J,m,g,l,Xb,R,T,Z,g3,g4,g5,λQ u v h=>by omega,by omega⟩ ?_ ?_⟩
  ·rintro j σ H2 hj ⟨M,C,J,m,g,l,rfl,R,T,Z,g3,g4,g5,g6,g7⟩
   have hj:j<i:=by omega
   obtain⟨v1,e1,t1⟩:=aa.at (Gg hi)
   obtain⟨v2,e2,t2⟩:=aa.at (Gg (show j<S.length by omega))
   have tu:Qu H H2:=R.Qm ab (λxs z=>by cases z)
   have N2:Num P w H2 d S L:=hN.keep (λo h=>R _ _ h aC) tu
   have ar:=R _ _ ah am
   have m1:S[i]∈S:=Sk _
   have m2:S[j]∈S:=Sk _
   have q1:S[i]?=some S[i]:=Gg _
   have q2:S[j]?=some S[j]:=Gg _
   generalize S[i]=u1 at*
   generalize S[j]=u2 at*
   obtain⟨b1,w1,aE,N,rfl,rfl,af,an⟩:=(t1.Qm tu).inv
   obtain⟨b2,w2,aF,O,rfl,rfl,ag,ao⟩:=(t2.Qm tu).inv
   have l1:=an.length
   have l2:=ao.length
   have z1:=hsz _ m1
   have z2:=hsz _ m2
   simp only[Th.size]at z1 z2
   have y1:=Zz N
   have y2:=Zz O
   refine⟨_,Xb,_,Xb,W,nv,_,_,Xb,Xb,Zd.of ar,(by rw[EL];exact Qz e1),?_⟩
   refine⟨_,Xb,_,Xb,W,nv,_,_,Xb,Xb,Zd.of ar,(by rw[EL];exact Qz e2),?_⟩
   refine⟨_,Xb,b1,_,_,_,Xb,Xb,Z4.of af,Qz (j:=0) rfl,_,Xb,b2,_,_,_,Xb,Xb,Z4.of ag,Qz (j:=0) rfl,Xb,_,Xb,?_⟩
   rw[Yf]
   have fin:∀{J g l:Option V}{H3:Hp},Q3 H2 H3->¬Cgt L (.mk w1 N) (.mk w2 O)->∃q b aG m av aw,s4 x0 x1 x2 x3 J x5 d x7 pl W false (some (.int (0+(i:Int)))) (some (.int (0+(j:Int)))) g l G I=s4 x0 x1 x2 x3 aG x5 d x7 pl W false (some (.int (0+(i:Int)))) m av aw G I/\Jm pl H H3/\H3 pl=some (.lst q)/\Ot H3 q b/\Good tl S b/\(∀p∈x,p∈b)/\
     (∀(k j:Nat)u v,k<i->j<k->S[k]?=some u->S[j]?=some v->Cgt L u v->(u,v)∈b)/\(∀(Q:Nat)u v,Q<j+1->S[i]?=some u->S[Q]?=some v->Cgt L u v->(u,v)∈b)/\b.length<=3000+i*3000+(j+1):=λ{J g l H3}sm no=>by
    refine⟨M,C,_,_,_,_,Xb,R.trans (Jm.of sm),sm _ _ T,Z.Qm (Qu.of sm),g3,g4,g5,λQ u v h U hv c=>?_,by omega⟩
    by_cases z:Q=j
    ·subst z
     rw[q1]at U
     rw[q2]at hv
     cases U
     cases hv
     exact absurd c no
    ·exact g6 Q u v (by omega) U hv c
   refine Ur (λc=>?_) (λc=>?_)
   ·have c:w1=w2:=by simpa using c
    subst c
    refine⟨_,Xb,_,_,Xb,.inr ⟨_,Z4.of af,Xb⟩,_,Xb,_,_,Xb,.inr ⟨_,Z4.of ag,Xb⟩,Xb,_,Xb,?_⟩
    rw[Vd]
    refine Ur (λc2=>?_) (λc2=>?_)
    ·refine⟨_,Xb,_,Xb,b1,_,Xb,Z4.of af,V7 _ _,λr hr=>?_⟩
     rw[Qjw]
     have s3:=Qg hr (.tup aE)
     refine⟨r,Xb,⟨_,Z4.of Qb⟩,λp Y=>?_⟩
     refine Qex (K:=K) Qb (an.same s3) (cl _ _ m1) (N2.same s3) Y (by omega) λH4 aD ax=>?_
     have ac:Q3 H2 H4:=s3.trans aD
     refine⟨_,Xb,_,Xb,_,Xb,b2,_,Xb,Z4.of (ac _ _ ag),V7 _ _,λr2 aA=>?_⟩
     rw[Qjw]
     have s5:=Qg aA (.tup aF)
     refine⟨r2,Xb,⟨_,Z4.of Qb⟩,λp2 ap=>?_⟩
     refine Qex (K:=K) Qb (ao.same (ac.trans s5)) (cl _ _ m2) (N2.same (ac.trans s5)) ap (by omega) λH6 s6 ay=>?_
     have au:Q3 H4 H6:=s5.trans s6
     have ad:=ac.trans au
     refine⟨.list ((N.map L).map PyData.int),.list ((O.map L).map PyData.int),.lst (au _ _ ax) (Qb6 _),.lst ay (Qb6 _),by simp only[PyData.canLay0];exact Qde _,by simp only[PyData.canLay0];exact Qde _,?_,_,Xb,?_⟩
     ·have:=Qci (N.map L)
      simp only[PyData.depth]
      omega
     have ev:PyData.eqv (.list ((N.map L).map PyData.int)) (.list ((O.map L).map PyData.int))=decide (N.map L=O.map L):=by
      simp only[PyData.eqv]
      exact Qic _ _
     rw[ev]
     refine Ur (λc3=>?_) (λc3=>?_)
     ·have c3:=T3 c3
      refine⟨_,Xb,.inl ⟨Xb,_,Zd.of (ad _ _ T)⟩,_,Xb,_,Xb,by show 2<=sizeLine;decide,λe he=>?_⟩
      have s7:=Qg he (.tup [.ref b1,.ref b2])
      have ae:=ad.trans s7
      have lp:M.length=C.length:=Gs Z
      have ib:i*3000<=3000*3000:=Ek _ (by omega)
      refine⟨pl,M,.ref e,Xb,Xb,ae _ _ T,by rw[Td];omega,?_⟩
      have aj:Qu H2 (upd (upd H6 e (.tup [.ref b1,.ref b2])) pl (.lst (M++[.ref e]))):=(Qu.of ae).trans (Zr λxs z=>by rw[ae _ _ T]at z;cases z)
      have aB:e≠pl:=λz=>by rw[z,ad _ _ T]at he;cases he
      refine⟨M++[.ref e],C++[(.mk w1 N,.mk w1 O)],_,_,_,_,Xb,λa o h1 h2=>by rw[Qf h2];exact ae _ _ (R _ _ h1 h2),Qb,?_,?_,λp Y=>Gi _ (g4 p Y),λk j u v h1 h2 h3 h4 h5=>Gi _ (g5 k j u v h1 h2 h3 h4 h5),λQ u v h U hv c=>?_,by rw[Gk,Gv];omega⟩
      ·refine Ym (Z.Qm aj) (.cons ⟨e,_,_,Xb,by rw[Qf aB];exact Qb,(t1.Qm tu).Qm aj,(t2.Qm tu).Qm aj⟩ .nil)
      ·intro p Y
       rcases Gd.mp Y with Y|Y
       ·exact g3 p Y
       ·rw[Gx]at Y
        subst Y
        exact⟨m1,m2,Qw7 cl hS m1 m2 c3⟩
      ·by_cases z:Q=j
       ·subst z
        rw[q1]at U
        rw[q2]at hv
        cases U
        cases hv
        exact Tn _ GJ
       ·exact Gi _ (g6 Q u v (by omega) U hv c)
     ·have c3:=of_decide_eq_false (Lb.mpr c3)
      refine fin ad ?_
      rintro⟨w',ps,qs,z1,z2,z3⟩
      cases z1
      cases z2
      exact c3 z3
    ·refine fin (λ_ _ h=>h) ?_
     rintro⟨w',ps,qs,z1,z2,z3⟩
     cases z1
     cases z2
     have:=congrArg List.length z3
     simp at this
     simp at c2
     omega
   ·refine Zq (fin (λ_ _ h=>h) ?_)
    have c:¬w1=w2:=by simpa using c
    rintro⟨w',ps,qs,z1,z2,z3⟩
    cases z1
    cases z2
    exact c rfl
  ·rintro σ H2 ⟨M,C,J,m,g,l,rfl,R,T,Z,g3,g4,g5,g6,g7⟩
   refine⟨M,C,_,_,_,_,_,Xb,R,T,Z,g3,g4,λk j u v h1 h2 h3 h4 h5=>?_,by omega⟩
   by_cases z:k=i
   ·subst z
    exact g6 j u v (by omega) h3 h4 h5
   ·exact g5 k j u v (by omega) h2 h3 h4 h5
 ·rintro σ H1 ⟨ai,X,J,y,m,g,l,rfl,R,T,Z,g3,g4,g5,g6⟩
  refine kk _ _ ⟨ai,X,_,_,_,_,_,_,_,Xb,R,T,Z,g3,g4,λk j u v h1 h2 h3 h4=>g5 k j u v ?_ h1 h2 h3 h4⟩
  have:=(Ge.mp h2).1
  omega
end
open PySem L2 Sb
section
variable{P:Program}{w:World}{K:Gc}{mg:Str->Option Value}{base:Heap}{f:Addr}{cdv:Value}{A:Around}{outer:List Env}{s:Shared}{Hi:Hp}{E:XK}
theorem Qte{S:List Th}{L:Th->Int}{b:List (Th×Th)}(h:∀(k j:Nat)u v,j<k->S[k]?=some u->S[j]?=some v->Cgt L u v->(u,v)∈b)(e:∀p∈b,L p.1=L p.2):
  ∀w ps a,Th.mk w ps∈S->Th.mk w a∈S->ps.map L=a.map L->L (.mk w ps)=L (.mk w a):=by
 intro w ps a h1 h2 f
 obtain⟨k,d⟩:=TL.mp h1
 obtain⟨j,c⟩:=TL.mp h2
 rcases Nat.lt_trichotomy j k with z|z|z
 ·exact e _ (h k j _ _ z d c ⟨w,ps,a,Xb,Xb,f⟩)
 ·subst z
  rw[d]at c
  cases c
  rfl
 ·exact(e _ (h j k _ _ z c d ⟨w,a,ps,Xb,Xb,f.symm⟩)).symm
theorem Qm5(B:Blt mg)(hu:(XC P w K mg base f cdv A outer s Hi E).A.units+64<cLine):∃t,PS (XC P w K mg base f cdv A outer s Hi E) (cSt 7) t/\∀(tl:Tl)(S:List Th)(L:Th->Int)(d pl M:Addr)(pq nv:List V)(G:List (Th×Th))(H0:Hp)(x0 x1 x2 x3 x7:Option V)
  (hN:Num P w H0 d S L)(R:H0 pl=some (.lst pq))(ag:Ot H0 pq G)(J:H0 M=some (.lst nv))(ad:Zn H0 nv S)(Z:M≠pl)(hG:Good tl S G)(hS:Snd tl S L)(cl:∀w ps,Th.mk w ps∈S->∀p∈ps,p∈S)(hsz:∀t∈S,t.size<=3000)(I:S.length<=3000)(af:G.length<=3000)
  (F:∀a b,(true,a,b)∈tl->a∈S/\b∈S/\(a,b)∈G),
  Tr t
   (λσ H=>H=H0/\∃x4 Y r u v x y C,σ=s4 x0 x1 x2 x3 x4 Y d x7 pl M true r u v x y C)
   (λσ H=>∃L',σ[6]?=some (some (.ref d))/\(∀c o,H0 c=some o->c≠d->c≠pl->H c=some o)/\Num P w H d S L'/\Tells tl S L'):=by
 have nd:=V9.nd
 obtain⟨t1,ar,av⟩:=Qhp (P:=P) (w:=w) (K:=K) (mg:=mg) (base:=base) (f:=f) (cdv:=cdv) (A:=A) (outer:=outer) (s:=s) (Hi:=Hi) (E:=E) B hu
 obtain⟨t2,au,aw⟩:=Qmj (P:=P) (w:=w) (K:=K) (mg:=mg) (base:=base) (f:=f) (cdv:=cdv) (A:=A) (outer:=outer) (s:=s) (Hi:=Hi) (E:=E) hu
 refine⟨_,Wx GX (Xs (pv 10)) (Qd (Ql (i:=10) nd rfl (Or.inl Xb) W0) (Qd ar (Qd au (Qh (Ql (i:=8) nd rfl (Or.inl Xb) (Zt Qe)))))),?_⟩
 intro tl S L d pl M pq nv G H0 x0 x1 x2 x3 x7 hN R ag J ad Z hG hS cl hsz I af F
 rintro D σ H ⟨rfl,x4,Y,r,u,v,x,y,C,rfl⟩ kk
 obtain⟨od,Q⟩:=hN.at
 have ax:d≠pl:=λz=>by rw[z,R]at Q;cases Q
 have ah:M≠d:=λz=>by rw[z,Q]at J;cases J
 refine⟨λm σ H1=>∃g l k q j x4 Y r u v x y C,σ=s4 x0 x1 x2 x3 x4 Y d x7 k M g r u v x y C/\(∀c o,H c=some o->c≠d->c≠pl->H1 c=some o)/\Num P w H1 d S l/\Snd tl S l/\
   H1 k=some (.lst q)/\Ot H1 q j/\Good tl S j/\j.length<=3000/\(∀c o,H c=some o->c≠d->c≠pl->c≠k)/\(∀a b,(true,a,b)∈tl->(a,b)∈j\/l a=l b)/\m=(if g=true then dis S l+1 else 0)/\(g=false->Ip tl S l),
  ⟨_,true,L,pl,pq,G,_,_,_,_,_,_,_,_,Xb,λc o e _ _=>e,hN,hS,R,ag,hG,af,(λ_ _ _ _ h=>h),λa b h=>.inl (F a b h).2.2,Xb,λz=>by cases z⟩,?_⟩
 rintro m σ H1 ⟨g,l,k,q,j,x4,Y,r,u,v,x,y,C,rfl,kp,N,snd,g1,g2,g3,g4,g5,g6,rfl,g7⟩
 refine⟨_,Xb,g,Xb,?_⟩
 cases g with
 |false=>
  refine Zq (kk _ _ ⟨l,Xb,kp,N,g7 Xb,snd⟩)
 |true=>
  refine Y0 ⟨λan H'=>∃m',m'<dis S l+1/\∃g l k q j x4 Y r u v x y C,an=s4 x0 x1 x2 x3 x4 Y d x7 k M g r u v x y C/\(∀c o,H c=some o->c≠d->c≠pl->H' c=some o)/\Num P w H' d S l/\Snd tl S l/\
   H' k=some (.lst q)/\Ot H' q j/\Good tl S j/\j.length<=3000/\(∀c o,H c=some o->c≠d->c≠pl->c≠k)/\(∀a b,(true,a,b)∈tl->(a,b)∈j\/l a=l b)/\m'=(if g=true then dis S l+1 else 0)/\(g=false->Ip tl S l),λan H' h=>h,?_⟩
  have aj:=kp _ _ J ah Z
  have ak:M≠k:=g5 _ _ J ah Z
  have ab:Qu H H1:=λc xs e=>kp c _ e (λz=>by rw[z,Q]at e;cases e) (λz=>by rw[z,R]at e;cases e)
  have al:=ad.Qm ab
  have ai:d≠k:=λz=>by
   obtain⟨o,ho⟩:=N.at
   rw[z,g1]at ho
   cases ho
  refine av tl S l d k M q nv j H1 x0 x1 x2 x3 Y x7 N g1 g2 aj al ak g3 snd cl hsz I g4 _ _ _ ⟨Xb,_,_,_,_,_,_,_,Xb⟩ ?_
  rintro aK H2 ⟨aq,W,y4,ay,az,aA,aB,aC,aD,rfl,O,a1,a2,a3,a4,a5⟩
  have am:Qu H1 H2:=O.Qm g1 (λxs z=>by cases z)
  have N2:Num P w H2 d S l:=N.keep (λo h=>O _ _ h ai) am
  have ap:=O _ _ aj ak
  refine aw tl S l d k M aq nv W H2 x0 x1 x2 x3 x7 N2 a1 a2 ap (al.Qm am) a3 snd I _ _ _ ⟨Xb,_,_,_,_,_,_,_,_,Xb⟩ ?_
  rintro aL H3 ⟨g',L3,z4,z5,aE,aF,aG,aH,aI,aJ,rfl,ao,N3,X,ac,b1,U,b3⟩
  refine⟨Ta _,λp n=>?_⟩
  have T:=Qg n (.lst [])
  have aa:∀c o,H c=some o->c≠d->c≠pl->H3 c=some o:=λc o e h1 h2=>ao c o (O c o (kp c o e h1 h2) (g5 c o e h1 h2)) h1
  have ae:∀c o,H c=some o->c≠d->c≠pl->c≠p:=λc o e h1 h2 z=>by
   rw[<-z,aa c o e h1 h2]at n
   cases n
  have told:∀a b,(true,a,b)∈tl->L3 a=L3 b:=λa b h=>by
   rcases g6 a b h with z|z
   ·exact b1 _ (a4 _ z)
   ·exact ac a (F a b h).1 b (F a b h).2.1 z
  cases g' with
  |false=>
   have U:=U rfl
   have e1:∀p∈W,l p.1=l p.2:=λp n=>by
    rw[<-U _ (a3 p n).1,<-U _ (a3 p n).2.1]
    exact b1 p n
   have cg:=Qte a5 e1
   refine⟨0,by omega,false,L3,p,[],[],_,_,_,_,_,_,_,_,Xb,λc o e h1 h2=>T _ _ (aa c o e h1 h2),N3.same T,X,Qb,.nil,(λp n=>nomatch n),Ta _,ae,λa b h=>.inr (told a b h),Xb,λ_=>⟨cl,λa b h=>⟨(F a b h).1,(F a b h).2.1,told a b h⟩,λw ps qs h1 h2 e=>?_⟩⟩
   rw[U _ h1,U _ h2]
   refine cg w ps qs h1 h2 ?_
   rw[<-Tw λp n=>U p (cl _ _ h1 p n),<-Tw λp n=>U p (cl _ _ h2 p n)]
   exact e
  |true=>
   have:=Qvy ac (b3 Xb)
   exact⟨dis S L3+1,by omega,true,L3,p,[],[],_,_,_,_,_,_,_,_,Xb,λc o e h1 h2=>T _ _ (aa c o e h1 h2),N3.same T,X,Qb,.nil,(λp n=>nomatch n),Ta _,ae,λa b h=>.inr (told a b h),Xb,λz=>by cases z⟩
end
open PySem L2 Sb
theorem Qfn{H:Hp}{xs:List V}{T:List Th}{t:Th}(h:Zn H xs (T++[t])):∃a x,xs=a++[x]/\Zn H a T/\Yl H x t:=by
 induction T generalizing xs with
 |nil=>
  cases h with
  |cons h1 h2=>
   cases h2
   exact⟨[],_,Xb,.nil,h1⟩
 |cons y r b=>
  cases h with
  |cons h1 h2=>
   obtain⟨a,x,e,c,d⟩:=b h2
   exact⟨_::a,x,by rw[e];rfl,.cons h1 c,d⟩
theorem Xm:∀a b:List Th,Qw (a++b)=Qw a+Qw b
 |[],b=>by simp[Qw]
 |x::a,b=>by simp only[TM,Qw,Xm a b];omega
theorem Ws:∀(l:List Th)(i:Nat),Qw (l.take i)<=Qw l
 |[],i=>by simp
 |x::l,0=>by simp[Qw]
 |x::l,i+1=>by
  have:=Ws l i
  simp only[Er,Qw]
  omega
def Jj(tl:Tl):List Th:=tl.flatMap λp=>[p.2.1,p.2.2]
theorem Oy:∀tl:Tl,Qw (Jj tl)=Qw (tl.map (·.2.1))+Qw (tl.map (·.2.2))
 |[]=>by simp[Jj,Qw]
 |p::r=>by
  have:=Oy r
  unfold Jj at this⊢
  simp only[Lh,GO,TM,Ee,Qw]at this⊢
  omega
theorem Qbw{tl:Tl}{t:Th}:t∈Jj tl↔∃p∈tl,t=p.2.1\/t=p.2.2:=by
 unfold Jj
 simp[DF]
theorem Qby:∀ds:List PyData,PyData.eqvAll ds []=ds.isEmpty
 |[]=>by simp[PyData.eqvAll]
 |_::_=>by simp[PyData.eqvAll]
theorem Qtd(b:Bool):(tw b==("same":Str))=b:=by cases b<;>decide+kernel
theorem Qdc(tl:Tl)(i:Nat)(b:Bool)(u v:Th)(h:tl[i]?=some (b,u,v)):Io (tl.take (i+1))=Io (tl.take i)++(if b then[(u,v)]else[]):=by
 unfold Io
 rw[Tf,h,List.filter_append,Tt]
 cases b<;>rfl
theorem Qn3(tl:Tl):(Io tl).length<=tl.length:=by
 unfold Io
 rw[Gn]
 exact List.length_filter_le _ _
section
variable{P:Program}{w:World}{K:Gc}{mg:Str->Option Value}{base:Heap}
theorem Qjl{f:Addr}{fd:FuncData}(F:W5 K "_law_classes" "_law_classes" Wg f fd)(B:Blt mg):Qt P w K mg base Z7 1 f fd ["_law_told","_law_things"] (Qad P w):=by
 refine F.ok V9 (λvs H Q E h=>?_) (λcdv A outer s H vs Q E hr h=>?_)
 ·obtain⟨a,b,us,Z,tl,ts,rfl,_⟩:=h
  rfl
 obtain⟨a,b,us,Z,tl,ts,rfl,ha,ag,hb,aP,ax,aw,hsz,q⟩:=h
 have nd:=V9.nd
 have hu:=hr.units
 obtain⟨t7,aR,aS⟩:=Qm5 (P:=P) (w:=w) (K:=K) (mg:=mg) (base:=base) (f:=f) (cdv:=cdv) (A:=A) (outer:=outer) (s:=s) (Hi:=H) (E:=E) B hu
 refine⟨_,(Qd (Ql (i:=2) nd rfl (Or.inl Xb) (Xn Vb rfl B.list TY (Qa (pv 1) Qe)))
  (Qd (Ye GX rfl (Yp (pv 0)) (W9 rfl (Zj (Qr (i:=3) nd rfl (Or.inl Xb)) (Zj (Qr (i:=4) nd rfl (Or.inl Xb)) (Zj (Qr (i:=5) nd rfl (Or.inl Xb)) Xz))))
  (Qh (Ql (i:=2) nd rfl (Or.inl Xb) (Zp V0 (pv 2) (Zt (Qa (pv 4) (Qa (pv 5) Qe)))))))
  (Qd (Ql (i:=6) nd rfl (Or.inr Xb) R5)
  (Qd (Wx GX (Qs (Qpo hu) (pv 2) (Zt Qe) (Q7 _))
  (Qd (Ql (i:=7) nd rfl (Or.inl Xb) (Qcf Gy D9 Ea Qds (pv 2)))
  (Qh (Zm (Qs (Qb0 hu) (pv 7) (pv 6) rfl)
  (Qd (Qaa (Qp Qjd rfl B.len Tj (Qa (pv 6) Qe)) (Qb9 (pv 6) (pv 7) (Qdn hu)))
  (Qh (Ql (i:=2) nd rfl (Or.inl Xb) (Zp V0 (pv 2) (Xn Vb rfl B.list TY (Qa (Yx Ow (pv 7) (Yy Qj) Xy) Qe)))))) Q8))))
  (Qd (Qcd (i:=8) (own:=["_law_deed"]) (fv:=[]) nd rfl rfl rfl (S:=(⟨by rfl,by decide+kernel,by decide+kernel,by decide+kernel⟩:Wc (Qk Wg) _)) .nil (Yp (pv 0))
   (λ_ _ _ _ _=>Qr (i:=0) (nd1 _) rfl (Or.inl Xb) (Or.inr Xb)) (λ_ _ _ _ _=>Qqm (Qs Wf (Qo (r:=Qsr K) Q4 (pv 0) Qj (λ_ _=>rfl)) Zc (Q7 _))) (λ_ _ _ _ _=>Yx (r:=Qyy K) Ow (pv 0) (Yy Qj) Xy))
  (Qd (Ql (i:=9) nd rfl (Or.inl Xb) (Xn (Qh0 Xb) rfl B.list TY (Qa (pv 6) Qe)))
  (Qd (Ql (i:=10) nd rfl (Or.inl Xb) W0)
  (Qd aR
  (Qh (Qy (pv 6))))))))))),?_⟩
 have ay:us.length=tl.length:=Gs ag
 have aX:tl.length<=3000:=by
  have:=Zz (tl.map (·.2.1))
  rw[Gn]at this
  omega
 refine⟨_,Xb,b,Z,Xb,.inl (Zd.of hb),λl X=>?_⟩
 have s1:=Qg X (.lst Z)
 refine⟨_,Xb,a,Xb,⟨_,Zd.of (s1 _ _ ha)⟩,Y2 (K:=K) (a:=a) (xs:=us) (λi σ H1=>∃(l:Addr)(xs:List V)(x3 x4 x5:Option V),σ=[some (.ref a),some (.ref b),some (.ref l),x3,x4,x5,none,none,none,none,none,none,none,none,none,none,none]/\Q3 H H1/\H l=none/\H1 l=some (.lst xs)/\Zn H1 xs (ts++Jj (tl.take i)))
  ⟨l,Z,_,_,_,Xb,s1,X,Qb,by simp[Jj];exact aP.same s1⟩ (λi σ H1 _⟨_,_,_,_,_,_,sm,_⟩=>Zd.of (sm _ _ ha)) ?_ ?_⟩
 ·rintro i x σ H1 hi ⟨l,xs,x3,x4,x5,rfl,sm,X,I,J⟩
  obtain⟨⟨bb,u1,u2⟩,eu,a',v1,v2,rfl,ac,t1,t2⟩:=Qv ag hi
  refine⟨a',_,Xb,Z4.of (sm _ _ ac),Xb,_,_,Xb,_,_,Xb,_,_,Xb,Xb,?_⟩
  refine⟨_,Xb,_,Xb,_,Xb,by show 2<=sizeLine;decide,λc hc=>?_⟩
  have s2:=Qg hc (.lst [v1,v2])
  have lx:=J.length
  have b1:=Zz (ts++Jj (tl.take i))
  have b2:Qw (ts++Jj (tl.take i))<=3000:=by
   have e1:=Oy (tl.take i)
   have e2:=Ws (tl.map (·.2.1)) i
   have e3:=Ws (tl.map (·.2.2)) i
   rw[Ls,Ls]at e1
   rw[Xm]
   omega
  refine⟨l,c,xs,[v1,v2],Xb,Xb,s2 _ _ I,Qb,small (by show xs.length+2<=_;omega),λn R=>?_⟩
  have s3:=Qg R (.lst (xs++[v1,v2]))
  have aj:=(sm.trans s2).trans s3
  refine⟨n,xs++[v1,v2],_,_,_,Xb,aj,(sm.trans s2).free R,Qb,?_⟩
  have e:ts++Jj (tl.take (i+1))=(ts++Jj (tl.take i))++[u1,u2]:=by
   unfold Jj
   rw[Tf,eu,LY,TH]
   rfl
  rw[e]
  exact((J.same s2).same s3).append (.cons (t1.same aj) (.cons (t2.same aj) .nil))
 rintro σ H1 ⟨l,xs,x3,x4,x5,rfl,sm,X,I,J⟩
 rw[ay,Te]at J
 have aa:∀t∈ts++Jj tl,t.ok=true/\t.depth<=8:=λt k=>by
  rcases Gd.mp k with h|h
  ·exact ax t h
  ·obtain⟨p,u,e⟩:=Qbw.mp h
   rcases e with rfl|rfl
   ·exact(aw p u).1
   ·exact(aw p u).2
 have O:Qw (ts++Jj tl)<=3000:=by rw[Xm,Oy];omega
 have aq:∀t∈ts++Jj tl,t∈ts++Jj tl:=λt h=>h
 generalize au:ts++Jj tl=T0 at J aa O aq
 intro d hd
 have ad:H d=none:=sm.free hd
 have s2:=Qg hd (Uq P w d [])
 have C:l≠d:=Qc I hd
 refine⟨λm σ H2=>∃(l:Addr)(xs:List V)(T S:List Th)(L:Th->Int)(x7:Option V),σ=[some (.ref a),some (.ref b),some (.ref l),x3,x4,x5,some (.ref d),x7,none,none,none,none,none,none,none,none,none]/\Q3 H H2/\H l=none/\l≠d/\H2 l=some (.lst xs)/\Zn H2 xs T/\Num P w H2 d S L/\
   (∀x∈S,∀y∈S,L x=L y->x=y)/\(∀x∈S,L x<S.length)/\(∀w ps,Th.mk w ps∈S->∀p∈ps,p∈S\/p∈T)/\(∀t∈T0,t∈S\/t∈T)/\(∀t∈T,t.ok=true/\t.depth<=8)/\m=Qw T/\S.length+Qw T<=3000/\(∀t∈S,t.size<=3000),
  ⟨_,l,xs,T0,[],λ_=>0,_,Xb,sm.trans s2,X,C,s2 _ _ I,J.same s2,⟨⟨[],Qb,(λp u=>nomatch u),Xb,(λt k=>nomatch k)⟩,(λt k=>nomatch k)⟩,(λt k=>nomatch k),(λt k=>nomatch k),(λ_ _ k=>nomatch k),λt k=>.inr k,aa,Xb,by simpa using O,(λt k=>nomatch k)⟩,?_⟩
 clear I J X C s2
 rintro m σ H2 ⟨l,xs,T,S,L,x7,rfl,aC,X,C,I,J,N,inj,low,cl,al,ah,rfl,sz,ap⟩
 have lx:=J.length
 have lT:=Zz T
 refine⟨_,Xb,Ta _,λz hz=>?_⟩
 have s4:=Qg hz (.lst [])
 have aU:l≠z:=Qc I hz
 have az:okL T=true:=by rw[Qa8,Ly];exactλt k=>(ah t k).1
 refine⟨.list (X0 T),.list [],.lst (s4 _ _ I) (J.same s4).dts,.lst Qb .nil,by simp only[PyData.canLay0];exact Qf5 T az,by simp[PyData.canLay0,PyData.canLayAll0],?_,_,Xb,?_⟩
 ·simp only[PyData.depth,PyData.depthAll]
  omega
 have ev:PyData.eqv (.list (X0 T)) (.list [])=T.isEmpty:=by
  simp only[PyData.eqv]
  rw[Qby]
  cases T with
  |nil=>simp[X0]
  |cons t r=>simp[X0]
 rw[ev]
 rcases LN T with rfl|⟨Tr,t,eT⟩
 ·
  refine Zq ?_
  have cl:∀w ps,Th.mk w ps∈S->∀p∈ps,p∈S:=λw ps h p u=>(cl w ps h p u).resolve_right (by simp)
  have al:∀t∈T0,t∈S:=λt h=>(al t h).resolve_right (by simp)
  have D:=aC.trans s4
  have N3:=N.same s4
  generalize upd H2 z (.lst [])=H3 at D N3⊢
  refine⟨_,Xb,a,Xb,⟨_,Zd.of (D _ _ ha)⟩,λp u=>?_⟩
  have sp:=Qg u (.lst [])
  have aM:H p=none:=D.free u
  refine Qiv (K:=K) (a:=a) (xs:=us) (small (by omega)) (λi ys σ H4=>(∃x0,σ=[x0])/\Q3 H3 H4/\Ot H4 ys (Io (tl.take i))) ⟨⟨_,Xb⟩,sp,by simp[Io];exact .nil⟩ (λi ys σ H4 _⟨_,g,_⟩=>Zd.of (g _ _ (D _ _ ha))) ?_ ?_
  ·rintro i x ys σ H4 hi ⟨⟨x0,rfl⟩,g,gp⟩ v
   obtain⟨⟨bb,u1,u2⟩,eu,a',v1,v2,rfl,ac,t1,t2⟩:=Qv ag hi
   have ao:=D.trans g
   have a4:=ao _ _ ac
   refine⟨_,Xb,a',_,_,_,Xb,Xb,Z4.of a4,Qz (j:=0) rfl,Xb,_,Xb,?_⟩
   rw[Yf,Qtd]
   cases bb with
   |true=>
    refine Y0 ?_
    refine⟨_,Xb,_,Xb,a',_,Xb,Z4.of a4,V7 _ _,λr hr=>?_⟩
    rw[Qjw]
    have s5:=Qg hr (.tup [v1,v2])
    have aO:r≠p:=λz=>by rw[z,v]at hr;cases hr
    have t6:Qu H4 (upd (upd H4 r (.tup [v1,v2])) p (.lst (ys++[.ref r]))):=(Qu.of s5).trans (Zr λxs e=>by rw[s5 _ _ v]at e;cases e)
    refine⟨s5 _ _ v,⟨_,Xb⟩,λc o e=>?_,?_⟩
    ·rw[Qf (Qc e u)]
     exact s5 _ _ (g _ _ e)
    ·rw[Qdc tl i true u1 u2 eu]
     exact Ym (gp.Qm t6) (.cons ⟨r,v1,v2,Xb,by rw[Qf aO];exact Qb,(t1.same ao).Qm t6,(t2.same ao).Qm t6⟩ .nil)
   |false=>
    refine Zq ⟨v,⟨_,Xb⟩,g,?_⟩
    rw[Qdc tl i false u1 u2 eu]
    simpa using gp
  ·rintro ys σ H4 ⟨_,g,gp⟩ v
   rw[ay,Te]at gp
   have N4:=N3.same g
   obtain⟨kvs,dh,lk,an⟩:=N4.names
   refine⟨_,Xb,d,kvs,Xb,dh,λn R=>?_⟩
   have sn:=Qg R (.lst (kvs.map λp=>V.ref p.2.1))
   have inS:∀x∈tl,x.2.1∈S/\x.2.2∈S:=λx M=>by
    rw[<-au]at al
    exact⟨al _ (Tn _ (Qbw.mpr ⟨x,M,.inl Xb⟩)),al _ (Tn _ (Qbw.mpr ⟨x,M,.inr Xb⟩))⟩
   refine aS tl S L d p n ys _ (Io tl) _ _ _ _ _ _ (N4.same sn) (sn _ _ v) (gp.Qm (Qu.of sn)) Qb (an.same sn) (Gq (Qc v R)) ?_ ?_ cl ap (by omega) (by have:=Qn3 tl;omega) ?_ _ _ _ ⟨Xb,_,_,_,_,_,_,_,_,Xb⟩ ?_
   ·rintro⟨x,y⟩ aQ
    have h:=Qet.mp aQ
    exact⟨(inS _ h).1,(inS _ h).2,.told h⟩
   ·intro x M y hy e
    rw[inj x M y hy e]
    exact .refl _
   ·intro x y h
    exact⟨(inS _ h).1,(inS _ h).2,Qet.mpr h⟩
   ·rintro a0 H7 ⟨L7,h6,kp,N7,T7⟩
    refine⟨_,h6,q d S L7 H7 (λc o e=>?_) ad N7 T7 (λt k=>al t (by rw[<-au];exact Gi _ k)) inS⟩
    exact kp c o (sn _ _ (g _ _ (D _ _ e))) (Qc e ad) (Qc e aM)
 ·have eT:T=Tr++[t]:=by simpa using eT
  subst eT
  have aJ:(Tr++[t]).isEmpty=false:=by cases Tr<;>rfl
  rw[aJ]
  refine Y0 ?_
  obtain⟨U,x,rfl,k1,k2⟩:=Qfn J
  have af:Qw (Tr++[t])=Qw Tr+t.size:=by rw[Xm];simp[Qw]
  rw[af]at sz
  have aT:=Qcg t
  obtain⟨Y,ab⟩:=ah t (by simp)
  refine⟨λaF H'=>∃m',m'<Qw (Tr++[t])/\∃(l:Addr)(xs:List V)(T S:List Th)(L:Th->Int)(x7:Option V),aF=[some (.ref a),some (.ref b),some (.ref l),x3,x4,x5,some (.ref d),x7,none,none,none,none,none,none,none,none,none]/\Q3 H H'/\H l=none/\l≠d/\H' l=some (.lst xs)/\Zn H' xs T/\Num P w H' d S L/\
   (∀x∈S,∀y∈S,L x=L y->x=y)/\(∀x∈S,L x<S.length)/\(∀w ps,Th.mk w ps∈S->∀p∈ps,p∈S\/p∈T)/\(∀t∈T0,t∈S\/t∈T)/\(∀t∈T,t.ok=true/\t.depth<=8)/\m'=Qw T/\S.length+Qw T<=3000/\(∀t∈S,t.size<=3000),λaF H' h=>h,?_⟩
  have ae:(U++[x])[(U++[x]).length - 1]?=some x:=by simp
  refine⟨_,Xb,.inl ⟨Xb,_,Zd.of (s4 _ _ I)⟩,l,_,_,Xb,Xb,s4 _ _ I,ae,?_⟩
  rw[Sr]
  have W:Jm l H2 (upd (upd H2 z (.lst [])) l (.lst U)):=λc o e h=>by rw[Qf h];exact s4 _ _ e
  have l5:(upd (upd H2 z (.lst [])) l (.lst U)) l=some (.lst U):=Qb
  generalize upd (upd H2 z (.lst [])) l (.lst U)=H5 at W l5⊢
  have t5:Qu H2 H5:=W.Qm I (λxs e=>by cases e)
  have aD:Q3 H H5:=λc o e=>W c o (aC _ _ e) (Qc e X)
  have N5:Num P w H5 d S L:=N.keep (λo h=>W _ _ h (Gq C)) t5
  have k1:=k1.Qm t5
  have k2:=k2.Qm t5
  obtain⟨b0,wd,G,ps,rfl,rfl,aH,av⟩:=k2.inv
  refine⟨_,Xb,_,Xb,N5.Qze Y ab k2 ⟨_,Xb,?_⟩⟩
  have aB:∀t∈Tr,t.ok=true/\t.depth<=8:=λt k=>ah t (Gi _ k)
  refine Ur (λc=>?_) (λc=>?_)
  ·have c:¬Th.mk wd ps∈S:=by simpa using c
   obtain⟨kvs,dh,lk,_⟩:=N5.names
   refine⟨_,Xb,d,kvs,Xb,dh,_,Xb,_,Xb,N5.add (by omega) c Y ab k2 λH6 aG N6=>?_⟩
   have b6:Jm d H5 H6:=aG
   obtain⟨o5,aK⟩:=N5.at
   have ar:Qu H5 H6:=b6.Qm aK (λxs e=>by cases e)
   have aE:Q3 H H6:=λc o e=>b6 c o (aD _ _ e) (Qc e ad)
   have l6:=b6 _ _ l5 C
   have ax:(Th.mk wd ps).size=Qw ps+1:=by simp only[Th.size]
   have aY:=av.length
   have aW:=Zz ps
   have aZ:=k1.length
   have aV:=Zz Tr
   refine⟨_,Xb,_,Xb,_,Xb,b0,_,Xb,Z4.of (ar _ _ aH),V7 _ _,λr aN=>?_⟩
   rw[Qjw]
   have s7:=Qg aN (.tup G)
   refine⟨r,G,Xb,.inr (Z4.of Qb),λl2 aI=>?_⟩
   have s8:=Qg aI (.lst G)
   refine⟨l,l2,U,G,Xb,Xb,s8 _ _ (s7 _ _ l6),Qb,small (by omega),λn R=>?_⟩
   have s9:=Qg R (.lst (U++G))
   have ak:=s7.trans s8
   have am:=ak.trans s9
   obtain⟨o6,aL⟩:=N6.at
   have aA:∀p∈ps,p.ok=true/\p.depth<=8:=λp u=>by
    have h1:okL ps=true:=by
     simp only[Th.ok,TD]at Y
     exact Y.2
    rw[Qa8,Ly]at h1
    have h2:=Vh u
    simp only[Th.depth]at ab
    exact⟨h1 p u,by omega⟩
   refine⟨Qw (Tr++ps),?_,n,U++G,Tr++ps,S++[Th.mk wd ps],_,_,Xb,aE.trans am,(aE.trans ak).free R,?_,Qb,?_,N6.same am,?_,?_,?_,?_,?_,Xb,?_,?_⟩
   ·rw[af,Xm];omega
   ·exactλz=>by rw[z,ak _ _ aL]at R;cases R
   ·exact((k1.Qm ar).append (av.Qm ar)).same am
   ·intro x M y hy e
    rw[Gd,Gx]at M hy
    by_cases h1:x=Th.mk wd ps
    ·by_cases h2:y=Th.mk wd ps
     ·rw[h1,h2]
     ·rw[Gp h1,Gj h2]at e
      have:=low y (hy.resolve_right h2)
      omega
    ·by_cases h2:y=Th.mk wd ps
     ·rw[Gj h1,Gp h2]at e
      have:=low x (M.resolve_right h1)
      omega
     ·rw[Gj h1,Gj h2]at e
      exact inj x (M.resolve_right h1) y (hy.resolve_right h2) e
   ·intro x M
    rw[Gd,Gx]at M
    rw[Gk,Gv]
    by_cases h1:x=Th.mk wd ps
    ·rw[Gp h1];omega
    ·rw[Gj h1]
     have:=low x (M.resolve_right h1)
     omega
   ·intro w' ai h p u
    rcases Gd.mp h with h|h
    ·rcases cl w' ai h p u with z|z
     ·exact .inl (Gi _ z)
     ·rcases Gd.mp z with z|z
      ·exact .inr (Gi _ z)
      ·exact .inl (Tn _ z)
    ·rw[Gx]at h
     cases h
     exact .inr (Tn _ u)
   ·intro t k
    rcases al t k with z|z
    ·exact .inl (Gi _ z)
    ·rcases Gd.mp z with z|z
     ·exact .inr (Gi _ z)
     ·exact .inl (Tn _ z)
   ·intro t k
    rcases Gd.mp k with z|z
    ·exact aB t z
    ·exact aA t z
   ·rw[Xm,Gk,Gv];omega
   ·intro t k
    rcases Gd.mp k with z|z
    ·exact ap t z
    ·rw[Gx]at z
     rw[z];omega
  ·have c:Th.mk wd ps∈S:=by simpa using c
   refine⟨Qw Tr,by rw[af];omega,l,U,Tr,S,L,_,Xb,aD,X,C,l5,k1,N5,inj,low,λw' ai h p u=>?_,λt k=>?_,aB,Xb,by omega,ap⟩
   ·rcases cl w' ai h p u with z|z
    ·exact .inl z
    ·rcases Gd.mp z with z|z
     ·exact .inr z
     ·rw[Gx]at z
      rw[z];exact .inl c
   ·rcases al t k with z|z
    ·exact .inl z
    ·rcases Gd.mp z with z|z
     ·exact .inr z
     ·rw[Gx]at z
      rw[z];exact .inl c
end
open PySem L2 Sb
theorem Qd0{α β:Type}{F:α->β->Prop}{xs:List α}{st:List β}{p:β}(h:Paired F xs (st++[p])):∃a x,xs=a++[x]/\Paired F a st/\F x p:=by
 induction st generalizing xs with
 |nil=>
  cases h with
  |cons h1 h2=>
   cases h2
   exact⟨[],_,Xb,.nil,h1⟩
 |cons y r b=>
  cases h with
  |cons h1 h2=>
   obtain⟨a,x,e,c,d⟩:=b h2
   exact⟨_::a,x,by rw[e];rfl,.cons h1 c,d⟩
theorem Qxv(i:Int)(d:0<=i)(h1:i<26):∃c:Nat,atI (("abcdefghijklmnopqrstuvwxyz":Str).cps.toList) i=some c/\c<0x110000:=by
 have b:(("abcdefghijklmnopqrstuvwxyz":Str).cps.toList).length=26:=by decide+kernel
 have a:∀c∈(("abcdefghijklmnopqrstuvwxyz":Str).cps.toList),c<0x110000:=by decide+kernel
 have hi:i.toNat<(("abcdefghijklmnopqrstuvwxyz":Str).cps.toList).length:=by rw[b];omega
 have e:i=((i.toNat:Nat):Int):=by omega
 have q:=Qz (Gg hi)
 rw[<-e]at q
 exact⟨_,q,a _ (Sk hi)⟩
theorem Qi8{c:Nat}{x:Str}(a:c<0x110000)(h:PyData.strOk x=true):PyData.strOk ((⟨#[c]⟩:Str)++x)=true:=by
 show((#[c]++x.cps).all (·<0x110000))=true
 have h':x.cps.all (·<0x110000)=true:=h
 rw[Array.all_append,h']
 simp[a]
theorem Qpe{c:Nat}{x:Str}:((⟨#[c]⟩:Str)++x).length=x.length+1:=by
 show(#[c]++x.cps).size=x.cps.size+1
 simp
 omega
theorem Qmq{k:Nat}{l:Int}(h1:1<=l)(h:l*2^k<=10^39):k<130:=by
 rcases TC k 130 with h'|h'
 ·exact h'
 ·exfalso
  have e:(2:Int)^130<=2^k:=by
   have:(2:Nat)^130<=2^k:=Nat.pow_le_pow_right (by decide) h'
   exact_mod_cast this
  have b:(2:Int)^k<=l*2^k:=by
   have a:(0:Int)<=2^k:=Int.le_of_lt (Int.pow_pos (by decide))
   have:=Sm h1 a
   simpa using this
  have c:(10:Int)^39<2^130:=by decide
  omega
theorem Qjb{k:Nat}{l:Int}(h1:1<=l / 26 - 1)(h:l*2^k<=10^39):(l / 26 - 1)*2^(k+1)<=10^39:=by
 have a:(0:Int)<2^k:=Int.pow_pos (by decide)
 have e:(l / 26 - 1)*2^(k+1)=((l / 26 - 1)*2)*2^k:=by rw[Int.pow_succ];ac_rfl
 rw[e]
 have:(l / 26 - 1)*2<=l:=by omega
 have:=Sm this (Int.le_of_lt a)
 omega
section
variable{P:Program}{w:World}{K:Gc}{mg:Str->Option Value}{base:Heap}
theorem Qcz:Qx ["_law_cell","_law_left","_law_word"] ["_law_cell"] (Qk Qk4):=⟨Xb,Xb,Xb,by decide+kernel,Xb,by decide+kernel,by decide+kernel⟩
theorem Qtj{f:Addr}{fd:FuncData}(F:W5 K "_law_any_word" "_law_any_word" Qk4 f fd)(t:mg "abs"=none):Qt P w K mg base Z7 1 f fd ["_law_cell"] Qqa:=by
 refine F.ok Qcz (λvs H Q E h=>?_) (λcdv A outer s H vs Q E v h=>?_)
 ·obtain⟨n,rfl,_⟩:=h
  rfl
 obtain⟨n,rfl,q⟩:=h
 refine⟨_,Qd (Ql (i:=1) Qcz.nd rfl (Or.inl Xb) (Zp Xt (Qp Qpy rfl t PyProof.Rows.boot_abs (Qa (pv 0) Qe)) (Zp Qq4 Qj Qj)))
  (Qd (Ql (i:=2) Qcz.nd rfl (Or.inl Xb) Zc)
  (Qd (Wx GX (Qs Qya (pv 1) Qj (Q7 _))
   (Qd (Ql (i:=2) Qcz.nd rfl (Or.inl Xb) (Zp Qjm (Qo Qr3 Zc (Zp Xt (pv 1) Qj) (λ_ _=>rfl)) (pv 2)))
   (Qh (Ql (i:=1) Qcz.nd rfl (Or.inl Xb) (Zp Qf0 (Zp Wv (pv 1) Qj) Qj)))))
  (Qh (Qy (pv 2))))),?_⟩
 refine⟨_,Xb,n,Xb,_,_,Xb,Xb,⟨by decide,by decide,by decide⟩,_,_,Xb,Xb,(by show(0:Int)<10^Int.toNat 39;decide),?_⟩
 have L0:0<=(if n<0 then -n else n) % (10:Int)^(Int.toNat 39):=Dc _ (by decide)
 have p:(if n<0 then -n else n) % (10:Int)^(Int.toNat 39)<10^39:=TW _ (by decide)
 refine⟨λm σ H2=>∃(l:Int)(x:Str),σ=[some (.int n),some (.int l),some (.str x)]/\H2=H/\ -1<=l/\m=(l+1).toNat/\PyData.strOk x=true/\(1<=l->l*2^x.length<=10^39)/\(0<=l->x.length<=131)/\x.length<=132,
  ⟨_,(if n<0 then -n else n) % (10:Int)^(Int.toNat 39),"",Xb,Xb,Int.le_trans (by decide) L0,Xb,by decide+kernel,λ_=>?_,λ_=>by decide+kernel,by decide+kernel⟩,?_⟩
 ·have:(("":Str).length)=0:=by decide+kernel
  rw[this]
  generalize (if n<0 then -n else n) % (10:Int)^(Int.toNat 39)=L at p⊢
  omega
 rintro m σ H2 ⟨l,x,rfl,rfl,h1,rfl,h2,j,o,u⟩
 refine⟨_,Xb,_,_,Xb,Xb,_,Xb,?_⟩
 refine Ur (λc=>?_) (λc=>?_)
 ·have g:0<=l:=T3 c
  refine⟨λd H'=>∃b,d=[some (.int n),some (.int (l / 26 - 1)),some (.str b)]/\H'=H2/\PyData.strOk b=true/\b.length=x.length+1,?_,?_⟩
  ·rintro d H' ⟨b,rfl,rfl,e,a⟩
   refine⟨_,?_,l / 26 - 1,b,Xb,Xb,by omega,Xb,e,λz=>?_,λz=>?_,?_⟩
   ·omega
   ·rw[a]
    exact Qjb z (j (by omega))
   ·rw[a]
    have:=Qmq (k:=x.length) (l:=l) (by omega) (j (by omega))
    omega
   ·rw[a]
    have:=o g
    omega
  ·obtain⟨ch,e,a⟩:=Qxv (l % 26) (Dc _ (by decide)) (TW _ (by decide))
   refine⟨_,Xb,_,_,Xb,Xb,(by show(0:Int)<26;decide),_,_,ch,Xb,Xb,by decide+kernel,e,_,Xb,_,_,Xb,Xb,?_,?_⟩
   ·have r:((⟨#[ch]⟩:Str).length)=1:=rfl
    have:=o g
    rw[Td,r]
    omega
   ·refine⟨_,Xb,_,_,Xb,Xb,⟨by decide,by decide⟩,_,_,Xb,Xb,?_⟩
    exact⟨_,Xb,Xb,Qi8 a h2,Qpe⟩
 ·exact⟨_,Xb,q x (by unfold Iq;rw[h2,Tp (by omega)];rfl)⟩
end
def Prs(H0 H:Hp):List V->List PyData->Prop:=Paired λx d=>∃a y z,x=.ref a/\H a=some (.tup [y,z])/\Dt H0 y d/\Dt H0 z d
theorem Prs.Qm{H0 H H':Hp}(e:Qu H H'){xs:List V}{ds:List PyData}(h:Prs H0 H xs ds):Prs H0 H' xs ds:=
 L2.Paired.Z8 h λx d⟨a,y,z,h1,h2,b,c⟩=>⟨a,y,z,h1,e _ _ h2,b,c⟩
def prD(d:PyData):PyData:=.tuple [d,d]
theorem Prs.dts{H0 H:Hp}(g:Q3 H0 H){xs:List V}{ds:List PyData}(h:Prs H0 H xs ds):Rg H xs (ds.map prD):=by
 unfold Prs at h
 induction h with
 |nil=>exact .nil
 |cons h r f=>
  obtain⟨a,y,z,b,c,d,e⟩:=h
  subst b
  exact .cons (.tup c (.cons (d.same g) (.cons (e.same g) .nil))) f
theorem Qp9:∀(ds:List PyData),PyData.canLayAll0 ds=true->PyData.canLayAll0 (ds.map prD)=true
 |[],_=>by simp[PyData.canLayAll0]
 |d::r,h=>by
  simp only[PyData.canLayAll0,TD]at h
  have h2:=Qp9 r h.2
  simp[prD,PyData.canLayAll0,PyData.canLay0,h.1,h2]
theorem Rl:∀(xs ys:List PyData),PyData.canLayAll0 (xs++ys)=(PyData.canLayAll0 xs&&PyData.canLayAll0 ys)
 |[],ys=>by simp[PyData.canLayAll0]
 |x::r,ys=>by simp[PyData.canLayAll0,Rl r ys,Bool.and_assoc]
theorem Qer:∀{xs:List PyData}{d:PyData},d∈xs->d.depth<=PyData.depthAll xs
 |x::r,d,h=>by
  simp only[PyData.depthAll]
  rcases Gu.mp h with rfl|h
  ·omega
  ·have:=Qer h
   omega
theorem Qat:∀(xs:List PyData)(n:Nat),Zl (xs.take n)<=Zl xs
 |[],_=>by simp[Zl]
 |x::r,0=>by simp[Zl]
 |x::r,n+1=>by
  have:=Qat r n
  simp only[Er,Zl]
  omega
def TT(b:Bool):String:=if b then"list"else"tuple"
theorem Qv9{K:Gc}(b:Bool):PySem.W.kitAny K (.type (TT b)) [.type "list",.type "tuple"]=some true:=by
 cases b
 ·exact Qwx
 ·exact Qwt
theorem Qyq{K:Gc}(b:Bool):PySem.W.kitOne K (.type (TT b)) (.type "list")=some b:=by
 cases b
 ·exact Qpx
 ·exact Qo4
theorem Qx9{K:Gc}(b:Bool):PySem.W.kitOne K (.type (TT b)) (.type "tuple")=some (!b):=by
 cases b
 ·exact Qq2
 ·exact Qxh
def Qd3(b:Bool)(ds:List PyData):PyData:=if b then .list ds else .tuple ds
theorem Qoi{K:Gc}{H:Hp}{v:V}{b:Bool}{ds:List PyData}(h:Dt H v (Qd3 b ds)):∃p xs,v=.ref p/\(Zd K H p xs\/Z4 K H p xs)/\Rg H xs ds:=by
 cases b with
 |true=>
  have h:Dt H v (.list ds):=h
  cases h with
  |lst e t=>exact⟨_,_,Xb,.inl (Zd.of e),t⟩
 |false=>
  have h:Dt H v (.tuple ds):=h
  cases h with
  |tup e t=>exact⟨_,_,Xb,.inr (Z4.of e),t⟩
theorem Qu4{K:Gc}{H:Hp}{v:V}{b:Bool}{ds:List PyData}(h:Dt H v (Qd3 b ds)):Ik K H v (.type (TT b)):=by
 cases b with
 |true=>
  have h:Dt H v (.list ds):=h
  cases h with
  |lst e t=>exact .lst e
 |false=>
  have h:Dt H v (.tuple ds):=h
  cases h with
  |tup e t=>exact .tup e
theorem Qoa(b:Bool)(is:List PyData):Wn (Qd3 b is)=Zl is+1:=by cases b<;>simp[Qd3,Wn]
theorem Qsu(b:Bool)(is:List PyData):(Qd3 b is).canLay0=PyData.canLayAll0 is:=by cases b<;>simp[Qd3,PyData.canLay0]
theorem Qm8(b:Bool)(is:List PyData):(Qd3 b is).depth=PyData.depthAll is+1:=by cases b<;>simp[Qd3,PyData.depth]
theorem Qzb(d:PyData)(h:d.canLay0=true):(∃b is,d=Qd3 b is)\/d=.none\/(∃b,d=.bool b)\/(∃i,d=.int i)\/∃x,d=.str x:=by
 cases d with
 |none=>exact .inr (.inl Xb)
 |bool b=>exact .inr (.inr (.inl ⟨b,Xb⟩))
 |int i=>exact .inr (.inr (.inr (.inl ⟨i,Xb⟩)))
 |str x=>exact .inr (.inr (.inr (.inr ⟨x,Xb⟩)))
 |list is=>exact .inl ⟨true,is,Xb⟩
 |tuple is=>exact .inl ⟨false,is,Xb⟩
 |dict kvs=>simp[PyData.canLay0]at h
theorem Ry{K:Gc}{H H':Hp}(g:Q3 H H'){p:Addr}{xs:List V}(h:Zd K H p xs\/Z4 K H p xs):Zd K H' p xs\/Z4 K H' p xs:=by
 rcases h with h|h
 ·exact .inl (g.seq h)
 ·refine .inr ?_
  rcases h with(h|⟨o,h⟩)|h
  ·exact .inl (.inl (g _ _ h))
  ·exact .inl (.inr ⟨o,g _ _ h⟩)
  ·exact .inr h
theorem Qvn{K:Gc}{H:Hp}{p:Addr}{xs:List V}{i:Int}{v:V}{Q:VK}(h:Zd K H p xs\/Z4 K H p xs)(e:atI xs i=some v)(q:Q v H):rIx K (.ref p) (.int i) H Q:=by
 rcases h with h|h
 ·exact .inl ⟨p,xs,i,v,Xb,Xb,h,e,q⟩
 ·exact .inr (.inl ⟨p,xs,i,v,Xb,Xb,h,e,q⟩)
section
variable{P:Program}{w:World}{K:Gc}{mg:Str->Option Value}{base:Heap}
theorem Qow:Qx ["_law_found","_law_due","_law_todo","_law_one","_law_other","_law_k"] ["_law_found","_law_due"] (Qk sSo):=⟨Xb,Xb,Xb,by decide+kernel,Xb,by decide+kernel,by decide+kernel⟩
theorem Qym{f:Addr}{fd:FuncData}(F:W5 K "_law_so" "_law_so" sSo f fd)(B:Blt mg):Qt P w K mg base Z7 1 f fd ["_law_found","_law_due"] Qye:=by
 refine F.ok Qow (λvs H Q E h=>?_) (λcdv A outer s H vs Q E hr h=>?_)
 ·obtain⟨x,y,d,rfl,_⟩:=h
  rfl
 obtain⟨x,y,d,rfl,hx,hy,ah,ap,am,q⟩:=h
 have hu:=hr.units
 refine⟨_,Qd (Ql (i:=2) Qow.nd rfl (Or.inl Xb) (Zt (Qa (Za (Qa (pv 0) (Qa (pv 1) Qe))) Qe)))
  (Qd (Wx GX (Qs (Qpo hu) (pv 2) (Zt Qe) (Q7 _))
   (Qd (Qaa (Qcf Gy D9 Ea Qds (pv 2)) (W9 rfl (Zj (Qr (i:=3) Qow.nd rfl (Or.inl Xb)) (Zj (Qr (i:=4) Qow.nd rfl (Or.inl Xb)) Xz))))
   (Qh (Zm (Xs (Qp Qnc rfl B.isinstance Tq (Qa (pv 4) (Qa (Za (Qa (Xq (v:=.ty "list") rfl B.list TY Xb) (Qa (Xq (v:=.ty "tuple") rfl B.tuple De Xb) Qe))) Qe))))
    (Qd (Zm (Qs Jq (Qp Xj rfl B.isinstance Tq (Qa (pv 3) (Qa (Xq (v:=.ty "list") rfl B.list TY Xb) Qe))) (Qp Xj rfl B.isinstance Tq (Qa (pv 4) (Qa (Xq (v:=.ty "list") rfl B.list TY Xb) Qe))) (Q7 _)) (Qh (Qy W0)) Q8)
    (Qd (Zm (Qs Jq (Qp Xj rfl B.isinstance Tq (Qa (pv 3) (Qa (Xq (v:=.ty "tuple") rfl B.tuple De Xb) Qe))) (Qp Xj rfl B.isinstance Tq (Qa (pv 4) (Qa (Xq (v:=.ty "tuple") rfl B.tuple De Xb) Qe))) (Q7 _)) (Qh (Qy W0)) Q8)
    (Qd (Zm (Qs Jq (Qp Zk rfl B.len Tj (Qa (pv 3) Qe)) (Qp Zk rfl B.len Tj (Qa (pv 4) Qe)) (Q7 _)) (Qh (Qy W0)) Q8)
    (Qh (Ye GX rfl (Ue rfl B.range (Qa (Qp Zk rfl B.len Tj (Qa (pv 4) Qe)) Qe)) (Qr (i:=5) Qow.nd rfl (Or.inl Xb))
     (Qh (Zb (Xr Gy Tc Tk Z2 (pv 2) (Qa (Za (Qa (Qo Qol (pv 3) (pv 5) (λ_ _=>rfl)) (Qa (Qo Qol (pv 4) (pv 5) (λ_ _=>rfl)) Qe))) Qe)))))))))
    (Qh (Zm (Xs (Qp Xj rfl B.isinstance Tq (Qa (pv 4) (Qa (Xq (v:=.ty "str") rfl B.str LO Xb) Qe))))
     (Qh (Zm (PW.pt (Qcn (Re (Xs (Qp Xj rfl B.isinstance Tq (Qa (pv 3) (Qa (Xq (v:=.ty "str") rfl B.str LO Xb) Qe))))) (Qc6 (Qs Jq (pv 3) (pv 4) (Q7 _))))) (Qh (Qy W0)) Q8))
     (Qh (Zm (Xs (Qp Xj rfl B.isinstance Tq (Qa (pv 4) (Qa (Xq (v:=.ty "bool") rfl B.bool Sc Xb) Qe))))
      (Qh (Zm (PW.pt (Qcn (Re (Xs (Qp Xj rfl B.isinstance Tq (Qa (pv 3) (Qa (Xq (v:=.ty "bool") rfl B.bool Sc Xb) Qe))))) (Qc6 (Qs Jq (pv 3) (pv 4) (Q7 _))))) (Qh (Qy W0)) Q8))
      (Qh (Zm (Oo (Qvq (pv 4)))
       (Qh (Zm (Oo (Qtw (pv 3))) (Qh (Qy W0)) Q8))
       (Qh (Zm (PW.pt (Qcn (Re (Xs (Qp Xj rfl B.isinstance Tq (Qa (pv 3) (Qa (Xq (v:=.ty "int") rfl B.int PyProof.Rows.boot_int Xb) Qe))))) (Qcn (Xs (Qp Xj rfl B.isinstance Tq (Qa (pv 3) (Qa (Xq (v:=.ty "bool") rfl B.bool Sc Xb) Qe)))) (Qc6 (Qs Jq (pv 3) (pv 4) (Q7 _)))))) (Qh (Qy W0)) Q8))))))))))))
  (Qh (Qy W0))),?_⟩
 refine⟨_,Xb,_,Xb,by show 2<=sizeLine;decide,λe he=>?_⟩
 have s1:=Qg he (.tup [x,y])
 refine⟨by show 1<=sizeLine;decide,λl hl=>?_⟩
 have s2:=Qg hl (.lst [.ref e])
 refine⟨λm σ H2=>∃(xs:List V)(ds:List PyData)(X Y r:Option V),σ=[some x,some y,some (.ref l),X,Y,r]/\Q3 H H2/\H2 l=some (.lst xs)/\Prs H H2 xs ds/\m=Zl ds/\PyData.canLayAll0 ds=true/\(∀d∈ds,d.depth<=60)/\Zl ds<=1000000,
  ⟨_,[.ref e],[d],none,none,none,Xb,s1.trans s2,Qb,.cons ⟨e,x,y,Xb,s2 _ _ Qb,hx,hy⟩ .nil,Xb,by simp[PyData.canLayAll0,ah],?_,by simp[Zl];exact ap⟩,?_⟩
 ·intro d' af
  rw[Gx]at af
  subst af
  exact am
 have ae:H l=none:=s1.free hl
 rintro m σ H2 ⟨xs,ds,X,Y,r,rfl,g,g1,g2,rfl,g3,g4,g5⟩
 have aw:xs.length=ds.length:=Gs g2
 refine⟨_,Xb,Ta _,λz hz=>?_⟩
 have s4:=Qg hz (.lst [])
 have au:l≠z:=Qc g1 hz
 refine⟨.list (ds.map prD),.list [],.lst (s4 _ _ g1) ((g2.Qm (Qu.of s4)).dts (g.trans s4)),.lst Qb .nil,by simp only[PyData.canLay0];exact Qp9 ds g3,by simp[PyData.canLay0,PyData.canLayAll0],?_,_,Xb,?_⟩
 ·simp only[PyData.depth,PyData.depthAll]
  omega
 have ev:PyData.eqv (.list (ds.map prD)) (.list [])=ds.isEmpty:=by
  simp only[PyData.eqv]
  rw[Qby]
  cases ds<;>rfl
 rw[ev]
 rcases LN ds with rfl|⟨j,C,N⟩
 ·refine Zq ?_
  exact q _ (g.trans s4)
 ·have N:ds=j++[C]:=by simpa using N
  subst N
  have aq:(j++[C]).isEmpty=false:=by cases j<;>rfl
  rw[aq]
  refine Y0 ?_
  obtain⟨p,xl,ex,k1,⟨a,u,v,ea,e2,e3,e4⟩⟩:=Qd0 g2
  subst ex ea
  have S:Zl (j++[C])=Zl j+Wn C:=by rw[Xu];simp[Zl]
  rw[S]at g5
  have ar:=Qd6 C
  rw[Rl]at g3
  simp only[PyData.canLayAll0,TD,Bool.and_true]at g3
  obtain⟨ac,O⟩:=g3
  have ad:∀d∈j,d.depth<=60:=λd hd=>g4 d (Gi _ hd)
  have al:C.depth<=60:=g4 C (by simp)
  have R:(p++[V.ref a])[(p++[V.ref a]).length - 1]?=some (.ref a):=by simp
  have t5:Qu H2 (upd (upd H2 z (.lst [])) l (.lst p)):=(Qu.of s4).trans (Zr λxs e=>by rw[s4 _ _ g1]at e;cases e)
  have J:Q3 H (upd (upd H2 z (.lst [])) l (.lst p)):=λc o e=>by
   rw[Qf (Qc e ae)]
   exact s4 _ _ (g _ _ e)
  have l5:(upd (upd H2 z (.lst [])) l (.lst p)) l=some (.lst p):=Qb
  have k1:Prs H H2 p j:=k1
  have p5:Prs H (upd (upd H2 z (.lst [])) l (.lst p)) p j:=k1.Qm t5
  refine⟨λt H'=>∃m',m'<Zl (j++[C])/\∃(xs:List V)(ds:List PyData)(X Y r:Option V),t=[some x,some y,some (.ref l),X,Y,r]/\Q3 H H'/\H' l=some (.lst xs)/\Prs H H' xs ds/\m'=Zl ds/\PyData.canLayAll0 ds=true/\(∀d∈ds,d.depth<=60)/\Zl ds<=1000000,λt H' h=>h,?_⟩
  refine⟨_,Xb,.inl ⟨Xb,_,Zd.of (s4 _ _ g1)⟩,l,_,_,Xb,Xb,s4 _ _ g1,R,a,_,Xb,Z4.of (by rw[Sr];exact t5 _ _ e2),Xb,u,_,Xb,v,_,Xb,Xb,?_⟩
  rw[Sr]
  generalize upd (upd H2 z (.lst [])) l (.lst p)=H5 at*
  have fin:∀{t:St}{H':Hp}{r:Option V},t=[some x,some y,some (.ref l),some u,some v,r]->Q3 H5 H'->∃m',m'<Zl (j++[C])/\∃(xs:List V)(ds:List PyData)(X Y r:Option V),t=[some x,some y,some (.ref l),X,Y,r]/\Q3 H H'/\H' l=some (.lst xs)/\Prs H H' xs ds/\m'=Zl ds/\PyData.canLayAll0 ds=true/\(∀d∈ds,d.depth<=60)/\Zl ds<=1000000:=λ{t H' r}e gs=>
   ⟨Zl j,by rw[S];omega,p,j,_,_,_,e,J.trans gs,gs _ _ l5,p5.Qm (Qu.of gs),Xb,ac,ad,by omega⟩
  have dv:Dt H5 v C:=e4.same J
  have du:Dt H5 u C:=e3.same J
  refine⟨_,Xb,by show 2<=sizeLine;decide,λc hc=>?_⟩
  have I:=Qg hc (.tup [.ty "list",.ty "tuple"])
  rcases Qzb C O with⟨b,is,rfl⟩|rfl|⟨bb,rfl⟩|⟨i,rfl⟩|⟨xx,rfl⟩
  ·obtain⟨pu,us,rfl,aj,aa⟩:=Qoi (K:=K) e3
   obtain⟨pw,D,rfl,T,ab⟩:=Qoi (K:=K) e4
   have tu:=Qu4 (K:=K) (du.same I)
   have tv:=Qu4 (K:=K) (dv.same I)
   have lu:=aa.length
   have lw:=ab.length
   have ak:Wn (Qd3 b is)=Zl is+1:=Qoa b is
   have av:=V4 is
   have Qvw:PyData.canLayAll0 is=true:=by rw[Qsu]at O;exact O
   have Z:∀d∈is,d.depth<=60:=λd hd=>by
    have h1:=Qer hd
    rw[Qm8]at al
    omega
   refine⟨_,c,_,_,TT b,true,Xb,Qb,tv,Qv9 b,true,Xb,Y0 ?_⟩
   refine⟨_,Xb,_,_,_,b,Xb,tu,Qyq b,_,Xb,_,_,_,b,Xb,tv,Qyq b,Xb,_,Xb,Qey rfl ?_⟩
   refine⟨_,Xb,_,_,_,!b,Xb,tu,Qx9 b,_,Xb,_,_,_,!b,Xb,tv,Qx9 b,Xb,_,Xb,Qey rfl ?_⟩
   have L:=J.trans I
   refine⟨_,Xb,pu,us,Xb,Ry L aj,_,Xb,pw,D,Xb,Ry L T,Xb,_,Xb,Qey (by rw[lu,lw]) ?_⟩
   have ai:((D.length:Int)).toNat=D.length:=by simp
   refine⟨_,Xb,pw,D,Xb,Ry L T,_,Xb,by omega,by omega,Ud (lo:=0) (n:=((D.length:Int)).toNat) (λk σ M=>∃(r:Option V)(G:List V),σ=[some x,some y,some (.ref l),some (.ref pu),some (.ref pw),r]/\Q3 H M/\M l=some (.lst (p++G))/\Prs H M (p++G) (j++is.take k))
    ⟨_,[],Xb,L,by rw[Db];exact I _ _ l5,by rw[Db,LR,Db];exact p5.Qm (Qu.of I)⟩ ?_ ?_⟩
   ·rintro k σ M hk ⟨r,G,rfl,g7,W,g9⟩
    rw[ai]at hk
    have an:k<us.length:=by omega
    have eu:us[k]?=some us[k]:=Gg an
    have ew:D[k]?=some D[k]:=Gg hk
    obtain⟨d1,f1,f2⟩:=aa.get eu
    obtain⟨d2,f3,f4⟩:=ab.get ew
    rw[f1]at f3
    cases f3
    have lg:(p++G).length=(j++is.take k).length:=Gs g9
    have ln:=V4 (j++is.take k)
    rw[Xu]at ln
    have lt:=Qat is k
    refine⟨_,Xb,.inl ⟨Xb,_,Zd.of W⟩,_,Xb,_,Xb,Qvn (Ry g7 aj) (by rw[EL];exact Qz eu) ?_⟩
    refine⟨_,Xb,_,Xb,Qvn (Ry g7 T) (by rw[EL];exact Qz ew) ?_⟩
    refine⟨by show 2<=sizeLine;decide,λU ag=>?_⟩
    have s8:=Qg ag (.tup [us[k],D[k]])
    have ao:l≠U:=Qc W ag
    refine⟨l,p++G,.ref U,Xb,Xb,s8 _ _ W,by rw[Td];omega,?_⟩
    have t8:Qu M (upd (upd M U (.tup [us[k],D[k]])) l (.lst (p++G++[.ref U]))):=(Qu.of s8).trans (Zr λxs e=>by rw[s8 _ _ W]at e;cases e)
    refine⟨_,G++[.ref U],Xb,λb o e=>?_,by rw[Qb,TH],?_⟩
    ·rw[Qf (Qc e ae)]
     exact s8 _ _ (g7 _ _ e)
    ·rw[Tf,f1,<-TH,<-TH]
     refine DO (g9.Qm t8) ⟨U,us[k],D[k],Xb,?_,f2,f4⟩
     rw[Qf (Gq ao)]
     exact Qb
   ·rintro σ M ⟨r,G,rfl,g7,W,g9⟩
    rw[ai,lw,Te]at g9
    refine⟨Zl (j++is),?_,p++G,j++is,_,_,_,Xb,g7,W,g9,Xb,?_,?_,?_⟩
    ·rw[S,Xu,ak]
     omega
    ·rw[Rl,ac,Qvw]
     rfl
    ·intro d hd
     rcases Gd.mp hd with hd|hd
     ·exact ad d hd
     ·exact Z d hd
    ·rw[Xu]
     rw[ak]at g5
     omega
  ·cases dv
   cases du
   refine⟨_,c,_,_,_,false,Xb,Qb,.non,Qbq Qwn Qwk,false,Xb,Zq ?_⟩
   refine⟨_,Xb,_,_,_,false,Xb,.non,Qwq,false,Xb,Zq ?_⟩
   refine⟨_,Xb,_,_,_,false,Xb,.non,Qwl,false,Xb,Zq ?_⟩
   refine⟨_,Xb,_,Xb,Y0 ?_⟩
   refine⟨_,Xb,_,Xb,Zq ?_⟩
   exact fin rfl I
  ·cases dv
   cases du
   refine⟨_,c,_,_,_,false,Xb,Qb,.bl _,Qbq Qwf Qv2,false,Xb,Zq ?_⟩
   refine⟨_,Xb,_,_,_,false,Xb,.bl _,Qxf,false,Xb,Zq ?_⟩
   refine⟨_,Xb,_,_,_,true,Xb,.bl _,Qou,true,Xb,Y0 ?_⟩
   refine⟨_,Xb,_,_,_,true,Xb,.bl _,Qou,true,Xb,Zq ?_⟩
   refine⟨_,Xb,_,Xb,Xb,_,Xb,Qey rfl ?_⟩
   exact fin rfl I
  ·cases dv
   cases du
   refine⟨_,c,_,_,_,false,Xb,Qb,.int _,Qbq Qv4 Qqt,false,Xb,Zq ?_⟩
   refine⟨_,Xb,_,_,_,false,Xb,.int _,Qw4,false,Xb,Zq ?_⟩
   refine⟨_,Xb,_,_,_,false,Xb,.int _,Qp3,false,Xb,Zq ?_⟩
   refine⟨_,Xb,_,Xb,Zq ?_⟩
   refine⟨_,Xb,_,_,_,true,Xb,.int _,Qwg,true,Xb,Zq ?_⟩
   refine⟨_,Xb,_,_,_,false,Xb,.int _,Qp3,false,Xb,Zq ?_⟩
   refine⟨_,Xb,_,Xb,Xb,_,Xb,Qey rfl ?_⟩
   exact fin rfl I
  ·cases dv
   cases du
   refine⟨_,c,_,_,_,false,Xb,Qb,.str _,Qbq Qv8 Qru,false,Xb,Zq ?_⟩
   refine⟨_,Xb,_,_,_,true,Xb,.str _,Qo0,true,Xb,Y0 ?_⟩
   refine⟨_,Xb,_,_,_,true,Xb,.str _,Qo0,true,Xb,Zq ?_⟩
   refine⟨_,Xb,_,Xb,Xb,_,Xb,Qey rfl ?_⟩
   exact fin rfl I
end
theorem Jc{H:Hp}{p:Addr}{w:Str}{vs:List V}{ps:List Th}(a:H p=none)(h:Zn H vs ps):Yl (upd H p (.tup (.str w::vs))) (.ref p) (.mk w ps):=.mk Qb (h.same (Qg a _))
structure Om(t u:Th)(r:Th):Prop where
 ok:t.ok=true->u.ok=true->r.ok=true
 dep:r.depth<=max t.depth u.depth+1
 siz:r.size<=t.size+u.size+2
 sh:t.short=true->u.short=true->r.short=true
 pts:∀p∈r.parts,p=t\/p=u\/p=.mk "tab" []
theorem Qu7{t u:Th}{w:Str}(hw:Iq w=true):Om t u (.mk w [t]):=⟨λa _=>by simp[Th.ok,okL,Iq.str hw,a],by simp only[Th.depth,X5];omega,by simp only[Th.size,Qw];omega,λa _=>by simp[Th.short,Oz,Iq.len hw,a],λp b=>by simp only[Th.parts,Gu,T1,Eu]at b;exact .inl b⟩
theorem Qqc{t u:Th}{w:Str}(hw:Iq w=true):Om t u (.mk w [t,u]):=⟨λa b=>by simp[Th.ok,okL,Iq.str hw,a,b],by simp only[Th.depth,X5];omega,by simp only[Th.size,Qw];omega,λa b=>by simp[Th.short,Oz,Iq.len hw,a,b],λp c=>by simp only[Th.parts,Gu,T1,Eu]at c;exact c.elim .inl (λh=>.inr (.inl h))⟩
theorem Qxs{t u:Th}{w:Str}(hw:Iq w=true)(d:Iq "tab"=true):Om t u (.mk w [t,u,.mk "tab" []]):=⟨λa b=>by simp[Th.ok,okL,Iq.str hw,Iq.str d,a,b],by have:=O9 t;simp only[Th.depth,X5];omega,by simp only[Th.size,Qw];omega,λa b=>by simp[Th.short,Oz,Iq.len hw,Iq.len d,a,b],λp c=>by simp only[Th.parts,Gu,T1,Eu]at c;exact c⟩
theorem Qvm{t u:Th}{w:Str}(hw:Iq w=true):Om t u (.mk w []):=⟨λa b=>by simp[Th.ok,okL,Iq.str hw],by simp only[Th.depth,X5];omega,by simp only[Th.size,Qw];omega,λa b=>by simp[Th.short,Oz,Iq.len hw],λp c=>by simp[Th.parts]at c⟩
def Qyl(H:Hp)(l:Addr)(t u:Th):Prop:=∃vs:List V,H l=some (.lst vs)/\vs.length=4/\∀v∈vs,∃r,Yl H v r/\Om t u r
theorem Qc4{ts:List Th}{m a b:Nat}{t u r:Th}(D:Drawn ts m)(c:ts[a]?=some t)(hb:ts[b]?=some u)(i:b<5)(R:Om t u r):Drawn (ts++[r]) (m+1):=by
 have q:a<ts.length:=(Ge.mp c).1
 have v:b<ts.length:=(Ge.mp hb).1
 have o:=D.len
 have cases:∀(j:Nat)s,(ts++[r])[j]?=some s->ts[j]?=some s\/(j=ts.length/\s=r):=λj s e=>by
  rcases TC j ts.length with h|h
  ·left
   rw[GQ h]at e
   exact e
  ·right
   rw[To h]at e
   have d:j - ts.length=0:=by
    have:=(Ge.mp e).1
    simp at this
    omega
   rw[d]at e
   simp at e
   exact⟨by omega,e.symm⟩
 have k:=D.dep a t c
 have l:=D.dep b u hb
 have n:=R.dep
 have w:=D.any a t c
 have x:=D.tri b u hb (by omega)
 have y:=R.siz
 refine⟨by rw[Gk,Gv];omega,λs f=>?_,λj s e=>?_,λj s e d=>?_,λj s e d=>?_,λj s e d=>?_,λj s e=>?_,λs f=>by
   rcases Gd.mp f with h|h
   ·exact D.sh s h
   ·rw[Gx]at h
    subst h
    exact R.sh (D.sh t (Gb c)) (D.sh u (Gb hb)),by rw[GQ (by omega)];exact D.tab,λs f p g=>?_⟩
 ·rcases Gd.mp f with h|h
  ·exact D.ok s h
  ·rw[Gx]at h
   subst h
   exact R.ok (D.ok t (Gb c)) (D.ok u (Gb hb))
 ·rcases cases j s e with h|⟨rfl,rfl⟩
  ·exact D.dep j s h
  ·omega
 ·rcases cases j s e with h|⟨rfl,rfl⟩
  ·exact D.one j s h d
  ·omega
 ·rcases cases j s e with h|⟨rfl,rfl⟩
  ·exact D.two j s h d
  ·have:=D.one a t c (by omega)
   have:=D.one b u hb (by omega)
   omega
 ·rcases cases j s e with h|⟨rfl,rfl⟩
  ·exact D.tri j s h d
  ·have:=D.two a t c (by omega)
   have:=D.two b u hb (by omega)
   omega
 ·rcases cases j s e with h|⟨rfl,rfl⟩
  ·exact D.any j s h
  ·omega
 ·rcases Gd.mp f with h|h
  ·exact Gi _ (D.cl s h p g)
  ·rw[Gx]at h
   subst h
   refine Gi _ ?_
   rcases R.pts p g with h|h|h
   ·rw[h];exact Gb c
   ·rw[h];exact Gb hb
   ·rw[h];exact Gb D.tab
theorem Vm{α:Type}(xs:List α)(i:Int)(a:0<=i)(h1:i<xs.length):∃v,atI xs i=some v/\xs[i.toNat]?=some v:=by
 have hi:i.toNat<xs.length:=by omega
 have e:i=((i.toNat:Nat):Int):=by omega
 have q:=Qz (Gg hi)
 rw[<-e]at q
 exact⟨_,q,Gg hi⟩
section
variable{P:Program}{w:World}{K:Gc}{mg:Str->Option Value}{base:Heap}
theorem Qlg:Qx ["_law_cells","_law_things","_law_cell","_law_rest","_law_one","_law_other","_law_made","_law_word","_law_three"] ["_law_cells"] (Qk Qfz):=⟨Xb,Xb,Xb,by decide+kernel,Xb,by decide+kernel,by decide+kernel⟩
theorem Qrx{f g:Addr}{fd gd:FuncData}(F:W5 K "_law_drawn_things" "_law_drawn_things" Qfz f fd)(B:Blt mg)(G:Qt P w K mg base Z7 1 g gd ["_law_cell"] Qqa)(kG:PySem.W.keepIn K (.ref g)=true)(bG:Binds K gd ["_law_cell"] [])(mG:mg "_law_any_word"=some (.ref g)):
  Qt P w K mg base Z7 2 f fd ["_law_cells"] (Qlx K):=by
 refine F.ok Qlg (λvs H Q E h=>?_) (λcdv A outer s H vs Q E hr h=>?_)
 ·obtain⟨a,ns,rfl,_⟩:=h
  rfl
 obtain⟨a,ns,rfl,hS,az,q⟩:=h
 have nd:=Qlg.nd
 refine⟨_,Qd (Ql (i:=1) nd rfl (Or.inl Xb) (Zt (Qa (Za (Qa Zc Qe)) (Qa (Za (Qa Zc Qe)) (Qa (Za (Qa Zc Qe)) Qe)))))
  (Qd (Ye GX rfl (Yp (pv 0)) (Qr (i:=2) nd rfl (Or.inl Xb))
   (Qd (Ql (i:=3) nd rfl (Or.inl Xb) (Zp Wv (pv 2) Qj))
   (Qd (Ql (i:=4) nd rfl (Or.inl Xb) (Qo Zh (pv 1) (Zp Xt (pv 3) (Qp Zk rfl B.len Tj (Qa (pv 1) Qe))) (λ_ _=>rfl)))
   (Qd (Ql (i:=5) nd rfl (Or.inl Xb) (Qo Zh (pv 1) (Zp Xt (Zp Wv (pv 3) Qj) (Qp (Qnx Xb) rfl B.min PyProof.Rows.boot_min (Qa Qj (Qa (Qp Zk rfl B.len Tj (Qa (pv 1) Qe)) Qe)))) (λ_ _=>rfl)))
   (Qd (Ql (i:=6) nd rfl (Or.inl Xb) (Zt (Qa (Za (Qa Zc (Qa (pv 4) Qe))) (Qa (Za (Qa Zc (Qa (pv 4) (Qa (pv 5) Qe)))) (Qa (Za (Qa Zc (Qa (pv 4) (Qa (pv 5) Qe)))) (Qa (Za (Qa Zc Qe)) Qe))))))
   (Qd (Zm (Qs Wf (Zp Xt (pv 2) Qj) Qj (Q7 _))
    (Qd (Ql (i:=7) nd rfl (Or.inl Xb) (Qo Zh (Zt (Qa (Z6 G hr rfl mG kG bG .nil Q5 (Qa (Zp Wv (pv 2) Qj) Qe)) (Qa Zc Qe))) (Zp Xt (Zp Wv (pv 2) Qj) Qj) (λ_ _=>rfl)))
    (Qd (Ql (i:=8) nd rfl (Or.inl Xb) (Za (Qa (pv 7) (Qa (pv 4) (Qa (pv 5) (Qa (Za (Qa Zc Qe)) Qe))))))
    (Qh (Ql (i:=6) nd rfl (Or.inl Xb) (Zt (Qa (Za (Qa (pv 7) (Qa (pv 4) Qe))) (Qa (Za (Qa (pv 7) (Qa (pv 4) (Qa (pv 5) Qe)))) (Qa (pv 8) (Qa (Za (Qa (pv 7) Qe)) Qe)))))))))
    Q8)
   (Qh (Zb (Xr Gy Tc Tk Z2 (pv 1) (Qa (Qo Zh (pv 6) (Zp Xt (pv 2) Qj) (λ_ _=>rfl)) Qe))))))))))
  (Qh (Qy (pv 1)))),?_⟩
 have aw:Iq ("sab":Str)=true:=by decide+kernel
 have tab:Iq ("tab":Str)=true:=by decide+kernel
 have ay:Iq ("sob":Str)=true:=by decide+kernel
 have ax:Iq ("sat":Str)=true:=by decide+kernel
 have aa:Iq ("fig":Str)=true:=by decide+kernel
 have an:Iq ("fog":Str)=true:=by decide+kernel
 have ar:Iq ("hog":Str)=true:=by decide+kernel
 refine⟨by show 1<=sizeLine;decide,λp1 h1=>⟨by show 1<=sizeLine;decide,λp2 h2=>⟨by show 1<=sizeLine;decide,λp3 h3=>⟨by show 3<=sizeLine;decide,λp hp=>?_⟩⟩⟩⟩
 have s1:=Qg h1 (.tup [.str "sab"])
 have s2:=Qg h2 (.tup [.str "tab"])
 have s3:=Qg h3 (.tup [.str "sob"])
 have s4:=Qg hp (.lst [.ref p1,.ref p2,.ref p3])
 have S:H p=none:=((s1.trans s2).trans s3).free hp
 have i1:Yl _ (.ref p1) (.mk "sab" []):=(Jc (w:="sab") h1 .nil).same ((s2.trans s3).trans s4)
 have i2:Yl _ (.ref p2) (.mk "tab" []):=(Jc (w:="tab") h2 .nil).same (s3.trans s4)
 have i3:Yl _ (.ref p3) (.mk "sob" []):=(Jc (w:="sob") h3 .nil).same s4
 refine⟨_,Xb,a,Xb,⟨_,(((s1.trans s2).trans s3).trans s4).seq hS⟩,Y2 (K:=K) (a:=a) (xs:=ns.map V.int) (λi σ H2=>∃(us:List V)(ts:List Th)(x2 x3 x4 x5 x6 x7 x8:Option V),σ=[some (.ref a),some (.ref p),x2,x3,x4,x5,x6,x7,x8]/\Q3 H H2/\H2 p=some (.lst us)/\Zn H2 us ts/\Drawn ts i)
  ⟨_,_,_,_,_,_,_,_,_,Xb,((s1.trans s2).trans s3).trans s4,Qb,.cons i1 (.cons i2 (.cons i3 .nil)),?_⟩ (λi σ H2 _⟨_,_,_,_,_,_,_,_,_,_,g,_⟩=>g.seq hS) ?_ ?_⟩
 ·refine⟨Xb,λt J=>?_,λj t e=>?_,λj t e _=>?_,λj t e _=>?_,λj t e _=>?_,λj t e=>?_,λt J=>by
   simp at J
   rcases J with rfl|rfl|rfl<;>decide+kernel,rfl,λt J p hp=>?_⟩
  ·simp at J
   rcases J with rfl|rfl|rfl
   ·simp[Th.ok,okL,Iq.str aw]
   ·simp[Th.ok,okL,Iq.str tab]
   ·simp[Th.ok,okL,Iq.str ay]
  rotate_right
  ·simp at J
   rcases J with rfl|rfl|rfl<;>simp[Th.parts]at hp
  all_goals
   have hm:=Gb e
   simp at hm
   rcases hm with rfl|rfl|rfl<;>simp[Th.depth,X5,Th.size,Qw]
 ·rintro i y σ H2 hi ⟨us,ts,x2,x3,x4,x5,x6,x7,x8,rfl,g,I,N,D⟩
  obtain⟨c,rfl⟩:∃z,y=V.int z:=by
   rw[GY]at hi
   cases e:ns[i]? with
   |none=>rw[e]at hi;cases hi
   |some z=>rw[e]at hi;exact⟨z,(TF hi).symm⟩
  have ao:i<(ns.map V.int).length:=(Ge.mp hi).1
  rw[Gn]at ao
  have lu:=N.length
  have ld:=D.len
  have hL:(us.length:Int)=3+i:=by omega
  refine⟨_,Xb,_,_,Xb,Xb,⟨by decide,by decide⟩,?_⟩
  obtain⟨m,a1,b1⟩:=Vm us (c / 4 % (us.length:Int)) (Dc _ (by omega)) (TW _ (by omega))
  refine⟨_,Xb,_,Xb,_,Xb,p,us,Xb,.inl (Zd.of I),_,_,Xb,Xb,(by show(0:Int)<us.length;omega),p,us,_,m,Xb,Xb,Zd.of I,a1,?_⟩
  have d:(if(us.length:Int)<5 then(us.length:Int)else 5)<=us.length/\0<(if(us.length:Int)<5 then(us.length:Int)else 5)/\(if(us.length:Int)<5 then(us.length:Int)else 5)<=5:=by split<;>omega
  obtain⟨n,a2,b2⟩:=Vm us (c / 4 / 5 % (if(us.length:Int)<5 then(us.length:Int)else 5)) (Dc _ (by omega)) (Int.lt_of_lt_of_le (TW _ d.2.1) d.1)
  have am:(c / 4 / 5 % (if(us.length:Int)<5 then(us.length:Int)else 5)).toNat<5:=by
   have h1:=TW (c / 4 / 5) d.2.1
   have h2:=Dc (c / 4 / 5) (Int.ne_of_gt d.2.1)
   have h3:=d.2.2
   omega
  refine⟨_,Xb,_,Xb,_,_,Xb,Xb,⟨by decide,by decide⟩,_,Xb,p,us,Xb,.inl (Zd.of I),5,_,Xb,_,_,Xb,Xb,d.2.1,p,us,_,n,Xb,Xb,Zd.of I,a2,?_⟩
  obtain⟨t1,c1,Y⟩:=N.get b1
  obtain⟨t2,c2,k2⟩:=N.get b2
  refine⟨_,Xb,by show 2<=sizeLine;decide,λq1 ac=>⟨_,Xb,_,Xb,by show 3<=sizeLine;decide,λq2 ad=>⟨_,Xb,_,Xb,by show 3<=sizeLine;decide,λq3 ae=>⟨by show 1<=sizeLine;decide,λq4 ag=>⟨by show 4<=sizeLine;decide,λl hl=>?_⟩⟩⟩⟩⟩
  have U:=Qg ac (.tup [.str "fig",m])
  have e2:=Qg ad (.tup [.str "fog",m,n])
  have e3:=Qg ae (.tup [.str "fig",m,n])
  have e4:=Qg ag (.tup [.str "sat"])
  have X:=Qg hl (.lst [.ref q1,.ref q2,.ref q3,.ref q4])
  have u:=(((U.trans e2).trans e3).trans e4).trans X
  have m1:=(Jc (w:="fig") ac (.one Y)).same (((e2.trans e3).trans e4).trans X)
  have m2:=(Jc (w:="fog") ad (.cons (Y.same U) (.one (k2.same U)))).same ((e3.trans e4).trans X)
  have m3:=(Jc (w:="fig") ae (.cons (Y.same (U.trans e2)) (.one (k2.same (U.trans e2))))).same (e4.trans X)
  have m4:=(Jc (w:="sat") ag .nil).same X
  generalize ab:upd (upd (upd (upd (upd H2 q1 (.tup [.str "fig",m])) q2 (.tup [.str "fog",m,n])) q3 (.tup [.str "fig",m,n])) q4 (.tup [.str "sat"])) l (.lst [.ref q1,.ref q2,.ref q3,.ref q4])=H3 at*
  have L:Qyl H3 l t1 t2:=by
   refine⟨_,by rw[<-ab];exact Qb,Xb,λv hv=>?_⟩
   simp at hv
   rcases hv with rfl|rfl|rfl|rfl
   ·exact⟨_,m1,Qu7 aa⟩
   ·exact⟨_,m2,Qqc an⟩
   ·exact⟨_,m3,Qqc aa⟩
   ·exact⟨_,m4,Qvm ax⟩
  clear m1 m2 m3 m4 ab U e2 e3 e4 X
  refine⟨_,Xb,_,_,Xb,Xb,(by show(0:Int)<9;decide),Xb,_,Xb,?_⟩
  refine Ur (λ_=>?_) (λ_=>?_)
  ·refine⟨_,Xb,_,_,Xb,Xb,⟨by decide,by decide⟩,_,Xb,λx hx=>⟨by show 2<=sizeLine;decide,λl2 ap=>?_⟩⟩
   have d1:=Qg ap (.lst [.str x,.str "hog"])
   obtain⟨wv,a3,b3⟩:=Vm [V.str x,V.str "hog"] (c / 36 % 2) (Dc _ (by decide)) (TW _ (by decide))
   have au:∃k,wv=.str k/\Iq k=true:=by
    have hm:=Gb b3
    simp at hm
    rcases hm with rfl|rfl
    ·exact⟨_,Xb,hx⟩
    ·exact⟨_,Xb,ar⟩
   obtain⟨k,rfl,C⟩:=au
   refine⟨_,Xb,_,_,Xb,Xb,⟨by decide,by decide⟩,_,_,Xb,Xb,(by show(0:Int)<2;decide),l2,_,_,_,Xb,Xb,Zd.of Qb,a3,?_⟩
   refine⟨_,Xb,_,Xb,_,Xb,by show 1<=sizeLine;decide,λr1 ak=>⟨by show 4<=sizeLine;decide,λr2 al=>?_⟩⟩
   have d2:=Qg ak (.tup [.str "tab"])
   have d3:=Qg al (.tup [.str k,m,n,.ref r1])
   refine⟨_,Xb,_,Xb,by show 2<=sizeLine;decide,λq5 ah=>⟨_,Xb,_,Xb,_,Xb,by show 3<=sizeLine;decide,λq6 ai=>⟨_,Xb,_,Xb,by show 1<=sizeLine;decide,λq7 aj=>⟨by show 4<=sizeLine;decide,λl3 aq=>?_⟩⟩⟩⟩
   have d4:=Qg ah (.tup [.str k,m])
   have d5:=Qg ai (.tup [.str k,m,n])
   have d6:=Qg aj (.tup [.str k])
   have Z:=Qg aq (.lst [.ref q5,.ref q6,.ref r2,.ref q7])
   have aA:=d1
   have z2:=u.trans d1
   have z3:=z2.trans d2
   have z4:=z3.trans d3
   have z5:=z4.trans d4
   have z6:=z5.trans d5
   have tb:=(Jc (w:="tab") ak .nil)
   have n1:=(Jc (w:=k) al (.cons (Y.same z3) (.cons (k2.same z3) (.one tb)))).same (((d4.trans d5).trans d6).trans Z)
   have n2:=(Jc (w:=k) ah (.one (Y.same z4))).same ((d5.trans d6).trans Z)
   have n3:=(Jc (w:=k) ai (.cons (Y.same z5) (.one (k2.same z5)))).same (d6.trans Z)
   have n4:=(Jc (w:=k) aj .nil).same Z
   have zz:=(z6.trans d6).trans Z
   have up:=@Qb (upd (upd (upd (upd (upd (upd H3 l2 (.lst [.str x,.str "hog"])) r1 (.tup [.str "tab"])) r2 (.tup [.str k,m,n,.ref r1])) q5 (.tup [.str k,m])) q6 (.tup [.str k,m,n])) q7 (.tup [.str k])) l3 (.lst [.ref q5,.ref q6,.ref r2,.ref q7])
   generalize upd (upd (upd (upd (upd (upd (upd H3 l2 (.lst [.str x,.str "hog"])) r1 (.tup [.str "tab"])) r2 (.tup [.str k,m,n,.ref r1])) q5 (.tup [.str k,m])) q6 (.tup [.str k,m,n])) q7 (.tup [.str k])) l3 (.lst [.ref q5,.ref q6,.ref r2,.ref q7])=H4 at*
   have M:Qyl H4 l3 t1 t2:=by
    refine⟨_,up,Xb,λv hv=>?_⟩
    simp at hv
    rcases hv with rfl|rfl|rfl|rfl
    ·exact⟨_,n2,Qu7 C⟩
    ·exact⟨_,n3,Qqc C⟩
    ·exact⟨_,n1,Qxs C tab⟩
    ·exact⟨_,n4,Qvm C⟩
   obtain⟨fs,hf,lf,af⟩:=M
   obtain⟨v,av,bv⟩:=Vm fs (c % 4) (Dc _ (by decide)) (by rw[lf];exact TW _ (by decide))
   obtain⟨r,T,R⟩:=af v (Gb bv)
   have O:=zz _ _ I
   refine⟨_,Xb,.inl ⟨Xb,_,Zd.of O⟩,_,Xb,_,Xb,_,_,Xb,Xb,(by show(0:Int)<4;decide),l3,fs,_,v,Xb,Xb,Zd.of hf,av,p,us,v,Xb,Xb,O,by rw[Td];omega,?_⟩
   have tu:=Zr (H:=H4) (a:=p) (o:=.lst (us++[v])) λxs e=>by rw[O]at e;cases e
   refine⟨us++[v],ts++[r],_,_,_,_,_,_,_,Xb,λb o e=>?_,Qb,((N.same zz).append (.one T)).Qm tu,Qc4 D c1 c2 am R⟩
   rw[Qf (Qc e S)]
   exact zz _ _ (g _ _ e)
  ·skip
   obtain⟨fs,hf,lf,af⟩:=L
   obtain⟨v,av,bv⟩:=Vm fs (c % 4) (Dc _ (by decide)) (by rw[lf];exact TW _ (by decide))
   obtain⟨r,T,R⟩:=af v (Gb bv)
   have O:=u _ _ I
   refine⟨_,Xb,.inl ⟨Xb,_,Zd.of O⟩,_,Xb,_,Xb,_,_,Xb,Xb,(by show(0:Int)<4;decide),l,fs,_,v,Xb,Xb,Zd.of hf,av,p,us,v,Xb,Xb,O,by rw[Td];omega,?_⟩
   have tu:=Zr (H:=H3) (a:=p) (o:=.lst (us++[v])) λxs e=>by rw[O]at e;cases e
   refine⟨us++[v],ts++[r],_,_,_,_,_,_,_,Xb,λb o e=>?_,Qb,((N.same u).append (.one T)).Qm tu,Qc4 D c1 c2 am R⟩
   rw[Qf (Qc e S)]
   exact u _ _ (g _ _ e)
 ·rintro σ H2 ⟨us,ts,x2,x3,x4,x5,x6,x7,x8,rfl,g,I,N,D⟩
  rw[Gn]at D
  exact⟨_,Xb,q p us ts H2 g S I N D⟩
end
open PySem L2 Sb
theorem Qeo(b:Bool):(tw b==("unlike":Str))= !b:=by cases b<;>decide+kernel
section
variable{P:Program}{w:World}{K:Gc}{mg:Str->Option Value}{base:Heap}
theorem Qro:Qx ["_law_told","_law_one","_law_other","_law_leaders","_law_word","_law_left","_law_right"] ["_law_told","_law_one","_law_other"] (Qk Qk0):=⟨Xb,Xb,Xb,by decide+kernel,Xb,by decide+kernel,by decide+kernel⟩
theorem Qh7:Qx ["_law_told","_law_deed","_law_every","_law_leaders","_law_word","_law_one","_law_other"] ["_law_told","_law_deed"] (Qk Qbj):=⟨Xb,Xb,Xb,by decide+kernel,Xb,by decide+kernel,by decide+kernel⟩
theorem Quk{f Z:Addr}{fd dC:FuncData}(F:W5 K "_law_kind" "_law_kind" Qk0 f fd)
  (GC:Qt P w K mg base Z7 1 Z dC ["_law_told","_law_things"] (Qad P w))(kC:PySem.W.keepIn K (.ref Z)=true)(bC:Binds K dC ["_law_told","_law_things"] [])(mC:mg "_law_classes"=some (.ref Z)):
  Qt P w K mg base Z7 2 f fd ["_law_told","_law_one","_law_other"] Qi5:=by
 refine F.ok Qro (λvs H Q E h=>?_) (λcdv A outer s H vs Q E hr h=>?_)
 ·obtain⟨a,us,tl,v1,v2,x,y,rfl,_⟩:=h
  rfl
 obtain⟨a,us,tl,v1,v2,x,y,rfl,J,b,h1,h2,kx,ky,B,hsz,q⟩:=h
 have nd:=Qro.nd
 have O:=hr.units
 refine⟨_,(Qd (Ql (i:=3) nd rfl (Or.inl Xb) (Z6 GC hr rfl mC kC bC .nil Q5 (Qa (pv 0) (Qa (Zt (Qa (pv 1) (Qa (pv 2) Qe))) Qe))))
  (Qd (Zm (Qs Wf (Qo (Ug O) (pv 3) (pv 1) (λ_ _=>rfl)) (Qo (Ug O) (pv 3) (pv 2) (λ_ _=>rfl)) (Q7 _))
  (Qh (Qy Zc)) Q8)
  (Qd (Ql (i:=3) nd rfl (Or.inl Xb) (Z6 GC hr rfl mC kC bC .nil Q5 (Qa (Zp V0 (pv 0) (Zt (Qa (Za (Qa Zc (Qa (pv 1) (Qa (pv 2) Qe)))) Qe))) (Qa (Zt Qe) Qe))))
  (Qd (Ye GX rfl (Yp (pv 0)) (W9 rfl (Zj (Qr (i:=4) nd rfl (Or.inl Xb)) (Zj (Qr (i:=5) nd rfl (Or.inl Xb)) (Zj (Qr (i:=6) nd rfl (Or.inl Xb)) Xz))))
  (Qh (Zm (PW.pt (V1 (Qs Wf (pv 4) Zc (Q7 _)) (Vf (Qs Wf (Qo (Ug O) (pv 3) (pv 5) (λ_ _=>rfl)) (Qo (Ug O) (pv 3) (pv 6) (λ_ _=>rfl)) (Q7 _)))))
  (Qh (Qy Zc)) Q8)))
  (Qh (Qy Zc)))))),?_⟩
 obtain⟨G,_,_,_,rfl,_,_,_⟩:=h1.inv
 obtain⟨I,_,_,_,rfl,_,_,_⟩:=h2.inv
 refine⟨_,Xb,_,Xb,_,Xb,by show 2<=sizeLine;decide,λc hc=>?_⟩
 have s1:=Qg hc (.lst [.ref G,.ref I])
 refine⟨a,c,us,_,tl,[x,y],Xb,s1 _ _ J,b.Qm (Qu.of s1),Qb,.cons (h1.same s1) (.cons (h2.same s1) .nil),?_,B,by simp only[Qw];omega,λd S L H1 g1 hd N T C ac=>?_⟩
 ·intro t M
  simp only[Gu,T1,Eu]at M
  rcases M with rfl|rfl
  ·exact kx
  ·exact ky
 have R:=s1.trans g1
 have hx:x∈S:=C x (by simp)
 have hy:y∈S:=C y (by simp)
 refine⟨_,Xb,_,Xb,N.get hx (h1.same R) ⟨_,Xb,_,Xb,N.get hy (h2.same R) ⟨Xb,_,Xb,?_⟩⟩⟩
 rw[Vd]
 refine Ur (λc=>?_) (λc=>?_)
 ·have c:L x=L y:=by simpa using c
  exact q _ _ R (.inl ⟨Xb,(T.iff hx hy).mp c⟩)
 have nc:¬Cg tl x y:=λz=>by
  have:=(T.iff hx hy).mpr z
  simp[this]at c
 refine⟨_,Xb,_,Xb,_,Xb,by show 3<=sizeLine;decide,λe he=>?_⟩
 have s2:=Qg he (.tup [.str "same",.ref G,.ref I])
 refine⟨by show 1<=sizeLine;decide,λl hl=>?_⟩
 have s3:=Qg hl (.lst [.ref e])
 have ab:us.length=tl.length:=Gs b
 have ae:tl.length<=3000:=by
  have:=Zz (tl.map (·.2.1))
  rw[Gn]at this
  omega
 have sB:=(R.trans s2).trans s3
 refine⟨a,l,us,[.ref e],Xb,Xb,sB _ _ J,Qb,small (by show us.length+1<=_;omega),λn hn=>?_⟩
 have s4:=Qg hn (.lst (us++[.ref e]))
 refine⟨Ta _,λz hz=>?_⟩
 have s5:=Qg hz (.lst [])
 have U:=(sB.trans s4).trans s5
 have r:Qw ([]:List Th)+Qw ((tl++[(true,x,y)]).map (·.2.1))+Qw ((tl++[(true,x,y)]).map (·.2.2))<=3000:=by
  rw[Tt,Tt,Xm,Xm]
  simp only[GO,EA,Qw]
  omega
 refine⟨n,z,us++[.ref e],[],tl++[(true,x,y)],[],Xb,s5 _ _ Qb,?_,Qb,.nil,(λt M=>nomatch M),?_,r,λd2 S2 L2 H2 g2 ad N2 T2 _ g=>?_⟩
 ·exact Ym (b.Qm (Qu.of U)) (.cons ⟨e,.ref G,.ref I,Xb,s5 _ _ (s4 _ _ (s3 _ _ Qb)),h1.same U,h2.same U⟩ .nil)
 ·intro p k
  rcases Gd.mp k with k|k
  ·exact B p k
  ·rw[Gx]at k
   subst k
   exact⟨kx,ky⟩
 have j:=U.trans g2
 refine⟨_,Xb,a,Xb,⟨_,Zd.of (j _ _ J)⟩,Y2 (K:=K) (a:=a) (xs:=us) (λi σ D=>D=H2/\(∃x4 x5 x6,σ=[some (.ref a),some (.ref G),some (.ref I),some (.ref d2),x4,x5,x6])/\∀u v,(false,u,v)∈tl.take i->¬Cg (tl++[(true,x,y)]) u v)
  ⟨Xb,⟨_,_,_,Xb⟩,by simp⟩ (λi σ D _⟨e,_⟩=>Zd.of (by rw[e];exact j _ _ J)) ?_ ?_⟩
 ·rintro i p σ D hi ⟨rfl,⟨x4,x5,x6,rfl⟩,o⟩
  obtain⟨⟨Y,V,X⟩,eu,a',w1,w2,rfl,aa,t1,t2⟩:=Qv b hi
  obtain⟨c1,_,_,_,rfl,_,_,_⟩:=t1.inv
  obtain⟨c2,_,_,_,rfl,_,_,_⟩:=t2.inv
  have mem:=Gb eu
  have i2:=g (Y,V,X) (Gi _ mem)
  have tk:tl.take (i+1)=tl.take i++[(Y,V,X)]:=by rw[Tf,eu];rfl
  refine⟨a',_,Xb,Z4.of (j _ _ aa),Xb,_,_,Xb,_,_,Xb,_,_,Xb,Xb,?_⟩
  refine⟨_,Xb,Xb,_,Xb,?_⟩
  rw[Yf,Qeo]
  cases Y with
  |true=>
   refine Zq (Zq ⟨Xb,⟨_,_,_,Xb⟩,λu v h=>?_⟩)
   rw[tk,Gd,Gx]at h
   rcases h with h|h
   ·exact o u v h
   ·cases h
  |false=>
   refine Y0 ?_
   refine⟨_,Xb,_,Xb,N2.get i2.1 (t1.same j) ⟨_,Xb,_,Xb,N2.get i2.2 (t2.same j) ⟨Xb,_,Xb,?_⟩⟩⟩
   rw[Vd]
   refine Ur (λm=>?_) (λm=>?_)
   ·have m:L2 V=L2 X:=by simpa using m
    exact q _ _ j (.inr (.inl ⟨Xb,nc,V,X,mem,(T2.iff i2.1 i2.2).mp m⟩))
   ·refine⟨Xb,⟨_,_,_,Xb⟩,λu v h=>?_⟩
    rw[tk,Gd,Gx]at h
    rcases h with h|h
    ·exact o u v h
    ·cases h
     intro z
     have:=(T2.iff i2.1 i2.2).mpr z
     simp[this]at m
 ·rintro σ D ⟨rfl,_,o⟩
  rw[ab,Te]at o
  exact q _ _ j (.inr (.inr ⟨Xb,nc,o⟩))
theorem Qmp{f N:Addr}{fd X:FuncData}(F:W5 K "_law_barred" "_law_barred" Qbj f fd)
  (GC:Qt P w K mg base Z7 1 N X ["_law_told","_law_things"] (Qad P w))(kC:PySem.W.keepIn K (.ref N)=true)(bC:Binds K X ["_law_told","_law_things"] [])(mC:mg "_law_classes"=some (.ref N)):
  Qt P w K mg base Z7 2 f fd ["_law_told","_law_deed"] Qc3:=by
 refine F.ok Qh7 (λvs H Q E h=>?_) (λcdv A outer s H vs Q E hr h=>?_)
 ·obtain⟨a,e,us,tl,v1,v2,b,x,y,rfl,_⟩:=h
  rfl
 obtain⟨a,e,us,tl,v1,v2,b,x,y,rfl,ha,C,he,h1,h2,kx,ky,R,hsz,q⟩:=h
 have nd:=Qh7.nd
 have hu:=hr.units
 refine⟨_,(Qd (Ql (i:=2) nd rfl (Or.inl Xb) (Zp V0 (pv 0) (Zt (Qa (pv 1) Qe))))
  (Qd (Ql (i:=3) nd rfl (Or.inl Xb) (Z6 GC hr rfl mC kC bC .nil Q5 (Qa (pv 2) (Qa (Zt Qe) Qe))))
  (Qd (Ye GX rfl (Yp (pv 2)) (W9 rfl (Zj (Qr (i:=4) nd rfl (Or.inl Xb)) (Zj (Qr (i:=5) nd rfl (Or.inl Xb)) (Zj (Qr (i:=6) nd rfl (Or.inl Xb)) Xz))))
  (Qh (Zm (PW.pt (V1 (Qs Wf (pv 4) Zc (Q7 _)) (Vf (Qs Wf (Qo (Ug hu) (pv 3) (pv 5) (λ_ _=>rfl)) (Qo (Ug hu) (pv 3) (pv 6) (λ_ _=>rfl)) (Q7 _)))))
  (Qh (Qy W0)) Q8)))
  (Qh (Qy W0))))),?_⟩
 have ac:us.length=tl.length:=Gs C
 have ab:tl.length<=3000:=by
  have:=Zz (tl.map (·.2.1))
  rw[Gn]at this
  omega
 refine⟨_,Xb,_,Xb,by show 1<=sizeLine;decide,λl hl=>?_⟩
 have s3:=Qg hl (.lst [.ref e])
 refine⟨a,l,us,[.ref e],Xb,Xb,s3 _ _ ha,Qb,small (by show us.length+1<=_;omega),λn hn=>?_⟩
 have s4:=Qg hn (.lst (us++[.ref e]))
 refine⟨_,Xb,Ta _,λz hz=>?_⟩
 have s5:=Qg hz (.lst [])
 have sC:=(s3.trans s4).trans s5
 have B:Qw ([]:List Th)+Qw ((tl++[(b,x,y)]).map (·.2.1))+Qw ((tl++[(b,x,y)]).map (·.2.2))<=3000:=by
  rw[Tt,Tt,Xm,Xm]
  simp only[GO,EA,Qw]
  omega
 have d:Ub H (us++[.ref e]) (tl++[(b,x,y)]):=Ym C (.cons ⟨e,v1,v2,Xb,he,h1,h2⟩ .nil)
 have S:(us++[V.ref e]).length=(tl++[(b,x,y)]).length:=Gs d
 have r:=s5 _ _ (@Qb _ n (.lst (us++[.ref e])))
 have o:∀p∈tl++[(b,x,y)],(p.2.1.ok=true/\p.2.1.depth<=8)/\p.2.2.ok=true/\p.2.2.depth<=8:=by
  intro p j
  rcases Gd.mp j with j|j
  ·exact R p j
  ·rw[Gx]at j
   subst j
   exact⟨kx,ky⟩
 generalize us++[V.ref e]=G at*
 generalize tl++[(b,x,y)]=c at*
 refine⟨n,z,G,[],c,[],Xb,r,d.Qm (Qu.of sC),Qb,.nil,(λt ht=>nomatch ht),o,B,λd2 S2 L2 H2 Z aa T U _ g=>?_⟩
 have D:=sC.trans Z
 have nD:=Z _ _ r
 refine⟨_,Xb,n,Xb,⟨_,Zd.of nD⟩,Y2 (K:=K) (a:=n) (xs:=G) (λi σ I=>I=H2/\(∃x4 x5 x6,σ=[some (.ref a),some (.ref e),some (.ref n),some (.ref d2),x4,x5,x6])/\∀u v,(false,u,v)∈c.take i->¬Cg c u v)
  ⟨Xb,⟨_,_,_,Xb⟩,by simp⟩ (λi σ I _⟨e,_⟩=>Zd.of (by rw[e];exact nD)) ?_ ?_⟩
 ·rintro i p σ I hi ⟨rfl,⟨x4,x5,x6,rfl⟩,m⟩
  obtain⟨⟨M,J,L⟩,Y,a',w1,w2,rfl,O,t1,t2⟩:=Qv d hi
  obtain⟨c1,_,_,_,rfl,_,_,_⟩:=t1.inv
  obtain⟨c2,_,_,_,rfl,_,_,_⟩:=t2.inv
  have mem:=Gb Y
  have i2:=g (M,J,L) mem
  have tk:c.take (i+1)=c.take i++[(M,J,L)]:=by rw[Tf,Y];rfl
  refine⟨a',_,Xb,Z4.of (D _ _ O),Xb,_,_,Xb,_,_,Xb,_,_,Xb,Xb,?_⟩
  refine⟨_,Xb,Xb,_,Xb,?_⟩
  rw[Yf,Qeo]
  cases M with
  |true=>
   refine Zq (Zq ⟨Xb,⟨_,_,_,Xb⟩,λu v h=>?_⟩)
   rw[tk,Gd,Gx]at h
   rcases h with h|h
   ·exact m u v h
   ·cases h
  |false=>
   refine Y0 ?_
   refine⟨_,Xb,_,Xb,T.get i2.1 (t1.same D) ⟨_,Xb,_,Xb,T.get i2.2 (t2.same D) ⟨Xb,_,Xb,?_⟩⟩⟩
   rw[Vd]
   refine Ur (λk=>?_) (λk=>?_)
   ·have k:L2 J=L2 L:=by simpa using k
    exact q true _ D ⟨λ_=>⟨J,L,mem,(U.iff i2.1 i2.2).mp k⟩,λ_=>rfl⟩
   ·refine⟨Xb,⟨_,_,_,Xb⟩,λu v h=>?_⟩
    rw[tk,Gd,Gx]at h
    rcases h with h|h
    ·exact m u v h
    ·cases h
     intro z
     have:=(U.iff i2.1 i2.2).mpr z
     simp[this]at k
 ·rintro σ I ⟨rfl,_,m⟩
  rw[S,Te]at m
  exact q false _ D ⟨λz=>by(cases z),λ⟨u,v,h1,h2⟩=>absurd h2 (m u v h1)⟩
end
open PySem L2 Sb
section
variable{P:Program}{w:World}{K:Gc}{mg:Str->Option Value}{base:Heap}
theorem Qu5:Qx ["_law_cell","_law_size"] ["_law_cell"] (Qk Qss):=⟨Xb,Xb,Xb,by decide+kernel,Xb,by decide+kernel,by decide+kernel⟩
theorem Qwo{f:Addr}{fd:FuncData}(F:W5 K "_law_any" "_law_any" Qss f fd):Qt P w K mg base Z7 1 f fd ["_law_cell"] Qvk:=by
 refine F.ok Qu5 (λvs H Q E h=>?_) (λcdv A outer s H vs Q E e h=>?_)
 ·obtain⟨n,rfl,_⟩:=h
  rfl
 obtain⟨n,rfl,q⟩:=h
 have nd:=Qu5.nd
 refine⟨_,(Qd (Ql (i:=1) nd rfl (Or.inl Xb) (Zp Xt (Zp Wv (pv 0) Qj) (Zp Qq4 Qj Qj)))
  (Qh (Qy (Zp Qr1 (pv 1) (Qo Zh (Zt (Qa Qj (Qa (Qdf Iw Qj) Qe))) (Zp Xt (pv 0) Qj) (λ_ _=>rfl)))))),?_⟩
 refine⟨_,Xb,_,_,Xb,Xb,⟨by decide,by decide⟩,_,_,Xb,Xb,⟨by decide,by decide,by decide⟩,_,_,Xb,Xb,(by show(0:Int)<10^Int.toNat 59;decide),?_⟩
 refine⟨_,Xb,_,Xb,by show 2<=sizeLine;decide,λl a=>?_⟩
 obtain⟨v,c,d⟩:=Vm [V.int 1,V.int (-1)] (n % 2) (Dc _ (by decide)) (TW _ (by decide))
 have b:=Gb d
 simp only[Gu,T1,Eu]at b
 refine⟨_,Xb,_,_,Xb,Xb,(by show(0:Int)<2;decide),l,_,_,v,Xb,Xb,Zd.of Qb,c,?_⟩
 rcases b with rfl|rfl
 ·exact⟨_,_,Xb,Xb,.inr ⟨by decide,by decide⟩,q _ _ (Qg a _)⟩
 ·exact⟨_,_,Xb,Xb,.inr ⟨by decide,by decide⟩,q _ _ (Qg a _)⟩
theorem Qor:Qx ["_law_script","_law_most","_law_bound"] ["_law_script","_law_most","_law_bound"] (Qk Qkz):=⟨Xb,Xb,Xb,by decide+kernel,Xb,by decide+kernel,by decide+kernel⟩
theorem Qup{f:Addr}{fd:FuncData}(F:W5 K "_law_room" "_law_room" Qkz f fd)(B:Blt mg):Qt P w K mg base Z7 1 f fd ["_law_script","_law_most","_law_bound"] (Qq0 K):=by
 refine F.ok Qor (λvs H Q E h=>?_) (λcdv A outer s H vs Q E e h=>?_)
 ·obtain⟨a,ns,m,b,rfl,_⟩:=h
  rfl
 obtain⟨a,ns,m,b,rfl,hS,d,q⟩:=h
 have nd:=Qor.nd
 refine⟨_,(Qd (Zm (Qs Qii (Qp Yv rfl B.len Tj (Qa (pv 0) Qe)) Qj (Q7 _))
  (Qh (Qy (pv 2))) Q8)
  (Qh (Qy (pv 1)))),?_⟩
 refine⟨_,Xb,_,_,Xb,.inl ⟨_,hS,Xb⟩,_,_,Xb,Xb,_,Xb,?_⟩
 refine Ur (λc=>?_) (λc=>?_)
 ·exfalso
  have c:=T3 c
  rw[Gn]at c
  omega
 ·exact⟨_,Xb,q⟩
theorem Qky:Qx ["_law_cells","_law_things","_law_deeds","_law_k","_law_rest","_law_one","_law_other","_law_way","_law_odd"] ["_law_cells","_law_things"] (Qk Qfc):=⟨Xb,Xb,Xb,by decide+kernel,Xb,by decide+kernel,by decide+kernel⟩
theorem Qre{f fA:Addr}{fd dA:FuncData}(F:W5 K "_law_drawn_deeds" "_law_drawn_deeds" Qfc f fd)(B:Blt mg)
  (GA:Qt P w K mg base Z7 1 fA dA ["_law_cell"] Qvk)(kA:PySem.W.keepIn K (.ref fA)=true)(bA:Binds K dA ["_law_cell"] [])(mA:mg "_law_any"=some (.ref fA)):
  Qt P w K mg base Z7 2 f fd ["_law_cells","_law_things"] (Qmd K):=by
 refine F.ok Qky (λvs H Q E h=>?_) (λcdv A outer s H vs Q E hr h=>?_)
 ·obtain⟨a,b,ns,us,ts,rfl,_⟩:=h
  rfl
 obtain⟨a,b,ns,us,ts,rfl,hS,ac,hb,D,ae,ad,q⟩:=h
 have nd:=Qky.nd
 have ag:=D.length
 refine⟨_,(Qd (Ql (i:=2) nd rfl (Or.inl Xb) (Zt Qe))
  (Qd (Ye GX rfl (Ue rfl B.range (Qa (Qp Yv rfl B.len Tj (Qa (pv 0) Qe)) Qe)) (Qr (i:=3) nd rfl (Or.inl Xb))
  (Qd (Ql (i:=4) nd rfl (Or.inl Xb) (Zp Wv (Qo Zh (pv 0) (pv 3) (λ_ _=>rfl)) Qj))
  (Qd (Ql (i:=5) nd rfl (Or.inl Xb) (Qo Zh (pv 1) (Zp Xt (Zp Qb5 (pv 4) (pv 3)) (Qp Yv rfl B.len Tj (Qa (pv 1) Qe))) (λ_ _=>rfl)))
  (Qd (Ql (i:=6) nd rfl (Or.inl Xb) (Qo Zh (pv 1) (Zp Xt (Zp Qb5 (Zp Qb5 (Zp Wv (pv 4) Qj) (Zp Qr1 Qj (pv 3))) Qj) (Qp Yv rfl B.len Tj (Qa (pv 1) Qe))) (λ_ _=>rfl)))
  (Qd (Ql (i:=7) nd rfl (Or.inl Xb) (Zp Xt (Qo Zh (pv 0) (pv 3) (λ_ _=>rfl)) Qj))
  (Qh (Zm (Qs Qg3 (pv 7) Qj (Q7 _))
  (Qh (Zb (Xr Gy Tc Tk Z2 (pv 2) (Qa (Za (Qa Zc (Qa (pv 5) (Qa (pv 6) Qe)))) Qe)))) (Qh (Zm (Qs Qg3 (pv 7) Qj (Q7 _))
  (Qh (Zb (Xr Gy Tc Tk Z2 (pv 2) (Qa (Za (Qa Zc (Qa (pv 5) (Qa (pv 6) Qe)))) Qe)))) (Qh (Zm (Qs Qg3 (pv 7) Qj (Q7 _))
  (Qh (Zb (Xr Gy Tc Tk Z2 (pv 2) (Qa (Za (Qa Zc (Qa (pv 5) (Qa (pv 6) Qe)))) Qe)))) (Qd (Ql (i:=8) nd rfl (Or.inl Xb) (Z6 GA hr rfl mA kA bA .nil Q5 (Qa (Qo Zh (pv 0) (pv 3) (λ_ _=>rfl)) Qe)))
  (Qh (Zb (Xr Gy Tc Tk Z2 (pv 2) (Qa (Za (Qa Zc (Qa (Qo Zh (Zt (Qa (Zp Xt (pv 4) Qj) (Qa Qj (Qa (Qdf Iw Qj) (Qa (pv 8) Qe))))) (Zp Xt (Zp Wv (pv 4) Qj) Qj) (λ_ _=>rfl)) Qe))) Qe))))))))))))))))
  (Qh (Qy (pv 2))))),?_⟩
 refine⟨Ta _,λp hp=>?_⟩
 have s1:=Qg hp (.lst [])
 refine⟨_,Xb,_,_,Xb,.inl ⟨_,s1.seq hS,Xb⟩,_,Xb,by omega,by rw[Gn];omega,Ud (lo:=0) (n:=(((ns.map V.int).length:Int)).toNat) (λi σ H1=>∃(es:List V)(dl:List Dd)(S T U X Y Z:Option V),σ=[some (.ref a),some (.ref b),some (.ref p),S,T,U,X,Y,Z]/\Q3 H H1/\H1 p=some (.lst es)/\Xx H1 es dl/\dl.length=i/\∀d∈dl,d.fits ts)
  ⟨[],[],_,_,_,_,_,_,Xb,s1,Qb,.nil,Xb,λd hd=>nomatch hd⟩ ?_ ?_⟩
 ·rintro i σ H1 hi ⟨es,dl,S,T,U,X,Y,Z,rfl,y,k,g2,g3,g4⟩
  have hi:i<ns.length:=by rw[Gn]at hi;omega
  have af:es.length=dl.length:=Gs g2
  generalize hc:ns[i]=c
  have ec:atI (ns.map V.int) (0+(i:Int))=some (.int c):=by
   rw[EL]
   refine Qz ?_
   rw[GY,Gg hi,hc]
   rfl
  have pos:(0:Int)<us.length:=by omega
  obtain⟨t,a1,f1⟩:=Vm us ((c / 10+(0+(i:Int))) % us.length) (Dc _ (by omega)) (TW _ pos)
  obtain⟨u,a2,f2⟩:=Vm us ((c / 10 / 7+2*(0+(i:Int))+1) % us.length) (Dc _ (by omega)) (TW _ pos)
  obtain⟨O,e1,i1⟩:=D.get f1
  obtain⟨R,e2,i2⟩:=D.get f2
  have I:=Gb e1
  have J:=Gb e2
  have r:=y _ _ hb
  refine⟨_,Xb,_,Xb,a,_,_,_,Xb,Xb,y.seq hS,ec,_,_,Xb,Xb,⟨by decide,by decide⟩,?_⟩
  refine⟨_,Xb,_,Xb,_,Xb,_,_,Xb,Xb,_,Xb,_,_,Xb,.inl ⟨us,Zd.of r,Xb⟩,_,_,Xb,Xb,pos,b,us,_,t,Xb,Xb,Zd.of r,a1,?_⟩
  refine⟨_,Xb,_,Xb,_,_,Xb,Xb,⟨by decide,by decide⟩,_,Xb,_,_,Xb,Xb,.inl ⟨by decide,by decide⟩,_,_,Xb,Xb,_,_,Xb,Xb,_,Xb,_,_,Xb,.inl ⟨us,Zd.of r,Xb⟩,_,_,Xb,Xb,pos,b,us,_,u,Xb,Xb,Zd.of r,a2,?_⟩
  refine⟨_,Xb,_,Xb,a,_,_,_,Xb,Xb,y.seq hS,ec,_,_,Xb,Xb,(by show(0:Int)<10;decide),?_⟩
  have fin:∀{v:Hp}{e:Addr}{xs:List V}{d:Dd}{aa:Option V},Q3 H1 v->v e=none->d.fits ts->Qa3 (upd (upd v e (.tup xs)) p (.lst (es++[.ref e]))) (.ref e) d->
    ∃(M:List V)(dl:List Dd)(S T U X Y Z:Option V),[some (V.ref a),some (.ref b),some (.ref p),some (.int (0+(i:Int))),some (.int (c / 10)),some t,some u,some (.int (c % 10)),aa]=[some (.ref a),some (.ref b),some (.ref p),S,T,U,X,Y,Z]/\Q3 H (upd (upd v e (.tup xs)) p (.lst (es++[.ref e])))/\(upd (upd v e (.tup xs)) p (.lst (es++[.ref e]))) p=some (.lst M)/\Xx (upd (upd v e (.tup xs)) p (.lst (es++[.ref e]))) M dl/\dl.length=i+1/\∀d∈dl,d.fits ts:=by
   intro v e xs d aa N g hf hd
   have s4:=Qg g (.tup xs)
   have p4:=s4 _ _ (N _ _ k)
   have L:Qu H1 (upd (upd v e (.tup xs)) p (.lst (es++[.ref e]))):=((Qu.of N).trans (Qu.of s4)).trans (Zr λys z=>by rw[p4]at z;cases z)
   refine⟨es++[.ref e],dl++[d],_,_,_,_,_,_,Xb,λq o hq=>?_,Qb,Ym (g2.Qm L) (.cons hd .nil),by rw[Gk,Gv,g3],λd' ab=>?_⟩
   ·rw[Qf (Qc hq hp)]
    exact s4 _ _ (N _ _ (y _ _ hq))
   ·rcases Gd.mp ab with z|z
    ·exact g4 d' z
    ·rw[Gx]at z
     rw[z];exact hf
  have j:∀{x:Str}{e:Addr}{d:Dd},H1 e=none->d.fits ts->(d=.ask O R/\x="ask"\/∃bb,d=.tell bb O R/\x=tw bb)->Qa3 (upd (upd H1 e (.tup [.str x,t,u])) p (.lst (es++[.ref e]))) (.ref e) d:=by
   intro x e d g hf hd
   have s4:=Qg g (.tup [.str x,t,u])
   have p4:=s4 _ _ k
   have C:e≠p:=λz=>by rw[z,k]at g;cases g
   have L:Qu H (upd (upd H1 e (.tup [.str x,t,u])) p (.lst (es++[.ref e]))):=((Qu.of y).trans (Qu.of s4)).trans (Zr λys z=>by rw[p4]at z;cases z)
   have at_:(upd (upd H1 e (.tup [.str x,t,u])) p (.lst (es++[.ref e]))) e=some (.tup [.str x,t,u]):=by rw[Qf C];exact Qb
   rcases hd with⟨rfl,rfl⟩|⟨bb,rfl,rfl⟩
   ·exact⟨e,t,u,Xb,at_,i1.Qm L,i2.Qm L⟩
   ·exact⟨e,t,u,Xb,at_,i1.Qm L,i2.Qm L⟩
  refine⟨_,Xb,_,_,Xb,Xb,_,Xb,?_⟩
  refine Ur (λc1=>?_) (λc1=>?_)
  ·refine⟨_,Xb,.inl ⟨Xb,_,Zd.of k⟩,_,Xb,_,Xb,by show 3<=sizeLine;decide,λe g=>?_⟩
   refine⟨p,es,.ref e,Xb,Xb,Qg g _ _ _ k,by rw[Td];omega,?_⟩
   exact fin (d:=.tell true O R) (λ_ _ h=>h) g ⟨I,J⟩ (j g ⟨I,J⟩ (.inr ⟨true,Xb,Xb⟩))
  refine⟨_,Xb,_,_,Xb,Xb,_,Xb,?_⟩
  refine Ur (λc2=>?_) (λc2=>?_)
  ·refine⟨_,Xb,.inl ⟨Xb,_,Zd.of k⟩,_,Xb,_,Xb,by show 3<=sizeLine;decide,λe g=>?_⟩
   refine⟨p,es,.ref e,Xb,Xb,Qg g _ _ _ k,by rw[Td];omega,?_⟩
   exact fin (d:=.tell false O R) (λ_ _ h=>h) g ⟨I,J⟩ (j g ⟨I,J⟩ (.inr ⟨false,Xb,Xb⟩))
  refine⟨_,Xb,_,_,Xb,Xb,_,Xb,?_⟩
  refine Ur (λc3=>?_) (λc3=>?_)
  ·refine⟨_,Xb,.inl ⟨Xb,_,Zd.of k⟩,_,Xb,_,Xb,by show 3<=sizeLine;decide,λe g=>?_⟩
   refine⟨p,es,.ref e,Xb,Xb,Qg g _ _ _ k,by rw[Td];omega,?_⟩
   exact fin (d:=.ask O R) (λ_ _ h=>h) g ⟨I,J⟩ (j g ⟨I,J⟩ (.inl ⟨Xb,Xb⟩))
  refine⟨_,Xb,_,Xb,a,_,_,_,Xb,Xb,y.seq hS,ec,_,Xb,λm H2 s2=>?_⟩
  refine⟨_,Xb,.inl ⟨Xb,_,Zd.of (s2 _ _ k)⟩,_,Xb,_,_,Xb,Xb,(by show(0:Int)<4;decide),_,Xb,_,Xb,by show 4<=sizeLine;decide,λl hl=>?_⟩
  have N:=Qg hl (.lst [.int (c / 10 % 4),.int 0,.int (-1),.int m])
  obtain⟨v3,a3,f3⟩:=Vm [V.int (c / 10 % 4),.int 0,.int (-1),.int m] (c / 10 / 4 % 4) (Dc _ (by decide)) (TW _ (by decide))
  have hv:=Gb f3
  obtain⟨z,rfl⟩:∃z,v3=V.int z:=by
   simp only[Gu,T1,Eu]at hv
   rcases hv with h|h|h|h<;>exact⟨_,h⟩
  refine⟨_,Xb,_,_,Xb,Xb,⟨by decide,by decide⟩,_,_,Xb,Xb,(by show(0:Int)<4;decide),l,_,_,.int z,Xb,Xb,Zd.of Qb,a3,by show 2<=sizeLine;decide,λe g=>?_⟩
  have G:=s2.trans N
  have C:e≠p:=λz=>by rw[z,G _ _ k]at g;cases g
  refine⟨p,es,.ref e,Xb,Xb,Qg g _ _ _ (G _ _ k),by rw[Td];omega,?_⟩
  exact fin (d:=.back z) G g True.intro ⟨e,rfl,by rw[Qf C];exact Qb⟩
 ·rintro σ H1 ⟨es,dl,S,T,U,X,Y,Z,rfl,y,k,g2,g3,g4⟩
  refine⟨_,Xb,q p es dl H1 y hp k g2 ?_ g4⟩
  rw[g3,Gn]
  omega
end
open PySem L2 Sb
def Qzd:Stmt->List Stmt
 |.For _ _ b _ _=>b
 |_=>[]
abbrev lSt(i:Nat):Stmt:=(Ve Qfj).getD i (.Pass ⟨0,0,0,0⟩)
abbrev Q01:Stmt:=(Qzd (lSt 7)).getD 2 (.Pass ⟨0,0,0,0⟩)
abbrev lN:List Str:=["_law_script","_law_things","_law_deeds","_law_one","_law_far","_law_handed","_law_found","_law_told","_law_k","_law_deed","_law_due"]
theorem Qmb:Qx lN ["_law_script"] (Qk Qfj):=⟨Xb,Xb,Xb,by decide+kernel,Xb,by decide+kernel,by decide+kernel⟩
theorem Qgc(ns:List Int)(j k:Nat):∃a:List Int,Uj (ns.map V.int) (some (j:Int)) (some (k:Int))=a.map V.int/\a.length<=k - j/\(ns.length<=j->a=[]):=by
 refine⟨(ns.drop (min j ns.length)).take (min k ns.length - min j ns.length),?_,?_,λh=>?_⟩
 ·unfold Uj
  rw[HT.Rz,HT.Rz,Gn,Ls,List.map_drop]
 ·rw[T6];omega
 ·rw[Nat.min_eq_right h,Nat.sub_eq_zero_of_le (Nat.min_le_right _ _)]
  simp
theorem Qg5(xs:List V)(i:Int)(a:0<=i):Uj xs none (some i)=xs.take i.toNat:=by
 obtain⟨k,rfl⟩:∃k:Nat,i=(k:Int):=⟨i.toNat,by omega⟩
 unfold Uj
 rw[HT.Ro,HT.Rz]
 simp
section
variable{P:Program}{w:World}{K:Gc}{mg:Str->Option Value}{base:Heap}{f:Addr}{cdv:Value}{A:Around}{outer:List Env}{s:Shared}{Hi:Hp}{E:XK}
abbrev XL(P:Program)(w:World)(K:Gc)(mg:Str->Option Value)(base:Heap)(f:Addr)(cdv:Value)(A:Around)(outer:List Env)(s:Shared)(Hi:Hp)(E:XK):Cx:=(Qh3 Z7 P w K mg base lN "law" (Qk Qfj) f cdv A outer s Hi E).nox
theorem Qsh{ts:List Th}{m:Nat}(D:Drawn ts m)(e:m<=4):∀t∈ts,t.good:=λt b=>by
 obtain⟨j,a⟩:=TL.mp b
 have d:j<ts.length:=(Ge.mp a).1
 have h1:=D.any j t a
 have h2:=D.dep j t a
 have c:=D.len
 exact⟨D.ok t b,by omega,by omega⟩
theorem Qqo(B:Blt mg):∃t,PS (XL P w K mg base f cdv A outer s Hi E) (lSt 2) t/\∀(a r L:Addr)(ns:List Int)(us es:List V)(ts:List Th)(dl:List Dd)(m:Nat)(H0:Hp)
  (hS:Zd K H0 a (ns.map V.int))(hr:H0 r=some (.lst us))(u:Zn H0 us ts)(D:Drawn ts m)(hm:m<=4)(hq:H0 L=some (.lst es))(o:Xx H0 es dl)(k:∀d∈dl,d.fits ts)(hl:dl.length<=6),
  Tr t (λσ H=>H=H0/\σ=[some (.ref a),some (.ref r),some (.ref L),none,none,none,none,none,none,none,none])
   (λσ H=>∃q I C Y O,σ=[some (.ref a),some (.ref r),some (.ref q),Y,O,none,none,none,none,none,none]/\Q3 H0 H/\H q=some (.lst I)/\Xx H I C/\(∃U,Qfg U/\∀d∈C,d.fits U)/\C.length<=6):=by
 have nd:=Qmb.nd
 refine⟨_,(Zm (PW.pt (V1 (Qs Qii (Qp Yv rfl B.len Tj (Qa (pv 0) Qe)) Qj (Q7 _)) (Vf (Qs Wf (Zp Xt (Qo Zh (pv 0) Qj (λ_ _=>rfl)) Qj) Qj (Q7 _)))))
  (Qd (Ql (i:=3) nd rfl (Or.inl Xb) (Qo Zh (pv 1) Qj (λ_ _=>rfl)))
  (Qd (Ql (i:=4) nd rfl (Or.inl Xb) (Qo Zh (pv 1) (Zp Qb5 Qj (Zp Xt (Zp Wv (Qo Zh (pv 0) Qj (λ_ _=>rfl)) Qj) Qj)) (λ_ _=>rfl)))
  (Qh (Ql (i:=2) nd rfl (Or.inl Xb) (Zp V0 (Yx Vc (pv 2) Xy (Yy Qj)) (Zt (Qa (Za (Qa Zc (Qa (pv 3) (Qa (pv 4) Qe)))) (Qa (Za (Qa Zc (Qa (Za (Qa Zc (Qa (pv 3) Qe))) (Qa (Za (Qa Zc (Qa (pv 4) Qe))) Qe)))) Qe)))))))) Q8),?_⟩
 intro a r L ns us es ts dl m H0 hS hr u D hm hq o k hl
 rintro D' σ H ⟨rfl,rfl⟩ kk
 have v:=Qsh D hm
 have an:∀d∈dl,d.good:=λd hd=>by
  have h:=k d hd
  cases d with
  |tell b x y=>exact⟨v x h.1,v y h.2⟩
  |ask x y=>exact⟨v x h.1,v y h.2⟩
  |back i=>exact True.intro
 have aq:=u.length
 have ap:=D.len
 have no:=kk _ _ ⟨L,es,dl,none,none,Xb,λ_ _ h=>h,hq,o,⟨ts,⟨R7 D.cl,v,by omega⟩,k⟩,hl⟩
 refine⟨_,Xb,_,_,Xb,.inl ⟨_,hS,Xb⟩,_,_,Xb,Xb,_,Xb,?_⟩
 refine Ur (λc=>?_) (λc=>Zq no)
 have c:0<ns.length:=by
  have:=T3 c
  rw[Gn]at this
  omega
 generalize ab:ns[0]=n0
 have e0:atI (ns.map V.int) 0=some (.int n0):=by
  refine Qz (j:=0) ?_
  rw[GY,Gg c,ab]
  rfl
 refine⟨_,Xb,a,_,_,_,Xb,Xb,hS,e0,_,_,Xb,Xb,(by show(0:Int)<3;decide),Xb,_,Xb,?_⟩
 refine Ur (λc2=>?_) (λc2=>no)
 obtain⟨W,a1,f1⟩:=Vm us 0 (by decide) (by omega)
 have b0:=Dc (n0 / 3) (show(2:Int)≠0 by decide)
 have b1:=TW (n0 / 3) (show(0:Int)<2 by decide)
 obtain⟨X,a2,f2⟩:=Vm us (1+n0 / 3 % 2) (by omega) (by omega)
 obtain⟨F,Q,i1⟩:=u.get f1
 obtain⟨G,R,i2⟩:=u.get f2
 have g1:=v F (Gb Q)
 have g2:=v G (Gb R)
 have z1:=D.one _ _ Q (by decide)
 have z2:=D.one _ _ R (by omega)
 have y1:=D.dep _ _ Q
 have y2:=D.dep _ _ R
 have h3:(1+n0 / 3 % 2).toNat<=2:=by omega
 have h4:(0:Int).toNat=0:=rfl
 have Z:PyData.strOk ("fig":Str)=true:=by decide+kernel
 have gf:∀t:Th,t.good->t.size<=1->t.depth<=3->(Th.mk "fig" [t]).good:=λt g z y=>⟨by simp[Th.ok,okL,Z,g.1],by simp only[Th.depth,X5];omega,by simp only[Th.size,Qw];omega⟩
 refine⟨_,Xb,r,us,_,W,Xb,Xb,Zd.of hr,a1,?_⟩
 refine⟨_,Xb,_,Xb,a,_,_,_,Xb,Xb,hS,e0,_,_,Xb,Xb,⟨by decide,by decide⟩,_,_,Xb,Xb,(by show(0:Int)<2;decide),_,_,Xb,Xb,r,us,_,X,Xb,Xb,Zd.of hr,a2,?_⟩
 refine⟨_,Xb,_,Xb,L,_,Xb,Zd.of hq,λp1 ac=>?_⟩
 rw[Qg5 es 4 (by decide)]
 have s1:=Qg ac (.lst (es.take (Int.toNat 4)))
 refine⟨_,Xb,_,Xb,by show 3<=sizeLine;decide,λx1 ad=>?_⟩
 have s2:=Qg ad (.tup [.str "same",W,X])
 refine⟨_,Xb,by show 2<=sizeLine;decide,λx2 ae=>?_⟩
 have s3:=Qg ae (.tup [.str "fig",W])
 refine⟨_,Xb,by show 2<=sizeLine;decide,λY af=>?_⟩
 have s4:=Qg af (.tup [.str "fig",X])
 refine⟨by show 3<=sizeLine;decide,λO ag=>?_⟩
 have S:=Qg ag (.tup [.str "ask",.ref x2,.ref Y])
 refine⟨by show 2<=sizeLine;decide,λl aa=>?_⟩
 have N:=Qg aa (.lst [.ref x1,.ref O])
 have ao:es.length=dl.length:=Gs o
 have ah:=s1.trans s2
 have ai:=ah.trans s3
 have aj:=ai.trans s4
 have ak:=aj.trans S
 have al:=ak.trans N
 refine⟨p1,l,_,_,Xb,Xb,(((s2.trans s3).trans s4).trans S).trans N _ _ Qb,Qb,small (by rw[T6];show _+2<=_;omega),λn hn=>?_⟩
 have T:=Qg hn (.lst (es.take (Int.toNat 4)++[.ref x1,.ref O]))
 have e:=al.trans T
 have M:=((s4.trans S).trans N).trans T
 have am:=(S.trans N).trans T
 refine kk _ _ ⟨n,_,dl.take 4++[.tell true F G,.ask (.mk "fig" [F]) (.mk "fig" [G])],_,_,Xb,e,Qb,?_,?_,?_⟩
 ·refine Ym ?_ (.cons ⟨x1,W,X,Xb,(s3.trans M) _ _ Qb,i1.same e,i2.same e⟩ (.cons ⟨O,.ref x2,.ref Y,Xb,(N.trans T) _ _ Qb,.mk (M _ _ Qb) (.one (i1.same e)),.mk (am _ _ Qb) (.one (i2.same e))⟩ .nil))
  have all:∀{xs:List V}{ds:List Dd}(n:Nat),Xx H xs ds->Xx H (xs.take n) (ds.take n):=by
   intro xs ds n h
   induction h generalizing n with
   |nil=>cases n<;>exact .nil
   |cons h r ih=>
    cases n with
    |zero=>exact .nil
    |succ n=>exact .cons h (ih n)
  exact(all 4 o).same e
 ·have m1:F∈ts:=Gb Q
  have m2:G∈ts:=Gb R
  refine⟨ts++[.mk "fig" [F],.mk "fig" [G]],⟨R7 λt ht p J=>?_,λt ht=>?_,by rw[Gk];show _+2<=60;omega⟩,λd hd=>?_⟩
  ·rcases Gd.mp ht with z|z
   ·exact Gi _ (D.cl t z p J)
   ·simp only[Gu,T1,Eu]at z
    rcases z with rfl|rfl
    ·simp only[Th.parts,Gu,T1,Eu]at J
     rw[J];exact Gi _ m1
    ·simp only[Th.parts,Gu,T1,Eu]at J
     rw[J];exact Gi _ m2
  ·rcases Gd.mp ht with z|z
   ·exact v t z
   ·simp only[Gu,T1,Eu]at z
    rcases z with rfl|rfl
    ·exact gf F g1 z1 (by omega)
    ·exact gf G g2 z2 (by omega)
  ·have up:∀{d:Dd},d.fits ts->d.fits (ts++[.mk "fig" [F],.mk "fig" [G]]):=λ{d}h=>by
    cases d with
    |tell b x y=>exact⟨Gi _ h.1,Gi _ h.2⟩
    |ask x y=>exact⟨Gi _ h.1,Gi _ h.2⟩
    |back i=>exact True.intro
   rcases Gd.mp hd with z|z
   ·exact up (k d (Dp z))
   ·simp only[Gu,T1,Eu]at z
    rcases z with rfl|rfl
    ·exact⟨Gi _ m1,Gi _ m2⟩
    ·exact⟨by simp,by simp⟩
 ·rw[Gk,T6]
  show _+2<=6
  omega
end
open PySem L2 Sb
theorem Qv3(b:Bool):(tw b==("ask":Str))=false:=by cases b<;>decide+kernel
theorem Qf1(b:Bool):(tw b==("back":Str))=false:=by cases b<;>decide+kernel
theorem Qs8:(("ask":Str)=="ask")=true:=by decide+kernel
theorem Qqn:(("back":Str)=="ask")=false:=by decide+kernel
theorem Um:(("back":Str)=="back")=true:=by decide+kernel
theorem Qm9{H:Hp}{xs:List V}{tl:Tl}(n:Nat)(h:Ub H xs tl):Ub H (xs.take n) (tl.take n):=by
 unfold Ub at h⊢
 induction h generalizing n with
 |nil=>cases n<;>exact .nil
 |cons h r a=>
  cases n with
  |zero=>exact .nil
  |succ n=>exact .cons h (a n)
section
variable{P:Program}{w:World}{K:Gc}{mg:Str->Option Value}{base:Heap}{f:Addr}{cdv:Value}{A:Around}{outer:List Env}{s:Shared}{Hi:Hp}{E:XK}
theorem Qsw{X Y:Addr}{dN dZ:FuncData}(B:Blt mg)(hr:Yc 2 (XL P w K mg base f cdv A outer s Hi E).A)
  (GN:Qt P w K mg base Z7 2 X dN ["_law_told","_law_one","_law_other"] Qi5)(kN:PySem.W.keepIn K (.ref X)=true)(bN:Binds K dN ["_law_told","_law_one","_law_other"] [])(mN:mg "_law_kind"=some (.ref X))
  (GZ:Qt P w K mg base Z7 2 Y dZ ["_law_told","_law_deed"] Qc3)(kZ:PySem.W.keepIn K (.ref Y)=true)(bZ:Binds K dZ ["_law_told","_law_deed"] [])(mZ:mg "_law_barred"=some (.ref Y)):
  ∃t,PS (XL P w K mg base f cdv A outer s Hi E) Q01 t/\∀(l e:Addr)(tv:List V)(tl:Tl)(d:Dd)(H0:Hp)(Z x1 x2 x3 x4 x5 x6 x8:Option V)
  (m:H0 l=some (.lst tv))(g:Ub H0 tv tl)(hd:Qa3 H0 (.ref e) d)(J:d.good)(I:Tlg tl)(ln:tl.length<=10),
  Tr t (λσ H=>H=H0/\σ=[Z,x1,x2,x3,x4,x5,x6,some (.ref l),x8,some (.ref e),some (.str "no moment")])
   (λσ H=>∃O M,σ=[Z,x1,x2,x3,x4,x5,x6,some (.ref O),x8,some (.ref e),some (W4 tl d).2]/\Jm l H0 H/\(O=l\/H0 O=none)/\H O=some (.lst M)/\Ub H M (W4 tl d).1):=by
 have nd:=Qmb.nd
 refine⟨_,(Zm (Qs Wf (Qo Q4 (pv 9) Qj (λ_ _=>rfl)) Zc (Q7 _))
  (Qh (Ql (i:=10) nd rfl (Or.inl Xb) (Z6 GN hr rfl mN kN bN .nil Q5 (Qa (pv 7) (Qa (Qo Q4 (pv 9) Qj (λ_ _=>rfl)) (Qa (Qo Q4 (pv 9) Qj (λ_ _=>rfl)) Qe)))))) (Qh (Zm (PW.pt (V1 (Qs Wf (Qo Q4 (pv 9) Qj (λ_ _=>rfl)) Zc (Q7 _)) (Vf (Qq3 Qp0 Qp0 Qj (Qo Q4 (pv 9) Qj (λ_ _=>rfl)) (Qp Yv rfl B.len Tj (Qa (pv 7) Qe))))))
  (Qd (Ql (i:=10) nd rfl (Or.inl Xb) (Zp Qf0 (Qp Yv rfl B.len Tj (Qa (pv 7) Qe)) (Qo Q4 (pv 9) Qj (λ_ _=>rfl))))
  (Qh (Ql (i:=7) nd rfl (Or.inl Xb) (Yx Vc (pv 7) Xy (Yy (Qo Q4 (pv 9) Qj (λ_ _=>rfl))))))) (Qh (Zm (PW.pt (V1 (Qs Jq (Qo Q4 (pv 9) Qj (λ_ _=>rfl)) Zc (Q7 _)) (Vf (Xs (Z6 GZ hr rfl mZ kZ bZ .nil Q5 (Qa (pv 7) (Qa (pv 9) Qe)))))))
  (Qh (Ql (i:=10) nd rfl (Or.inl Xb) Zc)) (Qh (Zm (Qs Jq (Qo Q4 (pv 9) Qj (λ_ _=>rfl)) Zc (Q7 _))
  (Qd (Zb (Xr Gy Tc Tk Z2 (pv 7) (Qa (pv 9) Qe)))
  (Qh (Ql (i:=10) nd rfl (Or.inl Xb) (Qp Yv rfl B.len Tj (Qa (pv 7) Qe))))) Q8))))))),?_⟩
 intro l e tv tl d H0 Z x1 x2 x3 x4 x5 x6 x8 m g hd J I ln
 rintro D σ H ⟨rfl,rfl⟩ q
 have r:tv.length=tl.length:=Gs g
 have sz:=Qqh I
 have L:∀p∈tl,(p.2.1.ok=true/\p.2.1.depth<=8)/\p.2.2.ok=true/\p.2.2.depth<=8:=λp N=>⟨⟨(I p N).1.1,(I p N).1.2.1⟩,(I p N).2.1,(I p N).2.2.1⟩
 cases d with
 |tell b x y=>
  obtain⟨a',T,U,ea,h,Q,R⟩:=hd
  cases ea
  have C:=J.1
  have G:=J.2
  have zx:=C.2.2
  have zy:=G.2.2
  refine⟨_,Xb,e,_,_,_,Xb,Xb,Z4.of h,Qz (j:=0) rfl,Xb,_,Xb,?_⟩
  rw[Yf,Qv3]
  refine Zq ?_
  refine⟨_,Xb,e,_,_,_,Xb,Xb,Z4.of h,Qz (j:=0) rfl,Xb,_,Xb,?_⟩
  rw[Yf,Qf1]
  refine Zq (Zq ?_)
  refine⟨_,Xb,e,_,_,_,Xb,Xb,Z4.of h,Qz (j:=0) rfl,Xb,_,Xb,?_⟩
  rw[Yf,Qf1]
  refine Y0 ?_
  refine⟨_,Xb,_,Xb,l,e,tv,tl,T,U,b,x,y,Xb,m,g,h,Q,R,⟨C.1,C.2.1⟩,⟨G.1,G.2.1⟩,L,by omega,λrr H1 s1 hb=>⟨rr,Xb,?_⟩⟩
  cases rr with
  |true=>
   refine Y0 ?_
   have a:W4 tl (.tell b x y)=(tl,.str "clash"):=by simp only[W4];rw[Gp (hb.mp Xb)]
   rw[a]at q
   exact q _ _ ⟨l,tv,Xb,Jm.of s1,.inl Xb,s1 _ _ m,g.Qm (Qu.of s1)⟩
  |false=>
   refine Zq ?_
   have nb:¬Iy (tl++[(b,x,y)]):=λz=>GV (hb.mpr z)
   have a:W4 tl (.tell b x y)=(tl++[(b,x,y)],.int ((tl.length:Int)+1)):=by simp only[W4];rw[Gj nb]
   rw[a]at q
   refine⟨_,Xb,e,_,_,_,Xb,Xb,Z4.of (s1 _ _ h),Qz (j:=0) rfl,Xb,_,Xb,?_⟩
   rw[Yf,Qf1]
   refine Y0 ?_
   refine⟨_,Xb,.inl ⟨Xb,_,Zd.of (s1 _ _ m)⟩,_,Xb,l,tv,_,Xb,Xb,s1 _ _ m,by rw[Td];omega,?_⟩
   have S:Qu H (upd H1 l (.lst (tv++[.ref e]))):=(Qu.of s1).trans (Zr λxs z=>by rw[s1 _ _ m]at z;cases z)
   refine⟨_,Xb,_,_,Xb,.inl ⟨_,Zd.of Qb,Xb⟩,?_⟩
   have el:(((tv++[V.ref e]).length:Nat):Int)=(tl.length:Int)+1:=by rw[Gk,Gv,r];omega
   rw[el]
   exact q _ _ ⟨l,tv++[.ref e],Xb,λc o h1 h2=>by rw[Qf h2];exact s1 _ _ h1,.inl Xb,Qb,Ym (g.Qm S) (.cons ⟨e,T,U,Xb,S _ _ h,Q.Qm S,R.Qm S⟩ .nil)⟩
 |ask x y=>
  obtain⟨a',T,U,ea,h,Q,R⟩:=hd
  cases ea
  have C:=J.1
  have G:=J.2
  have zx:=C.2.2
  have zy:=G.2.2
  refine⟨_,Xb,e,_,_,_,Xb,Xb,Z4.of h,Qz (j:=0) rfl,Xb,_,Xb,?_⟩
  rw[Yf,Qs8]
  refine Y0 ?_
  refine⟨_,Xb,_,Xb,e,_,_,_,Xb,Xb,Z4.of h,Qz (j:=1) rfl,_,Xb,e,_,_,_,Xb,Xb,Z4.of h,Qz (j:=2) rfl,l,tv,tl,T,U,x,y,Xb,m,g,Q,R,⟨C.1,C.2.1⟩,⟨G.1,G.2.1⟩,L,by omega,λk H1 s1 hk=>?_⟩
  have a:W4 tl (.ask x y)=(tl,.str k):=by simp only[W4];rw[hk.eq]
  rw[a]at q
  exact q _ _ ⟨l,tv,Xb,Jm.of s1,.inl Xb,s1 _ _ m,g.Qm (Qu.of s1)⟩
 |back i=>
  obtain⟨a',ea,h⟩:=hd
  cases ea
  refine⟨_,Xb,e,_,_,_,Xb,Xb,Z4.of h,Qz (j:=0) rfl,Xb,_,Xb,?_⟩
  rw[Yf,Qqn]
  refine Zq ?_
  refine⟨_,Xb,e,_,_,_,Xb,Xb,Z4.of h,Qz (j:=0) rfl,Xb,_,Xb,?_⟩
  rw[Yf,Um]
  refine Y0 ?_
  refine⟨_,Xb,e,_,_,_,Xb,Xb,Z4.of h,Qz (j:=1) rfl,_,_,Xb,Xb,_,Xb,?_⟩
  refine Ur (λu=>?_) (λu=>?_)
  ·have u:0<=i:=T3 u
   refine⟨_,Xb,_,_,Xb,.inl ⟨_,Zd.of m,Xb⟩,_,_,Xb,Xb,_,Xb,?_⟩
   refine Ur (λv=>?_) (λv=>?_)
   ·have v:i<=(tv.length:Int):=T3 v
    have a:W4 tl (.back i)=(tl.take i.toNat,.int ((tl.length:Int) - i)):=by simp only[W4];rw[Gp ⟨u,by rw[<-r];exact v⟩]
    rw[a]at q
    refine⟨_,Xb,_,_,Xb,.inl ⟨_,Zd.of m,Xb⟩,_,Xb,e,_,_,_,Xb,Xb,Z4.of h,Qz (j:=1) rfl,_,_,Xb,Xb,?_⟩
    refine⟨_,Xb,_,Xb,e,_,_,_,Xb,Xb,Z4.of h,Qz (j:=1) rfl,_,Xb,l,_,Xb,Zd.of m,λn hn=>?_⟩
    rw[Qg5 tv i u,r]
    have s1:=Qg hn (.lst (tv.take i.toNat))
    exact q _ _ ⟨n,_,Xb,Jm.of s1,.inr hn,Qb,Qm9 _ (g.Qm (Qu.of s1))⟩
   ·have v:¬i<=(tv.length:Int):=λz=>v (Tp z)
    have a:W4 tl (.back i)=(tl,.str "no moment"):=by simp only[W4];rw[Gj (λz=>v (by rw[r];exact z.2))]
    rw[a]at q
    refine⟨_,Xb,e,_,_,_,Xb,Xb,Z4.of h,Qz (j:=0) rfl,Xb,_,Xb,?_⟩
    rw[Yf,Um]
    refine Zq (Zq ?_)
    refine⟨_,Xb,e,_,_,_,Xb,Xb,Z4.of h,Qz (j:=0) rfl,Xb,_,Xb,?_⟩
    rw[Yf,Um]
    refine Zq ?_
    exact q _ _ ⟨l,tv,Xb,Jm.refl,.inl Xb,m,g⟩
  ·have u:¬0<=i:=λz=>u (Tp z)
   have a:W4 tl (.back i)=(tl,.str "no moment"):=by simp only[W4];rw[Gj (λz=>u z.1)]
   rw[a]at q
   refine⟨false,Xb,Zq ?_⟩
   refine⟨_,Xb,e,_,_,_,Xb,Xb,Z4.of h,Qz (j:=0) rfl,Xb,_,Xb,?_⟩
   rw[Yf,Um]
   refine Zq (Zq ?_)
   refine⟨_,Xb,e,_,_,_,Xb,Xb,Z4.of h,Qz (j:=0) rfl,Xb,_,Xb,?_⟩
   rw[Yf,Um]
   refine Zq ?_
   exact q _ _ ⟨l,tv,Xb,Jm.refl,.inl Xb,m,g⟩
end
open PySem L2 Sb
theorem Qms(tl:Tl)(x y:Th):PyData.strOk (kindOf tl x y)=true:=by
 unfold kindOf
 split
 ·decide+kernel
 ·split<;>decide+kernel
theorem Qmx(tl:Tl)(d:Dd):(∃x,(W4 tl d).2=.str x/\PyData.strOk x=true)\/∃i,(W4 tl d).2=.int i:=by
 cases d with
 |ask x y=>exact .inl ⟨_,Xb,Qms tl x y⟩
 |back i=>
  simp only[W4]
  split
  ·exact .inr ⟨_,Xb⟩
  ·exact .inl ⟨_,Xb,by decide+kernel⟩
 |tell b x y=>
  simp only[W4]
  split
  ·exact .inl ⟨_,Xb,by decide+kernel⟩
  ·exact .inr ⟨_,Xb⟩
theorem Qsg{v:V}(h:(∃x,v=.str x/\PyData.strOk x=true)\/∃i,v=.int i):∃d:PyData,(∀H,Dt H v d)/\d.canLay0=true/\Wn d<=1000000/\d.depth<=60:=by
 rcases h with⟨x,rfl,a⟩|⟨i,rfl⟩
 ·exact⟨.str x,λ_=>.str x,by simp[PyData.canLay0,a],by simp[Wn],by simp[PyData.depth]⟩
 ·exact⟨.int i,λ_=>.int i,by simp[PyData.canLay0],by simp[Wn],by simp[PyData.depth]⟩
theorem Qqw{K:Gc}{H:Hp}{v:V}(h:(∃x,v=.str x/\PyData.strOk x=true)\/∃i,v=.int i):∃t,Ik K H v t/\PySem.W.kitOne K t (.type "tuple")=some false:=by
 rcases h with⟨x,rfl,a⟩|⟨i,rfl⟩
 ·exact⟨_,.str x,Qru⟩
 ·exact⟨_,.int i,Qqt⟩
section
variable{P:Program}{w:World}{K:Gc}{mg:Str->Option Value}{base:Heap}
theorem Qw0{M nW nT:Nat}{f0 fD fE fR fW fS fN fZ fT:Addr}{fd dD dE dR dW dS dN dZ dT:FuncData}{pW pT:Str}(F:W5 K "law" "law" Qfj f0 fd)(B:Blt mg)(hM:2<=M)(hW:nW<=M)(hT:nT<=M)
  (GD:Qt P w K mg base Z7 2 fD dD ["_law_cells"] (Qlx K))(kD:PySem.W.keepIn K (.ref fD)=true)(bD:Binds K dD ["_law_cells"] [])(mD:mg "_law_drawn_things"=some (.ref fD))
  (GE:Qt P w K mg base Z7 2 fE dE ["_law_cells","_law_things"] (Qmd K))(kE:PySem.W.keepIn K (.ref fE)=true)(bE:Binds K dE ["_law_cells","_law_things"] [])(mE:mg "_law_drawn_deeds"=some (.ref fE))
  (GR:Qt P w K mg base Z7 1 fR dR ["_law_script","_law_most","_law_bound"] (Qq0 K))(kR:PySem.W.keepIn K (.ref fR)=true)(bR:Binds K dR ["_law_script","_law_most","_law_bound"] [])(mR:mg "_law_room"=some (.ref fR))
  (GS:Qt P w K mg base Z7 1 fS dS ["_law_found","_law_due"] Qye)(kS:PySem.W.keepIn K (.ref fS)=true)(bS:Binds K dS ["_law_found","_law_due"] [])(mS:mg "_law_so"=some (.ref fS))
  (GN:Qt P w K mg base Z7 2 fN dN ["_law_told","_law_one","_law_other"] Qi5)(kN:PySem.W.keepIn K (.ref fN)=true)(bN:Binds K dN ["_law_told","_law_one","_law_other"] [])(mN:mg "_law_kind"=some (.ref fN))
  (GZ:Qt P w K mg base Z7 2 fZ dZ ["_law_told","_law_deed"] Qc3)(kZ:PySem.W.keepIn K (.ref fZ)=true)(bZ:Binds K dZ ["_law_told","_law_deed"] [])(mZ:mg "_law_barred"=some (.ref fZ))
  (GW:Qt P w K mg base Z7 nW fW dW [pW] O3)(kW:PySem.W.keepIn K (.ref fW)=true)(bW:Binds K dW [pW] [])(mW:mg "answers"=some (.ref fW))
  (GT:Qt P w K mg base Z7 nT fT dT [pT] Qj1)(kT:PySem.W.keepIn K (.ref fT)=true)(bT:Binds K dT [pT] [])(mT:mg "told_after"=some (.ref fT)):
  Qt P w K mg base Z7 (M+1) f0 fd ["_law_script"] (Qk1 K):=by
 refine F.ok Qmb (λvs H Q E h=>?_) (λcdv A outer s H vs Q E hr h=>?_)
 ·obtain⟨a,ns,rfl,_⟩:=h
  rfl
 obtain⟨a,ns,rfl,hS,ap,q⟩:=h
 have nd:=Qmb.nd
 have hu:=hr.units
 have ah:Yc 2 _:=hr.mono hM
 have L:Yc 1 _:=hr.mono (by omega)
 have aP:Yc nW _:=hr.mono hW
 have aO:Yc nT _:=hr.mono hT
 obtain⟨tM,aV,aX⟩:=Qqo (P:=P) (w:=w) (K:=K) (mg:=mg) (base:=base) (f:=f0) (cdv:=cdv) (A:=A) (outer:=outer) (s:=s) (Hi:=H) (E:=E) B
 obtain⟨tD,aU,aW⟩:=Qsw (P:=P) (w:=w) (K:=K) (mg:=mg) (base:=base) (f:=f0) (cdv:=cdv) (A:=A) (outer:=outer) (s:=s) (Hi:=H) (E:=E) B ah GN kN bN mN GZ kZ bZ mZ
 refine⟨_,(Qd (Ql (i:=1) nd rfl (Or.inl Xb) (Z6 GD ah rfl mD kD bD .nil Q5 (Qa (Zp V0 (Yx Vc (pv 0) (Yy Qj) (Yy Qj)) (Yx Vc (pv 0) (Yy Qj) (Yy Qj))) Qe)))
  (Qd (Ql (i:=2) nd rfl (Or.inl Xb) (Z6 GE ah rfl mE kE bE .nil Q5 (Qa (Yx Vc (pv 0) (Yy Qj) (Yy (Zp Qb5 Qj (Z6 GR L rfl mR kR bR .nil Q5 (Qa (pv 0) (Qa Qj (Qa Qj Qe))))))) (Qa (pv 1) Qe))))
  (Qd aV
  (Qd (Ql (i:=5) nd rfl (Or.inl Xb) (Xn Vb rfl B.list TY (Qa (pv 2) Qe)))
  (Qd (Ql (i:=6) nd rfl (Or.inl Xb) (Z6 GW aP rfl mW kW bW .nil Q5 (Qa (pv 5) Qe)))
  (Qd (Zm (PW.pt (Qcn (Re (Xs (Qp Xj rfl B.isinstance Tq (Qa (pv 6) (Qa (Xq (v:=.ty "list") rfl B.list TY Xb) Qe))))) (Qcn (Qs Jq (Qp Yv rfl B.len Tj (Qa (pv 6) Qe)) (Qp Yv rfl B.len Tj (Qa (pv 2) Qe)) (Q7 _)) (Qc6 (Re (Xs (Z6 GS L rfl mS kS bS .nil Q5 (Qa (pv 5) (Qa (pv 2) Qe)))))))))
  (Qh (Qy W0)) Q8)
  (Qd (Ql (i:=7) nd rfl (Or.inl Xb) (Zt Qe))
  (Qd (Ye GX rfl (Ue rfl B.range (Qa (Qp Yv rfl B.len Tj (Qa (pv 2) Qe)) Qe)) (Qr (i:=8) nd rfl (Or.inl Xb))
  (Qd (Ql (i:=9) nd rfl (Or.inl Xb) (Qo Zh (pv 2) (pv 8) (λ_ _=>rfl)))
  (Qd (Ql (i:=10) nd rfl (Or.inl Xb) Zc)
  (Qd aU
  (Qd (Ql (i:=3) nd rfl (Or.inl Xb) (Qo Zh (pv 6) (pv 8) (λ_ _=>rfl)))
  (Qd (Zm (PW.pt (V1 (Xs (Qp Xj rfl B.isinstance Tq (Qa (pv 3) (Qa (Xq (v:=.ty "tuple") rfl B.tuple De Xb) Qe)))) (Vf (Qs Qii (Qp Yv rfl B.len Tj (Qa (pv 3) Qe)) Qj (Q7 _)))))
  (Qh (Ql (i:=3) nd rfl (Or.inl Xb) (Qo Q4 (pv 3) Qj (λ_ _=>rfl)))) Q8)
  (Qh (Zm (Re (Xs (Z6 GS L rfl mS kS bS .nil Q5 (Qa (pv 3) (Qa (pv 10) Qe)))))
  (Qh (Qy W0)) Q8))))))))
  (Qh (Qy (Z6 GS L rfl mS kS bS .nil Q5 (Qa (Z6 GT aO rfl mT kT bT .nil Q5 (Qa (Xn Vb rfl B.list TY (Qa (pv 2) Qe)) Qe)) (Qa (pv 7) Qe))))))))))))),?_⟩
 obtain⟨t,X,aY,_⟩:=Qgc ns 1 5
 obtain⟨a1,Y,_,al⟩:=Qgc ns 64 70
 obtain⟨aj,Z,aZ,_⟩:=Qgc ns 5 11
 have al:=al (by omega)
 subst al
 have X:Uj (ns.map V.int) (some 1) (some 5)=t.map V.int:=X
 have Y:Uj (ns.map V.int) (some 64) (some 70)=[]:=Y
 have Z:Uj (ns.map V.int) (some 5) (some (5+6))=aj.map V.int:=Z
 refine⟨_,Xb,_,Xb,_,Xb,a,_,Xb,hS,λp1 aK=>?_⟩
 rw[X]
 have s1:=Qg aK (.lst (t.map V.int))
 refine⟨_,Xb,_,Xb,_,Xb,a,_,Xb,s1.seq hS,λp2 aL=>?_⟩
 rw[Y]
 have s2:=Qg aL (.lst [])
 refine⟨p1,p2,_,_,Xb,Xb,s2 _ _ Qb,Qb,small (by rw[Gn];show _+0<=_;omega),λp3 aM=>?_⟩
 rw[Db]
 have s3:=Qg aM (.lst (t.map V.int))
 refine⟨p3,t,Xb,Zd.of Qb,by omega,λr us ts H1 g1 _ gl ga D=>?_⟩
 have sA:=((s1.trans s2).trans s3).trans g1
 have a0:=D.len
 refine⟨_,Xb,_,Xb,_,Xb,a,ns,_,_,Xb,sA.seq hS,ap,_,_,Xb,Xb,_,Xb,a,_,Xb,sA.seq hS,λp4 aN=>?_⟩
 rw[Z]
 have s4:=Qg aN (.lst (aj.map V.int))
 refine⟨_,Xb,p4,r,aj,us,ts,Xb,Zd.of Qb,by omega,s4 _ _ gl,ga.same s4,by omega,by omega,λq0 es dl H2 g2 _ T S ld am=>?_⟩
 have sB:=(sA.trans s4).trans g2
 refine aX a r q0 ns us es ts dl t.length H2 (sB.seq hS) (g2 _ _ (s4 _ _ gl)) ((ga.same s4).same g2) D (by omega) T S am (by omega) _ _ _ ⟨Xb,Xb⟩ ?_
 clear S ld am T
 rintro a3 H3 ⟨qd,es,dl,x3,x4,rfl,g3,T,S,⟨U,hU,g⟩,ld⟩
 have good:∀d∈dl,d.good:=λd hd=>hU.Qz1 (g d hd)
 have aq:es.length=dl.length:=Gs S
 refine⟨_,Xb,qd,es,Xb,.inl (Zd.of T),λhh aJ=>?_⟩
 have s5:=Qg aJ (.lst es)
 refine⟨_,Xb,hh,es,dl,U,Xb,Qb,S.same s5,hU,g,by omega,λaa rs H4 g4 gf gr=>?_⟩
 have aS:rs.length=dl.length:=by rw[show rs.length=(Rr [] dl).length from Gs gr,Os]
 have s6:=s5.trans g4
 obtain⟨y1,y2,y3⟩:=Qhl (ds:=dl.map ddD) (λd hd=>by
  obtain⟨e,he,rfl⟩:=Ti.mp hd
  exact Qtb (good e he)) (by rw[Gn];omega)
 refine⟨_,Xb,_,_,_,true,Xb,.lst gf,Qo4,true,Xb,?_⟩
 refine Zq ?_
 refine⟨_,Xb,_,_,Xb,.inl ⟨_,Zd.of gf,Xb⟩,_,Xb,_,_,Xb,.inl ⟨_,Zd.of (s6 _ _ T),Xb⟩,Xb,_,Xb,?_⟩
 rw[Vd]
 have aA:(((rs.length:Nat):Int)==((es.length:Nat):Int))=true:=by rw[aS,aq];simp
 rw[aA]
 refine Zq ?_
 refine⟨_,Xb,_,Xb,_,_,.list (dl.map ddD),Xb,.lst (g4 _ _ Qb) ((S.same s5).same g4).dts,.lst (s6 _ _ T) (S.same s6).dts,y1,y2,y3,λH5 g5=>⟨true,Xb,Zq ?_⟩⟩
 refine⟨Ta _,λC J=>?_⟩
 have s7:=Qg J (.lst [])
 have aw:=(s6.trans g5).trans s7
 have ax:=g5.trans s7
 generalize aG:upd H5 C (.lst [])=H6 at*
 have O:H6 C=some (.lst []):=by rw[<-aG];exact Qb
 have ac:=aw _ _ T
 have an:=S.same aw
 have aD:=ax _ _ gf
 have aE:Paired (Qc8 H6) rs (Rr [] dl):=L2.Paired.Z8 gr λv h hh=>by
  rcases hh with z|⟨a,xs,z1,z2⟩
  ·exact .inl z
  ·exact .inr ⟨a,xs,z1,ax _ _ z2⟩
 have nq:H5 C=none:=J
 have ar:qd≠C:=Qc ((s6.trans g5) _ _ T) J
 have aT:aa≠C:=Qc (g5 _ _ gf) J
 refine⟨_,Xb,_,_,Xb,.inl ⟨_,Zd.of ac,Xb⟩,_,Xb,by omega,by omega,Ud (lo:=0) (n:=((es.length:Int)).toNat) (λk σ R=>∃(l:Addr)(tv:List V)(x3 x8 x9 ak:Option V),σ=[some (.ref a),some (.ref r),some (.ref qd),x3,x4,some (.ref hh),some (.ref aa),some (.ref l),x8,x9,ak]/\(∀c o,H6 c=some o->c≠C->R c=some o)/\(∀c o,H6 c=some o->c≠C->c≠l)/\R l=some (.lst tv)/\Ub R tv (after [] (dl.take k)))
  ⟨C,[],_,_,_,_,Xb,λc o e _=>e,λc o _ h=>h,O,by simp[after];exact .nil⟩ ?_ ?_⟩
 ·rintro k σ R hk ⟨l,tv,x3,x8,x9,ak,rfl,kp,nl,ab,G⟩
  have hk:k<dl.length:=by omega
  have tu:Qu H6 R:=λc xs e=>kp c _ e (λz=>by rw[z,O]at e;cases e)
  obtain⟨x,ex⟩:∃x,es[k]?=some x:=⟨_,Gg (by omega)⟩
  obtain⟨d,ed,aH⟩:=Qv an ex
  have I:=aH.Qm tu
  obtain⟨e,rfl⟩:∃e,x=V.ref e:=by
   cases d with
   |tell b x y=>obtain⟨a,_,_,h,_⟩:=I;exact⟨a,h⟩
   |ask x y=>obtain⟨a,_,_,h,_⟩:=I;exact⟨a,h⟩
   |back i=>obtain⟨a,h,_⟩:=I;exact⟨a,h⟩
  have aC:=good d (Gb ed)
  have af:Tlg (after [] (dl.take k)):=I8 (λp hp=>nomatch hp) λd hd=>good d (Dp hd)
  have ai:(after [] (dl.take k)).length<=10:=by
   have:=Ii (ds:=dl.take k) (tl:=[])
   rw[T6]at this
   simp at this
   omega
  have ad:=kp _ _ ac ar
  refine⟨_,Xb,_,Xb,qd,es,_,_,Xb,Xb,Zd.of ad,(by rw[EL];exact Qz ex),?_⟩
  refine aW l e tv (after [] (dl.take k)) d R _ _ _ _ _ _ _ _ ab G I aC af ai _ _ _ ⟨Xb,Xb⟩ ?_
  rintro a4 H8 ⟨l',ay,rfl,bt,ll,ao,ae⟩
  have N:∀c o,H6 c=some o->c≠C->H8 c=some o:=λc o e h=>bt c o (kp c o e h) (nl c o e h)
  have au:∀c o,H6 c=some o->c≠C->c≠l':=λc o e h=>by
   rcases ll with z|z
   ·rw[z];exact nl c o e h
   ·intro y;rw[<-y,kp c o e h]at z;cases z
  rw[<-I9 ed]at ae
  obtain⟨v,ev⟩:∃v,rs[k]?=some v:=⟨_,Gg (by omega)⟩
  obtain⟨hv,eh,aI⟩:=Qv aE ev
  rw[O0 ed]at eh
  cases eh
  have sc:=Qmx (after [] (dl.take k)) d
  obtain⟨dd,dt,d1,d2,d3⟩:=Qsg sc
  refine⟨_,Xb,_,Xb,aa,rs,_,_,Xb,Xb,Zd.of (N _ _ aD aT),(by rw[EL];exact Qz ev),?_⟩
  rcases aI with rfl|⟨av,xv,rfl,ag⟩
  ·obtain⟨ty,aQ,aR⟩:=Qqw (K:=K) (H:=H8) sc
   refine⟨_,Xb,_,_,_,false,Xb,aQ,aR,false,Xb,Zq (Zq ?_)⟩
   refine⟨_,Xb,_,Xb,_,_,dd,Xb,dt _,dt _,d1,d2,d3,λH9 u=>⟨true,Xb,Zq ?_⟩⟩
   exact⟨l',ay,_,_,_,_,Xb,λc o e h=>u _ _ (N c o e h),au,u _ _ ao,ae.Qm (Qu.of u)⟩
  ·have m:=N _ _ ag (λz=>by rw[z,O]at ag;cases ag)
   refine⟨_,Xb,_,_,_,true,Xb,.tup m,Qq2,true,Xb,Y0 ?_⟩
   refine⟨_,Xb,_,_,Xb,.inr ⟨_,Z4.of m,Xb⟩,_,_,Xb,Xb,_,Xb,?_⟩
   rw[Tp (show(0:Int)<(((W4 (after [] (dl.take k)) d).2::xv).length:Int) by rw[Tb];omega)]
   refine Y0 ?_
   refine⟨_,Xb,av,_,_,_,Xb,Xb,Z4.of m,Qz (j:=0) rfl,?_⟩
   refine⟨_,Xb,_,Xb,_,_,dd,Xb,dt _,dt _,d1,d2,d3,λH9 u=>⟨true,Xb,Zq ?_⟩⟩
   exact⟨l',ay,_,_,_,_,Xb,λc o e h=>u _ _ (N c o e h),au,u _ _ ao,ae.Qm (Qu.of u)⟩
 ·rintro σ R ⟨l,tv,x3,x8,x9,ak,rfl,kp,nl,ab,G⟩
  have e7:dl.take (((es.length:Int)).toNat)=dl:=by rw[Dz,aq,Te]
  rw[e7]at G
  have tu:Qu H6 R:=λc xs e=>kp c _ e (λz=>by rw[z,O]at e;cases e)
  have ad:=kp _ _ ac ar
  have af:Tlg (after [] dl):=I8 (λp hp=>nomatch hp) good
  have ai:=Ii (ds:=dl) (tl:=[])
  obtain⟨z1,z2,z3⟩:=Qhl (ds:=(after [] dl).map tlD) (Qti af) (by rw[Gn];simp at ai;omega)
  refine⟨_,Xb,qd,es,Xb,.inl (Zd.of ad),λn hn=>?_⟩
  have s8:=Qg hn (.lst es)
  refine⟨n,es,dl,U,Xb,Qb,(an.Qm tu).same s8,hU,g,by omega,λrt a2 H9 u aF aB=>?_⟩
  refine⟨_,Xb,_,_,.list ((after [] dl).map tlD),Xb,.lst aF aB.dts,.lst (u _ _ (s8 _ _ ab)) ((G.Qm (Qu.of s8)).Qm (Qu.of u)).dts,z1,z2,z3,λaz _=>q az⟩
end
end K05
namespace Sb
open PySem L2
def Yz(K:Gc)(x q:Str)(st:Stmt)(f:Addr):Prop:=∃oc od an sl kV b pm a ct,K.lookup f=some ⟨oc,od,.func (PySem.W.fnOf x q (Ie st) (Ve st) (Qk st) .none kV b pm an a ct),sl⟩/\PySem.W.codeIn K a q=true/\PySem.W.keepIn K (.ref f)=true
abbrev NsF(K:Gc)(x:Str)(f:Addr):Prop:=PySem.W.nsIn K mainGlobals x=some (some (.ref f))
abbrev FiF(K:Gc)(c:Addr)(x:Str)(f:Addr):Prop:=PySem.W.findIn K (.ref c) x=some (some (.ref f))
abbrev NsN(K:Gc)(x:Str):Prop:=PySem.W.nsIn K mainGlobals x=some none
end Sb
namespace K05
open PySem L2 Sb
section
variable{K:Gc}
theorem Qwh{l:PySem.W.OpenLaw}{w:World}{h:Heap}{mg:Str->Option Value}{fa CP d n j f0 f1 f2 f3 f4 f5 f6 f7 f8 f9 ac ad ae af ag ah ai bS bT bU aj ak al am bV ao ap aq ar au av bW bX bY bZ ca cb ce cf cg ch ci cj ck:Addr}(X:K.In h)(G:h.Ns mainGlobals mg)(eQ:mg "law"=some (.ref fa)){fm:Tok}
  (aP:NsF K "Places" CP)(pP:PySem.W.plainGet K CP Str.empty=true)(dP:PySem.W.hasDictIn K CP=true)(oP:PySem.W.plainOver K CP=true)(sP:PySem.W.findIn K (.ref CP) "__setattr__"=some (some (.builtin "object.__setattr__")))(mP:PySem.W.makesIn K CP=true)(cP:PySem.W.keepIn K (.ref CP)=true)
  (H:PySem.W.findIn K (.ref CP) "things"=some none)(U:PySem.W.findIn K (.ref CP) "forms"=some none)(V:PySem.W.findIn K (.ref CP) "known"=some none)(aN:NsF K "Net" d)(pN:PySem.W.plainGet K d Str.empty=true)(dN:PySem.W.hasDictIn K d=true)(oN:PySem.W.plainOver K d=true)
  (sN:PySem.W.findIn K (.ref d) "__setattr__"=some (some (.builtin "object.__setattr__")))(mN:PySem.W.makesIn K d=true)(cN:PySem.W.keepIn K (.ref d)=true)(O:PySem.W.findIn K (.ref d) "forms"=some none)(Q:PySem.W.findIn K (.ref d) "leads"=some none)(z:PySem.W.findIn K (.ref d) "members"=some none)
  (T:PySem.W.findIn K (.ref d) "users"=some none)(S:PySem.W.findIn K (.ref d) "table"=some none)(R:PySem.W.findIn K (.ref d) "links"=some none)(F:PySem.W.findIn K (.ref d) "link_at"=some none)(N:PySem.W.findIn K (.ref d) "above"=some none)(aS:NsF K "Showing" n)
  (pS:PySem.W.plainGet K n Str.empty=true)(dS:PySem.W.hasDictIn K n=true)(oS:PySem.W.plainOver K n=true)(sS:PySem.W.findIn K (.ref n) "__setattr__"=some (some (.builtin "object.__setattr__")))(mS:PySem.W.makesIn K n=true)(cS:PySem.W.keepIn K (.ref n)=true)(I:PySem.W.findIn K (.ref n) "things"=some none)
  (aK:PySem.W.findIn K (.ref n) "net"=some none)(Y:PySem.W.findIn K (.ref n) "lines"=some none)(A:PySem.W.findIn K (.ref n) "numbers"=some none)(aB:NsF K "Book" j)(pB:PySem.W.plainGet K j Str.empty=true)(dB:PySem.W.hasDictIn K j=true)(oB:PySem.W.plainOver K j=true)
  (sB:PySem.W.findIn K (.ref j) "__setattr__"=some (some (.builtin "object.__setattr__")))(mB:PySem.W.makesIn K j=true)(cB:PySem.W.keepIn K (.ref j)=true)(E:PySem.W.findIn K (.ref j) "places"=some none)(ax:PySem.W.findIn K (.ref j) "told"=some none)(u:PySem.W.findIn K (.ref j) "entries"=some none)
  (dU:PySem.W.nsIn K mainGlobals "NO_MOMENT"=some (some (.str "no moment" fm)))(a0:NsF K "top_words" f0)(h0:Yz K "top_words" "top_words" Qo9 f0)(a1:FiF K CP "__init__" f1)(i1:PySem.W.isFn K (.ref f1)=true)(h1:Yz K "__init__" "Places.__init__" Qbr f1)
  (a2:FiF K CP "place_of" f2)(i2:PySem.W.isFn K (.ref f2)=true)(h2:Yz K "place_of" "Places.place_of" Oe f2)(a3:FiF K CP "place_within" f3)(i3:PySem.W.isFn K (.ref f3)=true)(h3:Yz K "place_within" "Places.place_within" J0 f3)
  (a4:FiF K CP "place_by_form" f4)(i4:PySem.W.isFn K (.ref f4)=true)(h4:Yz K "place_by_form" "Places.place_by_form" Qba f4)(a5:NsF K "net_of" f5)(h5:Yz K "net_of" "net_of" Qga f5)(a6:FiF K d "__init__" f6)(i6:PySem.W.isFn K (.ref f6)=true)
  (h6:Yz K "__init__" "Net.__init__" R6 f6)(a7:FiF K d "take_in" f7)(i7:PySem.W.isFn K (.ref f7)=true)(h7:Yz K "take_in" "Net.take_in" Ob f7)(a8:FiF K d "key_of" f8)(i8:PySem.W.isFn K (.ref f8)=true)(h8:Yz K "key_of" "Net.key_of" Ri f8)
  (a9:FiF K d "equal" f9)(i9:PySem.W.isFn K (.ref f9)=true)(h9:Yz K "equal" "Net.equal" Qft f9)(dk:FiF K d "merge" ac)(eR:PySem.W.isFn K (.ref ac)=true)(ei:Yz K "merge" "Net.merge" Qfe ac)(dl:FiF K d "merge_link" ad)
  (eS:PySem.W.isFn K (.ref ad)=true)(ej:Yz K "merge_link" "Net.merge_link" U8 ad)(dm:FiF K d "hang" ae)(eT:PySem.W.isFn K (.ref ae)=true)(ek:Yz K "hang" "Net.hang" Qk3 ae)(dn:FiF K d "give_over" af)(eU:PySem.W.isFn K (.ref af)=true)
  (el:Yz K "give_over" "Net.give_over" Ib af)(dp:FiF K d "way" ag)(eV:PySem.W.isFn K (.ref ag)=true)(em:Yz K "way" "Net.way" Qt3 ag)(dq:FiF K d "way_up" ah)(eW:PySem.W.isFn K (.ref ah)=true)(en:Yz K "way_up" "Net.way_up" Qff ah)
  (dr:FiF K d "rows" ai)(eX:PySem.W.isFn K (.ref ai)=true)(eo:Yz K "rows" "Net.rows" Qig ai)(ds:NsF K "lines_between" bS)(ep:Yz K "lines_between" "lines_between" Qgj bS)(dt:NsF K "links_needed" bT)(eq:Yz K "links_needed" "links_needed" Qbk bT)
  (bI:NsF K "pairs_below" bU)(er:Yz K "pairs_below" "pairs_below" Qf6 bU)(du:FiF K n "__init__" aj)(eY:PySem.W.isFn K (.ref aj)=true)(es:Yz K "__init__" "Showing.__init__" Qa7 aj)(dv:FiF K n "write" ak)(eZ:PySem.W.isFn K (.ref ak)=true)
  (et:Yz K "write" "Showing.write" Qf2 ak)(dw:FiF K n "write_link" al)(e0:PySem.W.isFn K (.ref al)=true)(eu:Yz K "write_link" "Showing.write_link" Vj al)(dx:FiF K n "line_for" am)(e1:PySem.W.isFn K (.ref am)=true)
  (ev:Yz K "line_for" "Showing.line_for" Ji am)(dy:NsF K "answers" bV)(ew:Yz K "answers" "answers" J1 bV)(dz:FiF K j "__init__" ao)(e2:PySem.W.isFn K (.ref ao)=true)(ex:Yz K "__init__" "Book.__init__" Qbb ao)
  (dA:FiF K j "answer" ap)(e3:PySem.W.isFn K (.ref ap)=true)(ey:Yz K "answer" "Book.answer" Qbn ap)(dC:FiF K j "go_back" aq)(e4:PySem.W.isFn K (.ref aq)=true)(ez:Yz K "go_back" "Book.go_back" Qbp aq)(dD:FiF K j "tell" ar)
  (e5:PySem.W.isFn K (.ref ar)=true)(eA:Yz K "tell" "Book.tell" Qme ar)(dE:FiF K j "ask" au)(e6:PySem.W.isFn K (.ref au)=true)(eB:Yz K "ask" "Book.ask" Quc au)(dF:FiF K j "lines_for" av)(e7:PySem.W.isFn K (.ref av)=true)
  (eC:Yz K "lines_for" "Book.lines_for" J9 av)(bJ:NsF K "least_clash" bW)(eD:Yz K "least_clash" "least_clash" Qfh bW)(dG:NsF K "book_after" bX)(eE:Yz K "book_after" "book_after" U7 bX)(dH:NsF K "told_after" bY)
  (eF:Yz K "told_after" "told_after" Uv bY)(dI:NsF K "_law_any_word" bZ)(eG:Yz K "_law_any_word" "_law_any_word" Qk4 bZ)(dJ:NsF K "_law_so" ca)(eH:Yz K "_law_so" "_law_so" sSo ca)(dK:NsF K "_law_drawn_things" cb)(eI:Yz K "_law_drawn_things" "_law_drawn_things" Qfz cb)
  (dL:NsF K "_law_drawn_deeds" ce)(eJ:Yz K "_law_drawn_deeds" "_law_drawn_deeds" Qfc ce)(dM:NsF K "_law_room" cf)(eK:Yz K "_law_room" "_law_room" Qkz cf)(dO:NsF K "_law_any" cg)(eL:Yz K "_law_any" "_law_any" Qss cg)(bK:NsF K "_law_classes" ch)
  (eM:Yz K "_law_classes" "_law_classes" Wg ch)(dQ:NsF K "_law_kind" ci)(eN:Yz K "_law_kind" "_law_kind" Qk0 ci)(dR:NsF K "_law_barred" cj)(eO:Yz K "_law_barred" "_law_barred" Qbj cj)(dT:NsF K "law" ck)(eP:Yz K "law" "law" Qfj ck)
  (Z:NsN K "len")(aO:NsN K "min")(aL:NsN K "abs")(D:NsN K "list")(r:NsN K "tuple")(aQ:NsN K "str")(ay:NsN K "bool")(aM:NsN K "int")(m:NsN K "isinstance")(q:NsN K "range")(i:NsN K "reversed")(p:NsN K "enumerate")(aR:NsN K "zip")
  (J:NsN K "sorted")
  :∃fd:FuncData,(∀(s:Shared)(v:Value),BindsTo s fd ⟨[v],[]⟩ [("_law_script",v)])/\∀base:Heap,K.In base->base.Ns mainGlobals mg->Qt l.prog w K mg base Z7 67 fa fd ["_law_script"] (Qk1 K):=by
 have e:=eQ.symm.trans (Lu X G dT)
 cases e
 have g:=λ{x:Str}{f:Addr}(e:NsF K x f)=>Lu X G e
 have y:=λ{x:Str}(e:NsN K x)=>PySem.W.mg_none_of X G e
 have TP:Qb3 K mg CP:=⟨⟨pP,dP,oP,sP⟩,H,U,V,g aP⟩
 have o:Vt K mg d:=⟨⟨pN,dN,oN,sN⟩,O,Q,z,T,S,R,F,N,g aN⟩
 have TS:Qmv K n:=⟨⟨pS,dS,oS,sS⟩,I,aK,Y,A⟩
 have TB:Qdw K mg j:=⟨⟨pB,dB,oB,sB⟩,E,ax,u,g aB,⟨_,Lu X G dU,⟨_,Xb⟩⟩⟩
 have B:Blt mg:=⟨y Z,y aO,y aL,y D,y r,y aQ,y ay,y aM,y m,y q,y i⟩
 have t:Jv mg:=⟨y Z,y D,y r,y q,y i,y p,y aR,y J⟩
 obtain⟨_,_,_,_,_,_,_,_,_,b,a,k0⟩:=h0
 have F0:=Zf (st:=Qo9) b a k0
 have b0:=F0.binds (ps:=["thing"]) λ_ _ _ _ _ _ us c=>match us,c with|[_],_=>rfl
 obtain⟨_,_,_,_,_,_,_,_,_,b,a,k1⟩:=h1
 have F1:=Zf (st:=Qbr) b a k1
 have b1:=F1.binds (ps:=["self"]) λ_ _ _ _ _ _ us c=>match us,c with|[_],_=>rfl
 obtain⟨_,_,_,_,_,_,_,_,_,b,a,k2⟩:=h2
 have F2:=Zf (st:=Oe) b a k2
 have b2:=F2.binds (ps:=["self","thing"]) λ_ _ _ _ _ _ us c=>match us,c with|[_,_],_=>rfl
 have m2:Z9 K CP "place_of" f2:=⟨a2,i2,k2⟩
 obtain⟨_,_,_,_,_,_,_,_,_,b,a,k3⟩:=h3
 have F3:=Zf (st:=J0) b a k3
 have b3:=F3.binds (ps:=["self","thing","near"]) λ_ _ _ _ _ _ us c=>match us,c with|[_,_,_],_=>rfl
 have m3:Z9 K CP "place_within" f3:=⟨a3,i3,k3⟩
 obtain⟨_,_,_,_,_,_,_,_,_,b,a,k4⟩:=h4
 have F4:=Zf (st:=Qba) b a k4
 have b4:=F4.binds (ps:=["self","thing","form"]) λ_ _ _ _ _ _ us c=>match us,c with|[_,_,_],_=>rfl
 have m4:Z9 K CP "place_by_form" f4:=⟨a4,i4,k4⟩
 obtain⟨_,_,_,_,_,_,_,_,_,b,a,k5⟩:=h5
 have F5:=Zf (st:=Qga) b a k5
 have b5:=F5.binds (ps:=["forms","told"]) λ_ _ _ _ _ _ us c=>match us,c with|[_,_],_=>rfl
 obtain⟨_,_,_,_,_,_,_,_,_,b,a,k6⟩:=h6
 have F6:=Zf (st:=R6) b a k6
 have b6:=F6.binds (ps:=["self","forms"]) λ_ _ _ _ _ _ us c=>match us,c with|[_,_],_=>rfl
 obtain⟨_,_,_,_,_,_,_,_,_,b,a,k7⟩:=h7
 have F7:=Zf (st:=Ob) b a k7
 have b7:=F7.binds (ps:=["self","place"]) λ_ _ _ _ _ _ us c=>match us,c with|[_,_],_=>rfl
 have m7:Z9 K d "take_in" f7:=⟨a7,i7,k7⟩
 obtain⟨_,_,_,_,_,_,_,_,_,b,a,k8⟩:=h8
 have F8:=Zf (st:=Ri) b a k8
 have b8:=F8.binds (ps:=["self","place"]) λ_ _ _ _ _ _ us c=>match us,c with|[_,_],_=>rfl
 have m8:Z9 K d "key_of" f8:=⟨a8,i8,k8⟩
 obtain⟨_,_,_,_,_,_,_,_,_,b,a,k9⟩:=h9
 have F9:=Zf (st:=Qft) b a k9
 have b9:=F9.binds (ps:=["self","one","other"]) λ_ _ _ _ _ _ us c=>match us,c with|[_,_,_],_=>rfl
 have m9:Z9 K d "equal" f9:=⟨a9,i9,k9⟩
 obtain⟨_,_,_,_,_,_,_,_,_,b,a,cl⟩:=ei
 have aT:=Zf (st:=Qfe) b a cl
 have bL:=aT.binds (ps:=["self","one","other","reason"]) λ_ _ _ _ _ _ us c=>match us,c with|[_,_,_,_],_=>rfl
 have cR:Z9 K d "merge" ac:=⟨dk,eR,cl⟩
 obtain⟨_,_,_,_,_,_,_,_,_,b,a,cm⟩:=ej
 have aU:=Zf (st:=U8) b a cm
 have dV:=aU.binds (ps:=["self","link"]) λ_ _ _ _ _ _ us c=>match us,c with|[_,_],_=>rfl
 have fc:Z9 K d "merge_link" ad:=⟨dl,eS,cm⟩
 obtain⟨_,_,_,_,_,_,_,_,_,b,a,cn⟩:=ek
 have aV:=Zf (st:=Qk3) b a cn
 have dW:=aV.binds (ps:=["self","low","high"]) λ_ _ _ _ _ _ us c=>match us,c with|[_,_,_],_=>rfl
 have fe:Z9 K d "hang" ae:=⟨dm,eT,cn⟩
 obtain⟨_,_,_,_,_,_,_,_,_,b,a,co⟩:=el
 have aW:=Zf (st:=Ib) b a co
 have dX:=aW.binds (ps:=["self","gone","kept"]) λ_ _ _ _ _ _ us c=>match us,c with|[_,_,_],_=>rfl
 have ff:Z9 K d "give_over" af:=⟨dn,eU,co⟩
 obtain⟨_,_,_,_,_,_,_,_,_,b,a,cp⟩:=em
 have aX:=Zf (st:=Qt3) b a cp
 have aD:=aX.binds (ps:=["self","one","other"]) λ_ _ _ _ _ _ us c=>match us,c with|[_,_,_],_=>rfl
 have aI:Z9 K d "way" ag:=⟨dp,eV,cp⟩
 obtain⟨_,_,_,_,_,_,_,_,_,b,a,cq⟩:=en
 have aY:=Zf (st:=Qff) b a cq
 have dY:=aY.binds (ps:=["self","place"]) λ_ _ _ _ _ _ us c=>match us,c with|[_,_],_=>rfl
 have fg:Z9 K d "way_up" ah:=⟨dq,eW,cq⟩
 obtain⟨_,_,_,_,_,_,_,_,_,b,a,cr⟩:=eo
 have aZ:=Zf (st:=Qig) b a cr
 have dZ:=aZ.binds (ps:=["self"]) λ_ _ _ _ _ _ us c=>match us,c with|[_],_=>rfl
 have fh:Z9 K d "rows" ai:=⟨dr,eX,cr⟩
 obtain⟨_,_,_,_,_,_,_,_,_,b,a,cs⟩:=ep
 have ba:=Zf (st:=Qgj) b a cs
 have d0:=ba.binds (ps:=["things","net","one","other"]) λ_ _ _ _ _ _ us c=>match us,c with|[_,_,_,_],_=>rfl
 obtain⟨_,_,_,_,_,_,_,_,_,b,a,cu⟩:=eq
 have bb:=Zf (st:=Qbk) b a cu
 have d1:=bb.binds (ps:=["net","one","other"]) λ_ _ _ _ _ _ us c=>match us,c with|[_,_,_],_=>rfl
 obtain⟨_,_,_,_,_,_,_,_,_,b,a,aF⟩:=er
 have bc:=Zf (st:=Qf6) b a aF
 have bM:=bc.binds (ps:=["net","link"]) λ_ _ _ _ _ _ us c=>match us,c with|[_,_],_=>rfl
 obtain⟨_,_,_,_,_,_,_,_,_,b,a,e8⟩:=es
 have bd:=Zf (st:=Qa7) b a e8
 have d2:=bd.binds (ps:=["self","things","net"]) λ_ _ _ _ _ _ us c=>match us,c with|[_,_,_],_=>rfl
 obtain⟨_,_,_,_,_,_,_,_,_,b,a,cv⟩:=et
 have be:=Zf (st:=Qf2) b a cv
 have aE:=be.binds (ps:=["self","one","other","reason"]) λ_ _ _ _ _ _ us c=>match us,c with|[_,_,_,_],_=>rfl
 have aJ:Z9 K n "write" ak:=⟨dv,eZ,cv⟩
 obtain⟨_,_,_,_,_,_,_,_,_,b,a,cw⟩:=eu
 have bf:=Zf (st:=Vj) b a cw
 have d3:=bf.binds (ps:=["self","link"]) λ_ _ _ _ _ _ us c=>match us,c with|[_,_],_=>rfl
 have fi:Z9 K n "write_link" al:=⟨dw,e0,cw⟩
 obtain⟨_,_,_,_,_,_,_,_,_,b,a,cx⟩:=ev
 have az:=Zf (st:=Ji) b a cx
 have ab:=az.binds (ps:=["self","one","other"]) λ_ _ _ _ _ _ us c=>match us,c with|[_,_,_],_=>rfl
 have aw:Z9 K n "line_for" am:=⟨dx,e1,cx⟩
 obtain⟨_,_,_,_,_,_,_,_,_,b,a,cy⟩:=ew
 have bg:=Zf (st:=J1) b a cy
 have d4:=bg.binds (ps:=["deeds"]) λ_ _ _ _ _ _ us c=>match us,c with|[_],_=>rfl
 obtain⟨_,_,_,_,_,_,_,_,_,b,a,e9⟩:=ex
 have bh:=Zf (st:=Qbb) b a e9
 have bN:=bh.binds (ps:=["self"]) λ_ _ _ _ _ _ us c=>match us,c with|[_],_=>rfl
 obtain⟨_,_,_,_,_,_,_,_,_,b,a,cz⟩:=ey
 have bi:=Zf (st:=Qbn) b a cz
 have bO:=bi.binds (ps:=["self","deed"]) λ_ _ _ _ _ _ us c=>match us,c with|[_,_],_=>rfl
 have cT:Z9 K j "answer" ap:=⟨dA,e3,cz⟩
 obtain⟨_,_,_,_,_,_,_,_,_,b,a,cA⟩:=ez
 have bj:=Zf (st:=Qbp) b a cA
 have d5:=bj.binds (ps:=["self","moment"]) λ_ _ _ _ _ _ us c=>match us,c with|[_,_],_=>rfl
 have fj:Z9 K j "go_back" aq:=⟨dC,e4,cA⟩
 obtain⟨_,_,_,_,_,_,_,_,_,b,a,cC⟩:=eA
 have bk:=Zf (st:=Qme) b a cC
 have d6:=bk.binds (ps:=["self","deed","entry"]) λ_ _ _ _ _ _ us c=>match us,c with|[_,_,_],_=>rfl
 have fk:Z9 K j "tell" ar:=⟨dD,e5,cC⟩
 obtain⟨_,_,_,_,_,_,_,_,_,b,a,cD⟩:=eB
 have bl:=Zf (st:=Quc) b a cD
 have d7:=bl.binds (ps:=["self","entry"]) λ_ _ _ _ _ _ us c=>match us,c with|[_,_],_=>rfl
 have fl:Z9 K j "ask" au:=⟨dE,e6,cD⟩
 obtain⟨_,_,_,_,_,_,_,_,_,b,a,cE⟩:=eC
 have bm:=Zf (st:=J9) b a cE
 have bP:=bm.binds (ps:=["self","net","entry"]) λ_ _ _ _ _ _ us c=>match us,c with|[_,_,_],_=>rfl
 have cU:Z9 K j "lines_for" av:=⟨dF,e7,cE⟩
 obtain⟨_,_,_,_,_,_,_,_,_,b,a,aG⟩:=eD
 have bn:=Zf (st:=Qfh) b a aG
 have bQ:=bn.binds (ps:=["net","entries"]) λ_ _ _ _ _ _ us c=>match us,c with|[_,_],_=>rfl
 obtain⟨_,_,_,_,_,_,_,_,_,b,a,cF⟩:=eE
 have bo:=Zf (st:=U7) b a cF
 have d8:=bo.binds (ps:=["deeds"]) λ_ _ _ _ _ _ us c=>match us,c with|[_],_=>rfl
 obtain⟨_,_,_,_,_,_,_,_,_,b,a,cG⟩:=eF
 have bp:=Zf (st:=Uv) b a cG
 have d9:=bp.binds (ps:=["deeds"]) λ_ _ _ _ _ _ us c=>match us,c with|[_],_=>rfl
 obtain⟨_,_,_,_,_,_,_,_,_,b,a,cH⟩:=eG
 have bq:=Zf (st:=Qk4) b a cH
 have ea:=bq.binds (ps:=["_law_cell"]) λ_ _ _ _ _ _ us c=>match us,c with|[_],_=>rfl
 obtain⟨_,_,_,_,_,_,_,_,_,b,a,cI⟩:=eH
 have br:=Zf (st:=sSo) b a cI
 have eb:=br.binds (ps:=["_law_found","_law_due"]) λ_ _ _ _ _ _ us c=>match us,c with|[_,_],_=>rfl
 obtain⟨_,_,_,_,_,_,_,_,_,b,a,cJ⟩:=eI
 have bs:=Zf (st:=Qfz) b a cJ
 have ec:=bs.binds (ps:=["_law_cells"]) λ_ _ _ _ _ _ us c=>match us,c with|[_],_=>rfl
 obtain⟨_,_,_,_,_,_,_,_,_,b,a,cK⟩:=eJ
 have bt:=Zf (st:=Qfc) b a cK
 have ed:=bt.binds (ps:=["_law_cells","_law_things"]) λ_ _ _ _ _ _ us c=>match us,c with|[_,_],_=>rfl
 obtain⟨_,_,_,_,_,_,_,_,_,b,a,cL⟩:=eK
 have bu:=Zf (st:=Qkz) b a cL
 have ee:=bu.binds (ps:=["_law_script","_law_most","_law_bound"]) λ_ _ _ _ _ _ us c=>match us,c with|[_,_,_],_=>rfl
 obtain⟨_,_,_,_,_,_,_,_,_,b,a,cM⟩:=eL
 have bv:=Zf (st:=Qss) b a cM
 have ef:=bv.binds (ps:=["_law_cell"]) λ_ _ _ _ _ _ us c=>match us,c with|[_],_=>rfl
 obtain⟨_,_,_,_,_,_,_,_,_,b,a,aH⟩:=eM
 have bw:=Zf (st:=Wg) b a aH
 have bR:=bw.binds (ps:=["_law_told","_law_things"]) λ_ _ _ _ _ _ us c=>match us,c with|[_,_],_=>rfl
 obtain⟨_,_,_,_,_,_,_,_,_,b,a,cO⟩:=eN
 have bx:=Zf (st:=Qk0) b a cO
 have eg:=bx.binds (ps:=["_law_told","_law_one","_law_other"]) λ_ _ _ _ _ _ us c=>match us,c with|[_,_,_],_=>rfl
 obtain⟨_,_,_,_,_,_,_,_,_,b,a,cQ⟩:=eO
 have bz:=Zf (st:=Qbj) b a cQ
 have eh:=bz.binds (ps:=["_law_told","_law_deed"]) λ_ _ _ _ _ _ us c=>match us,c with|[_,_],_=>rfl
 obtain⟨oc,od,an,sl,kV,dc,pm,cd,ct,b,a,fb⟩:=eP
 have cV:=Zf (st:=Qfj) b a fb
 have MP:Mk K CP f1:=⟨mP,a1,i1,cP⟩
 have MN:Mk K d f6:=⟨mN,a6,i6,cN⟩
 have MS:Mk K n aj:=⟨mS,du,eY,cS⟩
 have MB:Mk K j ao:=⟨mB,dz,e2,cB⟩
 refine⟨PySem.W.fnOf "law" "law" (Ie Qfj) (Ve Qfj) (Qk Qfj) .none kV dc pm an cd ct,λs v=>.of_eq Xb,λbase _ _=>?_⟩
 have G0:=Qvr (P:=l.prog) (w:=w) (mg:=mg) (base:=base) F0 t
 have G4:=Qm2 (P:=l.prog) (w:=w) (mg:=mg) (base:=base) F4 TP t
 have G3:=Qch (P:=l.prog) (w:=w) (mg:=mg) (base:=base) F3 TP t m3 b3 G0 k0 b0 (g a0) m4 G4 b4 50
 have G2:=Qji F2 TP m3 b3 G3
 have G1:=Qob (P:=l.prog) (w:=w) (mg:=mg) (base:=base) F1 TP
 have G9:=Qrq (P:=l.prog) (w:=w) (mg:=mg) (base:=base) F9 o
 have G8:=Qry (P:=l.prog) (w:=w) (mg:=mg) (base:=base) F8 o t
 have L:=Qny (P:=l.prog) (w:=w) (mg:=mg) (base:=base) F8 o t
 have cZ:=Qq9 (P:=l.prog) (w:=w) (mg:=mg) (base:=base) aY o
 have cX:=Qt9 (P:=l.prog) (w:=w) (mg:=mg) (base:=base) aV o
 have cY:=Qs4 aW o m8 G8 b8
 have cW:=Qgg aU o t fe cX dW ff cY dX
 have bA:=Qqb aT o m9 G9 b9 fc cW dV
 have G6:=Qjx (P:=l.prog) (w:=w) (mg:=mg) (base:=base) F6 o
 have G7:=Qhn F7 o m7 b7 m8 G8 b8 59
 have G5:=Qrk F5 o t MN G6 b6 m7 G7 b7 cR bA bL
 have bG:=Qqu bn o t m9 G9 b9
 have aA:=Qxc aX o t fg cZ dY
 have c0:=Qth aZ o t m8 L b8
 have bB:=Qrh (P:=l.prog) (w:=w) (mg:=mg) (base:=base) bc o t
 have c2:=Qna bb o t aI aA aD bB aF bM (g bI)
 have aC:=Qpj (P:=l.prog) (w:=w) (mg:=mg) (base:=base) (C:=d) be TS t
 have aa:=Qln (g:=false) (k:=2) (by decide) az TS o aw ab Qyf aI aA aD aJ aC aE
 have bC:=Qln (g:=true) (k:=3) (by decide) az TS o aw ab aa aI aA aD aJ aC aE
 have c4:=Qrg bf TS aw ab bC bB aF bM (g bI) aJ aC aE
 have c3:=Qni (P:=l.prog) (w:=w) (mg:=mg) (base:=base) (C:=d) bd TS
 have c1:=Qmw ba TS o (Lu X G aS) MS c3 d2 c2 cu d1 (g dt) aw ab bC fi d3 c4
 have bF:=Qh1 bm TB TP c1 cs d0 (g ds)
 have c8:=Qw3 bl TB TP o G5 k5 b5 (g a5) m9 G9 b9 fh c0 dZ cR bA bL bG aG bQ (g bJ) cU bF bP
 have c7:=Qsn bk TB TP t G5 k5 b5 (g a5) bG aG bQ (g bJ) cU bF bP
 have c6:=Qnn (P:=l.prog) (w:=w) (mg:=mg) (base:=base) (CP:=CP) bj TB t
 have bD:=Qnf bh TB TP MP G1 b1
 have bE:=Qmt bi TB TP fj c6 d5 m2 G2 b2 fl c8 d7 fk c7 d6
 have c5:=Qjr bg TB MB bD bN cT bE bO
 have c9:=Qfd bo TB MB bD bN cT bE bO
 have da:=Qge bp TB c9 cF d8 (g dG)
 have db:=Qtj (P:=l.prog) (w:=w) (mg:=mg) (base:=base) bq B.abs
 have de:=Qrx bs B db cH ea (g dI)
 have dh:=Qwo (P:=l.prog) (w:=w) (mg:=mg) (base:=base) bv
 have df:=Qre bt B dh cM ef (g dO)
 have dg:=Qup (P:=l.prog) (w:=w) (mg:=mg) (base:=base) bu B
 have dd:=Qym (P:=l.prog) (w:=w) (mg:=mg) (base:=base) br B
 have bH:=Qjl (P:=l.prog) (w:=w) (mg:=mg) (base:=base) bw B
 have di:=Quk bx bH aH bR (g bK)
 have dj:=Qmp bz bH aH bR (g bK)
 exact Qw0 (M:=66) cV B (by decide) (by decide) (by decide) de cJ ec (g dK) df cK ed (g dL) dg cL ee (g dM) dd cI eb (g dJ) di cO eg (g dQ) dj cQ eh (g dR) (Qrr c5) cy d4 (g dy) (Qn6 da) cG d9 (g dH)
end
theorem Qz8{l:PySem.W.OpenLaw}{q:Program}{b:List Str}{i:(Str->Option Value)->Heap->Prop}{e:World->Heap->Prop}{d:DefRec}{K:Params->Gc}(o:l.most=some 63)(c:d.params.defaults=[])
  (j:∀(w:World)(h:Heap),e w h->(K w.params).In h)
  (F:∀(w:World)(mg:Str->Option Value)(g:Addr)(h:Heap),(K w.params).In h->h.Ns mainGlobals mg->mg d.name=some (.ref g)->
   ∃fd:FuncData,(∀(s:Shared)(u:Value),BindsTo s fd ⟨[u],[]⟩ [("_law_script",u)])/\∀base:Heap,(K w.params).In base->base.Ns mainGlobals mg->Qt l.prog w (K w.params) mg base Z7 67 g fd ["_law_script"] (Qk1 (K w.params))):
  PySem.W.WalkO q b i e l.row.toRowW d [] (λf vs=>PySem.call f vs):=
 L2.Qst (n:=63) (k:=67) (x:="_law_script") (CX:=λ_=>Z7) (sp:=λw=>Qk1 (K w.params)) o (by decide) c ⟨Xb,by decide,by decide⟩ j F (λ_ _ a ns m _ hS=>⟨a,ns,Xb,hS,m,λ_=>rfl⟩) λ_ _ _ _ _ z=>z
end K05
open PySem PySem.W PyProof.Rows
set_option maxRecDepth 100000 in
set_option maxHeartbeats 0 in
theorem PySem.Challenge.cw_samebook_k05_equal_unlike_or_open_holds : PySem.Challenge.rw_samebook_k05_equal_unlike_or_open.Holds := by
  w_on; o_law; k_head; (case hw => w_witness2)
  k_fill
  refine K05.Qz8 (l := PySem.Challenge.rw_samebook_k05_equal_unlike_or_open) rfl rfl (λ w h Y => PySem.W.kIn_of Y) ?F
  case F =>
    intro w mg b h KX G a
    refine' K05.Qwh KX G a ?_ ?_ ?_ ?_ ?_ ?_ ?_ ?_ ?_ ?_ ?_ ?_ ?_ ?_ ?_ ?_ ?_ ?_ ?_ ?_ ?_ ?_ ?_ ?_ ?_ ?_ ?_ ?_ ?_ ?_ ?_ ?_ ?_ ?_ ?_ ?_ ?_ ?_ ?_ ?_ ?_ ?_ ?_ ?_ ?_ ?_ ?_ ?_ ?_ ?_ ?_ ?_ ?_ ?_ ?_ ?_ ?_ ?_ ?_ ?_ ?_ ?_ ?_ ?_ ?_ ?_ ?_ ?_ ?_ ?_ ?_ ?_ ?_ ?_ ?_ ?_ ?_ ?_ ?_ ?_ ?_ ?_ ?_ ?_ ?_ ?_ ?_ ?_ ?_ ?_ ?_ ?_ ?_ ?_ ?_ ?_ ?_ ?_ ?_ ?_ ?_ ?_ ?_ ?_ ?_ ?_ ?_ ?_ ?_ ?_ ?_ ?_ ?_ ?_ ?_ ?_ ?_ ?_ ?_ ?_ ?_ ?_ ?_ ?_ ?_ ?_ ?_ ?_ ?_ ?_ ?_ ?_ ?_ ?_ ?_ ?_ ?_ ?_ ?_ ?_ ?_ ?_ ?_ ?_ ?_ ?_ ?_ ?_ ?_ ?_ ?_ ?_ ?_ ?_ ?_ ?_ ?_ ?_ ?_ ?_ ?_ ?_ ?_ ?_ ?_ ?_ ?_ ?_ ?_ ?_ ?_ ?_ ?_ ?_
    all_goals first | exact ⟨_, _, _, _, _, _, _, _, _, by k_is, by k_is, by k_is⟩ | (show _ = _; k_is) | skip
