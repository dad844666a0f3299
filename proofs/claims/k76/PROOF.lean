import PyProof.Rows.All
import Wide.All
import OpenK.AllK
import Wide.FinOn
import Lean
import PyProof.EqAt
import PyProof.EqKinds
import PyProof.TupleCall
import PyProof.NeKinds
import PyProof.ReprRoads
import PyProof.ReprBulk
import PyProof.SumWalk
import PyProof.FString5
import PyProof.StrBlock2
import PyProof.StrBlockI
import PyProof.StrBlockH
import PyProof.StrWalks
import PyProof.StrLawsIn
import PyProof.AutoListH
import PyProof.CompUse
import PyProof.ListRange
import PyProof.CallFns
import PyProof.ListTruth
import PyProof.Rows.Range3
import PyProof.SeqI3
import KE.KRevSl
import PyProof.DictIter
import PyProof.DictWalks
import PyProof.DictCompW
import PyProof.Cells
import OpenK.KOwn
import PyProof.ExcClass3
import PyProof.ExcInit
import PyProof.ExcBaseAll.ValueError
import PyProof.ExcArgsOwn
import PyProof.ExcAttrAll.ValueError
import PyProof.Rows.SortWalk
import PyProof.Rows.SortStr
import PyProof.MeetsDict
import PyProof.DictUpdate
import PyProof.FactsAll.dict_3
import KE.KDictList
import PyProof.FactsAll.dict_4
import KE.KDictSum
import PyProof.IsiH_list
import PyProof.Rows.Exc
import KE.KDictOf
import PyProof.SetKind
import PyProof.Rows.SetFrom
import PyProof.FactsAll.set_1
import PyProof.FactsAll.set_2
import KE.KSortTup
import KE.KItemsList
import PyProof.Rows.SortRev
import PyProof.Rows.StrCase
import PyProof.Rows.StrLen
import KE.KPairComp
import KE.KMinKey
import PyProof.CallStr
import PySem.Challenge.RW_pickboard_k76_whole_no_matching_is_less
set_option Elab.async false
set_option linter.all false
set_option maxRecDepth 100000
def zr:=@List.length_map
def zn:=@PySem.wpAny_bind
def zO:=@PySem.Heap.get?_push_of_some
def zT:=@List.getElem?_eq_some_iff
def qo:=@List.getElem?_eq_getElem
def qz:=@List.getD_eq_getElem?_getD
def zC:=@Nat.le_refl
def zS:=@List.length_range
def zA:=@PySem.wpAny_pure
def zZ:=@List.getElem?_map
def zK:=@List.mem_singleton
def zQ:=@PySem.Heap.get?_push_size
def zo:=@if_neg
def zD:=@PySem.Heap.lt_size
def z9:=@List.mem_cons_of_mem
def zY:=@List.length_append
def zq:=@if_pos
def zL:=@List.mem_cons
def zX:=@List.size_toArray
def qt:=@List.mem_append_right
def zM:=@Nat.ne_of_lt
def zV:=@List.map_append
def zW:=@decide_eq_true
def qF:=@Bool.false_ne_true
def jB:=@List.getElem?_append_right
def jd:=@Option.map_eq_some_iff
def qu:=@List.mem_range
def qE:=@Bool.and_eq_true
def jR:=@List.getElem?_append_left
def jc:=@List.mem_of_getElem?
def qK:=@List.lookup_cons
def qk:=@Nat.zero_le
def qJ:=@List.mem_append
def jr:=@Nat.lt_of_lt_of_le
def qU:=@Option.some.inj
def qS:=@PySem.Heap.size_push
def xQ:=@Array.getD_eq_getD_getElem?
def jb:=@decide_eq_false
def jX:=@List.getElem?_range
def xP:=@Array.getElem?_eq_getElem
def jA:=@of_decide_eq_true
def j8:=@Array.length_toList
def jW:=@List.mem_cons_self
def qA:=@PySem.wpAny_mono
def jQ:=@Nat.lt_succ_of_lt
def jV:=@PySem.wpAny_newObj_type
def jP:=@List.length_cons
def jO:=@List.length_take
def jN:=@List.all_eq_true
def jM:=@List.getElem_mem
def qc:=@Ne.symm
def jL:=@Nat.not_lt_zero
def jK:=@PySem.PassesOwn.never
def j7:=@List.take_length
def jg:=@List.mem_map
def xn:=@Int.toNat_natCast
def j9:=@Nat.lt_succ_self
def jz:=@List.map_cons
def j6:=@List.range_succ
def jJ:=@Nat.lt_irrefl
def vL:=@PySem.Heap.get?_update_other
def jI:=@Nat.ne_of_gt
def jU:=@Nat.le_trans
def jT:=@List.map_map
def wf:=@PySem.Heap.get?_update_self
def vK:=@PySem.mem_of_lookup
def xX:=@PySem.wpAny_call_entry
def vp:=@List.pairwise_map
def we:=@List.mem_append_left
def xW:=@List.nodup_cons
def wL:=@List.length_replicate
def xO:=@PySem.wpAny_holding
def Zw:=@PySem.wpAny_callSpecial?_slot
def vo:=@PySem.wpAny_seqItems
def xz:=@PySem.wpAny_field
def xy:=@Int.le_refl
def Zv:=@Array.getElem?_toList
def JS:=@PyProof.Rows.callWith_type1
def yJ:=@Bool.false_eq_true
def yI:=@Int.emod_lt_of_pos
def QF:=@PySem.F.plainAttrs_list
def wK:=@decide_eq_decide
def vJ:=@List.any_cons
def yH:=@PySem.wpAny_truthy_bool
def xN:=@beq_iff_eq
def vI:=@Nat.le_of_lt
def QE:=@PySem.Around.under_plainId
def Zu:=@List.nodup_append
def yG:=@Int.emod_nonneg
def QD:=@PySem.Heap.SameBut.update
def QC:=@List.map_congr_left
def JR:=@List.getElem?_set_self
def wc:=@Nat.le_of_eq
def Zt:=@List.ext_getElem
def JQ:=@PySem.F.slot_dict_get
def yF:=@List.nodup_nil
def wb:=@Nat.le_succ
def Zs:=@List.mem_filter
def JP:=@List.getElem?_set_ne
def Zr:=@List.length_set
def QZ:=@List.take_append_getElem
def x6:=@Nat.sub_self
def QY:=@PySem.F.slot_list_append
def QX:=@PySem.F.type_list_append
def vF:=@PySem.wpAny_standAt
def vE:=@Bool.true_and
def QW:=@PySem.F.slot_dict_items
def yc:=@List.getElem_inj
def yb:=@List.length_drop
def wm:=@PySem.wpAny_setField
def ya:=@List.not_mem_nil
def w9:=@Bool.not_eq_true
def w8:=@List.getElem_map
def w6:=@PySem.F.plain_min_loop
def QV:=@PySem.Calls.callWith_builtin
def Zd:=@Nat.lt_of_le_of_lt
def Zc:=@PySem.wpAny_setField_rec
def Zb:=@List.pairwise_cons
def Yj:=@PyProof.Rows.F.plain_set_update_loop
def vD:=@Int.le_trans
def wZ:=@PySem.wpAny_passesOwn
def QU:=@List.length_singleton
def wY:=@List.find?_cons
def QT:=@List.length_filter_le
def X6:=@PySem.F.slot_tuple_iterator_next
def wj:=@List.sum_cons
def Za:=@PySem.wpAny_setState_of
def x5:=@PySem.wpAny_rule
def QS:=@List.mem_of_mem_take
def y9:=@PySem.wpAny_isInstance
def y8:=@List.filter_cons
def X5:=@List.idxOf_lt_length_iff
def Yi:=@PyProof.Rows.slot_tuple_getitem
def X4:=@PySem.F.plainAttrs_dict
def y6:=@Bool.eq_iff_iff
def QR:=@PySem.Calls.spliced_cons
def QQ:=@List.getElem_range
def X3:=@List.take_of_length_le
def X2:=@PySem.F.entry_dict_get
def X1:=@Array.getElem?_eq_none
def X0:=@Nat.div_div_eq_div_mul
def XZ:=@List.getElem?_eq_none
def QP:=@List.any_eq_true
def QO:=@List.nodup_range
def XY:=@List.replicate_succ'
def Yh:=@Array.getElem?_eq_some_iff
def wX:=@Sum.inl.inj
def wW:=@PySem.wpAny_letGo
def XX:=@List.filterMap_cons
def QN:=@List.length_nil
def QM:=@List.append_nil
def QL:=@List.sum_append
def Yg:=@List.pairwise_iff_getElem
def Ye:=@PySem.Calls.call_function_entry
def XW:=@List.getElem?_drop
def zdO:=@PyProof.Rows.F.entry_set_update_loop
def XV:=@List.map_replicate
def XU:=@List.filter_append
def QK:=@Bool.false_and
def QJ:=@PySem.Value.type.inj
def Yd:=@PySem.F.type_dict_items
def XT:=@PySem.Calls.spliced_nil
def XS:=@Option.some.injEq
def y4:=@PySem.wpAny_of_eq
def Yc:=@List.pairwise_lt_range
def QI:=@PySem.Paired.length
def QH:=@Bool.false_or
def XR:=@List.countP_cons
def Yb:=@PySem.Calls.evalArgs_plain
def XQ:=@List.forIn_cons
def XO:=@Bool.or_eq_true
def yZ:=@PySem.Walks.list
def XN:=@PySem.F.slot_zip_next
def yY:=@Nat.not_lt
def XM:=@List.nil_append
def QG:=@Int.le_of_eq
def zdN:=@List.count_eq_zero_of_not_mem
def W9:=@Nat.add_le_add_left
def W8:=@List.toList_toArray
def W7:=@List.length_reverse
def W6:=@List.length_pos_iff
def W5:=@List.getElem_of_mem
def WZ:=@List.length_take_le
def XL:=@Bool.and_false
def zdM:=@PySem.F.args_tuple_iterator_next_1
def zdL:=@PySem.F.entry_tuple_iterator_next
def WY:=@Option.toList_some
def WW:=@List.ne_nil_of_mem
def zdK:=@PySem.Calls.Name_function_global
def zdJ:=@Int.fdiv_eq_ediv_of_nonneg
def zdI:=@Int.fmod_eq_emod_of_nonneg
def XJ:=@Prod.mk.injEq
def zdH:=@Array.perm_iff_toList_perm
def XI:=@List.map_take
def WV:=@List.take_sublist
def WU:=@List.take_add_one
def zdG:=@List.getElem?_eq_none_iff
def zdF:=@List.getElem?_zip_eq_some
def zdE:=@List.mem_drop_iff_getElem
def zdD:=@PySem.F.plain_extend_loop
def zdC:=@PySem.F.args_dict_items_1
def zdB:=@List.getLast?_eq_getElem?
def XH:=@PySem.F.called_set
def WT:=@PySem.F.entry_min_loop
def XG:=@Nat.lt_or_ge
def XF:=@Int.zero_add
def XE:=@List.all_map
def XD:=@Nat.min_self
def WS:=@List.of_mem_zip
def WR:=@Option.map_some
def WQ:=@Int.le_antisymm
def XC:=@Sum.inr.inj
def WP:=@List.forIn_nil
namespace L2
open PySem PySem.Spec PyProof.Rows
theorem bG1000000:1000000<sizeLine:=by rw[sizeLine_eq];decide
theorem bG100000:100000<sizeLine:=by rw[sizeLine_eq];decide
theorem bG100:100<sizeLine:=by rw[sizeLine_eq];decide
theorem bGe:(2:Int)^62=4611686018427387904:=by decide
abbrev Key:=Sum Int Str
def Qp:Key->Value->Bool
 | .inl k,v=>Value.isInt k v
 | .inr x,v=>Value.isStrOf x v
def zh9(w:World):Key->Int
 | .inl k=>hashInt k
 | .inr x=>hashStr w x
theorem qH:∀{k:Key} {v:Value},Qp k v=true->(∃i t,k=Sum.inl i/\v=Value.int i t)\/(∃x t,k=Sum.inr x/\v=Value.str x t)
 | .inl i,v,h=>by
  obtain⟨t,e⟩:=Value.isInt_shape (k:=i) (v:=v) h;exact .inl ⟨i,t,rfl,e⟩
 | .inr x,v,h=>by
  obtain⟨t,e⟩:=Value.isStrOf_shape (x:=x) (v:=v) h;exact .inr ⟨x,t,rfl,e⟩
theorem zbr(i:Int)(t:Tok):Qp (.inl i) (.int i t)=true:=by simp[Qp,Value.isInt]
theorem zbq(x:Str)(t:Tok):Qp (.inr x) (.str x t)=true:=by simp[Qp,Value.isStrOf]
theorem zgq(a b:Int):decide ((Sum.inl a:Key)=Sum.inl b)=(a==b):=by
 by_cases e:a=b
 ·subst e;simp
 ·have h:¬(Sum.inl a:Key)=Sum.inl b:=fun q=>e (wX q)
  rw[jb h];exact(beq_eq_false_iff_ne.mpr e).symm
theorem zgn(a b:Str):decide ((Sum.inr a:Key)=Sum.inr b)=decide (a=b):=by
 by_cases e:a=b
 ·subst e;simp
 ·have h:¬(Sum.inr a:Key)=Sum.inr b:=fun q=>e (XC q)
  rw[jb h,jb e]
theorem zgp(a:Int)(b:Str):decide ((Sum.inl a:Key)=Sum.inr b)=false:=jb (fun q=>nomatch q)
theorem zgo(a:Str)(b:Int):decide ((Sum.inr a:Key)=Sum.inl b)=false:=jb (fun q=>nomatch q)
def zN(g:Program)(w:World):PySem.KeyKind g w Key where
 is:=Qp
 hash:=zh9 w
 inj:=fun v a b s hb=>by
  rcases qH s with ⟨i,t,rfl,rfl⟩ | ⟨x,t,rfl,rfl⟩
  ·rcases qH hb with ⟨j,u,rfl,e⟩ | ⟨y,u,rfl,e⟩
   ·injection e with c _;rw[c]
   ·exact nomatch e
  ·rcases qH hb with ⟨j,u,rfl,e⟩ | ⟨y,u,rfl,e⟩
   ·exact nomatch e
   ·injection e with c _;rw[c]
 byValue:=fun k v h=>by
  rcases qH h with ⟨i,t,rfl,rfl⟩ | ⟨x,t,rfl,rfl⟩<;>rfl
 pyHash:=fun l h=>by
  rcases qH l with ⟨i,t,rfl,rfl⟩ | ⟨x,t,rfl,rfl⟩
  ·exact wpAny_pyHash_int h
  ·exact wpAny_pyHash_str h
 eqBool:=fun hu l h=>by
  rcases qH hu with ⟨i,t,rfl,rfl⟩ | ⟨x,t,rfl,rfl⟩
  ·rcases qH l with ⟨j,u,rfl,rfl⟩ | ⟨y,u,rfl,rfl⟩
   ·rw[zgq] at h;exact wpAny_eqBool_int h
   ·rw[zgp] at h;exact SeqAt.EqAt.int_str i t y u _ _ _ _ h
  ·rcases qH l with ⟨j,u,rfl,rfl⟩ | ⟨y,u,rfl,rfl⟩
   ·rw[zgo] at h;exact SeqAt.EqAt.str_int x t j u _ _ _ _ h
   ·rw[zgn] at h;exact wpAny_eqBool_str h
 «strs»:=fun k x t v h=>by
  rcases qH h with ⟨i,u,rfl,e⟩ | ⟨y,u,rfl,e⟩
  ·exact nomatch e
  ·injection e with c _
   subst c;cases v<;>rfl
theorem WF(c:Program)(w:World)(k:Key)(v:Value):(zN c w).is k v=Qp k v:=rfl
theorem VN(c:Program)(w:World)(i:Int)(t:Tok):(zN c w).is (.inl i) (.int i t)=true:=zbr i t
theorem VM(c:Program)(w:World)(x:Str)(t:Tok):(zN c w).is (.inr x) (.str x t)=true:=zbq x t
inductive V where
 | non | bl (b:Bool) | int (i:Int) | str (x:Str) | byt (b:Array UInt8) | flt (b:UInt64) | ref (a:Addr) | ty (n:String)
 deriving DecidableEq
def RelV:V->Value->Prop
 | .non,u=>u=Value.none
 | .bl b,u=>u=Value.bool b
 | .int i,u=>∃t,u=Value.int i t
 | .str x,u=>∃t,u=Value.str x t
 | .byt b,u=>∃t,u=Value.bytes b t
 | .flt b,u=>∃t,u=Value.float b t
 | .ref a,u=>u=Value.ref a
 | .ty n,u=>u=Value.type n
abbrev Vals:List V->List Value->Prop:=Paired RelV
theorem Vals.length{g:List V}{c:List Value}(r:Vals g c):g.length=c.length:=QI r
theorem Vals.get:∀{g:List V} {c:List Value} {i:Nat} {x:V},Vals g c->g[i]? =some x->∃u,c[i]? =some u/\RelV x u
 | _,_,_,_,.nil,e=>by simp at e
 | _,_,0,_,.cons r _,e=>by simp at e;subst e;exact⟨_,rfl,r⟩
 | _,_,i+1,x,.cons _ t,e=>by
  obtain⟨u,l,s⟩:=Vals.get (i:=i) (x:=x) t (by simpa using e)
  exact⟨u,by simpa using l,s⟩
theorem Vals.set{x:V}{u:Value}(r:RelV x u):∀{g:List V} {c:List Value} (i:Nat),Vals g c->Vals (g.set i x) (c.set i u)
 | _,_,_,.nil=>.nil
 | _,_,0,.cons _ t=>.cons r t
 | _,_,i+1,.cons q t=>.cons q (Vals.set r i t)
theorem Vals.append:∀{l w:List V} {c g:List Value},Vals l c->Vals w g->Vals (l++w) (c++g)
 | _,_,_,_,.nil,s=>s
 | _,_,_,_,.cons r t,s=>.cons r (Vals.append t s)
theorem Vals.take:∀{g:List V} {c:List Value} (n:Nat),Vals g c->Vals (g.take n) (c.take n)
 | _,_,0,_=>.nil
 | _,_,_+1,.nil=>.nil
 | _,_,n+1,.cons r t=>.cons r (Vals.take n t)
theorem Vals.drop:∀{g:List V} {c:List Value} (n:Nat),Vals g c->Vals (g.drop n) (c.drop n)
 | _,_,0,r=>r
 | _,_,_+1,.nil=>.nil
 | _,_,n+1,.cons _ t=>Vals.drop n t
theorem Vals.none_of:∀{c:List V} {g:List Value} {i:Nat},Vals c g->c[i]? =none->g[i]? =none:=fun {c g i} r e=>by
 have l:=r.length;have s:c.length<=i:=zdG.mp e;exact zdG.mpr (by omega)
def RelO:Option V->Option Value->Prop
 | some v,some u=>RelV v u
 | none,none=>True
 | _,_=>False
def KV{κ:Type}:List (κ×V)->List (κ×Value)->Prop:=Paired fun(p:κ×V) (q:κ×Value)=>p.1=q.1/\RelV p.2 q.2
def kV:Key->V
 | .inl i=>.int i
 | .inr x=>.str x
inductive HO where
  | lst (l:List V)
  | tup (l:List V)
  | dK (c:List (Key×V)) | dT (c:List (List Key×V))
  | set (S:Int->Bool) (n:Nat)
  | ins (C s:Addr) (g:List (Str×V))
  | own (x:Addr)
  | xd (g:List (Str×V))
  | met (f x:Addr)
  | rng (lo t:Int)
  | frz (o:Obj) (u:HO)
  | tbl (ps:Array Value)
  | ext (φ:Heap->Prop)
abbrev Hp:=Addr->Option HO
def upd(H:Hp)(a:Addr)(o:HO):Hp:=fun b=>if b=a then some o else H b
theorem zg{H:Hp}{a:Addr}{o:HO}:upd H a o a=some o:=by unfold upd;rw[zq rfl]
theorem zw{H:Hp}{a b:Addr}{o:HO}(h:b≠a):upd H a o b=H b:=by unfold upd;rw[zo h]
theorem zad{H:Hp}{a b:Addr}{o u:HO}(h:H a=some o)(c:H b=some u)(d:o≠u):a≠b:=by
 intro e;subst e;rw[h] at c;exact d (qU c)
theorem zp{H:Hp}{a b:Addr}{o:HO}(h:H a=some o)(c:H b=none):a≠b:=by
 intro e;subst e;rw[h] at c;cases c
section
variable(P:Program)(w:World)
def TupX(h:Heap)(a:Addr)(c:Array Value):Prop:=IsTup h a c/\∃o,h.get? a=some o/\o.dict=none
theorem TupX.by{h:Heap}{a:Addr}{c:Array Value}{n:Nat}(e:h.get? a=some { cls:=.type "tuple",data:=.seq c n }):TupX h a c:=⟨⟨_,e,rfl,n,rfl⟩,_,e,rfl⟩
def ObjOk(H:Hp)(h:Heap)(a:Addr):HO->Prop
 | .lst l=>l.length<=sizeLine/\∃(c:List Value) (n:Nat),Vals l c/\h.get? a=some { cls:=.type "list",data:=.seq c.toArray n }
 | .tup l=>l.length<=sizeLine/\∃c:List Value,Vals l c/\TupX h a c.toArray
 | .dK g=>g.length<=sizeLine/\(a==sysModules)=false/\∃I,KV g I/\h.DictOf (zN P w) a I
 | .dT g=>g.length<=sizeLine/\(a==sysModules)=false/\∃l:List (List Key×Addr×Value),
   Paired (fun(p:List Key×V) (q:List Key×Addr×Value)=>p.1=q.1/\H q.2.1=some (.tup (p.1.map kV))/\RelV p.2 q.2.2) g l /\
   ∃o D J,h.get? a=some o/\o.ExactDict/\o.data=.dict D J/\D.toList=l.map (entryOfKey (tupleKind (zN P w)))/\(l.map (·.1)).Nodup
 | .set S n=>h.SetOf (intKind P w) a S n
 | .ins C B A=>H B=some (.own a)/\A.length<=1000/\B≠a/\h.get? a=some (PySem.W.instObj C B) /\
   ∃s,h.Ns1 B s/\(∀f,RelO (A.lookup f) (s f))/\PySem.Within s (A.map (·.1))
 | .own _=>∃o,h.get? a=some o
 | .xd A=>∃s,h.Ns1 a s/\∀f,RelO (A.lookup f) (s f)
 | .rng lo L=>∃t u v,h.get? a=some { cls:=.type "range",data:=.fields #[.int lo t,.int L u,.int 1 v] }
 | .frz o u=>h.get? a=some o/\ObjOk H h a u
 | .tbl ps=>h.get? a=some { cls:=.none,data:=.fields ps }
 | .met f x=>h.get? a=some (PySem.W.methodObj (.ref f) (.ref x))
 | .ext φ=>φ h/\(∃o,h.get? a=some o)/\∀E G:Heap,φ E->(∀o,E.get? a=some o->G.get? a=some o)->φ G
def HOk(H:Hp)(h:Heap):Prop:=∀a o,H a=some o->ObjOk P w H h a o
end
section
variable{P:Program}{w:World}{H g:Hp}{h h':Heap}{a:Addr}{o:HO}
theorem ObjOk.lt(x:ObjOk P w H h a o):a<h.objs.size:=by
 cases o with
 | lst s=>obtain⟨_,_,_,_,e⟩:=x;exact zD e
 | tup s=>obtain⟨_,_,_,p⟩:=x;exact p.1.lt
 | dK c=>obtain⟨_,_,_,_,o,_,_,e,_⟩:=x;exact zD e
 | dT c=>obtain⟨_,_,_,_,o,_,_,e,_⟩:=x;exact zD e
 | set S n=>obtain⟨o,_,_,_,e,_⟩:=x;exact zD e
 | ins C t l=>obtain⟨_,_,_,e,_⟩:=x;exact zD e
 | own y=>obtain⟨_,e⟩:=x;exact zD e
 | xd l=>obtain⟨_,⟨_,_,_,e,_⟩,_⟩:=x;exact zD e
 | rng lo A=>obtain⟨_,_,_,e⟩:=x;exact zD e
 | frz B u=>obtain⟨e,_⟩:=x;exact zD e
 | tbl ps=>exact zD (show h.get? a=some _ from x)
 | met f y=>exact zD (show h.get? a=some _ from x)
 | ext φ=>obtain⟨_,⟨_,e⟩,_⟩:=x;exact zD e
theorem Paired.mapP{α β:Type}{F G:α->β->Prop}:∀{c:List α} {l:List β},Paired F c l->(∀a b,F a b->G a b)->Paired G c l
 | _,_,.nil,_=>.nil
 | _,_,.cons r t,f=>.cons (f _ _ r) (Paired.mapP t f)
theorem ObjOk.stay(x:ObjOk P w H h a o)(k:∀b u,(b=a\/H b=some (.own a))->h.get? b=some u->h'.get? b=some u)
  (N:∀b,H b=some (.own a)->g b=some (.own a)) (O:∀b D,H b=some (.tup D)->g b=some (.tup D)):ObjOk P w g h' a o:=by
 induction o with
 | lst D=>obtain⟨z,B,n,r,e⟩:=x;exact⟨z,B,n,r,k _ _ (.inl rfl) e⟩
 | tup D=>obtain⟨z,B,r,⟨l,e,c⟩,T,E,L⟩:=x;exact⟨z,B,r,⟨l,k _ _ (.inl rfl) e,c⟩,T,k _ _ (.inl rfl) E,L⟩
 | dK G=>obtain⟨z,y,U,r,l,A,s,e,c⟩:=x;exact⟨z,y,U,r,l,A,s,k _ _ (.inl rfl) e,c⟩
 | dT G=>
  obtain⟨z,y,D,r,l,A,s,e,c⟩:=x;exact⟨z,y,D,Paired.mapP r fun p q z=>⟨z.1,O _ _ z.2.1,z.2.2⟩,l,A,s,k _ _ (.inl rfl) e,c⟩
 | set S n=>obtain⟨l,A,s,t,e,c⟩:=x;exact⟨l,A,s,t,k _ _ (.inl rfl) e,c⟩
 | ins C Y M=>
  obtain⟨d,z,ne,e,I,⟨J,A,s,E,c⟩,r⟩:=x;exact⟨N _ d,z,ne,k _ _ (.inl rfl) e,I,⟨J,A,s,k _ _ (.inr d) E,c⟩,r⟩
 | own y=>obtain⟨l,e⟩:=x;exact⟨l,k _ _ (.inl rfl) e⟩
 | xd M=>obtain⟨I,⟨J,A,s,e,c⟩,r⟩:=x;exact⟨I,⟨J,A,s,k _ _ (.inl rfl) e,c⟩,r⟩
 | rng lo hi=>obtain⟨t,u,v,e⟩:=x;exact⟨t,u,v,k _ _ (.inl rfl) e⟩
 | frz l u Q=>obtain⟨e,q⟩:=x;exact⟨k _ _ (.inl rfl) e,Q q⟩
 | tbl ps=>
  have e:h.get? a=some { cls:=.none,data:=.fields ps }:=x;show h'.get? a=some { cls:=.none,data:=.fields ps };exact k a _ (.inl rfl) e
 | met f y=>
  have e:h.get? a=some (PySem.W.methodObj (.ref f) (.ref y)):=x;show h'.get? a=some (PySem.W.methodObj (.ref f) (.ref y));exact k a _ (.inl rfl) e
 | ext φ=>obtain⟨p,⟨o,e⟩,st⟩:=x;exact⟨st _ _ p fun o q=>k _ _ (.inl rfl) q,⟨o,k _ _ (.inl rfl) e⟩,st⟩
theorem HOk.lt(x:HOk P w H h)(e:H a=some o):a<h.objs.size:=(x a o e).lt
theorem HOk.fresh(x:HOk P w H h)(e:h.objs.size<=a):H a=none:=by
 cases q:H a with
 | none=>rfl
 | some u=>exact absurd (jr (x.lt q) e) (jJ _)
theorem HOk.kept(x:HOk P w H h)(k:∀b u,h.get? b=some u->h'.get? b=some u):HOk P w H h':=fun a o e=>
 (x a o e).stay (fun b u _ q=>k b u q) (fun _ q=>q) fun _ _ q=>q
theorem HOk.laid(x:HOk P w H h)(k:∀b u,h.get? b=some u->h'.get? b=some u)(t:h.objs.size<=a)(l:ObjOk P w (upd H a o) h' a o):HOk P w (upd H a o) h':=fun b u e=>by
 have s:=x.fresh t;by_cases hb:b=a
 ·subst hb;rw[zg] at e;cases e;exact l
 ·rw[zw hb] at e
  exact(x b u e).stay (fun c v _ q=>k c v q) (fun c q=>by rw[zw (zp q s)];exact q) fun c A q=>by rw[zw (zp q s)];exact q
end
def Rd(H:Hp)(a:Addr)(u:HO):Prop:=H a=some u\/∃o,H a=some (.frz o u)
theorem Rd.of{H:Hp}{a:Addr}{u:HO}(h:H a=some u):Rd H a u:=.inl h
theorem Rd.ok{P:Program}{w:World}{H:Hp}{h:Heap}{a:Addr}{u:HO}(r:Rd H a u)(x:HOk P w H h):ObjOk P w H h a u:=by
 rcases r with r | ⟨o,r⟩
 ·exact x a u r
 ·obtain⟨_,q⟩:=x a _ r
  exact q
def Mut:Option HO->Prop
 | some (.lst _)=>True
 | some (.dK _)=>True
 | some (.dT _)=>True
 | some (.set _ _)=>True
 | some (.ins _ _ _)=>True
 | some (.ext _)=>True
 | _=>False
section
variable{P:Program}{w:World}{H:Hp}{h h':Heap}{x e:Addr}{g:HO}
theorem HOk.write(ok:HOk P w H h)(A:Mut (H x))(G:e=x\/H e=some (.own x))(k:∀b u,b≠e->h.get? b=some u->h'.get? b=some u)(D:∃u,h'.get? e=some u)
  (E:ObjOk P w (upd H x g) h' x g):HOk P w (upd H x g) h':=fun b u q=>by
 have s:∀c y,H c=some (.own y)->c≠x:=fun c y r z=>by subst z;rw[r] at A;exact A
 have t:∀c B,H c=some (.tup B)->c≠x:=fun c B r z=>by subst z;rw[r] at A;exact A
 by_cases hb:b=x
 ·subst hb;rw[zg] at q;cases q;exact E
 ·rw[zw hb] at q
  by_cases l:b=e
  ·have I:H b=some (.own x):=by
    rcases G with z | z
    ·exact absurd (l.trans z) hb
    ·rw[l];exact z
   rw[q] at I;cases I
   obtain⟨v,J⟩:=D;exact⟨v,by rw[l];exact J⟩
  ·refine(ok b u q).stay (fun c v hc r=>k c v ?_ r) (fun c r=>by rw[zw (s c b r)];exact r) fun c B r=>by rw[zw (t c B r)];exact r
   rcases hc with rfl | hc
   ·exact l
   ·rintro rfl
    rcases G with z | z
    ·exact s c b hc z
    ·rw[hc] at z;cases z;exact hb rfl
end
structure Un(fs ex:List Addr)(H H':Hp)(h h':Heap):Prop where
 keep:∀b o,h.get? b=some o->H b=none->b∉fs->b∉ex->h'.get? b=some o
 slot:∀b o,h.get? b=some o->H b=none->b∈fs->b∉ex->∃sl,h'.get? b=some { o with slots:=sl }
 free:∀b o,h.get? b=some o->H b=none->b∉ex->H' b=none
 there:∀b o,h.get? b=some o->b∉ex->∃o',h'.get? b=some o'
 tups:∀b xs,H b=some (.tup xs)->H' b=some (.tup xs)
 frzs:∀b o u,H b=some (.frz o u)->H' b=some (.frz o u)
 tbls:∀b ps,H b=some (.tbl ps)->∃more,H' b=some (.tbl (ps++more))
section
variable{l A g w:List Addr}{H t B:Hp}{h s D h':Heap}{a x e:Addr}{o:HO}
theorem Un.any(u:Un l g H t h s){b:Addr}{c:Obj}(q:h.get? b=some c)(n:H b=none)(hx:b∉g):∃E,s.get? b=some { c with slots:=E }:=by
 by_cases hb:b∈l
 ·exact u.slot b c q n hb hx
 ·exact⟨c.slots,u.keep b c q n hb hx⟩
theorem Un.trans(a:Un l g H t h s)(b:Un l g t B s D):Un l g H B h D where
 keep:=fun c E q n hc hx=>b.keep c E (a.keep c E q n hc hx) (a.free c E q n hx) hc hx
 slot:=fun c E q n hc hx=>by
  obtain⟨Q,G⟩:=a.slot c E q n hc hx;obtain⟨M,J⟩:=b.slot c _ G (a.free c E q n hx) hc hx;exact⟨M,J⟩
 free:=fun c E q n hx=>by
  obtain⟨L,G⟩:=a.there c E q hx;exact b.free c L G (a.free c E q n hx) hx
 there:=fun c E q hx=>by
  obtain⟨L,G⟩:=a.there c E q hx;exact b.there c L G hx
 tups:=fun c I q=>b.tups c I (a.tups c I q)
 frzs:=fun c E I q=>b.frzs c E I (a.frzs c E I q)
 tbls:=fun c ps q=>by
  obtain⟨N,G⟩:=a.tbls c ps q;obtain⟨O,J⟩:=b.tbls c _ G;exact⟨N++O,by rw[J,Array.append_assoc]⟩
theorem Un.kept(k:∀b u,h.get? b=some u->h'.get? b=some u):Un l g H H h h':=
 ⟨fun b c q _ _ _=>k b c q,fun b c q _ _ _=>⟨c.slots,k b c q⟩,fun _ _ _ n _=>n,fun b c q _=>⟨c,k b c q⟩,fun _ _ q=>q,fun _ _ _ q=>q,fun _ ps q=>⟨#[],by rw[q];simp⟩⟩
theorem Un.refl:Un l g H H h h:=Un.kept fun _ _ q=>q
theorem Un.laid(k:∀b u,h.get? b=some u->h'.get? b=some u)(E:h.objs.size<=a)(c:H a=none):Un l g H (upd H a o) h h' where
 keep:=fun b u q _ _ _=>k b u q
 slot:=fun b u q _ _ _=>⟨u.slots,k b u q⟩
 free:=fun b u q n _=>by rw[zw (zM (jr (zD q) E))];exact n
 there:=fun b u q _=>⟨u,k b u q⟩
 tups:=fun b G q=>by rw[zw (zp q c)];exact q
 frzs:=fun b u G q=>by rw[zw (zp q c)];exact q
 tbls:=fun b ps q=>⟨#[],by rw[zw (zp q c),q];simp⟩
theorem Un.write(E:Mut (H x))(J:e=x\/H e=some (.own x))(k:∀b u,b≠e->h.get? b=some u->h'.get? b=some u)(G:∃u,h'.get? e=some u):Un l g H (upd H x o) h h':=by
 have hx:∀b,H b=none->b≠x:=fun b n z=>by subst z;rw[n] at E;exact E
 have hb:∀b,H b=none->b≠e:=fun b n z=>by
  subst z;rcases J with r | r
  ·exact hx b n r
  ·rw[n] at r;cases r
 have I:∀b u,H b=some u->¬Mut (some u)->b≠x:=fun b u q L z=>by subst z;rw[q] at E;exact L E
 refine⟨fun b u q n _ _=>k b u (hb b n) q,fun b u q n _ _=>⟨u.slots,k b u (hb b n) q⟩,fun b u q n _=>by rw[zw (hx b n)];exact n,fun b u q _=>?_,
  fun b M q=>by rw[zw (I b _ q fun z=>z)];exact q,fun b u M q=>by rw[zw (I b _ q fun z=>z)];exact q,fun b ps q=>⟨#[],by rw[zw (I b _ q fun z=>z),q];simp⟩⟩
 by_cases c:b=e
 ·subst c;exact G
 ·exact⟨u,k b u c q⟩
theorem Un.mono(u:Un l g H t h s)(G:∀b∈l,b∈A)(hx:∀b∈g,b∈w):Un A w H t h s:=
 ⟨fun b E q n hb c=>u.keep b E q n (fun z=>hb (G b z)) fun z=>c (hx b z),fun _ _ q n _ c=>u.any q n fun z=>c (hx _ z),fun b E q n c=>u.free b E q n fun z=>c (hx b z),fun b E q c=>u.there b E q fun z=>c (hx b z),u.tups,u.frzs,u.tbls⟩
end
def trk(h:Heap)(H:Hp):List Addr:=(List.range h.objs.size).filter fun a=>(H a).isSome
def Xo(h:Heap)(H:Hp):Heap:=PySem.W.hideAll h (trk h H)
theorem zbu(h:Heap)(H:Hp):(Xo h H).objs.size=h.objs.size:=PySem.W.hideAll_size _ _
theorem zdh{h:Heap}{H:Hp}{b:Addr}{o:Obj}(e:h.get? b=some o)(n:H b=none):(Xo h H).get? b=some o:=
 PySem.W.hideAll_get _ e fun c=>by
  have q:(H b).isSome=true:=(Zs.mp c).2;rw[n] at q;simp at q
theorem zeu{h:Heap}{H:Hp}{b:Addr}{o:Obj}(e:(Xo h H).get? b=some o):h.get? b=some o/\H b=none:=by
 have c:h.get? b=some o:=PySem.W.of_hideAll (trk h H) e;refine⟨c,?_⟩
 cases q:H b with
 | none=>rfl
 | some x=>
  have g:b∈trk h H:=Zs.mpr ⟨qu.mpr (zD c),by simp[q]⟩
  have z:(Xo h H).get? b=none:=PySem.W.hideAll_none (trk h H) g;rw[z] at e;cases e
def zeR(g h:Heap)(L:Addr):List (Addr×Obj):=(List.range h.objs.size).filterMap fun a=>if a=L\/(g.get? a).isSome=true then none else(h.get? a).map fun o=>(a,o)
def rest(g h:Heap)(L d:Addr):List (Addr×Obj):=(zeR g h L).filter fun p=>decide (p.1≠d)
structure Mod(K:W.Frag)(mg:Str->Option Value)(base:Heap):Prop where
 kin:K.In base
 glob:base.Ns mainGlobals mg
 blt:∃mb,base.Ns builtinsNs mb/\∀x:Str,x ≠ "__name__" -> mb x=bootBuiltins x
 nolimit:base.NoLimit
structure Cx where
 prog:Program
 w:World
 K:PySem.W.Frag
 mg:Str->Option Value
 base:Heap
 A:Around
 N:List Str
 s₀:Shared
 H₀:Hp
 env:Env
 outer:List Env
 stack:List Env
 ex:List Addr
 fn:Str->Bool
 calm:Bool
 pn:List (Addr×Obj)
 xe:Value->Shared->Prop
def frs(l:List Env):List Addr:=l.filterMap (·.frame)
abbrev Cx.fs(X:Cx):List Addr:=frs X.outer
def Vis(c:Scope)(x:Str):Prop:=c.names.lookup x=some .local\/c.names.lookup x=some .cell\/c.names.lookup x=some .free
def Loc(c:Scope)(x:Str):Prop:=c.names.lookup x=some .local\/c.names.lookup x=some .cell
def zif(g:Env)(h:Heap)(m:Str->Option Value)(x:Str)(u:Value):Prop:=
 (g.kindOf x=some .local/\m x=some u)\/((g.kindOf x=some .cell\/g.kindOf x=some .free)/\∃c,g.cells.lookup x=some c/\h.IsCell c (some u))
structure Cx.Ok(X:Cx):Prop where
 mod:Mod X.K X.mg X.base
 kind:X.env.scope.kind=.function
 glob:X.env.globals=mainGlobals
 blt:X.env.builtins=builtinsNs
 above:X.s₀.heap.objs.size<=X.env.locals
 inj:∀x y c,X.env.cells.lookup x=some c->X.env.cells.lookup y=some c->x=y
 has:∀x,(X.env.kindOf x=some .cell\/X.env.kindOf x=some .free)->∃c,X.env.cells.lookup x=some c
 cab:∀x c,X.fn x=true->X.env.cells.lookup x=some c->X.s₀.heap.objs.size<=c
 hd:X.calm=true->X.A.handled=none
 frames:X.A.frames=some X.stack
 stk:X.stack=X.outer\/(X.stack=X.env::X.outer/\X.env.frame=some X.env.locals)
 exf:∀b∈X.ex,b≠X.env.locals/\∀x c,X.env.cells.lookup x=some c->c≠b
 bs:∀b o,X.base.get? b=some o->X.s₀.heap.get? b=some o/\X.H₀ b=none
 bsz:X.base.objs.size<=X.s₀.heap.objs.size
 noex:∀b o,X.base.get? b=some o->b∉X.ex
 exfs:∀b∈X.ex,b∉X.fs
 funs:X.s₀.heap.FunFrames X.base X.outer
 frf:∀b∈X.fs,X.H₀ b=none
structure Inv(X:Cx)(pins:List (Addr×Obj))(σ:List (Option V))(H:Hp)(s:Shared):Prop where
 ok:X.Ok
 os:s.os=X.s₀.os
 bare:AllBare s.gens
 base:Un X.fs X.ex X.H₀ H X.s₀.heap s.heap
 loc:∃m,s.heap.Ns X.env.locals m/\∀(i:Nat) (x:Str) (v:V),X.N[i]? =some x->σ[i]? =some (some v)->Vis X.env.scope x->∃u,RelV v u/\zif X.env s.heap m x u
 cell:∀x c,X.env.cells.lookup x=some c->∃v,s.heap.IsCell c v
 free:H X.env.locals=none
 freeC:∀x c,X.env.cells.lookup x=some c->H c=none
 pin:∀p∈X.pn++pins,s.heap.get? p.1=some p.2/\H p.1=none/\p.1≠X.env.locals/\p.1∉X.fs/\∀v,p.2.data≠.cell v
 hok:HOk X.prog X.w H s.heap
 len:σ.length=X.N.length
section
variable{X:Cx}{g:List (Addr×Obj)}{σ:List (Option V)}{H B:Hp}{s:Shared}{h':Heap}
theorem Cx.Ok.nofr(ok:X.Ok){b:Addr}{o:Obj}(e:X.base.get? b=some o):b∉X.fs:=fun hb=>by
 have:=(ok.funs.mem hb).1;rw[e] at this;cases this
theorem Inv.bs(I:Inv X g σ H s):∀b o,X.base.get? b=some o->s.heap.get? b=some o/\H b=none:=fun b o e=>
 ⟨I.base.keep b o (I.ok.bs b o e).1 (I.ok.bs b o e).2 (I.ok.nofr e) (I.ok.noex b o e),I.base.free b o (I.ok.bs b o e).1 (I.ok.bs b o e).2 (I.ok.noex b o e)⟩
theorem Inv.bk(I:Inv X g σ H s):∀b o,X.base.get? b=some o->s.heap.get? b=some o:=fun b o e=>(I.bs b o e).1
theorem Inv.mod(I:Inv X g σ H s):Mod X.K X.mg X.base:=I.ok.mod
theorem Inv.kIn(I:Inv X g σ H s):X.K.In s.heap:=I.ok.mod.kin.keeps I.bk
theorem Inv.nolimit(I:Inv X g σ H s):s.heap.NoLimit:=I.ok.mod.nolimit.keeps I.bk
theorem Inv.fr(I:Inv X g σ H s):∃m,Fr X.base X.env.locals s.heap m:=
 let ⟨m,c,_⟩:=I.loc
 ⟨m,c,I.bk,jU I.ok.bsz I.ok.above⟩
theorem Inv.lt(I:Inv X g σ H s):X.env.locals<s.heap.objs.size:=let ⟨_,c,_⟩:=I.loc;c.lt
theorem Inv.sz(I:Inv X g σ H s):X.s₀.heap.objs.size<=s.heap.objs.size:=jU I.ok.above (vI I.lt)
theorem Inv.nofs(I:Inv X g σ H s){a:Addr}(h:s.heap.objs.size<=a):a∉X.fs:=fun hb=>by
 obtain⟨_,o,c,_⟩:=I.ok.funs.mem hb;exact absurd (jr (zD c) (jU I.sz h)) (jJ _)
theorem Inv.cne(I:Inv X g σ H s):∀x c,X.env.cells.lookup x=some c->c≠X.env.locals:=fun x c e z=>by
 obtain⟨v,o,A,w⟩:=I.cell x c e;obtain⟨m,⟨G,E,D,t,l,_⟩,_⟩:=I.loc;rw[z,t] at A;cases A;rw[l] at w;cases w
theorem Inv.funs(I:Inv X g σ H s):s.heap.FunFrames X.base X.outer:=by
 have all:∀(l:List Env),(∀b∈frs l,b∈X.fs)->X.s₀.heap.FunFrames X.base l->s.heap.FunFrames X.base l:=by
  intro l;induction l with
  | nil=>intro _ _;trivial
  | cons A r N=>
   intro w E;obtain⟨hk,⟨L,o,t,G,J,D⟩,M⟩:=E;have c:L∈X.fs:=w L (by unfold frs;rw[XX,t];exact jW)
   obtain⟨O,e⟩:=I.base.slot L o J (I.ok.frf L c) c fun z=>I.ok.exfs L z c
   exact⟨hk,⟨L,_,t,G,e,D⟩,N (fun b hb=>w b (by unfold frs;rw[XX,t];exact z9 _ hb)) M⟩
 exact all X.outer (fun _ hb=>hb) I.ok.funs
theorem Inv.stack(I:Inv X g σ H s):s.heap.FunFrames X.base X.stack:=by
 rcases I.ok.stk with e | ⟨e,c⟩
 ·rw[e];exact I.funs
 ·rw[e]
  obtain⟨m,l,_⟩:=I.loc;refine .cons (by rw[I.ok.kind];decide) c l ?_ I.funs
  exact Heap.get?_none_of_le (jU I.ok.bsz I.ok.above)
theorem Inv.stkSub(I:Inv X g σ H s):∀b∈frs X.stack,b∈X.env.locals::X.fs:=fun b hb=>by
 rcases I.ok.stk with e | ⟨e,c⟩
 ·rw[e] at hb;exact z9 _ hb
 ·rw[e] at hb
  unfold frs at hb;rw[XX,c] at hb;exact hb
theorem Inv.stkFree(I:Inv X g σ H s):∀b∈frs X.stack,H b=none:=fun b hb=>by
 rcases zL.mp (I.stkSub b hb) with e | hb
 ·rw[e];exact I.free
 ·obtain⟨_,o,c,_⟩:=I.ok.funs.mem hb
  exact I.base.free b o c (I.ok.frf b hb) fun z=>I.ok.exfs b z hb
theorem Inv.step{g':Array GenState}{t':Nat}{d':Drawn}{ch:List Addr}(I:Inv X g σ H s)
  (A:∀b∈ch,(b∈X.ex\/X.s₀.heap.objs.size<=b)/\b≠X.env.locals/\(∀x c,X.env.cells.lookup x=some c->c≠b)/\∀p∈X.pn++g,p.1≠b)
  (D:∀b o,b≠X.env.locals->b∉X.fs->b∉ch->s.heap.get? b=some o->H b=none->h'.get? b=some o)
  (L:∀b o,b≠X.env.locals->b∈X.fs->b∉ch->s.heap.get? b=some o->H b=none->∃sl,h'.get? b=some { o with slots:=sl }) (t:∀b o,b∉ch->s.heap.get? b=some o->H b=none->B b=none)
  (N:∀b o,b∉ch->s.heap.get? b=some o->∃o',h'.get? b=some o')
  (a1:∀b M,H b=some (.tup M)->B b=some (.tup M)) (T:∀b o u,H b=some (.frz o u)->B b=some (.frz o u)) (a0:∀b ps,H b=some (.tbl ps)->∃U,B b=some (.tbl (ps++U)))
  (ns:∀m,s.heap.Ns X.env.locals m->h'.Ns X.env.locals m) (a2:HOk X.prog X.w B h') (hg:AllBare g') :
  Inv X g σ B { s with heap:=h',gens:=g',drawn:=d',toks:=t' }:=by
 have Y:∀b o,X.s₀.heap.get? b=some o->b≠X.env.locals:=fun b o e=>zM (jr (zD e) I.ok.above)
 have J:∀b o,X.s₀.heap.get? b=some o->b∉X.ex->b∉ch:=fun b o e hx hb=>by
  rcases(A b hb).1 with z | z
  ·exact hx z
  ·exact absurd (jr (zD e) z) (jJ _)
 have w:∀x c,X.env.cells.lookup x=some c->∀v,s.heap.IsCell c v->h'.IsCell c v:=fun x c e v ⟨o,O,hd⟩=>by
  have E:c∉ch:=fun z=>(A c z).2.2.1 x c e rfl
  by_cases hc:c∈X.fs
  ·obtain⟨sl,q⟩:=L c o (I.cne x c e) hc E O (I.freeC x c e)
   exact⟨_,q,hd⟩
  ·exact⟨o,D c o (I.cne x c e) hc E O (I.freeC x c e),hd⟩
 refine⟨I.ok,I.os,hg,⟨fun b o e n hb hx=>?_,fun b o e n hb hx=>?_,fun b o e n hx=>?_,fun b o e hx=>?_,fun b M e=>a1 b M (I.base.tups b M e),fun b o M e=>T b o M (I.base.frzs b o M e),fun b ps e=>?_⟩,?_,fun x c e=>?_,?_,fun x c e=>?_,fun p hp=>?_,a2,I.len⟩
 ·exact D b o (Y b o e) hb (J b o e hx) (I.base.keep b o e n hb hx) (I.base.free b o e n hx)
 ·obtain⟨sl,G⟩:=I.base.slot b o e n hb hx
  obtain⟨a3,Q⟩:=L b _ (Y b o e) hb (J b o e hx) G (I.base.free b o e n hx);exact⟨a3,Q⟩
 ·obtain⟨o',G⟩:=I.base.there b o e hx
  exact t b o' (J b o e hx) G (I.base.free b o e n hx)
 ·obtain⟨o',G⟩:=I.base.there b o e hx
  exact N b o' (J b o e hx) G
 ·obtain⟨m1,G⟩:=I.base.tbls b ps e
  obtain⟨m2,Q⟩:=a0 b _ G;exact⟨m1++m2,by rw[Q,Array.append_assoc]⟩
 ·obtain⟨m,hn,hl⟩:=I.loc
  refine⟨m,ns m hn,fun i x v G Q e3=>?_⟩
  obtain⟨u,r,l⟩:=hl i x v G Q e3;refine⟨u,r,?_⟩
  rcases l with l | ⟨k,c,e,z⟩
  ·exact .inl l
  ·exact .inr ⟨k,c,e,w x c e _ z⟩
 ·obtain⟨v,z⟩:=I.cell x c e
  exact⟨v,w x c e v z⟩
 ·obtain⟨m,⟨o,_,_,O,_⟩,_⟩:=I.loc
  exact t _ o (fun z=>(A _ z).2.1 rfl) O I.free
 ·obtain⟨v,o,O,hd⟩:=I.cell x c e
  exact t c o (fun z=>(A c z).2.2.1 x c e rfl) O (I.freeC x c e)
 ·obtain⟨e,n,ne,nf,d⟩:=I.pin p hp
  have E:p.1∉ch:=fun z=>(A p.1 z).2.2.2 p hp rfl
  exact⟨D p.1 p.2 ne nf E e n,t p.1 p.2 E e n,ne,nf,d⟩
theorem Inv.un{t':Nat}(I:Inv X g σ H s)(u:Un X.fs [] H B s.heap h')(w:HOk X.prog X.w B h'):Inv X g σ B { s with heap:=h',toks:=t' }:=by
 obtain⟨m,⟨o,N,M,A,r⟩,_⟩:=id I.loc;obtain⟨U,D⟩:=u.any A I.free (by simp)
 exact I.step (g':=s.gens) (d':=s.drawn) (ch:=[]) (fun _ z=>nomatch z) (fun b o _ hb _ e n=>u.keep b o e n hb (by simp)) (fun b o _ hb _ e n=>u.slot b o e n hb (by simp)) (fun b o _ e n=>u.free b o e n (by simp)) (fun b o _ e=>u.there b o e (by simp)) u.tups u.frzs u.tbls (fun Q E=>by
  obtain⟨T,t,l,c,G⟩:=E;rw[A] at c;cases c
  exact⟨_,t,l,D,G⟩) w I.bare
theorem Inv.call{g':Array GenState}{t':Nat}{d':Drawn}{ch:List Addr}(I:Inv X g σ H s)(u:Un (frs X.stack) ch H B s.heap h')(E:HOk X.prog X.w B h')(J:AllBare g')
  (l:∀b∈ch,(b∈X.ex\/X.s₀.heap.objs.size<=b)/\b≠X.env.locals/\(∀x c,X.env.cells.lookup x=some c->c≠b)/\∀p∈X.pn++g,p.1≠b) :
  Inv X g σ B { s with heap:=h',gens:=g',drawn:=d',toks:=t' }:=by
 obtain⟨m,⟨o,O,N,G,r⟩,_⟩:=id I.loc;obtain⟨U,D⟩:=u.any G I.free fun z=>(l _ z).2.1 rfl
 exact I.step (ch:=ch) l (fun b o D hb hc e n=>u.keep b o e n (fun z=>(zL.mp (I.stkSub b z)).elim D hb) hc) (fun b o _ _ hc e n=>u.any e n hc) (fun b o hc e n=>u.free b o e n hc) (fun b o hc e=>u.there b o e hc) u.tups u.frzs u.tbls (fun Q L=>by
  obtain⟨T,A,w,t,M⟩:=L;rw[G] at t;cases t
  exact⟨_,A,w,D,M⟩) E J
theorem Inv.turned{t':Nat}{it:Addr}(I:Inv X g σ H s)(k:∀b o,b≠it->s.heap.get? b=some o->h'.get? b=some o)(L:H it=none)(t:it≠X.env.locals)
  (D:it∈X.ex\/X.s₀.heap.objs.size<=it) (E:∀x c,X.env.cells.lookup x=some c->c≠it) (G:∀p∈X.pn++g,p.1≠it):Inv X g σ H { s with heap:=h',toks:=t' }:=by
 have l:∀b u,H b=some u->b≠it:=fun b u e z=>by rw[z,L] at e;cases e
 refine I.step (g':=s.gens) (d':=s.drawn) (ch:=[it]) (fun b hb=>?_) (fun b o _ _ hc e _=>k b o (fun z=>hc (by simp[z])) e) (fun b o _ _ hc e _=>⟨o.slots,k b o (fun z=>hc (by simp[z])) e⟩) (fun _ _ _ _ n=>n)
  (fun b o hc e=>⟨o,k b o (fun z=>hc (by simp[z])) e⟩) (fun _ _ e=>e) (fun _ _ _ e=>e) (fun b ps e=>⟨#[],by rw[e];simp⟩) (fun m J=>?_) (fun b u e=>?_) I.bare
 ·have e:b=it:=by simpa using hb
  subst e;exact⟨D,t,E,G⟩
 ·obtain⟨o,A,w,M,r⟩:=J
  exact⟨o,A,w,k _ o (qc t) M,r⟩
 ·refine(I.hok b u e).stay (fun c v hc q=>k c v ?_ q) (fun _ q=>q) fun _ _ q=>q
  rcases hc with z | z
  ·rw[z];exact l b u e
  ·exact l c _ z
theorem Inv.tok(I:Inv X g σ H s)(t:Nat):Inv X g σ H { s with toks:=t }:=I.un (h':=s.heap) (t':=t) Un.refl I.hok
theorem Inv.kept{t':Nat}(I:Inv X g σ H s)(k:∀b u,s.heap.get? b=some u->h'.get? b=some u):Inv X g σ H { s with heap:=h',toks:=t' }:=I.un (Un.kept k) (I.hok.kept k)
theorem Inv.laid{a:Addr}{o:HO}{t':Nat}(I:Inv X g σ H s)(k:∀b u,s.heap.get? b=some u->h'.get? b=some u)(c:s.heap.objs.size<=a)(l:ObjOk X.prog X.w (upd H a o) h' a o) :
  Inv X g σ (upd H a o) { s with heap:=h',toks:=t' }:=I.un (Un.laid k c (I.hok.fresh c)) (I.hok.laid k c l)
theorem Inv.write{x e:Addr}{o:HO}{t':Nat}(I:Inv X g σ H s)(w:Mut (H x))(t:e=x\/H e=some (.own x))(k:∀b u,b≠e->s.heap.get? b=some u->h'.get? b=some u)(c:∃u,h'.get? e=some u)
  (l:ObjOk X.prog X.w (upd H x o) h' x o):Inv X g σ (upd H x o) { s with heap:=h',toks:=t' }:=I.un (Un.write w t k c) (I.hok.write w t k c l)
theorem Inv.weak{l:List (Option V)}(I:Inv X g σ H s)(E:l.length=σ.length)(w:∀(i:Nat) v,l[i]? =some (some v)->σ[i]? =some (some v)):Inv X g l H s:=
 ⟨I.ok,I.os,I.bare,I.base,let ⟨m,G,c⟩:=I.loc;⟨m,G,fun i x v t A D=>c i x v t (w i v A) D⟩,I.cell,I.free,I.freeC,I.pin,I.hok,E.trans I.len⟩
theorem Inv.pins_of{c:List (Addr×Obj)}(I:Inv X g σ H s)(h:∀p∈c,s.heap.get? p.1=some p.2/\H p.1=none/\p.1≠X.env.locals/\p.1∉X.fs/\∀v,p.2.data≠.cell v):Inv X c σ H s:=
 ⟨I.ok,I.os,I.bare,I.base,I.loc,I.cell,I.free,I.freeC,fun p l=>(qJ.mp l).elim (fun z=>I.pin p (we _ z)) (h p),I.hok,I.len⟩
theorem VI{N:List Str}(t:N.Nodup){i j:Nat}{x:Str}(a:N[i]? =some x)(b:N[j]? =some x):i=j:=by
 obtain⟨w,c⟩:=zT.mp a;obtain⟨A,l⟩:=zT.mp b;exact(yc t).mp (c.trans l.symm)
theorem za4{M:Model}{A:Around}{E:Value->Shared->Prop}{i:Nat}{x:Str}{v:V}{u:Value}{Q:Unit->Shared->Prop}(I:Inv X g σ H s)(hN:X.N.Nodup)(Y:X.N[i]? =some x)(hx:Loc X.env.scope x)(r:RelV v u)
  (h:∀s',Inv X g (σ.set i (some v)) H s'->(∃a,Heap.SameBut a s.heap s'.heap/\(a=X.env.locals\/X.env.cells.lookup x=some a))->Q () s') (hf:X.fn x=true\/X.env.scope.names.lookup x=some .local:=by first| exact .inl rfl | exact .inr rfl | assumption):wpAny M A (storeName X.env x u) Q E s:=by
 obtain⟨m,hn,hl⟩:=id I.loc;have U:(X.env.scope.kind==.class||(X.env.scope.kind==.module&&X.env.locals != X.env.globals))=false:=by rw[I.ok.kind];rfl
 have a0:i<σ.length:=by rw[I.len];exact(zT.mp Y).1
 have J:=I.cne;have w:∀{a:Addr} {h':Heap},(∃o,s.heap.get? a=some o/\H a=none)->Heap.SameBut a s.heap h'->HOk X.prog X.w H h':=fun {a h'} ha l b ob e=>by
  obtain⟨_,_,D⟩:=ha;refine(I.hok b ob e).stay (fun c w' hc q=>(l.2 c ?_).trans q) (fun _ q=>q) fun _ _ q=>q
  rintro rfl;rcases hc with rfl | hc
  ·rw[D] at e;cases e
  ·rw[D] at hc;cases hc
 rcases hx with hk | hk
 ·refine wpAny_storeName_local hk hn (fun h' a3 l=>?_) U
  obtain⟨oL,_,_,a4,_⟩:=id hn;refine h _ ⟨I.ok,I.os,I.bare,⟨fun b o e n hb hx=>?_,fun b o e n hb hx=>?_,I.base.free,fun b o e hx=>?_,I.base.tups,I.base.frzs,I.base.tbls⟩,⟨_,a3,fun j y v' t G e3=>?_⟩,fun y c e=>?_,I.free,I.freeC,fun p hp=>?_,w ⟨oL,a4,I.free⟩ l,by simpa using I.len⟩ ⟨_,l,.inl rfl⟩
  ·exact(l.2 b (zM (jr (zD e) I.ok.above))).trans (I.base.keep b o e n hb hx)
  ·obtain⟨sl,t⟩:=I.base.slot b o e n hb hx
   exact⟨sl,(l.2 b (zM (jr (zD e) I.ok.above))).trans t⟩
  ·obtain⟨o',t⟩:=I.base.there b o e hx
   exact⟨o',(l.2 b (zM (jr (zD e) I.ok.above))).trans t⟩
  ·by_cases N:j=i
   ·subst N
    rw[Y] at t;cases t
    rw[JR a0] at G;cases G;exact⟨u,r,.inl ⟨hk,by simp⟩⟩
   ·rw[JP (qc N)] at G
    obtain⟨u',r',q⟩:=hl j y v' t G e3;refine⟨u',r',?_⟩
    rcases q with ⟨k,e⟩ | ⟨k,c,e,z⟩
    ·refine .inl ⟨k,?_⟩
     have:y≠x:=fun e=>N (VI hN t (e▸Y))
     simp[this,e]
    ·exact .inr ⟨k,c,e,z.sameBut l (J y c e)⟩
  ·obtain⟨w',z⟩:=I.cell y c e
   exact⟨w',z.sameBut l (J y c e)⟩
  ·obtain⟨e,n,ne,nf,d⟩:=I.pin p hp
   exact⟨(l.2 p.1 ne).trans e,n,ne,nf,d⟩
 ·have L:X.fn x=true:=by
   rcases hf with z | z
   ·exact z
   ·rw[z] at hk;cases hk
  obtain⟨c,hc⟩:=I.ok.has x (.inl hk);obtain⟨w',z⟩:=I.cell x c hc;refine wpAny_storeName_cell I.ok.kind hk hc z (fun h' O l=>?_)
  obtain⟨oc,a1,a2⟩:=id z;refine h { s with heap:=h' } ⟨I.ok,I.os,I.bare,⟨fun b o e n hb hx=>?_,fun b o e n hb hx=>?_,I.base.free,fun b o e hx=>?_,I.base.tups,I.base.frzs,I.base.tbls⟩,⟨m,hn.sameBut l (qc (J x c hc)),fun j y v' t G e3=>?_⟩,fun y c' e=>?_,I.free,I.freeC,fun p hp=>?_,w ⟨oc,a1,I.freeC x c hc⟩ l,by simpa using I.len⟩ ⟨c,l,.inr hc⟩
  ·exact(l.2 b (zM (jr (zD e) (I.ok.cab x c L hc)))).trans (I.base.keep b o e n hb hx)
  ·obtain⟨sl,t⟩:=I.base.slot b o e n hb hx
   exact⟨sl,(l.2 b (zM (jr (zD e) (I.ok.cab x c L hc)))).trans t⟩
  ·obtain⟨o',t⟩:=I.base.there b o e hx
   exact⟨o',(l.2 b (zM (jr (zD e) (I.ok.cab x c L hc)))).trans t⟩
  ·by_cases N:j=i
   ·subst N
    rw[Y] at t;cases t
    rw[JR a0] at G;cases G;exact⟨u,r,.inr ⟨.inl hk,c,hc,O⟩⟩
   ·rw[JP (qc N)] at G
    obtain⟨u',r',q⟩:=hl j y v' t G e3;refine⟨u',r',?_⟩
    rcases q with q | ⟨k,c',e,z'⟩
    ·exact .inl q
    ·refine .inr ⟨k,c',e,z'.sameBut l ?_⟩
     rintro rfl;exact N (VI hN t (I.ok.inj _ _ _ e hc▸Y))
  ·by_cases T:c'=c
   ·subst T;exact⟨_,O⟩
   ·obtain⟨w2,z2⟩:=I.cell y c' e
    exact⟨w2,z2.sameBut l T⟩
  ·obtain⟨e,n,ne,nf,d⟩:=I.pin p hp
   refine⟨(l.2 p.1 ?_).trans e,n,ne,nf,d⟩
   intro q;rw[q,a1] at e;have q':oc=p.2:=qU e;exact d w' (by rw[<- q'];exact a2)
theorem yi{M:Model}{A:Around}{E:Value->Shared->Prop}{i:Nat}{x:Str}{v:V}{u:Value}{Q:Unit->Shared->Prop}(I:Inv X g σ H s)(t:X.N.Nodup)(D:X.N[i]? =some x)(hx:Loc X.env.scope x)(r:RelV v u)
  (h:∀c,Inv X g (σ.set i (some v)) H c->Q () c) (w:X.fn x=true\/X.env.scope.names.lookup x=some .local:=by first| exact .inl rfl | exact .inr rfl | assumption):wpAny M A (storeName X.env x u) Q E s:=
 za4 I t D hx r (fun c l _=>h c l) w
theorem Inv.call'{s':Shared}{ch:List Addr}(I:Inv X g σ H s)(G:s'.os=s.os)(u:Un (frs X.stack) ch H B s.heap s'.heap)(t:HOk X.prog X.w B s'.heap)(E:AllBare s'.gens)
  (l:∀b∈ch,(b∈X.ex\/X.s₀.heap.objs.size<=b)/\b≠X.env.locals/\(∀x c,X.env.cells.lookup x=some c->c≠b)/\∀p∈X.pn++g,p.1≠b):Inv X g σ B s':=by
 obtain⟨h',A,w,D,J⟩:=s';have e:J=s.os:=G;subst e;exact I.call (g':=A) (t':=D) (d':=w) u t E l
end
abbrev XK:=Value->Option Addr->Hp->Prop
abbrev St:=List (Option V)
abbrev VK:=V->Hp->Prop
abbrev TE:=St->Hp->VK->Prop
abbrev TT:=St->Hp->(Bool->Hp->Prop)->Prop
abbrev TA:=St->Hp->(List V->Hp->Prop)->Prop
structure Jj where
 nx:St->Hp->Prop
 rt:VK
 bk:St->Hp->Prop:=fun _ _=>False
 ct:St->Hp->Prop:=fun _ _=>False
abbrev TS:=Jj->St->Hp->Prop
def EP(X:Cx)(c:List (Addr×Obj))(σ:St)(Q:VK)(u:Value)(l:Shared):Prop:=∃v g,Inv X c σ g l/\RelV v u/\Q v g
def TP(X:Cx)(c:List (Addr×Obj))(σ:St)(Q:Bool->Hp->Prop)(b:Bool)(l:Shared):Prop:=∃g,Inv X c σ g l/\Q b g
def AP(X:Cx)(c:List (Addr×Obj))(σ:St)(Q:List V->Hp->Prop)(t:List Value)(s:Shared):Prop:=∃l g,Inv X c σ g s/\Vals l t/\Q l g
def SP(X:Cx)(c:List (Addr×Obj))(D:Jj)(f:Flow)(s:Shared):Prop:=
 match f with
 | .next=>∃l g,Inv X c l g s/\D.nx l g
 | .brk=>∃l g,Inv X c l g s/\D.bk l g
 | .cont=>∃l g,Inv X c l g s/\D.ct l g
 | .ret u=>∃v l g,Inv X c l g s/\RelV v u/\D.rt v g
def PE(X:Cx)(e:Expr)(t:TE):Prop:=
 ∀(c:List (Addr×Obj)) (s:Shared) (σ:St) (H:Hp) (Q:VK),Inv X c σ H s->t σ H Q->wpAny (model X.prog X.w) X.A (eval e X.env) (EP X c σ Q) X.xe s
def PT(X:Cx)(e:Expr)(t:TT):Prop:=
 ∀(c:List (Addr×Obj)) (s:Shared) (σ:St) (H:Hp) (Q:Bool->Hp->Prop),Inv X c σ H s->t σ H Q->wpAny (model X.prog X.w) X.A (isTrue e X.env (eval e X.env)) (TP X c σ Q) X.xe s
def PW(X:Cx)(e:Expr)(t:TT):Prop:=
 ∀(g:Sem Value) (c:List (Addr×Obj)) (s:Shared) (σ:St) (H:Hp) (Q:Bool->Hp->Prop),Inv X c σ H s->t σ H Q->wpAny (model X.prog X.w) X.A (isTrue e X.env g) (TP X c σ Q) X.xe s
theorem PW.pt{X:Cx}{e:Expr}{t:TT}(h:PW X e t):PT X e t:=h _
def PA(X:Cx)(l:List Expr)(t:TA):Prop:=
 ∀(g:Pos) (c:List (Addr×Obj)) (s:Shared) (σ:St) (H:Hp) (Q:List V->Hp->Prop),Inv X c σ H s->t σ H Q->wpAny (model X.prog X.w) X.A (spliced (backTo g (starEach l X.env))) (AP X c σ Q) X.xe s
def PS(X:Cx)(st:Stmt)(t:TS):Prop:=
 ∀(c:List (Addr×Obj)) (s:Shared) (σ:St) (H:Hp) (D:Jj),Inv X c σ H s->t D σ H->wpAny (model X.prog X.w) X.A (exec st X.env) (SP X c D) X.xe s
def PSs(X:Cx)(st:List Stmt)(t:TS):Prop:=
 ∀(c:List (Addr×Obj)) (s:Shared) (σ:St) (H:Hp) (D:Jj),Inv X c σ H s->t D σ H->wpAny (model X.prog X.w) X.A (execs st X.env) (SP X c D) X.xe s
theorem thn{α:Type}{t:Sem α}{Q c:α->Shared->Prop}{M:Model}{A:Around}{E:Value->Shared->Prop}{s:Shared}(h:wpAny M A t Q E s)(g:∀a s,Q a s->c a s):wpAny M A t c E s:=qA h g fun _ _ x=>x
section
variable{X:Cx}
inductive IsB(x:V)(H:Hp)(Q:Bool->Hp->Prop):Prop
 | mk (c:Bool) (h:x=.bl c) (q:Q c H):IsB x H Q
inductive IsI(x:V)(H:Hp)(Q:Int->Hp->Prop):Prop
 | mk (i:Int) (h:x=.int i) (q:Q i H):IsI x H Q
inductive zhR(c:List V)(H:Hp)(Q:V->V->Hp->Prop):Prop
 | mk (v w:V) (h:c=[v,w]) (q:Q v w H):zhR c H Q
inductive zfx(i:Nat)(σ:St)(H:Hp)(Q:VK):Prop
 | mk (v:_) (_:σ[i]? =some (some v)) (_:Q v H):zfx i σ H Q
def tC(v:V):TE:=fun _ H Q=>Q v H
theorem zfU{i:Nat}{x:Str}{g:Pos}(M:X.N[i]? =some x)(U:Vis X.env.scope x)(L:(x==("__debug__":Str))=false:=by decide)(J:(x==("__classdict__":Str))=false:=by decide):PE X (.Name x g) (zfx i):=by
 intro E s σ H Q I h;obtain⟨v,e,h⟩:=h;obtain⟨m,T,N⟩:=I.loc;obtain⟨u,r,l⟩:=N i x v M e U;have w:EP X E σ Q u s:=⟨v,H,I,r,h⟩;rcases l with ⟨hk,O⟩ | ⟨hk,c,hc,t⟩
 ·exact wpAny_Name (wpAny_loadName_local I.ok.kind hk T O w) L
 ·rcases hk with hk | hk
  ·exact wpAny_Name (wpAny_loadName_cell I.ok.kind hk hc t w) L
  ·exact wpAny_Name (wpAny_loadName_free I.ok.kind hk hc t w J) L
theorem zj{i j g}:PE X (.Constant (.int i) j g) (tC (.int i)):=fun _ _ _ H _ I h=>wpAny_Constant_int ⟨.int i,H,I.tok _,⟨_,rfl⟩,h⟩
theorem xM{b j g}:PE X (.Constant (.bool b) j g) (tC (.bl b)):=fun _ _ _ H _ I h=>Constant_bool ⟨.bl b,H,I,rfl,h⟩
theorem zfW{j g}:PE X (.Constant .none j g) (tC .non):=fun _ _ _ H _ I h=>Constant_none ⟨.non,H,I,rfl,h⟩
theorem zcA{x j g}:PE X (.Constant (.str x) j g) (tC (.str x)):=fun _ _ _ H _ I h=>Calls.Constant_str ⟨.str x,H,I.tok _,⟨_,rfl⟩,h⟩
def Gl(X:Cx)(x:Str):Prop:=X.env.kindOf x=some .globalImplicit
theorem zeB{E:Value->Shared->Prop}{c:List (Addr×Obj)}{s:Shared}{σ:St}{H:Hp}{x:Str}{u:Value}{g:Pos}{Q:Value->Shared->Prop}(I:Inv X c σ H s)(t:Gl X x)(w:X.mg x=some u)(h:Q u s)
  (l:(x==("__debug__":Str))=false:=by decide):wpAny (model X.prog X.w) X.A (eval (.Name x g) X.env) Q E s:=
 zdK I.ok.kind t (Calls.loadGlobal_global (by rw[I.ok.glob];exact I.mod.glob.keeps I.bk) w h) l
theorem vV{E:Value->Shared->Prop}{c:List (Addr×Obj)}{s:Shared}{σ:St}{H:Hp}{x:Str}{u:Value}{g:Pos}{Q:Value->Shared->Prop}(I:Inv X c σ H s)(J:Gl X x)(L:X.mg x=none)(N:bootBuiltins x=some u)(h:Q u s)
  (M:x ≠ "__name__" :=by decide) (w:(x==("__debug__":Str))=false:=by decide):wpAny (model X.prog X.w) X.A (eval (.Name x g) X.env) Q E s:=by
 obtain⟨O,l,t⟩:=I.mod.blt;exact zdK I.ok.kind J (Calls.loadGlobal_builtin (by rw[I.ok.glob];exact I.mod.glob.keeps I.bk) L (by rw[I.ok.blt];exact l.keeps I.bk) ((t x M).trans N) h) w
theorem qR{x:Str}{v:V}{u:Value}{g:Pos}(l:Gl X x)(s:X.mg x=none)(w:bootBuiltins x=some u)(r:RelV v u)(t:x ≠ "__name__" :=by decide)(c:(x==("__debug__":Str))=false:=by decide):PE X (.Name x g) (tC v):=
 fun _ _ _ H _ I h=>vV I l s w ⟨v,H,I,r,h⟩ t c
variable{a b:Expr}{B G:TE}{g:Pos}
def PC(X:Cx)(l:CmpOp)(a b:Expr)(t:TE):Prop:=
 ∀(c:List (Addr×Obj)) (s:Shared) (σ:St) (H:Hp) (Q:VK),Inv X c σ H s->t σ H Q ->
  wpAny (model X.prog X.w) X.A (eval a X.env) (fun v w=>wpAny (model X.prog X.w) X.A (eval b X.env) (fun u E=>wpAny (model X.prog X.w) X.A (compareOp l v u) (EP X c σ Q) X.xe E) X.xe w) X.xe s
theorem zcW(b:Expr){c:CmpOp}(h:c≠.In)(t:c≠.NotIn):behindInMarks c b=false:=by
 have l:(c==CmpOp.In)=false:=by cases c<;>first| rfl | exact absurd rfl h
 have s:(c==CmpOp.NotIn)=false:=by cases c<;>first| rfl | exact absurd rfl t
 cases b<;>simp[behindInMarks,l,s]
def tB(t:TE):TT:=fun σ H Q=>t σ H fun x c=>IsB x c Q
theorem zfO{E:CmpOp}{t:TE}(h:PC X E a b t)(w:behindInMarks E b=false:=by first| exact zcW _ (by decide) (by decide) | rfl):PT X (.Compare a [E] [b] g) (tB t):=by
 intro l s σ H Q I N;refine wpAny_isTrue_Compare1 (thn (h l s σ H _ I N) fun v U w=>thn w fun u Y M=>thn M fun c s3 ⟨x,J,L,T,O⟩=>?_) w
 obtain⟨d,rfl,q⟩:=O;cases T;exact yH ⟨J,L,q⟩
theorem jD{e:Expr}{t:TE}(h:PE X e t)(J:∀c,isTrue e X.env c=(do let v<-c;standAt e.pos;holding [v] (truthy v)):=by intro _;rfl):PT X e (tB t):=by
 intro l s σ H Q I L;refine isTrue_plain (thn (h l s σ H _ I L) fun v O ⟨x,w,E,N,M⟩=>?_) (J _)
 obtain⟨d,rfl,q⟩:=M;cases N;exact yH ⟨w,E,q⟩
variable{A D:TT}{rest:List Expr}
def zh8(t u:TT):TT:=fun σ H Q=>t σ H fun c l=>if c=true then u σ l Q else Q false l
def tOr(t u:TT):TT:=fun σ H Q=>t σ H fun c l=>if c=true then Q true l else u σ l Q
def zh1(t:TT):TT:=fun σ H Q=>t σ H fun c l=>Q (!c) l
theorem zec(t:PT X a A):PW X (.BoolOp .And [a] g) A:=by
 intro E l s σ H Q I h;refine isTrue_and (thn (t l s σ H Q I h) fun c w e=>?_)
 cases c with
 | true=>exact isTrue_and_nil e
 | false=>exact e
theorem yP(t:PT X a A):PW X (.BoolOp .Or [a] g) A:=by
 intro E l s σ H Q I h;refine isTrue_or (thn (t l s σ H Q I h) fun c w e=>?_)
 cases c with
 | false=>exact isTrue_or_nil e
 | true=>exact e
theorem zfN(J:PT X a A)(hb:PW X (.BoolOp .And (b::rest) g) D):PW X (.BoolOp .And (a::b::rest) g) (zh8 A D):=by
 intro M l s σ H Q I h;refine isTrue_and (thn (J l s σ H _ I h) fun c L ⟨t,w,E⟩=>?_)
 cases c with
 | true=>exact hb M l L σ t Q w E
 | false=>exact⟨t,w,E⟩
theorem Jx(J:PT X a A)(hb:PW X (.BoolOp .Or (b::rest) g) D):PW X (.BoolOp .Or (a::b::rest) g) (tOr A D):=by
 intro M l s σ H Q I h;refine isTrue_or (thn (J l s σ H _ I h) fun c L ⟨t,w,E⟩=>?_)
 cases c with
 | true=>exact⟨t,w,E⟩
 | false=>exact hb M l L σ t Q w E
theorem xI(w:PT X a A):PT X (.UnaryOp .Not a g) (zh1 A):=by
 intro l s σ H Q I h;exact isTrue_not (w l s σ H (fun c t=>Q (!c) t) I h)
def zgK(B G:TE):TE:=fun σ H Q=>B σ H fun x l=>IsB x l fun c l=>if c=true then G σ l Q else Q (.bl false) l
def zgG(B:TE):TE:=fun σ H Q=>B σ H fun x l=>IsB x l fun c l=>Q (.bl (!c)) l
theorem wS{w}{t:TE}(h:PE X a t):PE X (.BoolOp w [a] g) t:=fun c s σ H Q I l=>BoolOp_one (h c s σ H Q I l)
theorem vy(J:PE X a B)(hb:PE X (.BoolOp .And (b::rest) g) G):PE X (.BoolOp .And (a::b::rest) g) (zgK B G):=by
 intro l s σ H Q I h;refine BoolOp_and (thn (J l s σ H _ I h) fun v M ⟨x,w,E,L,t⟩=>?_)
 obtain⟨c,rfl,t⟩:=t;cases L;refine yH ?_
 cases c with
 | true=>exact hb l M σ w Q E t
 | false=>exact⟨.bl false,w,E,rfl,t⟩
theorem zfV(J:PE X a B):PE X (.UnaryOp .Not a g) (zgG B):=by
 intro l s σ H Q I h;refine UnaryOp_ (thn (J l s σ H _ I h) fun v M ⟨x,w,E,L,t⟩=>?_)
 obtain⟨c,rfl,t⟩:=t;cases L;exact not_of (yH ⟨.bl (!c),w,E,rfl,t⟩)
def tIf(t:TT)(B G:TE):TE:=fun σ H Q=>t σ H fun c l=>if c=true then B σ l Q else G σ l Q
theorem vc{c:Expr}(hc:PT X c A)(L:PE X a B)(hb:PE X b G):PE X (.IfExp c a b g) (tIf A B G):=by
 intro l s σ H Q I h;refine wpAny_IfExp (thn (hc l s σ H _ I h) fun d J ⟨t,w,E⟩=>?_)
 cases d with
 | true=>exact L l J σ t Q w E
 | false=>exact hb l J σ t Q w E
end
def SqL(K:W.Frag)(H:Hp)(a:Addr)(g:List V):Prop:=
 Rd H a (.lst g) \/
  ∃(o:Obj) (c:Array Value) (n:Nat),K.lookup a=some o/\o.cls=.type "list" /\ o.dict=none/\o.data=.seq c n/\c.size<=sizeLine/\Vals g c.toList
def SqT(K:W.Frag)(H:Hp)(a:Addr)(g:List V):Prop:=
 Rd H a (.tup g) \/
  ∃(o:Obj) (c:Array Value) (n:Nat),K.lookup a=some o/\o.cls=.type "tuple" /\ o.data=.seq c n/\c.size<=sizeLine/\Vals g c.toList
def zid:Value->Option V
 | .none=>some .non
 | .bool b=>some (.bl b)
 | .int i _=>some (.int i)
 | .str x _=>some (.str x)
 | .bytes b _=>some (.byt b)
 | .float b _=>some (.flt b)
 | .ref a=>some (.ref a)
 | .type n=>some (.ty n)
 | _=>none
theorem RelV.abs{x:V}{u:Value}(r:RelV x u):zid u=some x:=by
 cases x with
 | non=>cases r;rfl
 | bl _=>cases r;rfl
 | int _=>obtain⟨t,rfl⟩:=r;rfl
 | str _=>obtain⟨t,rfl⟩:=r;rfl
 | byt _=>obtain⟨t,rfl⟩:=r;rfl
 | flt _=>obtain⟨t,rfl⟩:=r;rfl
 | ref _=>cases r;rfl
 | ty _=>cases r;rfl
theorem RelV.inj{x y:V}{u:Value}(r:RelV x u)(q:RelV y u):x=y:=qU (r.abs.symm.trans q.abs)
theorem Vals.inj:∀{g l:List V} {c:List Value},Vals g c->Vals l c->g=l
 | _,_,_,.nil,.nil=>rfl
 | _,_,_,.cons r t,.cons s w=>by rw[r.inj s,Vals.inj t w]
section
variable{X:Cx}{c:List (Addr×Obj)}{σ:St}{H:Hp}{s:Shared}{a:Addr}{g l:List V}
theorem SqL.of{K:W.Frag}(h:H a=some (.lst g)):SqL K H a g:=.inl (.inl h)
def u4:=@SqL.of
theorem SqT.of{K:W.Frag}(h:H a=some (.tup g)):SqT K H a g:=.inl (.inl h)
def u5:=@SqT.of
theorem Inv.list(I:Inv X c σ H s)(h:SqL X.K H a g):∃t:List Value,Vals g t/\PlainL s.heap a t.toArray/\g.length<=sizeLine:=by
 rcases h with h | ⟨o,t,n,hk,hc,w,A,B,r⟩
 ·obtain⟨z,t,n,r,e⟩:=h.ok I.hok
  exact⟨t,r,⟨_,n,e,rfl,rfl,rfl⟩,z⟩
 ·refine⟨t.toList,r,⟨o,n,I.kIn a o hk,hc,w,by simpa using A⟩,?_⟩
  have e:=r.length;simp only[j8] at e;omega
theorem Inv.tuple(I:Inv X c σ H s)(h:SqT X.K H a g):∃t:List Value,Vals g t/\IsTup s.heap a t.toArray/\g.length<=sizeLine:=by
 rcases h with h | ⟨o,t,n,hk,hc,w,A,r⟩
 ·obtain⟨z,t,r,p⟩:=h.ok I.hok
  exact⟨t,r,p.1,z⟩
 ·refine⟨t.toList,r,⟨o,I.kIn a o hk,hc,n,by simpa using w⟩,?_⟩
  have e:=r.length;simp only[j8] at e;omega
theorem Inv.list_inj(I:Inv X c σ H s)(h:SqL X.K H a g)(E:SqL X.K H a l):g=l:=by
 obtain⟨w,r,⟨o,n,e,_,_,d⟩,_⟩:=I.list h;obtain⟨t,G,⟨L,J,B,_,_,A⟩,_⟩:=I.list E;rw[e] at B;cases B
 rw[d] at A;injection A with D _;have:w=t:=by simpa using congrArg Array.toList D
 subst this;exact r.inj G
theorem Inv.tuple_inj(I:Inv X c σ H s)(h:SqT X.K H a g)(E:SqT X.K H a l):g=l:=by
 obtain⟨w,r,⟨o,e,_,n,d⟩,_⟩:=I.tuple h;obtain⟨t,G,⟨L,B,_,J,A⟩,_⟩:=I.tuple E;rw[e] at B;cases B
 rw[d] at A;injection A with D _;have:w=t:=by simpa using congrArg Array.toList D
 subst this;exact r.inj G
end
abbrev Cx.wish(X:Cx)(E:Value->Shared->Prop):Cx:={ X with xe:=E }
abbrev Cx.nox(X:Cx):Cx:=X.wish fun _ _=>False
theorem Cx.Ok.wish{X:Cx}(ok:X.Ok)(E:Value->Shared->Prop):(X.wish E).Ok:=
 ⟨ok.mod,ok.kind,ok.glob,ok.blt,ok.above,ok.inj,ok.has,ok.cab,ok.hd,ok.frames,ok.stk,ok.exf,ok.bs,ok.bsz,ok.noex,ok.exfs,ok.funs,ok.frf⟩
theorem Cx.Ok.unwish{X:Cx}{E:Value->Shared->Prop}(ok:(X.wish E).Ok):X.Ok:=
 ⟨ok.mod,ok.kind,ok.glob,ok.blt,ok.above,ok.inj,ok.has,ok.cab,ok.hd,ok.frames,ok.stk,ok.exf,ok.bs,ok.bsz,ok.noex,ok.exfs,ok.funs,ok.frf⟩
section
variable{X:Cx}{c:List (Addr×Obj)}{σ:St}{H:Hp}{s:Shared}{E:Value->Shared->Prop}
theorem Inv.wish(I:Inv X c σ H s)(E:Value->Shared->Prop):Inv (X.wish E) c σ H s:=⟨I.ok.wish E,I.os,I.bare,I.base,I.loc,I.cell,I.free,I.freeC,I.pin,I.hok,I.len⟩
theorem Inv.unwish(I:Inv (X.wish E) c σ H s):Inv X c σ H s:=⟨I.ok.unwish,I.os,I.bare,I.base,I.loc,I.cell,I.free,I.freeC,I.pin,I.hok,I.len⟩
theorem SP.unwish{D:Jj}{f:Flow}{t:Shared}(h:SP (X.wish E) c D f t):SP X c D f t:=by
 cases f with
 | next=>obtain⟨l,g,I,q⟩:=h;exact⟨l,g,I.unwish,q⟩
 | brk=>obtain⟨l,g,I,q⟩:=h;exact⟨l,g,I.unwish,q⟩
 | cont=>obtain⟨l,g,I,q⟩:=h;exact⟨l,g,I.unwish,q⟩
 | ret u=>obtain⟨v,l,g,I,r,q⟩:=h;exact⟨v,l,g,I.unwish,r,q⟩
theorem PE.nox{e:Expr}{t:TE}(h:PE X.nox e t):PE X e t:=fun c s σ H Q I w=>
 qA (h c s σ H Q (I.wish _) w) (fun _ _ ⟨v,g,l,r,q⟩=>⟨v,g,l.unwish,r,q⟩) fun _ _ z=>False.elim z
theorem PT.nox{e:Expr}{t:TT}(h:PT X.nox e t):PT X e t:=fun c s σ H Q I w=>
 qA (h c s σ H Q (I.wish _) w) (fun _ _ ⟨g,l,q⟩=>⟨g,l.unwish,q⟩) fun _ _ z=>False.elim z
theorem PSs.nox{st:List Stmt}{t:TS}(h:PSs X.nox st t):PSs X st t:=fun c s σ H D I g=>
 qA (h c s σ H D (I.wish _) g) (fun _ _ q=>q.unwish) fun _ _ z=>False.elim z
end
section
variable{X:Cx}{st:Stmt}{rest:List Stmt}{t u:TS}{e:Expr}{l:TE}{g:Pos}
def zgH:TS:=fun D σ H=>D.nx σ H
def zhY(t u:TS):TS:=fun D σ H=>t { D with nx:=u D } σ H
theorem qB:PSs X [] zgH:=fun _ _ σ H _ I h=>wpAny_execs_nil ⟨σ,H,I,h⟩
theorem zi(B:PS X st t)(E:PSs X rest u):PSs X (st::rest) (zhY t u):=by
 intro c s σ H D I h;refine wpAny_execs_cons (thn (B c s σ H { D with nx:=u D } I h) fun f G q=>?_)
 cases f with
 | next=>
  obtain⟨J,w,A,q⟩:=q;exact E c G J w D A q
 | ret v=>exact q
 | brk=>exact q
 | cont=>exact q
theorem zu(w:PS X st t):PSs X [st] t:=by
 intro c s σ H D I h;refine wpAny_execs_cons (thn (w c s σ H D I h) fun f A q=>?_)
 cases f with
 | next=>exact wpAny_execs_nil q
 | ret v=>exact q
 | brk=>exact q
 | cont=>exact q
theorem Inv.quiet{c:List (Addr×Obj)}{σ:St}{H:Hp}{s:Shared}(I:Inv X c σ H s):interactive X.env=false:=by simp[interactive,I.ok.kind]
def zgJ(l:TE):TS:=fun D σ H=>l σ H fun _ c=>D.nx σ c
theorem vw(B:PE X e l)(E:swapsWith e none g.line X.env=pure false:=by rfl):PS X (.Expr e g) (zgJ l):=by
 intro c s σ H D I h;exact wpAny_Expr_any (thn (B c s σ H _ I h) fun v L ⟨x,w,A,J,G⟩=>⟨σ,w,A,G⟩) I.quiet E
def zhZ(l:TE):TS:=fun D σ H=>l σ H D.rt
theorem zE(B:PE X e l):PS X (.Return (some e) g) (zhZ l):=by
 intro c s σ H D I h;exact wpAny_Return_some (thn (B c s σ H _ I h) fun v J ⟨x,w,A,G,E⟩=>⟨x,σ,w,A,G,E⟩)
def zh3(c:TT)(t u:TS):TS:=fun D σ H=>c σ H fun b s=>if b=true then t D σ s else u D σ s
theorem jF{c:Expr}{a b:List Stmt}{J:TT}(hc:PT X c J)(L:PSs X a t)(hb:PSs X b u):PS X (.If c a b g) (zh3 J t u):=by
 intro w s σ H D I h;refine wpAny_If (thn (hc w s σ H _ I h) fun d G ⟨A,B,E⟩=>?_)
 cases d with
 | true=>exact L w G σ A D B E
 | false=>exact hb w G σ A D B E
end
abbrev TG:=V->St->Hp->(St->Hp->Prop)->Prop
abbrev TGs:=List V->St->Hp->(St->Hp->Prop)->Prop
def PG(X:Cx)(c:Expr)(t:TG):Prop:=
 ∀(g:List (Addr×Obj)) (s:Shared) (σ:St) (H:Hp) (v:V) (u:Value) (Q:St->Hp->Prop),Inv X g σ H s->RelV v u->t v σ H Q ->
  wpAny (model X.prog X.w) X.A (assign c X.env u) (fun _ A=>∃w l,Inv X g w l A/\Q w l) X.xe s
def PGs(X:Cx)(D:List Expr)(t:TGs):Prop:=
 ∀(c:List (Addr×Obj)) (s:Shared) (σ:St) (H:Hp) (w:List V) (l:List Value) (Q:St->Hp->Prop),Inv X c σ H s->Vals w l->t w σ H Q ->
  wpAny (model X.prog X.w) X.A (assignInOrder ((assignEach D X.env).map (·.2)) l) (fun _ B=>∃A g,Inv X c A g B/\Q A g) X.xe s
abbrev zgA:=V->V->V->Hp->(Hp->Prop)->Prop
def zhQ(X:Cx)(t:zgA):Prop:=
 ∀(c:List (Addr×Obj)) (s:Shared) (σ:St) (H:Hp) (o i v:V) (w l u:Value) (Q:Hp->Prop),Inv X c σ H s->RelV o w->RelV i l->RelV v u->t o i v H Q ->
  wpAny (model X.prog X.w) X.A (setItem w l u) (fun _ A=>∃g,Inv X c σ g A/\Q g) X.xe s
section
variable{X:Cx}{l:Pos}
def j4(i:Nat):TG:=fun v σ H Q=>Q (σ.set i (some v)) H
theorem zH{i:Nat}{x:Str}(t:X.N.Nodup)(A:X.N[i]? =some x)(hx:Loc X.env.scope x)(w:X.fn x=true\/X.env.scope.names.lookup x=some .local:=by first| exact .inl rfl | exact .inr rfl | assumption):PG X (.Name x l) (j4 i):=by
 intro c s σ H v u Q I r h;exact wpAny_assign_Name (yi I t A hx r (fun B g=>⟨_,H,g,h⟩) w)
def V3:TGs:=fun c σ H Q=>c=[]/\Q σ H
inductive xu(t:TG)(u:TGs)(c:List V)(σ:St)(H:Hp)(Q:St->Hp->Prop):Prop
 | mk (v r:_) (_:c=v::r) (_:t v σ H fun s g=>u r s g Q):xu t u c σ H Q
theorem qP:PGs X [] V3:=by
 intro c s σ H t g Q I r h;obtain⟨e,h⟩:=h;subst e;cases r;exact assignInOrder_nil ⟨σ,H,I,h⟩
theorem zI{e:Expr}{g:List Expr}{t:TG}{u:TGs}(D:PG X e t)(E:PGs X g u)
  (G:(assignEach (e::g) X.env).map (·.2)=assign e X.env::(assignEach g X.env).map (·.2):=by rfl):PGs X (e::g) (xu t u):=by
 intro c s σ H U O Q I r h;obtain⟨v,T,B,h⟩:=h;subst B;cases r with
 | cons r L=>
  rw[G];refine assignInOrder_cons (thn (D c s σ H _ _ _ I r h) fun _ M ⟨N,w,A,J⟩=>?_)
  exact E c M N w _ _ Q A L J
inductive Xp(K:W.Frag)(n:Nat)(t:TGs)(v:V)(σ:St)(H:Hp)(Q:St->Hp->Prop):Prop
 | mk (a c:_) (_:v=.ref a) (_:SqT K H a c) (_:c.length=n) (_:t c σ H Q):Xp K n t v σ H Q
theorem ju{g:List Expr}{k:Nat}{t:TGs}{n:Nat}(hc:X.calm=true)(h:PGs X g t)
  (L:(assignEach g X.env).length=n:=by rfl) (w:(assignEach g X.env).findIdx? (·.1)=none:=by rfl):PG X (.Tuple g k l) (Xp X.K n t):=by
 intro c s σ H v u Q I r A;obtain⟨a,O,E,hq,J,A⟩:=A;subst E;cases r;obtain⟨N,B,M,T⟩:=I.tuple hq;refine assign_Tuple_tuple (I.ok.hd hc) M (by simp[L,<- J,B.length]) w fun G hx=>?_
 have D:Inv X c σ H { s with heap:=G }:=I.kept (t':=s.toks) fun b o e=>hx b o (zM (zD e)) e
 exact h c _ σ H O _ Q D (by simpa using B) A
def zib(to w:TE)(t:zgA):TG:=fun v σ H Q=>to σ H fun o c=>w σ c fun i g=>t o i v g fun s=>Q σ s
theorem Z9{o i:Expr}{to A:TE}{t:zgA}(O:PE X o to)(N:PE X i A)(T:zhQ X t)
  (M:∀v,assign (.Subscript o i l) X.env v=(do
   let g<-holding [v] (eval o X.env)
   let w<-holding [v,g] (eval i X.env)
   standAt l
   holding [v,g,w] (setItem g w v)
   release [v,g,w] []):=by intro _;rfl):PG X (.Subscript o i l) (zib to A t):=by
 intro c s σ H v u Q I r h;rw[M];refine zn (xO (thn (O c s σ H _ I h) fun g s1 ⟨x,B,G,r1,U⟩=>?_))
 refine zn (xO (thn (N c s1 σ B _ G U) fun w s2 ⟨y,D,J,r2,Y⟩=>?_))
 refine zn (vF (zn (xO (thn (T c s2 σ D x y v g w u _ J r1 r2 r Y) fun _ s3 ⟨E,L,q3⟩=>?_))))
 exact wpAny_release ⟨σ,E,L,q3⟩
def za2(s:TE)(g:TG):TS:=fun D σ H=>s σ H fun x c=>g x σ c D.nx
theorem xJ{t e:Expr}{w:TE}{g:TG}(G:PE X e w)(J:PG X t g)(L:swapsWithSole [t] e l.line X.env=pure false:=by rfl)(M:swappedStores [t] e X.env=pure none:=by rfl)
  (E:(assignEach [t] X.env).map (·.2)=[assign t X.env]:=by rfl):PS X (.Assign [t] e l) (za2 w g):=by
 intro c s σ H D I h;refine wpAny_Assign_stores (thn (G c s σ H _ I h) fun v Q ⟨x,A,B,O,N⟩=>?_) L M
 rw[E];exact thn (J c Q σ A x v _ B O N) fun _ T q=>q
theorem zB{i:Nat}{x:Str}{e:Expr}{t:TE}{c:Pos}(E:X.N.Nodup)(L:X.N[i]? =some x)(hx:Loc X.env.scope x)(G:PE X e t)(M:swapsWith e (some (.Name x c)) l.line X.env=pure false:=by rfl)(J:X.fn x=true\/X.env.scope.names.lookup x=some .local:=by first| exact .inl rfl | exact .inr rfl | assumption) :
  PS X (.Assign [.Name x c] e l) (za2 t (j4 i)):=by
 intro g s σ H D I h;refine wpAny_Assign_Name (thn (G g s σ H _ I h) fun v Q ⟨y,w,A,O,N⟩=>?_) M
 exact yi A E L hx O (fun T B=>⟨_,w,B,N⟩) J
def zh0(i j:Nat)(g:TA):TS:=fun D σ H=>g σ H fun s c=>zhR s c fun v w c=>D.nx ((σ.set i (some v)).set j (some w)) c
theorem Wz{i j:Nat}{x y:Str}{a b:Expr}{ta:TA}{O Q N:Pos}{M L t}(hc:X.calm=true)(hN:X.N.Nodup)(hi:X.N[i]? =some x)(hj:X.N[j]? =some y)(G:i≠j)
  (hx:X.env.scope.names.lookup x=some .local) (hy:X.env.scope.names.lookup y=some .local) (ha:PA X [a,b] ta)
  (hw:swappedStores [.Tuple [.Name x O,.Name y Q] M N] (.Tuple [a,b] L t) X.env=pure (some [x,y]))
  (hs:swapsWithSole [.Tuple [.Name x O,.Name y Q] M N] (.Tuple [a,b] L t) l.line X.env=pure false:=by rfl) :
  PS X (.Assign [.Tuple [.Name x O,.Name y Q] M N] (.Tuple [a,b] L t) l) (zh0 i j ta):=by
 intro g s σ H D I h;rw[exec_Assign_arm];refine zn (vF ?_)
 rw[hs];refine zn (zA ?_)
 rw[zo (by decide)]
 refine zn (Tuple_ (thn (ha _ g s σ H _ I h) fun us A ⟨vs,Y,I1,r1,T⟩=>?_))
 obtain⟨v,w,e1,T⟩:=T;subst e1;obtain⟨B,E,rfl,rv,U⟩:∃B E,us=[B,E]/\RelV v B/\RelV w E:=by
  cases r1 with
  | cons p q=>
   cases q with
   | cons p' q'=>
    cases q';exact⟨_,_,rfl,p,p'⟩
 refine jV ?_ (by show 2<=sizeLine;decide)
 have I2:Inv X g σ Y { A with heap:=A.heap.push { cls:=.type "tuple",data:=.seq [B,E].toArray } }:=I1.kept (t':=A.toks) fun b o e=>zO _ e
 rw[hw];refine zn (zA ?_)
 show wpAny (model X.prog X.w) X.A (do rule "assign.swapped-stores";let c<-unpackItems (.ref A.heap.objs.size) 2 none;assignInOrder [fun v=>bindName X.env y v,fun v=>bindName X.env x v] c.reverse;pure Flow.next) _ _ _
 refine zn (x5 (zn (unpackItems_tuple (items:=#[B,E]) (I.ok.hd hc) (IsTup.new A.heap _) fun h' J=>?_)))
 have I3:=I2.kept (h':=h') (t':=A.toks) fun b o e=>J b o (zM (zD e)) e
 show wpAny _ _ (assignInOrder [fun v=>bindName X.env y v,fun v=>bindName X.env x v] [E,B] >>= fun _=>pure Flow.next) _ _ _
 refine zn (assignInOrder_cons (wpAny_bindName (yi I3 hN hj (.inl hy) U (fun s2 I4=>?_) (.inr hy))))
 refine assignInOrder_cons (wpAny_bindName (yi I4 hN hi (.inl hx) rv (fun s3 I5=>assignInOrder_nil (zA ?_)) (.inr hx)))
 rw[List.set_comm _ _ (qc G)] at I5;exact⟨_,Y,I5,T⟩
def zfw(c:TT)(A:TS):TS:=fun D σ H=>∃W:Nat->St->Hp->Prop,(∃m,W m σ H)/\∀m σ H,W m σ H ->
 c σ H fun b s=>if b=true then ∃N:St->Hp->Prop,(∀w g,N w g->∃t,t<m/\W t w g)/\A { D with nx:=N,ct:=N,bk:=D.nx } σ s else D.nx σ s
theorem zcv{c:Expr}{body:List Stmt}{tc:TT}{tb:TS}(hp:PassesOwn (model X.prog X.w) X.A X.env X.xe)(hc:PT X c tc)(hb:PSs X body tb):PS X (.While c body [] l) (zfw tc tb):=by
 intro g s σ H D I h;obtain⟨W,⟨m0,w0⟩,w⟩:=h;refine wpAny_While (codeAny_whileLoop (fun n s'=>∃σ' T,Inv X g σ' T s'/\W n σ' T) ?_ m0 ⟨σ,H,I,w0⟩)
 rintro n s1 ⟨G,U,I1,w1⟩;refine wZ hp (thn (hc g s1 G U _ I1 (w n G U w1)) fun b s2 ⟨Y,I2,B⟩=>?_)
 cases b with
 | true=>
  obtain⟨N,hN,B⟩:=B;rw[zq rfl];refine wZ hp (thn (hb g s2 G Y _ I2 B) fun f s3 E=>?_)
  cases f with
  | next=>
   obtain⟨A,t,J,O⟩:=E;obtain⟨M,L,Q⟩:=hN A t O;exact⟨M,L,A,t,J,Q⟩
  | cont=>
   obtain⟨A,t,J,O⟩:=E;obtain⟨M,L,Q⟩:=hN A t O;exact⟨M,L,A,t,J,Q⟩
  | brk=>exact E
  | ret v=>exact E
 | false=>
  rw[zo qF];exact wpAny_execs_nil ⟨G,Y,I2,B⟩
end
structure It where
 go:Nat->Hp->Prop
 yld:Nat->Hp->V->Hp->Prop
 stop:Nat->Hp->Prop
def jh(X:Cx)(g:List (Addr×Obj))(H:Hp)(b:Addr):Prop:=
 H b=none/\b≠X.env.locals/\b∉X.fs/\(b∈X.ex\/X.s₀.heap.objs.size<=b)/\(∀x c,X.env.cells.lookup x=some c->c≠b)/\∀p∈X.pn++g,p.1≠b
theorem Inv.fpOk{X:Cx}{g:List (Addr×Obj)}{σ:St}{H l:Hp}{s:Shared}{b:Addr}(I:Inv X g σ H s)(hb:s.heap.objs.size<=b)(t:l b=none):jh X g l b:=by
 refine⟨t,jI (jr I.lt hb),I.nofs hb,.inr (jU I.sz hb),fun x c e z=>?_,fun p w z=>?_⟩
 ·obtain⟨v,q⟩:=I.cell x c e
  exact absurd (jr q.lt (by rw[z];exact hb)) (jJ _)
 ·exact absurd (jr (zD (I.pin p w).1) (by rw[z];exact hb)) (jJ _)
structure Ze(P:Program)(w:World)(K:W.Frag)(tg:Expr)(J:It)(fp:List Addr)(it:Addr)(tn:Nat->Heap->Prop):Prop where
 mem:it∈fp
 obj:∀i h,tn i h->∀b∈fp,∃o,h.get? b=some o/\∀v,o.data≠.cell v
 keep:∀i h h',tn i h->(∀b∈fp,∀o,h.get? b=some o->h'.get? b=some o)->tn i h'
 item:∀(X:Cx),X.prog=P->X.w=w->X.K=K->X.calm=true->∀(i:Nat) (pins:List (Addr×Obj)) (s:Shared) (σ:St) (H:Hp) (E:Value->Shared->Prop),Inv X pins σ H s->(∀b∈fp,jh X pins H b)->tn i s.heap->J.go i H ->
  wpAny (model P w) X.A (pyNext (.ref it)) (fun r s1=>∃u,r=some u /\
   wpAny (model P w) X.A (letOwnedTupleGo tg (.ref it) u) (fun _ s2=>∃x H',Inv X pins σ H' s2/\RelV x u/\J.yld i H x H'/\tn (i+1) s2.heap/\∀b∈fp,H' b=none) E s1) E s
 done:∀(X:Cx),X.prog=P->X.w=w->X.K=K->X.calm=true->∀(i:Nat) (pins:List (Addr×Obj)) (s:Shared) (σ:St) (H:Hp) (E:Value->Shared->Prop),Inv X pins σ H s->(∀b∈fp,jh X pins H b)->tn i s.heap->J.stop i H ->
  wpAny (model P w) X.A (pyNext (.ref it)) (fun r s1=>r=none/\Inv X pins σ H s1) E s
 self:∀(A:Around) (i:Nat) (s:Shared) (Q:Value->Shared->Prop) (E:Value->Shared->Prop),tn i s.heap->Q (.ref it) s->wpAny (model P w) A (pyIter (.ref it)) Q E s
abbrev TI:=St->Hp->(It->Hp->Prop)->Prop
def PIE(X:Cx)(c:List (Addr×Obj))(σ:St)(B:Expr)(R:It->Hp->Prop)(l:Value)(w:Shared):Prop:=
 ∃(t:Addr) (s:List Addr) (A:Nat->Heap->Prop) (J:It) (g:Hp),l=.ref t/\Inv X c σ g w/\Ze X.prog X.w X.K B J s t A/\A 0 w.heap/\(∀b∈s,jh X c g b)/\R J g
def PI(X:Cx)(t g:Expr)(w:TI):Prop:=
 ∀(c:List (Addr×Obj)) (s:Shared) (σ:St) (H:Hp) (R:It->Hp->Prop),Inv X c σ H s->w σ H R ->
  wpAny (model X.prog X.w) X.A (eval g X.env) (fun v l=>wpAny (model X.prog X.w) X.A (pyIter v) (PIE X c σ t R) X.xe l) X.xe s
theorem zdi{M:Model}{A:Around}{E:Value->Shared->Prop}{s:Shared}{l:Expr}{g:Addr}{u:Value}{o:Obj}{n:String}{t:Array Value}{Q:Unit->Shared->Prop}(D:s.heap.get? g=some o)(hc:o.cls=.type n)(w:o.data=.fields t)
  (B:["enumerate", "zip", "dict_itemiterator", "dict_reverseitemiterator", "odict_iterator", "itertools.zip_longest", "itertools.pairwise"].contains n=false) (c:Q () s):wpAny M A (letOwnedTupleGo l (.ref g) u) Q E s:=by
 unfold letOwnedTupleGo;cases l<;>first
  | exact zA c
  | (cases u<;>first
    | exact zA c
    | (refine zn (wpAny_load D ?_)
       rw[hc,w];show wpAny M A (if(["enumerate", "zip", "dict_itemiterator", "dict_reverseitemiterator", "odict_iterator", "itertools.zip_longest", "itertools.pairwise"].contains n&&t[0]? ==some (rawInt _))=true then _ else _) Q E s
       rw[zo (by intro h;rw[B,QK] at h;cases h)]
       exact zA c))
def Itl(K:W.Frag)(a:Addr):It:=
 ⟨fun i H=>∃c x,SqL K H a c/\c[i]? =some x,fun i H x g=>g=H/\∀c,SqL K H a c->c[i]? =some x,fun i H=>∃c,SqL K H a c/\c.length<=i⟩
def Itt(K:W.Frag)(a:Addr):It:=
 ⟨fun i H=>∃c x,SqT K H a c/\c[i]? =some x,fun i H x g=>g=H/\∀c,SqT K H a c->c[i]? =some x,fun i H=>∃c,SqT K H a c/\c.length<=i⟩
def Itr(lo:Int)(n:Nat):It:=⟨fun i _=>i<n,fun i H x c=>c=H/\x=.int (lo+i),fun i _=>n<=i⟩
theorem za0{P:Program}{w:World}{K:W.Frag}{tg:Expr}(a l:Addr):Ze P w K tg (Itl K a) [l] l (fun i h=>h.IsListIter l a i) where
 mem:=by simp
 obj:=fun i h st b hb=>by
  have e:b=l:=by simpa using hb
  subst e;obtain⟨o,e,c,d⟩:=st;exact⟨o,e,fun v z=>by rw[d] at z;cases z⟩
 keep:=fun i h A st k=>st.at fun o e=>k l (by simp) o e
 item:=by
  intro X O T N hc i g s σ H E I B st Q;subst O T N;obtain⟨xs,x,hq,hx⟩:=Q;obtain⟨U,Y,p,hz⟩:=I.list hq;obtain⟨u,hu,ru⟩:=Y.get hx;obtain⟨D,G,f2,J,L,M⟩:=B l (by simp)
  refine wpAny_pyNext_list_item st p.isList (x:=u) (by simpa using hu) fun A t sb=>?_
  have I1:Inv X g σ H { s with heap:=A }:=I.turned (t':=s.toks) (fun b o hb e=>(sb.2 b hb).trans e) D G J L M
  obtain⟨o,e,c,d⟩:=id t;exact⟨u,rfl,zdi (s:={ s with heap:=A }) e c d (by decide) ⟨x,H,I1,ru,⟨rfl,fun ys hy=>by rw[I.list_inj hy hq];exact hx⟩,t,fun b hb=>(B b hb).1⟩⟩
 done:=by
  intro X O T N hc i g s σ H E I B st Q;subst O T N;obtain⟨xs,hq,hx⟩:=Q;obtain⟨U,Y,p,hz⟩:=I.list hq;obtain⟨D,G,f2,J,L,M⟩:=B l (by simp)
  have hl:=Y.length;exact wpAny_pyNext_list_end (I.ok.hd hc) st p.isList (by simp;omega) fun A eb=>⟨rfl,I.turned (t':=s.toks) (fun b o hb e=>eb b o hb e) D G J L M⟩
 self:=fun _ _ _ _ _ st h=>wpAny_pyIter_listiter st h
theorem Ws{P:Program}{w:World}{K:W.Frag}{tg:Expr}(a l:Addr):Ze P w K tg (Itt K a) [l] l (fun i h=>h.IsTupleIter l a i) where
 mem:=by simp
 obj:=fun i h st b hb=>by
  have e:b=l:=by simpa using hb
  subst e;obtain⟨o,e,c,d⟩:=st;exact⟨o,e,fun v z=>by rw[d] at z;cases z⟩
 keep:=fun i h B st k=>st.at fun o e=>k l (by simp) o e
 item:=by
  intro X Q U O hc i g s σ H E I D st T;subst Q U O;obtain⟨xs,x,hq,hx⟩:=T;obtain⟨t,Y,p,hz⟩:=I.tuple hq;obtain⟨u,hu,ru⟩:=Y.get hx;obtain⟨G,J,f2,L,M,N⟩:=D l (by simp)
  refine wpAny_pyNext_tuple_item st (show s.heap.IsTuple a t.toArray from p) (x:=u) (by simpa using hu) fun B A sb=>?_
  have I1:Inv X g σ H { s with heap:=B }:=I.turned (t':=s.toks) (fun b o hb e=>(sb.2 b hb).trans e) G J L M N
  obtain⟨o,e,c,d⟩:=id A;exact⟨u,rfl,zdi (s:={ s with heap:=B }) e c d (by decide) ⟨x,H,I1,ru,⟨rfl,fun ys hy=>by rw[I.tuple_inj hy hq];exact hx⟩,A,fun b hb=>(D b hb).1⟩⟩
 done:=by
  intro X Q U O hc i g s σ H E I D st T;subst Q U O;obtain⟨xs,hq,hx⟩:=T;obtain⟨t,Y,p,hz⟩:=I.tuple hq;obtain⟨G,J,f2,L,M,N⟩:=D l (by simp)
  have hl:=Y.length;exact wpAny_pyNext_tuple_end (I.ok.hd hc) st (show s.heap.IsTuple a t.toArray from p) (by simp;omega) fun B eb=>⟨rfl,I.turned (t':=s.toks) (fun b o hb e=>eb b o hb e) G J L M N⟩
 self:=fun _ _ _ _ _ st h=>wpAny_pyIter_tupleiter st h
theorem Wt{P:Program}{w:World}{K:W.Frag}{tg:Expr}(c:Addr)(lo:Int)(n:Nat):Ze P w K tg (Itr lo n) [c] c (fun i h=>IsRangeIter h c (lo+(i:Nat)*1) ((n:Int)-(i:Nat)) 1) where
 mem:=by simp
 obj:=fun i h st b hb=>by
  have e:b=c:=by simpa using hb
  subst e;exact⟨_,st,fun v z=>by
   have z':Data.fields _=Data.cell v:=z;cases z'⟩
 keep:=fun i h A st k=>k c (by simp) _ st
 item:=by
  intro X O T N hc i g s σ H E I B st Q;subst O T N;obtain⟨D,G,f2,J,L,M⟩:=B c (by simp)
  have W:=Walks.range (prog:=X.prog) (w:=X.w) (I.ok.hd hc) c lo 1 n;refine W.item i s _ _ Q st fun v A Y hv l kk=>?_
  obtain⟨t,rfl⟩:=hv;have I1:Inv X g σ H { s with heap:=A,toks:=Y }:=I.turned (fun b o hb e=>kk b o (by simpa using hb) e) D G J L M
  refine⟨_,rfl,zdi (s:={ s with heap:=A,toks:=Y }) (n:= "range_iterator") l rfl rfl (by decide) ⟨.int (lo+i),H,I1,⟨t,?_⟩,⟨rfl,rfl⟩,l,fun b hb=>(B b hb).1⟩⟩
  rw[Int.mul_one]
 done:=by
  intro X O T N hc i g s σ H E I B st Q;subst O T N;obtain⟨D,G,f2,J,L,M⟩:=B c (by simp)
  exact wpAny_pyNext_range_end (I.ok.hd hc) st (by have:n<=i:=Q;omega) fun A eb=>⟨rfl,I.turned (t':=s.toks) (fun b o hb e=>eb b o hb e) D G J L M⟩
 self:=fun _ _ _ _ _ st h=>wpAny_pyIter_rangeiter st h
section
variable{X:Cx}{c:Expr}
inductive InL(K:W.Frag)(x:V)(H:Hp)(R:It->Hp->Prop):Prop
 | mk (a:Addr) (h:x=.ref a) (e:∃g,SqL K H a g) (r:R (Itl K a) H):InL K x H R
inductive InT(K:W.Frag)(x:V)(H:Hp)(R:It->Hp->Prop):Prop
 | mk (a:Addr) (h:x=.ref a) (e:∃g,SqT K H a g) (r:R (Itt K a) H):InT K x H R
def zfp(K:W.Frag)(l:TE):TI:=fun σ H R=>l σ H fun x g=>InL K x g R
def zia(K:W.Frag)(l:TE):TI:=fun σ H R=>l σ H fun x g=>InT K x g R
theorem qV{l:Expr}{A:TE}(D:PE X l A):PI X c l (zfp X.K A):=by
 intro g s σ H R I h;refine thn (D g s σ H _ I h) fun v w ⟨x,B,t,J,G⟩=>?_
 obtain⟨a,e,⟨O,hq⟩,q⟩:=G;subst e;cases J;obtain⟨E,M,p,L⟩:=t.list hq;refine wpAny_pyIter_list p.isList ?_
 refine⟨w.heap.objs.size,[w.heap.objs.size],_,_,B,rfl,t.kept (t':=w.toks) fun b o e=>zO _ e,za0 a _,⟨_,zQ _ rfl,rfl,rfl⟩,fun b hb=>?_,q⟩
 have e:b=w.heap.objs.size:=by simpa using hb
 subst e;exact t.fpOk (zC _) (t.hok.fresh (zC _))
theorem vT{l:Expr}{B:TE}(E:PE X l B):PI X c l (zia X.K B):=by
 intro g s σ H R I h;refine thn (E g s σ H _ I h) fun v t ⟨x,D,w,J,G⟩=>?_
 obtain⟨a,e,⟨O,hq⟩,q⟩:=G;subst e;cases J;obtain⟨A,M,p,L⟩:=w.tuple hq;refine wpAny_pyIter_tuple (show t.heap.IsTuple a A.toArray from p) ?_
 refine⟨t.heap.objs.size,[t.heap.objs.size],_,_,D,rfl,w.kept (t':=t.toks) fun b o e=>zO _ e,Ws a _,⟨_,zQ _ rfl,rfl,rfl⟩,fun b hb=>?_,q⟩
 have e:b=t.heap.objs.size:=by simpa using hb
 subst e;exact w.fpOk (zC _) (w.hok.fresh (zC _))
theorem zcs{l:List (Addr×Obj)}{σ:St}{H:Hp}{s:Shared}{R:It->Hp->Prop}{E:Value->Shared->Prop}{lo g:Int}{t u v:Tok}{A:Nat}(I:Inv X l σ H s)(G:-(2^62)<=lo)(J:lo<2^62)(L:-(2^62)<=g)(M:g<2^62)
  (q:R (Itr lo (g-lo).toNat) H):wpAny (model X.prog X.w) X.A (pyIter (.ref s.heap.objs.size)) (PIE X l σ c R) E { s with heap:=s.heap.push { cls:=.type "range",data:=.fields #[.int lo t,.int g u,.int 1 v] },toks:=A }:=by
 refine wpAny_pyIter_range (IsRange.new ..) (small_one G J L M) ?_
 have w:Inv X l σ H { s with heap:=s.heap.push { cls:=.type "range",data:=.fields #[.int lo t,.int g u,.int 1 v] },toks:=A }:=I.kept fun b o e=>zO _ e
 refine⟨(s.heap.push { cls:=.type "range",data:=.fields #[.int lo t,.int g u,.int 1 v] }).objs.size,[(s.heap.push { cls:=.type "range",data:=.fields #[.int lo t,.int g u,.int 1 v] }).objs.size],_,_,H,rfl,
  w.kept (t':=A) fun b o e=>zO _ e,Wt _ lo (g-lo).toNat,?_,fun b hb=>?_,q⟩
 ·have B:lo+((0:Nat):Int)*1=lo:=by simp
  have D:(((g-lo).toNat:Nat):Int)-((0:Nat):Int)=Builtin.Range.rangeSize lo g 1:=by rw[rangeSize_one];split<;>omega
  show IsRangeIter _ _ (lo+((0:Nat):Int)*1) ((((g-lo).toNat:Nat):Int)-((0:Nat):Int)) 1;rw[B,D];exact zQ _ rfl
 ·have e:b=(s.heap.push { cls:=.type "range",data:=.fields #[.int lo t,.int g u,.int 1 v] }).objs.size:=by simpa using hb
  subst e;exact w.fpOk (zC _) (w.hok.fresh (zC _))
inductive zhS(g:List V)(H:Hp)(R:It->Hp->Prop):Prop
 | mk (j:Int) (h:g=[.int j]) (l:-(2^62)<=j) (s:j<2^62) (r:R (Itr 0 j.toNat) H):zhS g H R
def zhK(l:TA):TI:=fun σ H R=>l σ H fun s g=>zhS s g R
theorem qv{a:Expr}{A:TA}{p l:Pos}(E:Gl X "range")(G:X.mg "range" = none)(D:PA X [a] A)(J:starEach [a] X.env=[(false,eval a X.env)]:=by rfl):PI X c (.Call (.Name "range" p) [a] [] l) (zhK A):=by
 intro g s σ H R I h;refine Call_ (vV I E G boot_range (JS (thn (D l g s σ H _ I h) fun T Q ⟨U,O,B,M,w⟩=>?_) J rfl))
 obtain⟨j,e,w,L,q⟩:=w;subst e;cases M with
 | cons r N=>
  cases N;obtain⟨t,rfl⟩:=r;exact call_range_1 (zcs B (by omega) (by omega) w L (by simpa using q))
def zh5(E:TI)(g:TG)(B:TS):TS:=fun D σ H=>E σ H fun J w=>∃W:Nat->Nat->St->Hp->Prop,(∃m,W 0 m σ w)/\∀i m σ H,W i m σ H ->
 (J.stop i H/\D.nx σ H)\/(J.go i H/\∃N:St->Hp->Prop,(∀t l,N t l->∃s,s<m/\W (i+1) s t l)/\∀x l,J.yld i H x l->g x σ l fun G A=>B { D with nx:=N,ct:=N,bk:=D.nx } G A)
def zU(g:List Addr)(h:Heap):List (Addr×Obj):=g.filterMap fun b=>(h.get? b).map fun o=>(b,o)
theorem qD{g:List Addr}{h:Heap}{b:Addr}{o:Obj}(hb:b∈g)(e:h.get? b=some o):(b,o)∈zU g h:=List.mem_filterMap.mpr ⟨b,hb,by rw[e];rfl⟩
theorem xC{g:List Addr}{h:Heap}{p:Addr×Obj}(s:p∈zU g h):p.1∈g/\h.get? p.1=some p.2:=by
 obtain⟨b,hb,e⟩:=List.mem_filterMap.mp s;cases q:h.get? b with
 | none=>rw[q] at e;cases e
 | some o=>
  rw[q] at e;have l:(b,o)=p:=qU e;subst l;exact⟨hb,q⟩
theorem Inv.pinned{g:List (Addr×Obj)}{σ:St}{H:Hp}{s:Shared}{fp:List Addr}(I:Inv X g σ H s)(B:∀b∈fp,jh X g H b)(D:∀b∈fp,∃o,s.heap.get? b=some o/\∀v,o.data≠.cell v):Inv X (g++zU fp s.heap) σ H s:=
 I.pins_of fun p E=>(qJ.mp E).elim (fun z=>I.pin p (qt _ z)) fun z=>by
  obtain⟨hb,e⟩:=xC z;obtain⟨t,w,A,_⟩:=B p.1 hb;obtain⟨o,l,d⟩:=D p.1 hb;rw[e] at l;cases l
  exact⟨e,t,w,A,d⟩
theorem Inv.unpinned{g t:List (Addr×Obj)}{σ:St}{H:Hp}{s:Shared}(I:Inv X (g++t) σ H s):Inv X g σ H s:=I.pins_of fun p l=>I.pin p (qt _ (we _ l))
theorem qW{A:Expr}{body:List Stmt}{wi:TI}{g:TG}{tb:TS}{a4:Pos}(U:PassesOwn (model X.prog X.w) X.A X.env X.xe)(hc:X.calm=true)(hi:PI X c A wi)(hg:PG X c g)(hb:PSs X body tb)
  (hs:∀x,foldedSetIterable A X.env x=pure x:=by intro _;rfl):PS X (.For c A body [] a4) (zh5 wi g tb):=by
 intro l s σ H D I h;refine wpAny_For (thn (hi l s σ H _ I h) fun v s1 h1=>thn h1 fun a6 s2 h2=>?_) hs
 obtain⟨it,O,tn,J,H2,e,I2,T,a5,f2,W,⟨m0,w0⟩,a1⟩:=h2;subst e;have B:∀{G:Hp},(∀b∈O,G b=none)->∀b∈O,jh X l G b:=fun hn b hb=>⟨hn b hb,(f2 b hb).2⟩
 refine codeAny_forLoop_any (fun n s'=>∃i σ' G,Inv X l σ' G s'/\tn i s'.heap/\(∀b∈O,G b=none)/\W i n σ' G) ?_ m0 ⟨0,σ,H2,I2,a5,fun b hb=>(f2 b hb).1,w0⟩
 rintro n s3 ⟨i,σ3,H3,I3,a0,Q,w3⟩;rcases a1 i n σ3 H3 w3 with ⟨stop,qn⟩ | ⟨go,N,hN,step⟩
 ·refine wZ U (thn (T.done X rfl rfl rfl hc i l s3 σ3 H3 X.xe I3 (B Q) a0 stop) fun r s4 ⟨hr,I4⟩=>?_)
  subst hr;exact wpAny_execs_nil ⟨σ3,H3,I4,qn⟩
 ·refine wZ U (thn (T.item X rfl rfl rfl hc i l s3 σ3 H3 X.xe I3 (B Q) a0 go) fun r s4 ⟨u,hr,h4⟩=>?_)
  subst hr;refine wZ U (thn h4 fun _ s5 ⟨x,H5,I5,r5,y5,M,a3⟩=>?_)
  have a2:=I5.pinned (B a3) (T.obj _ _ M);refine wZ U (thn (hg _ s5 σ3 H5 x u _ a2 r5 (step x H5 y5)) fun _ s6 ⟨σ6,H6,I6,q6⟩=>?_)
  refine wZ U (thn (hb _ s6 σ6 H6 _ I6 q6) fun f s7 L=>?_)
  have again:∀{E:St} {t:Hp},Inv X (l++zU O s5.heap) E t s7->N E t->∃m,m<n/\∃i σ' G,Inv X l σ' G s7/\tn i s7.heap/\(∀b∈O,G b=none)/\W i m σ' G:=fun {E t} w Y=>by
   obtain⟨m',hm,w7⟩:=hN E t Y;refine⟨m',hm,i+1,E,t,w.unpinned,T.keep _ _ _ M fun b hb o e=>(w.pin (b,o) (qt _ (qt _ (qD hb e)))).1,fun b hb=>?_,w7⟩
   obtain⟨o,e,d⟩:=T.obj _ _ M b hb;exact(w.pin (b,o) (qt _ (qt _ (qD hb e)))).2.1
  cases f with
  | next=>obtain⟨E,t,w,Y⟩:=L;exact again w Y
  | cont=>obtain⟨E,t,w,Y⟩:=L;exact again w Y
  | brk=>obtain⟨E,t,w,L⟩:=L;exact⟨E,t,w.unpinned,L⟩
  | ret v=>obtain⟨x7,E,t,w,r7,L⟩:=L;exact⟨x7,E,t,w.unpinned,r7,L⟩
end
theorem yw{K:W.Frag}{a:Addr}{xs:List V}{g:TG}{B:TS}{D:Jj}{σ:St}{H:Hp}(Pv:Nat->St->Hp->Prop)(E:Pv 0 σ H)(J:∀i σ H,i<=xs.length->Pv i σ H->SqL K H a xs)
  (L:∀i x σ H,xs[i]? =some x->Pv i σ H->g x σ H fun w s=>B { D with nx:=Pv (i+1),ct:=Pv (i+1),bk:=D.nx } w s) (G:∀σ H,Pv xs.length σ H->D.nx σ H) :
  ∃W:Nat->Nat->St->Hp->Prop,(∃m,W 0 m σ H)/\∀i m σ H,W i m σ H ->
   ((Itl K a).stop i H/\D.nx σ H)\/((Itl K a).go i H/\∃N:St->Hp->Prop,(∀t c,N t c->∃A,A<m/\W (i+1) A t c)/\∀x c,(Itl K a).yld i H x c->g x σ c fun w s=>B { D with nx:=N,ct:=N,bk:=D.nx } w s):=by
 refine⟨fun i m σ H=>m=xs.length-i/\i<=xs.length/\Pv i σ H,⟨xs.length,by simp,qk _,E⟩,?_⟩
 rintro i m σ H ⟨rfl,I,p⟩;have q:=J i σ H I p;by_cases l:i<xs.length
 ·refine .inr ⟨⟨xs,xs[i],q,by simp[l]⟩,Pv (i+1),fun t c M=>⟨xs.length-(i+1),by omega,rfl,l,M⟩,fun x c y=>?_⟩
  obtain⟨e,y⟩:=y;subst e;exact L i x σ _ (y xs q) p
 ·have e:i=xs.length:=by omega
  subst e;exact .inl ⟨⟨xs,q,zC _⟩,G σ H p⟩
theorem Xr{K:W.Frag}{a:Addr}{xs:List V}{g:TG}{B:TS}{D:Jj}{σ:St}{H:Hp}(Pv:Nat->St->Hp->Prop)(E:Pv 0 σ H)(J:∀i σ H,i<=xs.length->Pv i σ H->SqT K H a xs)
  (L:∀i x σ H,xs[i]? =some x->Pv i σ H->g x σ H fun w s=>B { D with nx:=Pv (i+1),ct:=Pv (i+1),bk:=D.nx } w s) (G:∀σ H,Pv xs.length σ H->D.nx σ H) :
  ∃W:Nat->Nat->St->Hp->Prop,(∃m,W 0 m σ H)/\∀i m σ H,W i m σ H ->
   ((Itt K a).stop i H/\D.nx σ H)\/((Itt K a).go i H/\∃N:St->Hp->Prop,(∀t c,N t c->∃A,A<m/\W (i+1) A t c)/\∀x c,(Itt K a).yld i H x c->g x σ c fun w s=>B { D with nx:=N,ct:=N,bk:=D.nx } w s):=by
 refine⟨fun i m σ H=>m=xs.length-i/\i<=xs.length/\Pv i σ H,⟨xs.length,by simp,qk _,E⟩,?_⟩
 rintro i m σ H ⟨rfl,I,p⟩;have q:=J i σ H I p;by_cases l:i<xs.length
 ·refine .inr ⟨⟨xs,xs[i],q,by simp[l]⟩,Pv (i+1),fun t c M=>⟨xs.length-(i+1),by omega,rfl,l,M⟩,fun x c y=>?_⟩
  obtain⟨e,y⟩:=y;subst e;exact L i x σ _ (y xs q) p
 ·have e:i=xs.length:=by omega
  subst e;exact .inl ⟨⟨xs,q,zC _⟩,G σ H p⟩
theorem ji{lo:Int}{n:Nat}{g:TG}{B:TS}{D:Jj}{σ:St}{H:Hp}(Pv:Nat->St->Hp->Prop)(E:Pv 0 σ H)
  (I:∀i σ H,i<n->Pv i σ H->g (.int (lo+i)) σ H fun w s=>B { D with nx:=Pv (i+1),ct:=Pv (i+1),bk:=D.nx } w s) (G:∀σ H,Pv n σ H->D.nx σ H) :
  ∃W:Nat->Nat->St->Hp->Prop,(∃m,W 0 m σ H)/\∀i m σ H,W i m σ H ->
   ((Itr lo n).stop i H/\D.nx σ H)\/((Itr lo n).go i H/\∃N:St->Hp->Prop,(∀t c,N t c->∃A,A<m/\W (i+1) A t c)/\∀x c,(Itr lo n).yld i H x c->g x σ c fun w s=>B { D with nx:=N,ct:=N,bk:=D.nx } w s):=by
 refine⟨fun i m σ H=>m=n-i/\i<=n/\Pv i σ H,⟨n,by simp,qk _,E⟩,?_⟩
 rintro i m σ H ⟨rfl,L,p⟩;by_cases l:i<n
 ·refine .inr ⟨l,Pv (i+1),fun t c J=>⟨n-(i+1),by omega,rfl,l,J⟩,fun x c y=>?_⟩
  obtain⟨e,y⟩:=y;subst e y;exact I i σ _ l p
 ·have e:i=n:=by omega
  subst e;exact .inl ⟨zC _,G σ H p⟩
abbrev R2:=V->V->Hp->VK->Prop
def OpR(X:Cx)(f:Value->Value->Sem Value)(r:R2):Prop:=
 ∀(c:List (Addr×Obj)) (s:Shared) (σ:St) (H:Hp) (x y:V) (v u:Value) (Q:VK),Inv X c σ H s->RelV x v->RelV y u->r x y H Q ->
  wpAny (model X.prog X.w) X.A (f v u) (EP X c σ Q) X.xe s
def UnR(X:Cx)(f:Value->Sem Value)(r:V->Hp->VK->Prop):Prop:=
 ∀(c:List (Addr×Obj)) (s:Shared) (σ:St) (H:Hp) (x:V) (v:Value) (Q:VK),Inv X c σ H s->RelV x v->r x H Q ->
  wpAny (model X.prog X.w) X.A (f v) (EP X c σ Q) X.xe s
def CallR(X:Cx)(f:Value)(r:List V->Hp->VK->Prop):Prop:=
 ∀(c:List (Addr×Obj)) (s:Shared) (σ:St) (H:Hp) (l:List V) (g:List Value) (Q:VK),Inv X c σ H s->Vals l g->r l H Q ->
  wpAny (model X.prog X.w) X.A (call f g) (EP X c σ Q) X.xe s
def tOp(r:R2)(l s:TE):TE:=fun σ H Q=>l σ H fun x c=>s σ c fun y g=>r x y g Q
def tUn(r:V->Hp->VK->Prop)(g:TE):TE:=fun σ H Q=>g σ H fun x c=>r x c Q
inductive rI(C:Int->Int->Prop)(g:Int->Int->V)(x:V)(y:V)(H:Hp)(Q:VK):Prop
 | mk (i j:_) (_:x=.int i) (_:y=.int j) (_:C i j) (_:Q (g i j) H):rI C g x y H Q
inductive rI0(g:Int->Int->V)(x:V)(y:V)(H:Hp)(Q:VK):Prop
 | mk (i j:_) (_:x=.int i) (_:y=.int j) (_:Q (g i j) H):rI0 g x y H Q
inductive rU(g:Int->V)(x:V)(H:Hp)(Q:VK):Prop
 | mk (i:_) (_:x=.int i) (_:Q (g i) H):rU g x H Q
section
variable{X:Cx}{a b c:Expr}{l A B:TE}{w:Pos}
theorem zgz(L:PE X a l)(hb:PE X b A){g:List (Addr×Obj)}{s:Shared}{σ:St}{H:Hp}{R:V->V->Hp->Prop}(I:Inv X g σ H s)
  (h:l σ H fun x E=>A σ E fun y t=>R x y t) {Q:Value->Shared->Prop} {f:Value->Value->Sem Value}
  (M:∀v u D x y t,Inv X g σ t D->RelV x v->RelV y u->R x y t->wpAny (model X.prog X.w) X.A (f v u) Q X.xe D) :
  wpAny (model X.prog X.w) X.A (eval a X.env) (fun v s₁=>wpAny (model X.prog X.w) X.A (eval b X.env) (fun u s₂=>wpAny (model X.prog X.w) X.A (f v u) Q X.xe s₂) X.xe s₁) X.xe s:=by
 refine thn (L g s σ H _ I h) fun v Y ⟨x,E,G,T,N⟩=>?_
 refine thn (hb g Y σ E _ G N) fun u D ⟨y,t,J,U,O⟩=>?_
 exact M v u D x y t J T U O
theorem zF{t:Operator}{r:R2}(J:OpR X (binaryOp t) r)(G:PE X a l)(hb:PE X b A):PE X (.BinOp a t b w) (tOp r l A):=by
 intro g s σ H Q I h;exact wpAny_BinOp (zgz G hb I h fun v u N x y D E L M q=>J g N σ D x y v u Q E L M q)
theorem zhi{t:UnaryOp}{r:V->Hp->VK->Prop}(J:UnR X (unaryOp t) r)(G:PE X a l):PE X (.UnaryOp t a w) (tUn r l):=by
 intro g s σ H Q I h;exact UnaryOp_ (thn (G g s σ H _ I h) fun v N ⟨x,D,E,M,L⟩=>J g N σ D x v Q E M L)
theorem opI{f:Value->Value->Sem Value}{C:Int->Int->Prop}{g:Int->Int->Int}
  (rule:∀(i j:Int) (t u:Tok) (s:Shared) (Q:Value->Shared->Prop) (E:Value->Shared->Prop),C i j->Q (.int (g i j) s.toks) { s with toks:=s.toks+1 }->wpAny (model X.prog X.w) X.A (f (.int i t) (.int j u)) Q E s) :
  OpR X f (rI C fun i j=>.int (g i j)):=by
 intro D s σ H x y v u Q I G J h;obtain⟨i,j,rfl,rfl,hc,q⟩:=h;obtain⟨t,rfl⟩:=G;obtain⟨L,rfl⟩:=J;exact rule i j t L s _ _ hc ⟨.int (g i j),H,I.tok _,⟨_,rfl⟩,q⟩
theorem zhl{f:Value->Value->Sem Value}{g:Int->Int->Int}
  (rule:∀(i j:Int) (t u:Tok) (s:Shared) (Q:Value->Shared->Prop) (E:Value->Shared->Prop),Q (.int (g i j) s.toks) { s with toks:=s.toks+1 }->wpAny (model X.prog X.w) X.A (f (.int i t) (.int j u)) Q E s) :
  OpR X f (rI0 fun i j=>.int (g i j)):=by
 intro D s σ H x y v u Q I G J h;obtain⟨i,j,rfl,rfl,q⟩:=h;obtain⟨t,rfl⟩:=G;obtain⟨L,rfl⟩:=J;exact rule i j t L s _ _ ⟨.int (g i j),H,I.tok _,⟨_,rfl⟩,q⟩
theorem zel{f:Value->Value->Sem Value}{g:Int->Int->Bool}
  (rule:∀(i j:Int) (t u:Tok) (s:Shared) (Q:Value->Shared->Prop) (E:Value->Shared->Prop),Q (.bool (g i j)) s->wpAny (model X.prog X.w) X.A (f (.int i t) (.int j u)) Q E s) :
  OpR X f (rI0 fun i j=>.bl (g i j)):=by
 intro D s σ H x y v u Q I G J h;obtain⟨i,j,rfl,rfl,q⟩:=h;obtain⟨t,rfl⟩:=G;obtain⟨L,rfl⟩:=J;exact rule i j t L s _ _ ⟨.bl (g i j),H,I,rfl,q⟩
def zhT(i j:Int):Prop:=0<j/\j<1073741824
def zig(i j:Int):Prop:=0<=j/\j<=1000000/\i.natAbs<2^64
def CMul(i j:Int):Prop:=(-(2^64)<i/\i<2^64)\/(-(2^64)<j/\j<2^64)
theorem CMul.ok{i j:Int}(h:CMul i j):IntMulOk i j:=by
 rcases h with ⟨g,s⟩ | ⟨g,s⟩
 ·exact .of_left (intBits_le_64 g s)
 ·exact .of_right (intBits_le_64 g s)
theorem qd:OpR X (binaryOp .Add) (rI0 fun i j=>.int (i+j)):=zhl fun _ _ _ _ _ _ _ q=>add_int q
theorem xo:OpR X (binaryOp .Sub) (rI0 fun i j=>.int (i-j)):=zhl fun _ _ _ _ _ _ _ q=>sub_int q
theorem xp:OpR X (binaryOp .Mult) (rI CMul fun i j=>.int (i*j)):=opI fun _ _ _ _ _ _ _ hc q=>mul_int q hc.ok
theorem zaa:OpR X (binaryOp .FloorDiv) (rI zhT fun i j=>.int (i/j)):=opI fun i j _ _ _ _ _ hc q=>by
 have g:(0:Int)<j:=hc.1;have s:j<1073741824:=hc.2;exact floordiv_int (by omega) (by rw[zdJ i (by omega)];exact q) (.inl (PyProof.noPylong_small (by omega)))
theorem xq:OpR X (binaryOp .Mod) (rI (fun _ j=>0<j) fun i j=>.int (i % j)):=opI fun i j _ _ _ _ _ hc q=>by
 have g:(0:Int)<j:=hc;exact mod_int' (by omega) (by rw[zdI i (by omega)];exact q)
theorem zcL:OpR X (binaryOp .Pow) (rI zig fun i j=>.int (i^j.toNat)):=opI fun _ _ _ _ _ _ _ hc q=>pow_int_small hc.1 hc.2.1 hc.2.2 q
theorem unI{f:Value->Sem Value}{g:Int->Int}
  (rule:∀(i:Int) (t:Tok) (s:Shared) (Q:Value->Shared->Prop) (E:Value->Shared->Prop),Q (.int (g i) s.toks) { s with toks:=s.toks+1 }->wpAny (model X.prog X.w) X.A (f (.int i t)) Q E s) :
  UnR X f (rU fun i=>.int (g i)):=by
 intro D s σ H x v Q I G h;obtain⟨i,rfl,q⟩:=h;obtain⟨t,rfl⟩:=G;exact rule i t s _ _ ⟨.int (g i),H,I.tok _,⟨_,rfl⟩,q⟩
theorem zfu:UnR X (unaryOp .USub) (rU fun i=>.int (-i)):=unI fun _ _ _ _ _ q=>neg_int q
end
def zgS:V->V->Bool
 | .non,.non=>true | .non,.int _=>true | .int _,.non=>true | .non,.bl _=>true | .bl _,.non=>true | .non,.str _=>true | .str _,.non=>true
 | .int _,.int _=>true | .bl _,.bl _=>true | .str _,.str _=>true | .byt _,.byt _=>true
 | .int _,.str _=>true | .str _,.int _=>true | .bl _,.str _=>true | .str _,.bl _=>true
 | _,_=>false
def rEq:R2:=fun x y H Q=>zgS x y=true/\Q (.bl (decide (x=y))) H
def rNe:R2:=fun x y H Q=>zgS x y=true/\Q (.bl (!decide (x=y))) H
theorem zaq{i j:Int}:decide (V.int i=V.int j)=(i==j):=by
 rw[y6];simp
theorem zdr{i j:Bool}:decide (V.bl i=V.bl j)=(i==j):=by
 rw[y6];simp
theorem zap{i j:Str}:decide (V.str i=V.str j)=(i==j):=by
 rw[y6];simp
theorem zar{i j:Array UInt8}:decide (V.byt i=V.byt j)=(i.toList==j.toList):=by
 rw[y6];cases i;cases j;simp
section
variable{X:Cx}{a b c:Expr}{g l A:TE}{w:Pos}
theorem qm{t:List (Addr×Obj)}{σ:St}{H:Hp}{s:Shared}{Q:VK}{k B:Bool}(I:Inv X t σ H s)(q:Q (.bl k) H)(e:k=B):EP X t σ Q (.bool B) s:=by
 subst e;exact⟨.bl k,H,I,rfl,q⟩
theorem xk:OpR X (compareOp .Eq) rEq:=by
 intro J s σ H x y v u Q I G B h;obtain⟨E,q⟩:=h;cases x with
 | non=>
  cases G;cases y with
  | non=>cases B;exact PySem.EqNone.eq_none_none (qm I q (by simp))
  | bl j=>cases B;exact PySem.EqNone.eq_none_bool (qm I q (by simp))
  | int j=>obtain⟨D,rfl⟩:=B;exact PySem.EqNone.eq_none_int (qm I q (by simp))
  | str j=>obtain⟨D,rfl⟩:=B;exact PySem.EqNone.eq_none_str (qm I q (by simp))
  | _=>exact absurd (show false=true from E) qF
 | bl i=>
  cases G;cases y with
  | non=>cases B;exact PySem.EqNone.eq_bool_none (qm I q (by simp))
  | bl j=>cases B;exact eq_bool (qm I q zdr)
  | str j=>obtain⟨D,rfl⟩:=B;exact PySem.EqMixed.eq_bool_str (qm I q (by simp))
  | _=>exact absurd (show false=true from E) qF
 | int i=>
  obtain⟨t,rfl⟩:=G;cases y with
  | non=>cases B;exact PySem.EqNone.eq_int_none (qm I q (by simp))
  | int j=>obtain⟨D,rfl⟩:=B;exact eq_int (qm I q zaq)
  | str j=>obtain⟨D,rfl⟩:=B;exact PySem.EqMixed.eq_int_str (qm I q (by simp))
  | _=>exact absurd (show false=true from E) qF
 | str i=>
  obtain⟨t,rfl⟩:=G;cases y with
  | non=>cases B;exact PySem.EqNone.eq_str_none (qm I q (by simp))
  | bl j=>cases B;exact PySem.EqMixed.eq_str_bool (qm I q (by simp))
  | int j=>obtain⟨D,rfl⟩:=B;exact PySem.EqMixed.eq_str_int (qm I q (by simp))
  | str j=>obtain⟨D,rfl⟩:=B;exact eq_str (qm I q zap)
  | _=>exact absurd (show false=true from E) qF
 | byt i=>
  obtain⟨t,rfl⟩:=G;cases y with
  | byt j=>obtain⟨D,rfl⟩:=B;exact PySem.W.eq_bytes (qm I q zar)
  | _=>exact absurd (show false=true from E) qF
 | _=>cases y<;>exact absurd (show false=true from E) qF
theorem Y8:OpR X (compareOp .NotEq) rNe:=by
 intro J s σ H x y v u Q I G B h;obtain⟨E,q⟩:=h;cases x with
 | non=>
  cases G;cases y with
  | non=>cases B;exact PySem.EqNone.ne_none_none (qm I q (by simp))
  | bl j=>cases B;exact PySem.EqNone.ne_none_bool (qm I q (by simp))
  | int j=>obtain⟨D,rfl⟩:=B;exact PySem.EqNone.ne_none_int (qm I q (by simp))
  | str j=>obtain⟨D,rfl⟩:=B;exact PySem.EqNone.ne_none_str (qm I q (by simp))
  | _=>exact absurd (show false=true from E) qF
 | bl i=>
  cases G;cases y with
  | non=>cases B;exact PySem.EqNone.ne_bool_none (qm I q (by simp))
  | bl j=>cases B;exact ne_bool (qm I q (congrArg not zdr))
  | str j=>obtain⟨D,rfl⟩:=B;exact PySem.EqMixed.ne_bool_str (qm I q (by simp))
  | _=>exact absurd (show false=true from E) qF
 | int i=>
  obtain⟨t,rfl⟩:=G;cases y with
  | non=>cases B;exact PySem.EqNone.ne_int_none (qm I q (by simp))
  | int j=>obtain⟨D,rfl⟩:=B;exact ne_int (qm I q (congrArg not zaq))
  | str j=>obtain⟨D,rfl⟩:=B;exact PySem.EqMixed.ne_int_str (qm I q (by simp))
  | _=>exact absurd (show false=true from E) qF
 | str i=>
  obtain⟨t,rfl⟩:=G;cases y with
  | non=>cases B;exact PySem.EqNone.ne_str_none (qm I q (by simp))
  | bl j=>cases B;exact PySem.EqMixed.ne_str_bool (qm I q (by simp))
  | int j=>obtain⟨D,rfl⟩:=B;exact PySem.EqMixed.ne_str_int (qm I q (by simp))
  | str j=>obtain⟨D,rfl⟩:=B;exact ne_str (qm I q (congrArg not zap))
  | _=>exact absurd (show false=true from E) qF
 | byt i=>
  obtain⟨t,rfl⟩:=G;cases y with
  | byt j=>obtain⟨D,rfl⟩:=B;exact PySem.W.ne_bytes (qm I q (congrArg not zar))
  | _=>exact absurd (show false=true from E) qF
 | _=>cases y<;>exact absurd (show false=true from E) qF
theorem Y9:OpR X (compareOp .Lt) (rI0 fun i j=>.bl (decide (i<j))):=zel fun _ _ _ _ _ _ _ q=>lt_int q
theorem VH:OpR X (compareOp .LtE) (rI0 fun i j=>.bl (decide (i<=j))):=zel fun _ _ _ _ _ _ _ q=>le_int q
theorem zcM:OpR X (compareOp .Gt) (rI0 fun i j=>.bl (decide (j<i))):=zel fun _ _ _ _ _ _ _ q=>gt_int q
theorem zhk:OpR X (compareOp .GtE) (rI0 fun i j=>.bl (decide (j<=i))):=zel fun _ _ _ _ _ _ _ q=>ge_int q
theorem zf3:OpR X (compareOp .Is) (fun x y H Q=>y=.non/\Q (.bl (decide (x=.non))) H):=by
 intro B s σ H x y v u Q I D E h;obtain⟨rfl,q⟩:=h;cases E;refine is_none_gen (qm I q ?_)
 cases x<;>first
  | (cases D;rfl)
  | (obtain⟨t,rfl⟩:=D;rfl)
theorem OpR.or{f:Value->Value->Sem Value}{r B:R2}(h:OpR X f r)(G:OpR X f B):OpR X f (fun x y H Q=>r x y H Q\/B x y H Q):=by
 intro t s σ H x y v u Q I D E q;rcases q with q | q
 ·exact h t s σ H x y v u Q I D E q
 ·exact G t s σ H x y v u Q I D E q
theorem qb(b:Expr){s:CmpOp}(h:s≠.In:=by decide)(D:s≠.NotIn:=by decide):behindInMarks s b=false:=by
 have t:(s==CmpOp.In)=false:=by cases s<;>first| rfl | exact absurd rfl h
 have B:(s==CmpOp.NotIn)=false:=by cases s<;>first| rfl | exact absurd rfl D
 cases b<;>simp[behindInMarks,t,B]
theorem qQ{B:CmpOp}{r:R2}(L:OpR X (compareOp B) r)(G:PE X a g)(hb:PE X b l)(J:behindInMarks B b=false):PE X (.Compare a [B] [b] w) (tOp r g l):=by
 intro t s σ H Q I h;exact wpAny_Compare1 (zgz G hb I h fun v u O x y D E M N q=>L t O σ D x y v u Q E M N q) J
def zgE(t:TE):TT:=fun σ H Q=>t σ H fun x s=>IsB x s Q
theorem qw{B:CmpOp}{r:R2}(T:OpR X (compareOp B) r)(N:PE X a g)(hb:PE X b l)(O:behindInMarks B b=false):PT X (.Compare a [B] [b] w) (zgE (tOp r g l)):=by
 intro t s σ H Q I h;refine wpAny_isTrue_Compare1 (thn (N t s σ H _ I h) fun v s1 ⟨x,D,J,r1,U⟩=>thn (hb t s1 σ D _ J U) fun u s2 ⟨y,E,L,r2,Y⟩=>
  thn (T t s2 σ E x y v u _ L r1 r2 Y) fun c s3 ⟨z,G,M,r3,k,e,q3⟩=>?_) O
 subst e;cases r3;exact yH ⟨G,M,q3⟩
def zfC(r E:R2)(g l A:TE):TE:=fun σ H Q=>g σ H fun x t=>l σ t fun y B=>r x y B fun z s=>∃k,z=.bl k /\
 (if k=true then A σ s fun G D=>E y G D Q else Q (.bl false) s)
theorem zcE{E B:CmpOp}{r M:R2}(ho:OpR X (compareOp E) r)(D:OpR X (compareOp B) M)(ha:PE X a g)(hb:PE X b l)(hc:PE X c A)
  (hm:lastMarks [E,B] [b,c]=false:=by with_unfolding_all rfl):PE X (.Compare a [E,B] [b,c] w) (zfC r M g l A):=by
 intro t s σ H Q I h;refine Compare_chain (thn (ha t s σ H _ I h) fun v s1 ⟨x,O,Y,r1,q1⟩=>chain_link (thn (hb t s1 σ O _ Y q1) fun u s2 ⟨y,T,I2,N,q2⟩=>
  thn (ho t s2 σ T x y v u _ I2 r1 N q2) fun d s3 ⟨z,G,J,r3,k,e,L⟩=>?_)) hm
 subst e;cases r3;refine yH ?_
 cases k with
 | false=>exact ite_ff ⟨.bl false,G,J,rfl,L⟩
 | true=>exact ite_tt (chain_last (thn (hc t s3 σ G _ J L) fun w' s4 ⟨z',U,I4,r4,q4⟩=>D t s4 σ U y z' u w' Q I4 N r4 q4))
theorem Ql:(sizeLine:Nat)<2^63:=by rw[sizeLine_eq];decide
inductive yK(x:V)(y:V)(H:Hp)(Q:VK):Prop
 | mk (i j:_) (_:x=.str i) (_:y=.str j) (_:i.length+j.length<=sizeLine) (_:Q (.str (i++j)) H):yK x y H Q
theorem WD:OpR X (binaryOp .Add) (yK):=by
 intro B s σ H x y v u Q I E G h;obtain⟨i,j,rfl,rfl,D,q⟩:=h;obtain⟨t,rfl⟩:=E;obtain⟨J,rfl⟩:=G;exact add_str (fun J L=>⟨.str (i++j),H,I.tok _,⟨_,rfl⟩,q⟩) D
theorem vG{x:V}{s:List Value}(r:Vals [x] s):∃u,s=[u]/\RelV x u:=by
 cases r with
 | cons t B=>cases B;exact⟨_,rfl,t⟩
theorem ZT{x y:V}{s:List Value}(r:Vals [x,y] s):∃u t,s=[u,t]/\RelV x u/\RelV y t:=by
 cases r with
 | cons B D=>
  cases D with
  | cons E G=>cases G;exact⟨_,_,rfl,B,E⟩
inductive Q5(s:List V)(H:Hp)(Q:VK):Prop
 | mk (i:_) (_:s=[.int i]) (_:Q (.int (if i<0 then -i else i)) H):Q5 s H Q
theorem vm:CallR X (.builtin "abs") (Q5):=by
 intro B s σ H G E Q I r h;obtain⟨i,rfl,q⟩:=h;obtain⟨u,rfl,t,rfl⟩:=vG r;exact call_abs_int fun u D=>⟨.int (if i<0 then -i else i),H,I.tok _,⟨_,rfl⟩,q⟩
inductive ZD(s:List V)(H:Hp)(Q:VK):Prop
 | mk (i j:_) (_:s=[.int i,.int j]) (_:Q (.int (if j>i then j else i)) H):ZD s H Q
theorem yV(hc:X.calm=true):CallR X (.builtin "max") (ZD):=by
 intro D s σ H N L Q I r h;obtain⟨i,j,rfl,q⟩:=h;obtain⟨u,M,rfl,⟨t,rfl⟩,⟨G,rfl⟩⟩:=ZT r;refine max_two_ints (I.ok.hd hc) fun E J k=>⟨_,H,I.kept k,?_,q⟩
 by_cases B:j>i
 ·rw[zq B,zq B];exact⟨_,rfl⟩
 ·rw[zo B,zo B];exact⟨_,rfl⟩
inductive ZC(s:List V)(H:Hp)(Q:VK):Prop
 | mk (i j:_) (_:s=[.int i,.int j]) (_:Q (.int (if j<i then j else i)) H):ZC s H Q
theorem zbG(hc:X.calm=true):CallR X (.builtin "min") (ZC):=by
 intro D s σ H N L Q I r h;obtain⟨i,j,rfl,q⟩:=h;obtain⟨u,M,rfl,⟨t,rfl⟩,⟨G,rfl⟩⟩:=ZT r;refine min_two_ints (I.ok.hd hc) fun E J k=>⟨_,H,I.kept k,?_,q⟩
 by_cases B:j<i
 ·rw[zq B,zq B];exact⟨_,rfl⟩
 ·rw[zo B,zo B];exact⟨_,rfl⟩
theorem JK:CallR X (.type "int") (fun B H Q=>(∃i,B=[.int i]/\Q (.int i) H)\/∃k,B=[.bl k]/\Q (.int (if k then 1 else 0)) H):=by
 intro D s σ H B G Q I r h;rcases h with ⟨i,rfl,q⟩ | ⟨k,rfl,q⟩
 ·obtain⟨u,rfl,t,rfl⟩:=vG r
  exact call_int_int ⟨.int i,H,I,⟨_,rfl⟩,q⟩
 ·obtain⟨u,rfl,E⟩:=vG r
  cases E;exact call_int_bool ⟨.int (if k then 1 else 0),H,I.tok _,⟨_,rfl⟩,q⟩
inductive wM(s:List V)(H:Hp)(Q:VK):Prop
 | mk (i j:_) (_:s=[.int i,.int j]) (_:zhT i j) (_:∀p,H p=none->Q (.ref p) (upd H p (.tup [.int (i/j),.int (i % j)]))):wM s H Q
theorem Wh:CallR X (.builtin "divmod") (wM):=by
 intro B s σ H N L Q I r h;obtain⟨i,j,rfl,⟨E,G⟩,q⟩:=h;obtain⟨u,M,rfl,⟨t,rfl⟩,⟨J,rfl⟩⟩:=ZT r;refine divmod_int (by omega) ?_ (.inl (PyProof.noPylong_small (by omega)))
 rw[zdJ i (by omega),zdI i (by omega)]
 have D:H s.heap.objs.size=none:=I.hok.fresh (zC _);refine⟨.ref s.heap.objs.size,_,?_,rfl,q _ D⟩
 refine I.laid (fun b o e=>zO _ e) (zC _) ⟨by simp only[jP,QN];rw[sizeLine_eq];decide,[.int (i/j) s.toks,.int (i % j) (s.toks+1)],.cons ⟨_,rfl⟩ (.cons ⟨_,rfl⟩ .nil),?_⟩
 exact⟨⟨_,zQ s.heap rfl,rfl,0,rfl⟩,_,zQ s.heap rfl,rfl⟩
end
structure ObjM(h:Heap)(x dx C:Addr)(mA:Str->Option Value):Prop where
 obj:h.get? x=some (PySem.W.instObj C dx)
 ns:h.Ns1 dx mA
 ne:dx≠x
theorem zbp{h:Heap}{l:Addr}{w:Str->Option Value}(n:h.Ns1 l w):∃A,h.get? l=some A/\∀c,PySem.W.lookIn c A=some (w c):=by
 obtain⟨o,s,H,G,D,hk,_,E⟩:=n;refine⟨o,G,fun c=>?_⟩
 have e:=E c;unfold nsFind findBy at e;rw[<- Array.find?_toList] at e
 unfold PySem.W.lookIn;rw[D];dsimp only;split
 ·rename_i y q
  rw[q] at e;exact congrArg some e
 ·rename_i q
  rw[q] at e;have a:s.toList.any (·.refKey)=false:=by
   rw[List.any_eq_false];intro y hy;obtain⟨z,t,g⟩:=hk y (Array.mem_toList_iff.mp hy);simp[DictEntry.refKey,g]
  have B:¬s.toList.any (·.refKey)=true:=by rw[a];exact qF
  rw[zo B];exact congrArg some e
theorem ObjM.look{h:Heap}{x l C:Addr}{s:Str->Option Value}(I:ObjM h x l C s):∃g,PySem.W.InstAt h x (PySem.W.instObj C l) C (some g)/\∀c,PySem.W.lookIn c g=some (s c):=
 let ⟨g,w,t⟩:=zbp I.ns
 ⟨g,⟨I.obj,rfl,rfl,w⟩,t⟩
section
variable{g:Program}{w:World}{A:Around}{E:Value->Shared->Prop}{s:Shared}{K:W.Frag}{x l C f:Addr}{t:Str->Option Value}{c:Str}{v:Value}
end
theorem RelO.none_of{o:Option Value}(r:RelO none o):o=none:=by
 cases o with
 | none=>rfl
 | some u=>exact(show False from r).elim
section
variable{P:Program}{w:World}{H g:Hp}{h t:Heap}{a C l:Addr}{s c:List (Str×V)}
end
structure Cls(K:W.Frag)(C:Addr):Prop where
 pg:PySem.W.plainGet K C Str.empty=true
 hd:PySem.W.hasDictIn K C=true
 po:PySem.W.plainOver K C=true
 sa:PySem.W.findIn K (.ref C) "__setattr__" = some (some (.builtin "object.__setattr__"))
theorem Cls.get{K:W.Frag}{C:Addr}(c:Cls K C)(f:Str):PySem.W.plainGet K C f=true:=c.pg
structure Con(K:W.Frag)(C:Addr)(f:Str)(v:V)(u:Value):Prop where
 at_:PySem.W.findIn K (.ref C) f=some (some u)
 rel:RelV v u
 get:PySem.W.specialIn K u "__get__" = some none
 cp:PySem.W.copiedNames.contains f=false
structure Meth(K:W.Frag)(C:Addr)(m:Str)(f:Addr):Prop where
 at_:PySem.W.findIn K (.ref C) m=some (some (.ref f))
 fn:PySem.W.isFn K (.ref f)=true
 kp:PySem.W.keepIn K (.ref f)=true
section
variable{X:Cx}{c:List (Addr×Obj)}{σ:St}{H:Hp}{s:Shared}{a C g:Addr}{l:List (Str×V)}{f:Str}{v:V}{A:Around}{E:Value->Shared->Prop}
theorem Inv.made(I:Inv X c σ H s):Inv X c σ (upd (upd H s.heap.objs.size (.own (s.heap.objs.size+1))) (s.heap.objs.size+1) (.ins C s.heap.objs.size []))
  { s with heap:=(s.heap.push PySem.W.emptyDict).push (PySem.W.instObj C s.heap.objs.size) }:=by
 have t:(s.heap.push PySem.W.emptyDict).get? s.heap.objs.size=some PySem.W.emptyDict:=zQ s.heap rfl;have B:((s.heap.push PySem.W.emptyDict).push (PySem.W.instObj C s.heap.objs.size)).get? (s.heap.objs.size+1)=some (PySem.W.instObj C s.heap.objs.size):=by
  have:=zQ (s.heap.push PySem.W.emptyDict) (o:=PySem.W.instObj C s.heap.objs.size) rfl;rwa[qS] at this
 have D:(s.heap.push PySem.W.emptyDict).Ns s.heap.objs.size (fun _=>none):=⟨PySem.W.emptyDict,#[],_,t,rfl,(fun e G=>absurd G (by simp)),fun _=>rfl⟩
 have w:=I.laid (a:=s.heap.objs.size) (o:=.own (s.heap.objs.size+1)) (h':=s.heap.push PySem.W.emptyDict) (t':=s.toks) (fun b u q=>zO _ q) (zC _) ⟨_,t⟩
 refine w.laid (a:=s.heap.objs.size+1) (o:=.ins C s.heap.objs.size []) (t':=s.toks) (fun b u q=>zO _ q) (wc (qS _ _)) ?_
 have ne:s.heap.objs.size≠s.heap.objs.size+1:=zM (j9 _);refine⟨by rw[zw ne,zg],qk _,ne,B,fun _=>none,(Heap.Ns1.of_empty D).at fun o q=>zO _ q,fun _=>True.intro,fun y hy=>absurd rfl hy⟩
end
section
variable{X:Cx}{o e c:Expr}{f:Str}{s g l:Pos}{t w:TE}
end
section
variable{X:Cx}{g:List (Addr×Obj)}{σ:St}{H:Hp}{s:Shared}{A:Around}{E:Value->Shared->Prop}{Q:Value->Shared->Prop}{c:Value}{b:Bool}
inductive Q0(K:W.Frag)(H:Hp):V->Value->Prop where
 | non:Q0 K H .non (.type "NoneType")
 | bl (x:Bool):Q0 K H (.bl x) (.type "bool")
 | int (i:Int):Q0 K H (.int i) (.type "int")
 | str (x:Str):Q0 K H (.str x) (.type "str")
 | flt (x:UInt64):Q0 K H (.flt x) (.type "float")
 | lst {a:Addr} {t:List V} (e:H a=some (.lst t)):Q0 K H (.ref a) (.type "list")
 | frz {a:Addr} {o:Obj} {t:List V} (e:H a=some (.frz o (.lst t))):Q0 K H (.ref a) (.type "list")
 | tup {a:Addr} {t:List V} (e:H a=some (.tup t)):Q0 K H (.ref a) (.type "tuple")
 | dK {a:Addr} {l:List (Key×V)} (e:H a=some (.dK l)):Q0 K H (.ref a) (.type "dict")
 | dT {a:Addr} {l:List (List Key×V)} (e:H a=some (.dT l)):Q0 K H (.ref a) (.type "dict")
 | ins {a C w:Addr} {B:List (Str×V)} (e:H a=some (.ins C w B)) (G:Cls K C) (I:PySem.W.findIn K (.ref C) "__class__" = some (some (.builtin "object.__class__")))
   (L:PySem.W.specialIn K (.builtin "object.__class__") "__get__" = some (some (.builtin "getset_descriptor.__get__"))) (D:PySem.W.takesIn K (.builtin "object.__class__")=some true)
   (J:PySem.W.mroIn K C (.type "object")=some true):Q0 K H (.ref a) (.ref C)
end
structure Room(k:Nat)(A:Around):Prop where
 hd:A.handled=none
 dp:A.depth+3*k+5<recursionLimit
 un:A.units+16*k+200<cLine
 gd:A.guards=some []
theorem Room.mono{j k:Nat}{A:Around}(r:Room k A)(h:j<=k):Room j A:=⟨r.hd,by have:=r.dp;omega,by have:=r.un;omega,r.gd⟩
theorem Room.m{j k:Nat}{A:Around}(r:Room k A)(h:j<=k:=by decide):Room j A:=r.mono h
theorem Room.deeper{k:Nat}{A:Around}(r:Room (k+1) A)(c:Env):Room k (A.deeper c):=
 ⟨r.hd,by have:=r.dp;show A.depth+1+3*k+5<_;omega,by have:=r.un;show A.units+3+16*k+200<_;omega,r.gd⟩
theorem Room.in1{k:Nat}{A:Around}(r:Room (k+1) A):Room k A.in1:=
 ⟨r.hd,by have:=r.dp;show A.depth+3*k+5<_;omega,by have:=r.un;show A.units+1+16*k+200<_;omega,r.gd⟩
theorem Room.depth{k:Nat}{A:Around}(r:Room k A):A.depth<recursionLimit:=by have:=r.dp;omega
theorem Room.units{k:Nat}{A:Around}(r:Room k A):A.units+64<cLine:=by have:=r.un;omega
theorem Room.units0{k:Nat}{A:Around}(r:Room k A):A.units<cLine:=by have:=r.un;omega
def zfy:TA:=fun _ H Q=>Q [] H
def x9(l:TE)(s:TA):TA:=fun σ H Q=>l σ H fun x c=>s σ c fun t g=>Q (x::t) g
section
variable{X:Cx}{e:Expr}{g:List Expr}{l:TE}{t:TA}{c:Pos}
theorem ze:PA X [] zfy:=fun _ _ _ _ H Q I h=>XT ⟨[],H,I,.nil,h⟩
theorem zd(G:PE X e l)(J:PA X g t)(L:starEach (e::g) X.env=(false,eval e X.env)::starEach g X.env:=by rfl):PA X (e::g) (x9 l t):=by
 intro c w s σ H Q I h;rw[L];show wpAny _ _ (spliced ((false,eval e X.env)::backTo c (starEach g X.env))) _ _ s;refine QR (thn (G w s σ H _ I h) fun u U ⟨x,A,D,O,M⟩=>?_)
 exact thn (J c w U σ A _ D M) fun us s2 ⟨Y,B,E,T,N⟩=>⟨x::Y,B,E,.cons O T,N⟩
def zhX(t:TA):TE:=fun σ H Q=>t σ H fun w s=>w.length<=sizeLine/\∀p,s p=none->Q (.ref p) (upd s p (.tup w))
def zh2(t:TA):TE:=fun σ H Q=>t σ H fun w s=>w.length<=sizeLine/\∀p,s p=none->Q (.ref p) (upd s p (.lst w))
theorem qG{J}(h:PA X g t):PE X (.Tuple g J c) (zhX t):=by
 intro w s σ H Q I hq;refine wpAny_Tuple_spliced (thn (h c w s σ H _ I hq) fun G A ⟨L,B,D,r,z,q⟩=>⟨by rw[<- r.length];exact z,?_⟩)
 have E:B A.heap.objs.size=none:=D.hok.fresh (zC _);refine⟨.ref A.heap.objs.size,upd B A.heap.objs.size (.tup L),D.laid (t':=A.toks) (fun b u e=>zO _ e) (zC _) ?_,rfl,q _ E⟩
 exact⟨z,G,r,⟨_,zQ _ rfl,rfl,_,rfl⟩,_,zQ _ rfl,rfl⟩
theorem qI(h:PA X g t):PE X (.List g c) (zh2 t):=by
 intro w s σ H Q I hq;refine wpAny_List_spliced (thn (h c w s σ H _ I hq) fun G A ⟨J,B,D,r,z,q⟩=>⟨by rw[<- r.length];exact z,?_⟩)
 have E:B A.heap.objs.size=none:=D.hok.fresh (zC _);refine⟨.ref A.heap.objs.size,upd B A.heap.objs.size (.lst J),D.laid (t':=A.toks) (fun b u e=>zO _ e) (zC _) ?_,rfl,q _ E⟩
 exact⟨z,G,0,r,zQ _ rfl⟩
end
abbrev Sp:=List V->Hp->VK->XK->Prop
abbrev CXT:=List Env->Hp->Shared->XK->Value->Shared->Prop
structure Env0(P:Program)(w:World)(K:W.Frag)(mg:Str->Option Value)(base:Heap)(A:Around)(outer:List Env)(s:Shared)(H:Hp):Prop where
 frames:A.frames=some outer
 mod:Mod K mg base
 bs:∀b o,base.get? b=some o->s.heap.get? b=some o/\H b=none
 bsz:base.objs.size<=s.heap.objs.size
 funs:s.heap.FunFrames base outer
 frf:∀b∈frs outer,H b=none
 hok:HOk P w H s.heap
 bare:AllBare s.gens
def CE(c:List Env)(P:Program)(w:World)(H:Hp)(s:Shared)(Q:VK)(u:Value)(g:Shared):Prop:=
 ∃v l,g.os=s.os/\AllBare g.gens/\Un (frs c) [] H l s.heap g.heap/\HOk P w l g.heap/\RelV v u/\Q v l
def CR(l:CXT)(c:List Env)(P:Program)(w:World)(H:Hp)(s:Shared)(Q:VK)(E:XK)(r:Result)(g:Shared):Prop:=
 match r with
 | .ok (.ret u)=>CE c P w H s Q u g
 | .ok _=>False
 | .error e=>l c H s E e g
structure FnOk(P:Program)(w:World)(K:W.Frag)(mg:Str->Option Value)(base:Heap)(CX:CXT)(k:Nat)(f:Addr)(fd:FuncData)(ps:List Str)(sp:Sp):Prop where
 len:∀vs H Q E,sp vs H Q E->vs.length=ps.length
 run:∀(A:Around) (outer:List Env) (s:Shared) (H:Hp) (args:Args) (us:List Value) (vs:List V) (Q:VK) (E:XK),Room k A->Env0 P w K mg base A outer s H->BindsTo s fd args (ps.zip us)->Vals vs us->sp vs H Q E ->
  codeAny (model P w) A (.call (.ref f) args) (CR CX outer P w H s Q E) s
theorem FnOk.mono{P:Program}{w:World}{K:W.Frag}{B:Str->Option Value}{c:Heap}{l:CXT}{j k:Nat}{f:Addr}{t:FuncData}{ps:List Str}{D:Sp}(F:FnOk P w K B c l j f t ps D)(h:j<=k) :
  FnOk P w K B c l k f t ps D:=⟨F.len,fun A g s H args I J Q E G=>F.run A g s H args I J Q E (G.mono h)⟩
theorem FnOk.imp{P:Program}{w:World}{K:W.Frag}{G:Str->Option Value}{c:Heap}{B:CXT}{k:Nat}{f:Addr}{D:FuncData}{ps:List Str}{I t:Sp}(F:FnOk P w K G c B k f D ps I)
  (h:∀l H Q E,t l H Q E->I l H Q E):FnOk P w K G c B k f D ps t:=
 ⟨fun l H Q E q=>F.len l H Q E (h _ _ _ _ q),fun A g s H args O l Q E L J hb N M=>F.run A g s H args O l Q E L J hb N (h _ _ _ _ M)⟩
theorem Env0.in1{P:Program}{w:World}{K:W.Frag}{l:Str->Option Value}{g:Heap}{A:Around}{c:List Env}{s:Shared}{H:Hp}(e:Env0 P w K l g A c s H) :
  Env0 P w K l g A.in1 c s H:=⟨e.frames,e.mod,e.bs,e.bsz,e.funs,e.frf,e.hok,e.bare⟩
section
variable{X:Cx}{c:List (Addr×Obj)}{σ:St}{H:Hp}{s l:Shared}
theorem Inv.env0(I:Inv X c σ H s):Env0 X.prog X.w X.K X.mg X.base X.A X.stack s H:=
 ⟨I.ok.frames,I.ok.mod,I.bs,jU I.ok.bsz I.sz,I.stack,I.stkFree,I.hok,I.bare⟩
theorem Inv.after{Q:VK}{u:Value}(I:Inv X c σ H s)(h:CE X.stack X.prog X.w H s Q u l):EP X c σ Q u l:=by
 obtain⟨v,D,os,w,un,A,r,q⟩:=h;obtain⟨E,g,d,t,B⟩:=l;obtain rfl:B=s.os:=os;exact⟨v,D,I.call (h':=E) (g':=g) (d':=d) (t':=t) (ch:=[]) un A w (fun b z=>absurd z (by simp)),r,q⟩
end
def zeZ(l:Sp)(c:List V)(E:XK)(t:TA):TE:=fun σ H Q=>t σ H fun s g=>l (s++c) g Q E
def Binds(K:W.Frag)(l:FuncData)(ps:List Str)(g:List Value):Prop:=
 ∀(s:Shared) (c:List Value),K.In s.heap->(c++g).length=ps.length->BindsTo s l ⟨c,[]⟩ (ps.zip (c++g))
theorem Binds.all{K:W.Frag}{g:FuncData}{ps:List Str}(h:∀c:List Value,c.length=ps.length->bindArgs g ⟨c,[]⟩=pure (ps.zip c)):Binds K g ps []:=fun s c _ l=>by
 rw[QM] at l ⊢;exact .of_eq (h c l)
def Yl(l:CXT)(X:Cx)(E:XK):Prop:=∀(c:List (Addr×Obj)) (σ:St) (H:Hp) (s:Shared) (e:Value) (g:Shared),Inv X c σ H s->l X.stack H s E e g->X.xe e g
section
variable{X:Cx}{A:CXT}{k:Nat}{f C:Addr}{B:FuncData}{ps:List Str}{D:Sp}{c:List V}{g:List Value}{E:XK}{x m:Str}{p l G:Pos}{e o:Expr}{w:List Expr}{J:TE}{t:TA}
theorem zfK{L:List (Addr×Obj)}{σ:St}{H:Hp}{s:Shared}{Q:VK}{M:List Value}{N:List V}(F:FnOk X.prog X.w X.K X.mg X.base A k f B ps D)(hr:Room k X.A)(hb:Binds X.K B ps g)(U:Vals c g)(hx:Yl A X E)
  (I:Inv X L σ H s) (r:Vals N M) (h:D (N++c) H Q E):wpAny (model X.prog X.w) X.A (call (.ref f) M) (EP X L σ Q) X.xe s:=by
 have O:Vals (N++c) (M++g):=r.append U;have Y:(M++g).length=ps.length:=by rw[<- O.length];exact F.len _ _ _ _ h
 refine wpAny_call (codeAny_mono (F.run X.A X.stack s H ⟨M,[]⟩ (M++g) (N++c) Q E hr I.env0 (hb s M I.kIn Y) O h) fun r s' hq=>?_)
 cases r with
 | error e=>exact hx L σ H s e s' I hq
 | ok T=>
  cases T with
  | ret u=>exact I.after hq
  | next=>exact False.elim hq
  | brk=>exact False.elim hq
  | cont=>exact False.elim hq
theorem zej(F:FnOk X.prog X.w X.K X.mg X.base A k f B ps D)(hr:Room k X.A)(hg:Gl X x)(hm:X.mg x=some (.ref f))(hk:PySem.W.keepIn X.K (.ref f)=true)(hb:Binds X.K B ps g)(U:Vals c g)(hx:Yl A X E)
  (T:PA X (e::w) t) (M:(x==("__debug__":Str))=false:=by decide) (Y:starEach (e::w) X.env=(false,eval e X.env)::starEach w X.env:=by rfl) (N:(backTo l (starEach w X.env)).any (·.1)=false:=by rfl) :
  PE X (.Call (.Name x p) (e::w) [] l) (zeZ D c E t):=by
 intro L s σ H Q I h;refine wpAny_Call_Name_kw (zeB I hg hm ?_ M)
 refine PySem.W.callWith_K (h₀:=X.base) I.ok.mod.kin hk (thn (T l L s σ H _ I h) fun us s1 ⟨vs,H1,O,r,q⟩=>⟨O.kIn,?_⟩) Y N
 exact zfK F hr hb U hx O r q
structure Mk(K:W.Frag)(C f:Addr):Prop where
 makes:PySem.W.makesIn K C=true
 init:PySem.W.findIn K (.ref C) "__init__" = some (some (.ref f))
 fn:PySem.W.isFn K (.ref f)=true
 kp:PySem.W.keepIn K (.ref C)=true
end
section
variable{X:Cx}{B:CXT}{k:Nat}{f C:Addr}{fd:FuncData}{ps ks:List Str}{H:Sp}{E:XK}{x m:Str}{p A c l:Pos}{e o:Expr}{D:List Expr}{w:List Keyword}{J I:TE}{t L:TA}{G:Option Str}
structure KBinds(K:W.Frag)(fd:FuncData)(ps ks:List Str)(g:List Value->List Value->List Value)(gV:List V->List V->List V):Prop where
 to:∀(s:Shared) (us ws:List Value),K.In s.heap->(g us ws).length=ps.length->BindsTo s fd ⟨us,ks.zip ws⟩ (ps.zip (g us ws))
 rel:∀{vs:List V} {us:List Value} {zs:List V} {ws:List Value},Vals vs us->Vals zs ws->Vals (gV vs zs) (g us ws)
variable{g:List Value->List Value->List Value}{gV:List V->List V->List V}
end
structure zG(N P:List Str)(sc:Scope):Prop where
 kind:sc.kind=.function
 co:sc.isCoroutine=false
 gen:sc.isGenerator=false
 nd:N.Nodup
 pre:N.take P.length=P
 par:∀x∈P,sc.names.lookup x=some .local\/sc.names.lookup x=some .cell
 nofree:∀y∈sc.names,y.2≠.free
theorem JL{kindOf:Str->Option NameKind}{x:Str}:∀{c:List (Str×Value)} {m:Str->Option Value},(∀v,(x,v)∉c)->bindL kindOf c m x=m x
 | [],_,_=>rfl
 | (n,v)::r,m,h=>by
  unfold bindL;rw[JL fun w g=>h w (z9 _ g)]
  split
  ·have:x≠n:=by rintro rfl;exact h v jW
   simp[this]
  ·rfl
theorem JN{kindOf:Str->Option NameKind}{x:Str}:∀{c:List (Str×Value)} {m:Str->Option Value},(∀v,(x,v)∉c)->bindC kindOf c m x=m x
 | [],_,_=>rfl
 | (n,v)::r,m,h=>by
  unfold bindC;rw[JN fun w g=>h w (z9 _ g)]
  split
  ·rfl
  ·have:x≠n:=by rintro rfl;exact h v jW
   simp[this]
theorem JM{kindOf:Str->Option NameKind}{x:Str}{v:Value}:∀{P:List Str} {c:List Value} {i:Nat} {m:Str->Option Value},P.Nodup->P[i]? =some x->c[i]? =some v->kindOf x=some .local ->
  bindL kindOf (P.zip c) m x=some v
 | [],_,_,_,_,h,_,_=>by simp at h
 | _::_,[],_,_,_,_,h,_=>by simp at h
 | p::P,w::c,0,m,s,g,l,hk=>by
  simp at g l;subst g;subst l
  show bindL kindOf ((p,w)::P.zip c) m p=_;unfold bindL;rw[JL fun v t=>(xW.mp s).1 (WS t).1,zq hk]
  simp
 | p::P,w::c,i+1,m,s,g,l,hk=>by
  show bindL kindOf ((p,w)::P.zip c) m x=_;unfold bindL;exact JM (i:=i) (xW.mp s).2 (by simpa using g) (by simpa using l) hk
theorem JO{kindOf:Str->Option NameKind}{x:Str}{v:Value}:∀{P:List Str} {c:List Value} {i:Nat} {m:Str->Option Value},P.Nodup->P[i]? =some x->c[i]? =some v->kindOf x≠some .local ->
  bindC kindOf (P.zip c) m x=some v
 | [],_,_,_,_,h,_,_=>by simp at h
 | _::_,[],_,_,_,_,h,_=>by simp at h
 | p::P,w::c,0,m,s,g,l,hk=>by
  simp at g l;subst g;subst l
  show bindC kindOf ((p,w)::P.zip c) m p=_;unfold bindC;rw[JN fun v t=>(xW.mp s).1 (WS t).1,zo hk]
  simp
 | p::P,w::c,i+1,m,s,g,l,hk=>by
  show bindC kindOf ((p,w)::P.zip c) m x=_;unfold bindC;exact JO (i:=i) (xW.mp s).2 (by simpa using g) (by simpa using l) hk
def Zg(N:List Str)(c:List V):St:=c.map some++List.replicate (N.length-c.length) none
def zbx(l:CXT)(P:Program)(w:World)(K:W.Frag)(mg:Str->Option Value)(base:Heap)(N:List Str)(qual:Str)(scope:Scope)(f:Addr)(g:Value)(A:Around)(outer:List Env)(s:Shared)(H:Hp)(E:XK):Cx where
 prog:=P
 w:=w
 K:=K
 mg:=mg
 base:=base
 A:=A.deeper (envOfC qual scope s.heap.objs.size f g)
 N:=N
 s₀:=s
 H₀:=H
 env:=envOfC qual scope s.heap.objs.size f g
 outer:=outer
 stack:=envOfC qual scope s.heap.objs.size f g::outer
 ex:=[]
 calm:=true
 fn:=fun _=>true
 pn:=[]
 xe:=fun e B=>wpAny (model P w) (A.deeper (envOfC qual scope s.heap.objs.size f g)) (leaving (envOfC qual scope s.heap.objs.size f g) e) (fun _ c=>l outer H s E e c) (fun t c=>l outer H s E t c) B
theorem Wf{g:Scope}{n:Nat}{x:Str}(h:g.names.lookup x=some .cell):∃c,(cellsFrom n g.names []).lookup x=some c:=by
 have q:=PySem.W.cellsFrom_some g.names n [] (.inl h);exact Option.isSome_iff_exists.mp q
theorem zbt{U:CXT}{P:Program}{w:World}{K:W.Frag}{Q:Str->Option Value}{t:Heap}{N ps:List Str}{qual:Str}{scope:Scope}{f:Addr}{L:Value}{A:Around}{g:List Env}{s Y:Shared}{H:Hp}{E:XK}{T:List Value}{G:List V}
  (S:zG N ps scope) (hd:A.handled=none) (B:Env0 P w K Q t A g s H) (hl:G.length=ps.length) (r:Vals G T)
  (x:InCallC s s.heap.objs.size (bindL (envOfC qual scope s.heap.objs.size f L).kindOf (ps.zip T) fun _=>none) (cellsFrom (s.heap.objs.size+1) scope.names []) (bindC (envOfC qual scope s.heap.objs.size f L).kindOf (ps.zip T) fun _=>none) Y) :
  Inv (zbx U P w K Q t N qual scope f L A g s H E) [] (Zg N G) H Y:=by
 have a0:ps.length<=N.length:=by have:=congrArg List.length S.pre;rw[jO] at this;omega
 obtain⟨M,tk,rfl,hk⟩:=x.done;have D:∀b:Addr,b∉(zbx U P w K Q t N qual scope f L A g s H E).ex:=fun b z=>absurd (show b∈([]:List Addr) from z) (by simp)
 refine⟨⟨B.mod,S.kind,rfl,rfl,zC _,fun y z c M l=>?_,fun y hy=>?_,fun y c _ h=>?_,fun _=>hd,Around.frames_deeper B.frames,.inr ⟨rfl,rfl⟩,fun b z=>absurd z (D b),B.bs,B.bsz,fun b _ _=>D b,fun b z=>absurd z (D b),B.funs,B.frf⟩,
  rfl,B.bare,Un.kept hk,⟨_,x.toInCall.ns,fun i y v M l h3=>?_⟩,fun y c h=>⟨_,x.cell y c h⟩,B.hok.fresh (zC _),fun y c h=>?_,fun p I=>absurd (show p∈([]:List (Addr×Obj)) from I) (by simp),B.hok.kept hk,?_⟩
 ·exact name_of_addr x.apart (vK M) (vK l)
 ·have hy:scope.names.lookup y=some .cell\/scope.names.lookup y=some .free:=hy
  rcases hy with hy | hy
  ·exact Wf hy
  ·exact absurd rfl (S.nofree _ (vK hy))
 ·exact vI (x.above y c (vK h))
 ·have O:i<G.length:=by
   unfold Zg at l;by_cases O:i<G.length
   ·exact O
   ·rw[jB (by simpa using O)] at l
    rw[List.getElem?_replicate] at l
    split at l<;>cases l
  have ha:G[i]? =some v:=by
   unfold Zg at l;rw[jR (by simpa using O),zZ] at l
   cases e:G[i]? with
   | none=>rw[e] at l;cases l
   | some a=>rw[e] at l;cases l;rfl
  obtain⟨u,hu,rv⟩:=r.get ha;have I:ps[i]? =some y:=by
   rw[<- S.pre,List.getElem?_take_of_lt (by omega)];exact M
  have J:ps.Nodup:=by rw[<- S.pre];exact S.nd.sublist (WV _ _)
  refine⟨u,rv,?_⟩
  rcases S.par y (jc I) with k | k
  ·exact .inl ⟨k,JM J I hu k⟩
  ·obtain⟨c,e⟩:=Wf (n:=s.heap.objs.size+1) k
   refine .inr ⟨.inl k,c,e,?_⟩
   have q:=x.cell y c e;rw[JO J I hu (by show scope.names.lookup y≠_;rw[k];decide)] at q
   exact q
 ·exact B.hok.fresh (vI (x.above y c (vK h)))
 ·unfold Zg
  show _=N.length;rw[zY,zr,wL];omega
theorem zhM{CX:CXT}{P:Program}{w:World}{K:W.Frag}{mg:Str->Option Value}{l:Heap}{k:Nat}{f:Addr}{L qual:Str}{B:Arguments}{body:List Stmt}{scope:Scope}{dV kV U pm g ct oc:Value}{an od:Option Addr}
  {a5:Array (Option Value)} {N ps:List Str} {sp:Sp} (lk:K.lookup f=some ⟨oc,od,.func (PySem.W.fnOf L qual B body scope dV kV U pm an g ct),a5⟩) (a3:PySem.W.codeIn K g qual=true) (S:zG N ps scope)
  (a2:∀D H Q E,sp D H Q E->D.length=ps.length)
  (M:∀(A:Around) (c:List Env) (s:Shared) (H:Hp) (D:List V) (Q:VK) (E:XK),Room k (A.deeper (envOfC qual scope s.heap.objs.size f g))->sp D H Q E ->
   ∃t,PSs (zbx CX P w K mg l N qual scope f g A c s H E) body t/\t { nx:=fun _ G=>Q .non G,rt:=Q } (Zg N D) H) :
  FnOk P w K mg l CX (k+1) f (PySem.W.fnOf L qual B body scope dV kV U pm an g ct) ps sp:=by
 refine⟨a2,fun A c s H args us D Q E hr Y hb r a1=>?_⟩
 have hl:=a2 _ _ _ _ a1;have KX:K.In s.heap:=Y.mod.kin.keeps fun b o e=>(Y.bs b o e).1
 have a4:s.heap.NoLimit:=Y.mod.nolimit.keeps fun b o e=>(Y.bs b o e).1
 have O:∀y∈ps.zip us,scope.names.lookup y.1=some .local\/(scope.names.lookup y.1=some .cell/\((cellsFrom (s.heap.objs.size+1) scope.names []).lookup y.1).isSome=true):=fun ⟨n,v⟩ hy=>by
  rcases S.par n (WS hy).1 with q | q
  ·exact .inl q
  ·exact .inr ⟨q,PySem.W.cellsFrom_some _ _ _ (.inl q)⟩
 refine codeAny_call_function hr.depth (KX _ _ lk) rfl S.co S.gen rfl (PySem.W.codeRec_of KX a3) (hb _ _ _ _ ?_)
 refine wpAny_newFunctionEnv_cells S.kind O fun a6 he s1 x=>?_
 subst he;refine⟨a4.keeps x.toInCall.keep,codeAny_func ?_⟩
 obtain⟨t,ht,hq⟩:=M A c s H D Q E (hr.deeper _) a1;have I:Inv (zbx CX P w K mg l N qual scope f g A c s H E) [] (Zg N D) H s1:=zbt S hr.hd Y hl r x;refine qA (ht [] s1 (Zg N D) H _ I hq) (fun fl s' T=>?_) fun e s' T=>T
 have a0:∀{σ':St} {G:Hp} {v:V} {u:Value},Inv (zbx CX P w K mg l N qual scope f g A c s H E) [] σ' G s'->RelV v u->Q v G->CE c P w H s Q u s':=
  fun {σ' G v u} J rv q=>⟨v,G,J.os,J.bare,J.base,J.hok,rv,q⟩
 cases fl with
 | ret u=>
  obtain⟨v,σ',G,J,rv,q⟩:=T;exact a0 J rv q
 | next=>
  obtain⟨σ',G,J,q⟩:=T;exact a0 (v:=V.non) (u:=Value.none) J rfl q
 | brk=>
  obtain⟨_,_,_,q⟩:=T;exact False.elim q
 | cont=>
  obtain⟨_,_,_,q⟩:=T;exact False.elim q
section
variable{X:Cx}{x:Str}{p c:Pos}{e:Expr}{g:List Expr}{t:TA}{id T:String}{r:List V->Hp->VK->Prop}
def tCB(r:List V->Hp->VK->Prop)(t:TA):TE:=fun σ H Q=>t σ H fun s l=>r s l Q
theorem zv(hc:CallR X (.builtin id) r)(J:Gl X x)(L:X.mg x=none)(N:bootBuiltins x=some (.builtin id))(E:PA X (e::g) t)(M:x ≠ "__name__" :=by decide)(w:(x==("__debug__":Str))=false:=by decide)
  (G:starEach (e::g) X.env=(false,eval e X.env)::starEach g X.env:=by rfl) (A:(backTo c (starEach g X.env)).any (·.1)=false:=by rfl):PE X (.Call (.Name x p) (e::g) [] c) (tCB r t):=by
 intro l s σ H Q I h;refine wpAny_Call_Name_kw (vV I J L N ?_ M w)
 exact PyProof.Rows.callWith_builtin1 (thn (E c l s σ H _ I h) fun us Y ⟨vs,B,D,U,O⟩=>hc l Y σ B vs us Q D U O) G A
theorem qM(hc:CallR X (.type T) r)(J:Gl X x)(L:X.mg x=none)(N:bootBuiltins x=some (.type T))(E:PA X (e::g) t)(M:x ≠ "__name__" :=by decide)(w:(x==("__debug__":Str))=false:=by decide)
  (G:starEach (e::g) X.env=(false,eval e X.env)::starEach g X.env:=by rfl) (A:(backTo c (starEach g X.env)).any (·.1)=false:=by rfl):PE X (.Call (.Name x p) (e::g) [] c) (tCB r t):=by
 intro l s σ H Q I h;refine wpAny_Call_Name_kw (vV I J L N ?_ M w)
 exact JS (thn (E c l s σ H _ I h) fun us Y ⟨vs,B,D,U,O⟩=>hc l Y σ B vs us Q D U O) G A
end
end L2
namespace HT
open PySem PyProof.Rows
section
open PySem.SeqAt
open PySem.AutoSeq1 (wpAny_loadPart')
open PySem.MeetsSeq PySem.MeetsSeq2 PySem.MeetsSeq3
end
section
variable{c:Program}{w:World}{A:Around}{E:Value->Shared->Prop}{s:Shared}
theorem cat_tup{t b:Addr}{B g:List Value}{Q:Value->Shared->Prop}(ht:IsTup s.heap t B.toArray)(hb:IsTup s.heap b g.toArray)(U:B≠[])
  (h1:g=[]->Q (.ref t) s) (h2:g≠[]->Q (.ref s.heap.objs.size) { s with heap:=s.heap.push { cls:=.type "tuple",data:=.seq (B++g).toArray } })
  (M:B.length+g.length<=sizeLine):wpAny (model c w) A (binaryOp .Add (.ref t) (.ref b)) Q E s:=by
 obtain⟨⟨cls,O,data,sl⟩,J,hc,n,T⟩:=id ht;obtain⟨⟨N,D,data2,I⟩,l,G,Y,H⟩:=id hb;simp only at hc T G H;subst hc T G H;have e:B.toArray++g.toArray=(B++g).toArray:=by simp
 by_cases L:g=[]
 ·exact concat_meets ⟨_,J,rfl⟩ ⟨_,l,rfl⟩ noFill_tuple_add seq_tuple_add PySem.F.slot_tuple_add PySem.F.entry_tuple_add (PySem.F.args_tuple_add_2 _ _)
   (tuple_addW1 t b B.toArray g.toArray n Y O D sl I (by simpa using U) (by simp[L])) ⟨J,l,h1 L⟩
 ·refine concat_meets ⟨_,J,rfl⟩ ⟨_,l,rfl⟩ noFill_tuple_add seq_tuple_add PySem.F.slot_tuple_add PySem.F.entry_tuple_add (PySem.F.args_tuple_add_2 _ _)
   (tuple_addW2 t b B.toArray g.toArray n Y O D sl I (by simpa using U) (by simpa using L) (by rw[zX,zX];exact M)) ⟨J,l,?_⟩
  rw[e];exact h2 L
def sIx(n d:Nat):Option Int->Nat
 | none=>d
 | some v=>if v<0 then(v+(n:Int)).toNat else min v.toNat n
theorem sIx_none(n d:Nat):sIx n d none=d:=rfl
theorem sIx_nat(n d k:Nat):sIx n d (some (k:Int))=min k n:=by
 show(if(k:Int)<0 then((k:Int)+(n:Int)).toNat else min (k:Int).toNat n)=min k n
 rw[zo (by omega),xn]
theorem zfJ(n d:Nat)(l:d<=n)(o:Option Int):sIx n d o<=n:=by
 cases o with
 | none=>exact l
 | some v=>
  show(if v<0 then(v+(n:Int)).toNat else min v.toNat n)<=n
  by_cases g:v<0
  ·rw[zq g];omega
  ·rw[zo g];exact Nat.min_le_right _ _
theorem zat(v:Int)(n d:Nat):(if v<0 then max (v+(n:Int)) 0 else min v (n:Int))=((sIx n d (some v):Nat):Int):=by
 show(if v<0 then max (v+(n:Int)) 0 else min v (n:Int))=(((if v<0 then(v+(n:Int)).toNat else min v.toNat n):Nat):Int)
 by_cases g:v<0
 ·simp only[zq g];omega
 ·simp only[zo g];omega
theorem Yk(lo g:Option Int)(n:Nat):Builtin.Slice.sliceAdjust lo g 1 (n:Int)=(((sIx n 0 lo:Nat):Int),((sIx n n g:Nat):Int)):=by
 have l:¬((1:Int)<0):=by omega
 unfold Builtin.Slice.sliceAdjust;simp only[l,if_false];refine Prod.ext ?_ ?_
 ·cases lo with
  | none=>rfl
  | some v=>exact zat v n 0
 ·cases g with
  | none=>rfl
  | some v=>exact zat v n n
theorem WA(i j:Nat):Builtin.Slice.slicePlaces (i:Int) (j:Int) 1=j-i:=by
 unfold Builtin.Slice.slicePlaces;have g:(1:Int)>0:=by omega
 simp only[g,if_true,Int.ediv_one];split<;>omega
theorem Z1{v:Value}{o:Option Int}{Q:Option Int->Shared->Prop}(p:IsPart v o)(h:Q o s):wpAny (model c w) A (Builtin.Slice.slicePartIndex v) Q E s:=by
 cases p with
 | none=>exact slicePart_none h
 | int i t=>exact slicePart_int h
theorem yN{G:Addr}{B D:Value}{lo l:Option Int}{n:Nat}{Q:Int×Int×Nat->Shared->Prop}(I:s.heap.IsSliceOf G B D .none)(J:IsPart B lo)(L:IsPart D l)
  (h:Q (((sIx n 0 lo:Nat):Int),1,sIx n n l-sIx n 0 lo) s):wpAny (model c w) A (Builtin.Slice.sliceApplied (.ref G) (pure (n:Int))) Q E s:=by
 obtain⟨os,t,H,g⟩:=id I;unfold Builtin.Slice.sliceApplied Builtin.Slice.sliceFields;refine zn (zn (xz t g (x:=B) rfl (zn (xz t g (x:=D) rfl (zn (xz t g (x:=.none) rfl (zA ?_)))))))
 refine zn (slicePart_none ?_)
 show wpAny _ _ (if((1:Int)==0)=true then _ else _) _ _ s
 rw[zo (by decide)]
 refine zn (Z1 J (zn (Z1 L (zn (zA ?_)))))
 show wpAny _ _ (match Builtin.Slice.sliceAdjust lo l 1 (n:Int) with | (lo,l)=>pure (lo,(1:Int),Builtin.Slice.slicePlaces lo l 1)) _ _ s
 rw[Yk lo l n];show wpAny _ _ (pure (((sIx n 0 lo:Nat):Int),(1:Int),Builtin.Slice.slicePlaces ((sIx n 0 lo:Nat):Int) ((sIx n n l:Nat):Int) 1)) _ _ s;rw[WA];exact zA h
theorem zcy(g:Array Value)(i k:Nat):((List.range k).filterMap fun(m:Nat)=>g[((i:Int)+(m:Int)*1).toNat]?).toArray=((g.toList.drop i).take k).toArray:=by
 have e:(fun(m:Nat)=>g[((i:Int)+(m:Int)*1).toNat]?)=fun m=>g[i+m]?:=by
  funext m
  have:((i:Int)+(m:Int)*1).toNat=i+m:=by omega
  rw[this]
 rw[e];have:=pick_run g i k;rw[List.filterMap_map] at this;have l:((fun x=>g[x]?)∘fun x=>i+x)=fun m=>g[i+m]?:=rfl
 rw[l] at this;rw[this]
theorem getItem_tuple_cut{t L:Addr}{g:Array Value}{O T:Value}{lo B:Option Int}{Q:Value->Shared->Prop}(D:IsTup s.heap t g)(M:s.heap.IsSliceOf L O T .none)(pl:IsPart O lo)(pu:IsPart T B)
  (hw:¬(sIx g.size 0 lo=0/\sIx g.size g.size B=g.size))
  (h:Q (.ref s.heap.objs.size) { s with heap:=s.heap.push { cls:=.type "tuple",data:=.seq ((g.toList.drop (sIx g.size 0 lo)).take (sIx g.size g.size B-sIx g.size 0 lo)).toArray } })
  (Y:g.size<=sizeLine):wpAny (model c w) A (getItem (.ref t) (.ref L)) Q E s:=by
 have l:sizeOk (.seq ((g.toList.drop (sIx g.size 0 lo)).take (sIx g.size g.size B-sIx g.size 0 lo)).toArray):=by
  show((g.toList.drop (sIx g.size 0 lo)).take (sIx g.size g.size B-sIx g.size 0 lo)).toArray.size<=sizeLine;rw[zX,jO,yb,j8];omega
 have hj:sIx g.size g.size B<=g.size:=zfJ _ _ (zC _) B;obtain⟨os,J,H,U⟩:=id M;have G:s.TypeIs (.ref L) "slice" :=⟨os,J,H⟩;unfold getItem;try with_reducible refine xO ?_
 first| refine zn (zA ?_) | skip
 refine zn (wpAny_sequenceKey D.typeIs (by decide) ?_)
 refine zn (Zw (name:=Str.ofString "__getitem__") D.typeIs Yi
  (xX Yi D.typeIs entry_tuple_getitem ?_ (args_tuple_getitem _ _)))
 show wpAny _ _ (Builtin.Tuple.tupleItemsOf (.ref t) >>= _) _ _ s;refine zn (tupleItemsOf_ D ?_)
 refine zn (wpAny_typeOf G ?_)
 rw[zq (by decide)]
 refine zn (yN M pl pu ?_)
 have I:¬((((sIx g.size 0 lo:Nat):Int)==0&&(1:Int)==1&&(sIx g.size g.size B-sIx g.size 0 lo)==g.size)=true):=by
  intro q;rw[qE,qE] at q;have q1:((sIx g.size 0 lo:Nat):Int)=0:=eq_of_beq q.1.1;have q2:sIx g.size g.size B-sIx g.size 0 lo=g.size:=eq_of_beq q.2;exact hw ⟨by omega,by omega⟩
 show wpAny _ _ (if(((sIx g.size 0 lo:Nat):Int)==0&&(1:Int)==1&&(sIx g.size g.size B-sIx g.size 0 lo)==g.size)=true then _ else _) _ _ s
 rw[zo I,zcy];first
  | exact zn (m:=Builtin.Tuple.tupleExact _) (jV (zA ⟨_,rfl,zA h⟩) l)
  | exact zn (m:=Builtin.Tuple.tupleExact _) (jV (zn (zA (zA ⟨_,rfl,zA h⟩))) l)
  | exact zn (zn (m:=Builtin.Tuple.tupleExact _) (jV (zA (zA ⟨_,rfl,zA h⟩)) l))
  | exact zn (zn (m:=Builtin.Tuple.tupleExact _) (jV (zA ⟨_,rfl,zA h⟩) l))
end
end HT
namespace L2
open PySem PySem.Spec PyProof.Rows
abbrev TO:=St->Hp->(Option Int->Hp->Prop)->Prop
def PO(X:Cx)(e:Option Expr)(t:TO):Prop:=
 ∀(c:List (Addr×Obj)) (s:Shared) (σ:St) (H:Hp) (Q:Option Int->Hp->Prop),Inv X c σ H s->t σ H Q ->
  wpAny (model X.prog X.w) X.A (evalPart e X.env) (fun u l=>∃o g,Inv X c σ g l/\IsPart u o/\Q o g) X.xe s
def zd1:TO:=fun _ H Q=>Q none H
def zgF(t:TE):TO:=fun σ H Q=>t σ H fun x c=>IsI x c fun i c=>Q (some i) c
section
variable{X:Cx}{e:Expr}{g:TE}{lo c:Option Expr}{D B:TO}{E A:Pos}
theorem wv:PO X none zd1:=by
 intro l s σ H Q I h;rw[evalPart_none];exact zA ⟨none,H,I,.none,h⟩
theorem xV(h:PE X e g):PO X (some e) (zgF g):=by
 intro l s σ H Q I J;rw[evalPart_some];refine thn (h l s σ H _ I J) fun u N ⟨x,w,G,M,L⟩=>?_
 obtain⟨i,rfl,q⟩:=L;obtain⟨t,rfl⟩:=M;exact⟨some i,w,G,.int i t,q⟩
def SlR(X:Cx)(r:V->Option Int->Option Int->Hp->VK->Prop):Prop:=
 ∀(l:List (Addr×Obj)) (s:Shared) (σ:St) (H:Hp) (x:V) (v w G:Value) (lo c:Option Int) (t:Addr) (Q:VK),Inv X l σ H s->RelV x v->s.heap.IsSliceOf t w G .none->IsPart w lo->IsPart G c->r x lo c H Q ->
  ∃T id,typeLookup (.type T) "__getitem__" = pure (some (.builtin id))/\s.TypeIs v T/\wpAny (model X.prog X.w) X.A (getItem v (.ref t)) (EP X l σ Q) X.xe s
theorem SlR.or{r J:V->Option Int->Option Int->Hp->VK->Prop}(h:SlR X r)(T:SlR X J):SlR X (fun x lo c H Q=>r x lo c H Q\/J x lo c H Q):=by
 intro l s σ H x v N O lo c M Q I L t w G q;rcases q with q | q
 ·exact h l s σ H x v N O lo c M Q I L t w G q
 ·exact T l s σ H x v N O lo c M Q I L t w G q
def tSl(r:V->Option Int->Option Int->Hp->VK->Prop)(g:TE)(D B:TO):TE:=fun σ H Q=>g σ H fun x s=>D σ s fun l t=>B σ t fun u w=>r x l u w Q
theorem xK{r:V->Option Int->Option Int->Hp->VK->Prop}(hr:SlR X r)(he:PE X e g)(hl:PO X lo D)(hu:PO X c B):PE X (.Subscript e (.Slice lo c none A) E) (tSl r g D B):=by
 intro t s σ H Q I h;refine Subscript_ (thn (he t s σ H _ I h) fun v s1 ⟨x,M,O,r1,q1⟩=>?_)
 refine wpAny_Slice (thn (hl t s1 σ M _ O q1) fun G s2 ⟨l,N,U,pl,q2⟩=>thn (hu t s2 σ N _ U q2) fun J w ⟨u,L,Y,pu,q3⟩=>?_)
 rw[evalPart_none];refine zA ?_
 have I4:Inv X t σ L { w with heap:=w.heap.push { cls:=.type "slice",data:=.fields #[G,J,.none] } }:=Y.kept (t':=w.toks) fun b ob q=>zO _ q
 obtain⟨T,id,hT,ht,hg⟩:=hr t { w with heap:=w.heap.push { cls:=.type "slice",data:=.fields #[G,J,.none] } } σ L x v G J l u w.heap.objs.size Q I4 r1 (Heap.IsSliceOf.new ..) pl pu q3;show wpAny (model X.prog X.w) X.A (subscriptTail e (.Slice lo c none A) v (.ref w.heap.objs.size)) (EP X t σ Q) X.xe { w with heap:=w.heap.push { cls:=.type "slice",data:=.fields #[G,J,.none] } };exact tail_any (ops:=[.ref w.heap.objs.size,v]) ht hT hg (by with_unfolding_all rfl)
def jS(l:List V)(lo c:Option Int):List V:=(l.drop (HT.sIx l.length 0 lo)).take (HT.sIx l.length l.length c-HT.sIx l.length 0 lo)
theorem Zo(l:List V)(lo c:Option Int):(jS l lo c).length<=l.length:=by
 unfold jS;rw[jO,yb];omega
inductive zha(K:W.Frag)(x:V)(lo:Option Int)(c:Option Int)(H:Hp)(Q:VK):Prop
 | mk (a l:_) (_:x=.ref a) (_:SqT K H a l) (_:¬(HT.sIx l.length 0 lo=0/\HT.sIx l.length l.length c=l.length)) (_:∀p,H p=none->Q (.ref p) (upd H p (.tup (jS l lo c)))):zha K x lo c H Q
theorem zfG:SlR X (zha X.K):=by
 intro L s σ H x v vl vu lo c sl Q I U M O T h;obtain⟨a,t,rfl,hx,N,q⟩:=h;cases U;obtain⟨w,r,G,J⟩:=I.tuple hx;have l:w.toArray.size=t.length:=by rw[zX];exact r.length.symm
 refine⟨"tuple",_,Yi.lookup,G.typeIs,?_⟩
 refine HT.getItem_tuple_cut G M O T (by rw[l];exact N) ?_ (by rw[l];exact J)
 rw[l];refine⟨.ref s.heap.objs.size,_,I.laid (t':=s.toks) (o:=.tup (jS t lo c)) (fun b Y q=>zO _ q) (zC _) ?_,rfl,q _ (I.hok.fresh (zC _))⟩
 exact⟨jU (Zo t lo c) J,_,(r.drop (HT.sIx t.length 0 lo)).take (HT.sIx t.length t.length c-HT.sIx t.length 0 lo),⟨IsTup.new _ _,_,zQ _ rfl,rfl⟩⟩
inductive zfn(K:W.Frag)(x:V)(y:V)(H:Hp)(Q:VK):Prop
 | mk (a b s l:_) (_:x=.ref a) (_:y=.ref b) (_:SqT K H a s) (_:SqT K H b l) (_:s≠[]) (_:s.length+l.length<=sizeLine) (_:(l=[]->Q (.ref a) H)) (_:(l≠[]->∀p,H p=none->Q (.ref p) (upd H p (.tup (s++l))))):zfn K x y H Q
theorem Vals.nil_iff{s:List V}{l:List Value}(r:Vals s l):l=[]↔s=[]:=by
 cases r with
 | nil=>simp
 | cons _ _=>simp
theorem zab:OpR X (binaryOp .Add) (zfn X.K):=by
 intro L s σ H x y v u Q I Y ry h;obtain⟨a,b,xs,ys,rfl,rfl,M,hb,hx,G,T,U⟩:=h;cases Y;cases ry;obtain⟨N,t,O,_⟩:=I.tuple M;obtain⟨J,l,A,_⟩:=I.tuple hb;refine HT.cat_tup O A (fun z=>hx (t.nil_iff.mp z)) (fun z=>⟨.ref a,H,I,rfl,T (l.nil_iff.mp z)⟩) (fun z=>?_) (by rw[<- t.length,<- l.length];exact G)
 refine⟨.ref s.heap.objs.size,_,I.laid (t':=s.toks) (o:=.tup (xs++ys)) (fun b ob q=>zO _ q) (zC _) ?_,rfl,U (fun w=>z (l.nil_iff.mpr w)) _ (I.hok.fresh (zC _))⟩
 exact⟨by rw[zY];exact G,_,t.append l,⟨IsTup.new _ _,_,zQ _ rfl,rfl⟩⟩
end
def ixN(n:Nat)(i:Int):Option Nat:=if 0<=i then(if i<n then some i.toNat else none) else if -(n:Int)<=i then some (i+n).toNat else none
def atI{α:Type}(c:List α)(i:Int):Option α:=(ixN c.length i).bind fun j=>c[j]?
theorem zak{n:Nat}{i:Int}{j:Nat}(h:ixN n i=some j):seqIndex? i n=some j/\j<n/\ -(n:Int)<=i/\i<n:=by
 unfold ixN at h;by_cases g:0<=i
 ·rw[zq g] at h
  by_cases c:i<n
  ·rw[zq c] at h
   have e:i.toNat=j:=qU h;exact⟨by rw[seqIndex_of g c,e],by omega,by omega,c⟩
  ·rw[zo c] at h;cases h
 ·rw[zo g] at h
  by_cases c:-(n:Int)<=i
  ·rw[zq c] at h
   have e:(i+n).toNat=j:=qU h;exact⟨by rw[seqIndex_neg (by omega) c,e],by omega,c,by omega⟩
  ·rw[zo c] at h;cases h
theorem Xz{α:Type}{c:List α}{i:Int}{v:α}(h:atI c i=some v):∃j,seqIndex? i c.length=some j/\c[j]? =some v/\j<c.length/\ -(c.length:Int)<=i/\i<c.length:=by
 unfold atI at h;cases e:ixN c.length i with
 | none=>rw[e] at h;cases h
 | some j=>
  rw[e] at h;obtain⟨g,l,s,t⟩:=zak e;exact⟨j,g,h,l,s,t⟩
theorem qy{α:Type}{xs:List α}{j:Nat}{v:α}(h:xs[j]? =some v):atI xs (j:Int)=some v:=by
 have c:j<xs.length:=(zT.mp h).1;have e:ixN xs.length (j:Int)=some j:=by
  unfold ixN;rw[zq (by omega),zq (by omega)];simp
 unfold atI;rw[e];exact h
def zeV(b:Expr):Prop:=∀o i,subscripted b false o i=operate [o,i] (getItem o i)
def IxR(X:Cx)(r:R2):Prop:=
 ∀(l c:Expr) (g:List (Addr×Obj)) (s:Shared) (σ:St) (H:Hp) (x y:V) (v u:Value) (Q:VK),Inv X g σ H s->RelV x v->RelV y u->r x y H Q ->
  subscripted c false v u=operate [v,u] (getItem v u)->wpAny (model X.prog X.w) X.A (subscriptTail l c v u) (EP X g σ Q) X.xe s
def MtR(X:Cx)(id:String)(r:V->List V->Hp->VK->Prop):Prop:=
 ∀(c:List (Addr×Obj)) (s:Shared) (σ:St) (H:Hp) (x:V) (l:List V) (v:Value) (g:List Value) (Q:VK),Inv X c σ H s->RelV x v->Vals l g->r x l H Q ->
  wpAny (model X.prog X.w) X.A (call (.builtin id) (v::g)) (EP X c σ Q) X.xe s
section
variable{X:Cx}{a b:Expr}{J L:TE}{G:Pos}
theorem IxR.or{r M:R2}(h:IxR X r)(U:IxR X M):IxR X (fun x y H Q=>r x y H Q\/M x y H Q):=by
 intro l c w s σ H x y v u Q I N O q A;rcases q with q | q
 ·exact h l c w s σ H x y v u Q I N O q A
 ·exact U l c w s σ H x y v u Q I N O q A
theorem MtR.or{id:String}{r w:V->List V->Hp->VK->Prop}(h:MtR X id r)(O:MtR X id w):MtR X id (fun x l H Q=>r x l H Q\/w x l H Q):=by
 intro c s σ H x l v N Q I M A q;rcases q with q | q
 ·exact h c s σ H x l v N Q I M A q
 ·exact O c s σ H x l v N Q I M A q
theorem zJ{r:R2}(M:IxR X r)(A:PE X a J)(hb:PE X b L)(N:zeV b):PE X (.Subscript a b G) (tOp r J L):=by
 intro c s σ H Q I h;exact Subscript_ (zgz A hb I h fun v u Y x y l w O U q=>M a b c Y σ l x y v u Q w O U q (N _ _))
inductive zfM(K:W.Frag)(x:V)(y:V)(H:Hp)(Q:VK):Prop
 | mk (p c i v:_) (_:x=.ref p) (_:y=.int i) (_:SqL K H p c) (_:atI c i=some v) (_:Q v H):zfM K x y H Q
inductive zfL(K:W.Frag)(x:V)(y:V)(H:Hp)(Q:VK):Prop
 | mk (p c i v:_) (_:x=.ref p) (_:y=.int i) (_:SqT K H p c) (_:atI c i=some v) (_:Q v H):zfL K x y H Q
inductive zhc(x:V)(y:V)(H:Hp)(Q:VK):Prop
 | mk (z i c:_) (_:x=.str z) (_:y=.int i) (_:z.length<=sizeLine) (_:atI z.cps.toList i=some c) (_:Q (.str ⟨#[c]⟩) H):zhc  x y H Q
theorem z6:IxR X (zfM X.K):=by
 intro a0 Y c s σ H x y v u Q I rx ry h hs;obtain⟨p,xs,i,z,rfl,rfl,hq,he,q⟩:=h;cases rx;obtain⟨t,rfl⟩:=ry;obtain⟨N,r,O,hz⟩:=I.list hq;obtain⟨j,A,h2,h3,h4,h5⟩:=Xz he;obtain⟨w,ew,U⟩:=r.get h2;have hl:=r.length;have hn:=Ql;have l:EP X c σ Q w s:=⟨z,H,I,U,q⟩;by_cases h0:0<=i
 ·have M:i.toNat=j:=by
   rw[seqIndex_of h0 h5] at A;exact qU A
  exact item_listR O.isList h0 (by omega) (by rw[M];simpa using ew) l hs
 ·have M:(i+(N.toArray.size:Int)).toNat=j:=by
   rw[seqIndex_neg (by omega) h4] at A
   rw[zX,<- hl];exact qU A
  exact subscriptTail_builtinR (x:=w) O.isList.typeIs slot_list_getitem.lookup
   (wpAny_getItem_list_neg (Q:=fun r s'=>r=w/\EP X c σ Q r s') O.isList (by omega) (by rw[zX]<;>omega) (by omega) (by rw[M];simpa using ew) ⟨rfl,l⟩) hs
theorem qr:IxR X (zfL X.K):=by
 intro N M c s σ H x y v u Q I rx ry h hs;obtain⟨p,xs,i,z,rfl,rfl,hq,he,q⟩:=h;cases rx;obtain⟨t,rfl⟩:=ry;obtain⟨a0,r,O,hz⟩:=I.tuple hq;obtain⟨j,Y,h2,h3,h4,h5⟩:=Xz he;obtain⟨w,U,A⟩:=r.get h2;have hl:=r.length;have hn:=Ql;have l:EP X c σ Q w s:=⟨z,H,I,A,q⟩;exact subscriptTail_builtinR (x:=w) O.typeIs slot_tuple_getitem.lookup
  (getItem_tuple (j:=j) (Q:=fun r s'=>r=w/\EP X c σ Q r s') O (by omega) (by omega) (by rw[zX,<- hl];exact Y) (by simpa using U) ⟨rfl,l⟩) hs
theorem zgr:IxR X zhc:=by
 intro w l M s σ H x y v u Q I rx ry h hs;obtain⟨z,i,c,rfl,rfl,hz,he,q⟩:=h;obtain⟨t,rfl⟩:=rx;obtain⟨t',rfl⟩:=ry;obtain⟨j,A,U,h3,Y,h5⟩:=Xz he;have hl:z.cps.toList.length=z.length:=by simp[Str.length]
 rw[hl] at A Y h5;have hn:=Ql;exact tail_any (typeIs_str s z t) slot_str_getitem.lookup (getItem_str (c:=c) (by
  have N:decide (i< -(2^63:Int))=false:=jb (by omega)
  have O:decide (i≥2^63)=false:=jb (by omega)
  rw[N,O,Bool.or_false]) (by rw[A];simpa using U) ⟨.str ⟨#[c]⟩,H,I.tok _,⟨_,rfl⟩,q⟩) hs
theorem WG(c:List Value)(n j:Nat)(u:Value):Obj.mapSeq (·.setIfInBounds j u) { cls:=.type "list",data:=.seq c.toArray n }={ cls:=.type "list",data:=.seq (c.set j u).toArray n }:=by
 simp[Obj.mapSeq]
theorem Inv.lst{l:List (Addr×Obj)}{σ:St}{H:Hp}{s:Shared}{p:Addr}{w:List V}(I:Inv X l σ H s)(h:H p=some (.lst w)) :
  ∃(c:List Value) (n:Nat),Vals w c/\s.heap.get? p=some { cls:=.type "list",data:=.seq c.toArray n }/\w.length<=sizeLine:=by
 obtain⟨z,c,n,r,e⟩:=I.hok p _ h;exact⟨c,n,r,e,z⟩
theorem Inv.lstUpd{l:List (Addr×Obj)}{σ:St}{H:Hp}{s:Shared}{p:Addr}{U M:List V}{w c:List Value}{n A:Nat}{f:Obj->Obj}(I:Inv X l σ H s)(h:H p=some (.lst U))
  (O:s.heap.get? p=some { cls:=.type "list",data:=.seq w.toArray n }) (N:f { cls:=.type "list",data:=.seq w.toArray n }={ cls:=.type "list",data:=.seq c.toArray A }) (r:Vals M c) (Q:M.length<=sizeLine) (t:Nat) :
  Inv X l σ (upd H p (.lst M)) { s with heap:=s.heap.update p f,toks:=t }:=by
 have e:(s.heap.update p f).get? p=some { cls:=.type "list",data:=.seq c.toArray A }:=by
  rw[wf f O (by rw[N]<;>rfl),N]
 refine I.write (x:=p) (e:=p) (by rw[h];trivial) (.inl rfl) (fun b u hb q=>(vL _ _ (qc hb)).trans q) ⟨_,e⟩ ?_
 exact⟨Q,c,A,r,e⟩
inductive zfm(o:V)(i:V)(v:V)(H:Hp)(Q:Hp->Prop):Prop
 | mk (p c k j:_) (_:o=.ref p) (_:i=.int k) (_:H p=some (.lst c)) (_:ixN c.length k=some j) (_:Q (upd H p (.lst (c.set j v)))):zfm  o i v H Q
theorem vS:zhQ X zfm:=by
 intro l s σ H o i v ov iv u Q I ro ri rv h;obtain⟨p,xs,k,j,rfl,rfl,hp,hj,q⟩:=h;cases ro;obtain⟨t,rfl⟩:=ri;obtain⟨c,n,r,M,hz⟩:=I.lst hp;obtain⟨w,h2,U,Y⟩:=zak hj;have A:=r.length;have hn:=Ql;have N:Inv X l σ (upd H p (.lst (xs.set j v))) { s with heap:=s.heap.update p (Obj.mapSeq (·.setIfInBounds j u)) }:=
  I.lstUpd hp M (WG c n j u) (r.set rv j) (by rw[Zr];exact hz) s.toks
 by_cases O:0<=k
 ·have hk:k.toNat=j:=by
   rw[seqIndex_of O Y] at w;exact qU w
  exact PySem.W.ki_setAt M O (by omega) (by rw[zX,<- A];exact Y) (by rw[hk];exact⟨_,N,q⟩)
 ·have hk:(k+(c.toArray.size:Int)).toNat=j:=by
   rw[seqIndex_neg (by omega) U] at w
   rw[zX,<- A];exact qU w
  exact PySem.W.ki_setBack M (by omega) (by rw[zX,<- A];exact U) (by omega) (by rw[hk];exact⟨_,N,q⟩)
theorem J9(lo c:Option Int)(n:Nat):(sliceBounds lo c none n).1=((HT.sIx n 0 lo:Nat):Int)/\(sliceBounds lo c none n).2.1=((HT.sIx n n c:Nat):Int)/\(sliceBounds lo c none n).2.2=1:=by
 refine⟨?_,?_,rfl⟩
 ·cases lo with
  | none=>simp[sliceBounds,HT.sIx]
  | some i=>
   simp only[sliceBounds,HT.sIx,Option.getD_none,show(1:Int)>0 by decide,if_true]
   by_cases h:i<0
   ·simp only[h,if_true]<;>omega
   ·simp only[h,if_false]<;>omega
 ·cases c with
  | none=>simp[sliceBounds,HT.sIx]
  | some i=>
   simp only[sliceBounds,HT.sIx,Option.getD_none,show(1:Int)>0 by decide,if_true]
   by_cases h:i<0
   ·simp only[h,if_true]<;>omega
   ·simp only[h,if_false]<;>omega
theorem Q9(c:List Value)(lo l:Option Int):slicePick c.toArray lo l none=((c.drop (HT.sIx c.length 0 lo)).take (HT.sIx c.length c.length l-HT.sIx c.length 0 lo)).toArray:=by
 obtain⟨s,w,A⟩:=J9 lo l c.toArray.size;unfold slicePick;rw[s,w,A];simp only[sliceRange_one,pick_run,zX]<;>rfl
inductive zhb(K:W.Frag)(x:V)(lo:Option Int)(c:Option Int)(H:Hp)(Q:VK):Prop
 | mk (a l:_) (_:x=.ref a) (_:SqL K H a l) (_:∀p,H p=none->Q (.ref p) (upd H p (.lst (jS l lo c)))):zhb K x lo c H Q
theorem wu:SlR X (zhb X.K):=by
 intro M s σ H x v vl vu lo w sl Q I rx N Y pu h;obtain⟨a,c,rfl,hx,q⟩:=h;cases rx;obtain⟨U,r,A,O⟩:=I.list hx;have l:=r.length;refine⟨"list",_,slot_list_getitem.lookup,A.isList.typeIs,?_⟩
 refine wpAny_getItem_list_slice A.isList N Y pu .none (by simp) ?_ (by rw[zX]<;>omega)
 rw[Q9,<- l];refine⟨.ref s.heap.objs.size,_,I.laid (t':=s.toks) (o:=.lst (jS c lo w)) (fun b ob q=>zO _ q) (zC _) ?_,rfl,q _ (I.hok.fresh (zC _))⟩
 exact⟨jU (Zo c lo w) O,_,0,(r.drop (HT.sIx c.length 0 lo)).take (HT.sIx c.length c.length w-HT.sIx c.length 0 lo),zQ _ rfl⟩
def xw:V->Bool
 | .non=>true
 | .bl _=>true
 | .int _=>true
 | .str _=>true
 | _=>false
def eqV:V->V->Bool
 | .non,.non=>true
 | .bl a,.bl b=>a==b
 | .bl a,.int b=>(if a then 1 else 0)==b
 | .int a,.bl b=>a==(if b then 1 else 0)
 | .int a,.int b=>a==b
 | .str a,.str b=>a==b
 | _,_=>false
theorem zdn{A:Around}{s:Shared}{y x:V}{u v:Value}(H:RelV y u)(c:RelV x v)(I:xw y=true)(w:xw x=true):SeqAt.EqAt A s u v (eqV y x):=by
 cases y with
 | non=>
  cases H;cases x with
  | non=>cases c;exact SeqAt.EqAt.same _
  | bl b=>cases c;exact SeqAt.EqAt.none_bool b
  | int b=>obtain⟨t,rfl⟩:=c;exact SeqAt.EqAt.none_int b t
  | str b=>obtain⟨t,rfl⟩:=c;exact SeqAt.EqAt.none_str b t
  | _=>exact absurd (show false=true from w) qF
 | bl a=>
  cases H;cases x with
  | non=>cases c;exact SeqAt.EqAt.bool_none a
  | bl b=>cases c;exact SeqAt.EqAt.bool_bool a b
  | int b=>obtain⟨t,rfl⟩:=c;exact SeqAt.EqAt.bool_int a b t
  | str b=>obtain⟨t,rfl⟩:=c;exact SeqAt.EqAt.bool_str a b t
  | _=>exact absurd (show false=true from w) qF
 | int a=>
  obtain⟨l,rfl⟩:=H;cases x with
  | non=>cases c;exact SeqAt.EqAt.int_none a l
  | bl b=>cases c;exact SeqAt.EqAt.int_bool a l b
  | int b=>obtain⟨t,rfl⟩:=c;exact SeqAt.EqAt.int_int a l b t
  | str b=>obtain⟨t,rfl⟩:=c;exact SeqAt.EqAt.int_str a l b t
  | _=>exact absurd (show false=true from w) qF
 | str a=>
  obtain⟨l,rfl⟩:=H;cases x with
  | non=>cases c;exact SeqAt.EqAt.str_none a l
  | bl b=>cases c;exact SeqAt.EqAt.str_bool a l b
  | int b=>obtain⟨t,rfl⟩:=c;exact SeqAt.EqAt.str_int a l b t
  | str b=>obtain⟨t,rfl⟩:=c;exact SeqAt.EqAt.str_str a l b t
  | _=>exact absurd (show false=true from w) qF
 | _=>exact absurd (show false=true from I) qF
def eqU(x:V)(u:Value):Bool:=match u with
 | .none=>eqV .non x
 | .bool b=>eqV (.bl b) x
 | .int i _=>eqV (.int i) x
 | .str z _=>eqV (.str z) x
 | _=>false
theorem zdm{x y:V}{u:Value}(r:RelV y u)(f:xw y=true):eqU x u=eqV y x:=by
 cases y with
 | non=>cases r;rfl
 | bl b=>cases r;rfl
 | int i=>obtain⟨t,rfl⟩:=r;rfl
 | str z=>obtain⟨t,rfl⟩:=r;rfl
 | _=>exact absurd (show false=true from f) qF
theorem yE{x:V}:∀{c:List V} {l:List Value},Vals c l->c.all xw=true->l.any (eqU x)=c.any fun y=>eqV y x
 | _,_,.nil,_=>rfl
 | y::c,u::l,.cons r t,f=>by
  rw[List.all_cons,qE] at f;rw[vJ,vJ,zdm r f.1,yE t f.2]
theorem vU{A:Around}{s:Shared}{x:V}{v:Value}(H:RelV x v)(w:xw x=true):∀{l:List V} {c:List Value},Vals l c->l.all xw=true->∀u∈c,SeqAt.EqAt A s u v (eqU x u)
 | _,_,.nil,_=>fun u hu=>by cases hu
 | y::l,u::c,.cons r t,f=>fun I hu=>by
  rw[List.all_cons,qE] at f;rcases zL.mp hu with rfl | hu
  ·rw[zdm r f.1];exact zdn r H f.1 w
  ·exact vU H w t f.2 I hu
def inV(x:V)(c:List V):Bool:=c.any fun y=>eqV y x
inductive rIn(K:W.Frag)(c:Bool)(x:V)(y:V)(H:Hp)(Q:VK):Prop
 | mk (p l:_) (_:y=.ref p) (_:(SqL K H p l\/SqT K H p l)) (_:xw x=true) (_:l.all xw=true) (_:Q (.bl (if c then !inV x l else inV x l)) H):rIn K c x y H Q
theorem JA:OpR X (compareOp .In) (rIn X.K false):=by
 intro O s σ H x y v u Q I U ry h;obtain⟨p,xs,rfl,hq,N,l,q⟩:=h;cases ry;rcases hq with hq | hq
 ·obtain⟨c,r,M,Y⟩:=I.list hq
  refine SeqAt.in_listAt (eqU x) M.isList (fun w A=>vU U N r l w (by simpa using A)) ⟨.bl _,H,I,rfl,?_⟩
  rw[show c.toArray.any (eqU x)=c.any (eqU x) by simp,yE r l]
  exact q
 ·obtain⟨c,r,M,Y⟩:=I.tuple hq
  refine SeqAt.in_tupleAt (eqU x) M (fun w A=>vU U N r l w (by simpa using A)) ⟨.bl _,H,I,rfl,?_⟩
  rw[show c.toArray.any (eqU x)=c.any (eqU x) by simp,yE r l]
  exact q
theorem Xg:OpR X (compareOp .NotIn) (rIn X.K true):=by
 intro O s σ H x y v u Q I U ry h;obtain⟨p,xs,rfl,hq,N,l,q⟩:=h;cases ry;rcases hq with hq | hq
 ·obtain⟨c,r,M,Y⟩:=I.list hq
  refine SeqAt.notIn_listAt (eqU x) M.isList (fun w A=>vU U N r l w (by simpa using A)) ⟨.bl _,H,I,rfl,?_⟩
  rw[show c.toArray.any (eqU x)=c.any (eqU x) by simp,yE r l]
  exact q
 ·obtain⟨c,r,M,Y⟩:=I.tuple hq
  refine SeqAt.notIn_tupleAt (eqU x) M (fun w A=>vU U N r l w (by simpa using A)) ⟨.bl _,H,I,rfl,?_⟩
  rw[show c.toArray.any (eqU x)=c.any (eqU x) by simp,yE r l]
  exact q
inductive xR(K:W.Frag)(l:List V)(H:Hp)(Q:VK):Prop
 | mk (p c:_) (_:l=[.ref p]) (_:(SqL K H p c\/SqT K H p c)) (_:Q (.int c.length) H):xR K l H Q
theorem zy:CallR X (.builtin "len") (xR X.K):=by
 intro M s σ H xs us Q I r h;obtain⟨p,N,rfl,hq,q⟩:=h;obtain⟨u,rfl,U⟩:=vG r;cases U;have Y:=Ql;rcases hq with hq | hq
 ·obtain⟨l,A,w,O⟩:=I.list hq
  have c:=A.length;exact Calls.call_len_list w.isList (by simp only[zX]<;>omega) ⟨.int N.length,H,I.tok _,⟨s.toks+1,by rw[zX,c]⟩,q⟩
 ·obtain⟨l,A,w,O⟩:=I.tuple hq
  have c:=A.length;exact len_tuple w (by simp only[zX]<;>omega) ⟨.int N.length,H,I.tok _,⟨s.toks+1,by rw[zX,c]⟩,q⟩
theorem CallR.or{f:Value}{r w:List V->Hp->VK->Prop}(h:CallR X f r)(N:CallR X f w):CallR X f (fun l H Q=>r l H Q\/w l H Q):=by
 intro c s σ H l M Q I A q;rcases q with q | q
 ·exact h c s σ H l M Q I A q
 ·exact N c s σ H l M Q I A q
inductive wo(K:W.Frag)(s:List V)(H:Hp)(Q:VK):Prop
 | mk (p c:_) (_:s=[.ref p]) (_:(SqL K H p c\/SqT K H p c)) (_:∀l,H l=none->Q (.ref l) (upd H l (.lst c))):wo K s H Q
theorem yB:CallR X (.type "list") (wo X.K):=by
 intro Y s σ H xs us Q I r h;obtain⟨p,ys,rfl,hq,q⟩:=h;obtain⟨u,rfl,rx⟩:=vG r;cases rx;have M:∀(c:List Value),Vals ys c->ys.length<=sizeLine->∀(l:Heap) (w:Nat),(∀b o',s.heap.get? b=some o'->l.get? b=some o') ->
   l.get? s.heap.objs.size=some { cls:=.type "list",dict:=none,data:=.seq c.toArray w,slots:=#[] }->EP X Y σ Q (.ref s.heap.objs.size) { s with heap:=l }:=fun c A O l w U e=>
  ⟨.ref s.heap.objs.size,_,I.laid (t':=s.toks) U (zC _) (show ObjOk X.prog X.w _ l _ (.lst ys) from ⟨O,c,w,A,e⟩),rfl,q _ (I.hok.fresh (zC _))⟩
 rcases hq with hq | hq
 ·obtain⟨c,A,pl,O⟩:=I.list hq
  have N:=A.length;obtain⟨o,ho,hc,n,hd⟩:=pl.isList;exact call_list_seq p (.inl rfl) ho hc hd (fun l w U e=>M c A O l w U e) (by simp only[zX]<;>omega)
 ·obtain⟨c,A,pl,O⟩:=I.tuple hq
  have N:=A.length;obtain⟨o,ho,hc,n,hd⟩:=pl;exact call_list_seq p (.inr rfl) ho hc hd (fun l w U e=>M c A O l w U e) (by simp only[zX]<;>omega)
inductive vM(K:W.Frag)(s:List V)(H:Hp)(Q:VK):Prop
 | mk (p c:_) (_:s=[.ref p]) (_:((SqL K H p c/\∀l,H l=none->Q (.ref l) (upd H l (.tup c)))\/(SqT K H p c/\Q (.ref p) H))):vM K s H Q
theorem jH:CallR X (.type "tuple") (vM X.K):=by
 intro c s σ H xs us Q I r h;obtain⟨p,Y,rfl,h⟩:=h;obtain⟨u,rfl,rx⟩:=vG r;cases rx;rcases h with ⟨hq,q⟩ | ⟨hq,q⟩
 ·obtain⟨l,M,A,U⟩:=I.list hq
  have O:=M.length;refine call_tuple_list A.isList (fun w kp=>?_) (by simp only[zX]<;>omega)
  have N:Inv X c σ H { s with heap:=w }:=I.kept (t':=s.toks) kp;have I2:Inv X c σ (upd H w.objs.size (.tup Y)) { s with heap:=w.push { cls:=.type "tuple",data:=.seq l.toArray } }:=
   N.laid (t':=s.toks) (fun b o e=>zO _ e) (zC _) (show ObjOk X.prog X.w _ _ _ (.tup Y) from ⟨U,l,M,⟨IsTup.new _ _,_,zQ _ rfl,rfl⟩⟩)
  exact⟨.ref w.objs.size,_,I2,rfl,q _ (N.hok.fresh (zC _))⟩
 ·obtain⟨l,M,A,U⟩:=I.tuple hq
  exact call_tuple_same A ⟨.ref p,H,I,rfl,q⟩
def tyV(K:W.Frag)(T:String)(x:V)(H:Hp):Prop:=match x with
 | .str _=>T = "str"
 | .int _=>T = "int"
 | .ref p=>(T = "list" /\ ∃l,SqL K H p l)\/(T = "tuple" /\ ∃o,K.lookup p=some o/\o.cls=.type "tuple" /\ o.dict=none) \/
   (T = "dict" /\ ((∃c,H p=some (.dK c))\/∃c,H p=some (.dT c)))\/(T = "set" /\ ∃S n,H p=some (.set S n))
 | _=>False
theorem zbV{w:List (Addr×Obj)}{σ:St}{H:Hp}{s:Shared}{T:String}{x:V}{v:Value}(I:Inv X w σ H s)(r:RelV x v)(ty:tyV X.K T x H) :
  s.TypeIs v T/\∀a,v=.ref a->∃O,s.heap.get? a=some O/\O.dict=none:=by
 cases x with
 | str z=>
  obtain⟨t,rfl⟩:=r;cases(show T = "str" from ty)
  exact⟨typeIs_str s z t,fun _ e=>nomatch e⟩
 | int i=>
  obtain⟨t,rfl⟩:=r;cases(show T = "int" from ty)
  exact⟨typeIs_int s i t,fun _ e=>nomatch e⟩
 | ref p=>
  cases r;rcases ty with ⟨rfl,Y,hq⟩ | ⟨rfl,o,hk,hc,M⟩ | ⟨rfl,hk⟩ | ⟨rfl,S,n,hk⟩
  ·obtain⟨U,_,Q,_⟩:=I.list hq
   refine⟨Q.isList.typeIs,fun a e=>?_⟩
   cases e;obtain⟨o,n,e,c,M,_⟩:=Q;exact⟨o,e,M⟩
  ·refine⟨⟨o,I.kIn p o hk,hc⟩,fun a e=>?_⟩
   cases e;exact⟨o,I.kIn _ o hk,M⟩
  ·have z:∃o,s.heap.get? p=some o/\o.ExactDict:=by
    rcases hk with ⟨N,hk⟩ | ⟨N,hk⟩
    ·obtain⟨_,_,_,_,o,_,_,e,l,_⟩:=I.hok p _ hk
     exact⟨o,e,l⟩
    ·obtain⟨_,_,_,_,o,_,_,e,l,_⟩:=I.hok p _ hk
     exact⟨o,e,l⟩
   obtain⟨o,e,l⟩:=z;refine⟨⟨o,e,l.1⟩,fun a A=>?_⟩
   cases A;exact⟨o,e,l.2.1⟩
  ·obtain⟨o,_,_,_,e,l,_⟩:=I.hok p _ hk
   refine⟨⟨o,e,l.1⟩,fun a A=>?_⟩
   cases A;exact⟨o,e,l.2.1⟩
 | _=>exact False.elim ty
def zh6(K:W.Frag)(T:String)(r:V->List V->Hp->VK->Prop)(to:TE):TE:=fun σ H Q=>to σ H fun x c=>tyV K T x c/\r x [] c Q
def tBM(K:W.Frag)(T:String)(r:V->List V->Hp->VK->Prop)(to:TE)(t:TA):TE:=fun σ H Q=>to σ H fun x c=>tyV K T x c/\t σ c fun s l=>r x s l Q
variable{o e:Expr}{E:List Expr}{to:TE}{t:TA}{B:Str}{D g:Pos}{T id:String}{r:V->List V->Hp->VK->Prop}
theorem zf1(pa:PlainAttrs T)(A:Slot T B id)(M:typeOf (.builtin id)=pure (.type "method_descriptor"))(hm:MtR X id r)(ho:PE X o to)
  (l:attributeBase o B X.env (eval o X.env)=eval o X.env:=by rfl) (w:(D.endLine==g.line)=true:=by rfl):PE X (.Call (.Attribute o B D) [] [] g) (zh6 X.K T r to):=by
 intro c s σ H Q I h;refine wpAny_Call_method0_late l w (thn (ho c s σ H _ I h) fun v s1 ⟨x,U,N,O,ty,q1⟩=>?_)
 obtain⟨Y,h2⟩:=zbV N O ty;exact⟨T,id,pa,A,M,Y,h2,QV rfl (PySem.evalArgs_none (hm c s1 σ U x [] v [] Q N O .nil q1))⟩
theorem Qb(pa:PlainAttrs T)(N:Slot T B id)(O:typeOf (.builtin id)=pure (.type "method_descriptor"))(hm:MtR X id r)(ho:PE X o to)(ha:PA X (e::E) t)
  (w:attributeBase o B X.env (eval o X.env)=eval o X.env:=by rfl)
  (M:((backTo g (starEach (e::E) X.env)).all (fun x=>!x.1)&&(backToKw g (keywordEach [] X.env)).all (fun x=>x.1.isSome)
   && decide ((e::E).length+([]:List Keyword).length+(if([]:List Keyword).isEmpty then 0 else 1)<30))=true:=by rfl)
  (A:(D.endLine==g.line)=true:=by rfl) (hs:starEach (e::E) X.env=(false,eval e X.env)::starEach E X.env:=by rfl) (l:(backTo g (starEach E X.env)).any (·.1)=false:=by rfl) :
  PE X (.Call (.Attribute o B D) (e::E) [] g) (tBM X.K T r to t):=by
 intro c s σ H Q I h;refine wpAny_Call_method_late w M A rfl (thn (ho c s σ H _ I h) fun v s1 ⟨x,H1,U,r1,ty,q1⟩=>?_)
 obtain⟨h1,h2⟩:=zbV U r1 ty;refine⟨T,id,pa,N,O,h1,h2,?_⟩
 have Y:=ha g c s1 σ H1 _ U q1;rw[hs] at Y ⊢;refine QV (by show(false||(backTo g (starEach E X.env)).any (·.1))=false;rw[l]<;>rfl) (Yb ?_)
 exact thn Y fun us s2 ⟨vs,H2,I2,r2,q2⟩=>hm c s2 σ H2 x vs v us Q I2 r1 r2 q2
end
def MtM(X:Cx)(id:String)(r:V->List V->Hp->VK->Prop):Prop:=
 ∀(c:List (Addr×Obj)) (s:Shared) (σ:St) (H:Hp) (x:V) (l:List V) (v:Value) (g:List Value) (Q:VK),Inv X c σ H s->RelV x v->Vals l g->r x l H Q ->
  wpAny (model X.prog X.w) X.A (call (.builtin id) (v::g)) (EP X c σ Q) X.xe s
theorem Vals.one:∀{x:V} {c:List Value},Vals [x] c->∃u,c=[u]/\RelV x u
 | _,_,.cons r .nil=>⟨_,rfl,r⟩
def ua:=@Vals.one
theorem Vals.two:∀{x y:V} {c:List Value},Vals [x,y] c->∃u v,c=[u,v]/\RelV x u/\RelV y v
 | _,_,_,.cons r (.cons q .nil)=>⟨_,_,rfl,r,q⟩
theorem Vals.zero:∀{c:List Value},Vals [] c->c=[]
 | _,.nil=>rfl
theorem Vals.dropLast{g:List V}{c:List Value}(h:Vals g c):Vals g.dropLast c.dropLast:=by
 induction h with
 | nil=>exact .nil
 | cons r t l=>
  cases t with
  | nil=>exact .nil
  | cons q s=>exact .cons r l
theorem Vals.eraseIdx:∀{g:List V} {c:List Value} (i:Nat),Vals g c->Vals (g.eraseIdx i) (c.eraseIdx i)
 | _,_,_,.nil=>.nil
 | _,_,0,.cons _ t=>t
 | _,_,i+1,.cons r t=>.cons r (Vals.eraseIdx i t)
theorem Vals.reverse{g:List V}{c:List Value}(h:Vals g c):Vals g.reverse c.reverse:=by
 induction h with
 | nil=>exact .nil
 | cons r t l=>rw[List.reverse_cons,List.reverse_cons];exact Vals.append l (.cons r .nil)
section
variable{X:Cx}{c:List (Addr×Obj)}{σ:St}{H:Hp}{s:Shared}{l b:Addr}{t g w:List V}
theorem Inv.lset{A its':List Value}{n:Nat}{f:Array Value->Array Value}{J:Nat}(I:Inv X c σ H s)(B:H l=some (.lst t))
  (e:s.heap.get? l=some { cls:=.type "list",data:=.seq A.toArray n }) (D:f A.toArray=its'.toArray) (E:Vals g its') (G:g.length<=sizeLine) :
  Inv X c σ (upd H l (.lst g)) { s with heap:=s.heap.update l (Obj.mapSeq f),toks:=J }:=by
 have q:=PySem.IsL.update e f;rw[D] at q;refine I.write (x:=l) (e:=l) (by rw[B];exact trivial) (.inl rfl) (fun L u hb hu=>(vL s.heap (Obj.mapSeq f) (qc hb)).trans hu) ⟨_,q⟩ ?_
 exact⟨G,its',_,E,q⟩
theorem Inv.lnew{A:List Value}{t':Nat}(I:Inv X c σ H s)(B:Vals g A)(D:g.length<=sizeLine) :
  Inv X c σ (upd H s.heap.objs.size (.lst g)) { s with heap:=s.heap.push { cls:=.type "list",data:=.seq A.toArray },toks:=t' }:=
 I.laid (fun _ _ q=>zO _ q) (zC _) ⟨D,A,0,B,zQ _ rfl⟩
theorem Inv.fresh(I:Inv X c σ H s):H s.heap.objs.size=none:=I.hok.fresh (zC _)
theorem Inv.lstM(I:Inv X c σ H s)(B:H l=some (.lst t)):t.length<=sizeLine/\∃(A:List Value) (n:Nat),Vals t A/\t.length=A.length/\s.heap.get? l=some { cls:=.type "list",data:=.seq A.toArray n }:=by
 obtain⟨z,A,n,r,e⟩:=I.hok l _ B;exact⟨z,A,n,r,r.length,e⟩
theorem zcV{n:Nat}(h:n<=sizeLine):Builtin.List.listTooLong n=false:=by
 unfold Builtin.List.listTooLong;exact jb (by omega)
end
section
variable{X:Cx}
inductive Y1(x:V)(g:List V)(H:Hp)(Q:VK):Prop
 | mk (l c y:_) (_:x=.ref l) (_:g=[y]) (_:H l=some (.lst c)) (_:c.length<sizeLine) (_:Q .non (upd H l (.lst (c++[y])))):Y1  x g H Q
theorem vd:MtM X "list.append" Y1:=by
 intro w s σ H x L v J Q I D B h;obtain⟨l,M,y,rfl,rfl,g,G,q⟩:=h;cases D;obtain⟨u,rfl,A⟩:=B.one;obtain⟨z,c,n,r,E,e⟩:=I.lstM g;refine call_meets F.slot_list_append ⟨_,e,rfl⟩ F.entry_list_append (F.args_list_append_2 _ _) (PySem.list_append l c.toArray n u (by rw[zX];omega)) ⟨e,?_⟩
 refine⟨.non,_,I.lset (its':=c++[u]) g e (by simp) (r.append (.cons A .nil)) ?_,rfl,q⟩
 rw[zY,QU];omega
inductive Y0(x:V)(s:List V)(H:Hp)(Q:VK):Prop
 | mk (l b c g:_) (_:x=.ref l) (_:s=[.ref b]) (_:H l=some (.lst c)) (_:H b=some (.lst g)) (_:c.length+g.length<=sizeLine) (_:Q .non (upd H l (.lst (c++g)))):Y0  x s H Q
theorem zbm:MtM X "list.extend" Y0:=by
 intro D s σ H x vs v us Q I T O h;obtain⟨l,b,xs,zs,rfl,rfl,A,G,Y,q⟩:=h;cases T;obtain⟨u,rfl,N⟩:=O.one;cases N;obtain⟨z,g,n,r,U,e⟩:=I.lstM A;obtain⟨z2,c,L,M,J,E⟩:=I.lstM G;have w:g.toArray.size+c.toArray.size<=sizeLine:=by rw[zX,zX];omega
 have t:¬(!g.toArray.isEmpty&&Builtin.List.listTooLong (g.toArray.size+c.toArray.size))=true:=by
  rw[zcV w,XL];exact qF
 refine call_meets F.slot_list_extend ⟨_,e,rfl⟩ F.entry_list_extend (F.args_list_extend_2 _ _)
  (AutoSeq1.list_extend_list_list_0 l g.toArray n b c.toArray L t (by rw[zX];omega) (by omega)) ⟨e,E,?_⟩
 refine⟨.non,_,I.lset (its':=g++c) A e (by simp) (r.append M) ?_,rfl,q⟩
 rw[zY];omega
inductive zhd(x:V)(y:V)(H:Hp)(Q:VK):Prop
 | mk (l b c g:_) (_:x=.ref l) (_:y=.ref b) (_:H l=some (.lst c)) (_:H b=some (.lst g)) (_:c.length+g.length<=sizeLine) (_:∀p,H p=none->Q (.ref p) (upd H p (.lst (c++g)))):zhd  x y H Q
theorem Xh:OpR X (binaryOp .Add) zhd:=by
 intro t s σ H x y v u Q I J L h;obtain⟨l,b,U,zs,rfl,rfl,D,B,N,q⟩:=h;cases J;cases L;obtain⟨z,g,n,r,M,e⟩:=I.lstM D;obtain⟨Y,c,O,G,E,w⟩:=I.lstM B;refine PySem.P.add_list e w ?_ (by rw[zX,zX];omega)
 have A:g.toArray++c.toArray=(g++c).toArray:=by simp
 rw[A];exact⟨.ref _,_,I.lnew (t':=s.toks) (r.append G) (by rw[zY];omega),rfl,q _ I.fresh⟩
end
section
variable{c:Program}{w:World}{A:Around}{E:Value->Shared->Prop}{s:Shared}
end
section
variable{X:Cx}
end
end L2
namespace Att
open PySem PySem.W PySem.Calls PyProof.Rows
theorem ZK{P:Params}{h:Heap}:∀(c:List Int) (g:List Value),WellAll P h g (c.map WData.int)->IntsAre g c:=by
 intro c;induction c with
 | nil=>
  intro g w;rw[List.map_nil] at w;cases w;exact .nil
 | cons n c l=>
  intro g w;rw[jz] at w;cases w with
  | cons a b=>
   cases a;exact .cons _ _ (l _ b)
theorem za9{l:OpenLaw}{n:Nat}(L:l.most=some n){P:Params}{h:Heap}{args:List WData}{s:List Value}
  (g:l.row.toRowW.claim.pre args=true) (E:WellAll P h s args) :
  ∃a G c,s=[Value.ref a]/\args=[WData.list (c.map WData.int)]/\h.get? a=some { cls:=.type "list",data:=.seq G.toArray }/\IntsAre G c/\c.length<=n:=by
 have D:WShape.hasAll [] args [.list .int]=true:=(pre_splitW g).1;have hc:l.pre.holds [] { args:=args }=true:=(pre_splitW g).2;obtain⟨d,r,rfl,H,I⟩:=hasAllW_cons D;obtain rfl:=hasAllW_nil I;obtain⟨Q,rfl,J⟩:=hasW_list H;obtain⟨c,rfl⟩:=items_int J;have w:c.length<=n:=by
  unfold OpenLaw.pre at hc;have A:(WTm.not (.lt (.lit (.int (n:Int))) (.len (.arg 0)))).holds [] { args:=[.list (c.map .int)] }=true:=by
   have A:=(holds_andW hc).1;rw[L] at A;exact A
  have B:=condW_of A (w_not (w_lt w_lit (w_len_list (w_arg rfl))));rw[zr] at B;refine Nat.le_of_not_lt fun q=>?_
  have N:(n:Int)<((c.length:Nat):Int):=by omega
  first
   | (rw[zW N] at B;exact absurd B (by decide))
   | (simp at B;omega)
 cases E with
 | cons w1 O=>
  cases O;cases w1 with
  | list M t=>exact⟨_,_,c,rfl,rfl,M,ZK c _ t,w⟩
theorem zbd(l:OpenLaw)(args:List WData):l.row.toRowW.claim.post args (.bool true) args=true:=
 postW_of (r:=l.row.toRowW) (X:=(true==true))
  (show WShape.has [] (.bool true) .bool=true by first| rfl | decide | simp[WShape.has,WShape.arms,WShape.armsAll])
  (show(WTm.eq .res (.lit (.bool true))).value [] { args:=args,res:=some (.bool true),after:=args }=some (.bool (true==true)) from w_eq_bool (w_res rfl) w_lit) rfl
theorem attach_call{l:OpenLaw}{n:Nat}{q:Program}{c:List Str}{XP:(Str->Option Value)->Heap->Prop}{YP:World->Heap->Prop}{d:DefRec}
  (hn:l.most=some n) (O:d.params.defaults=[])
  (call:∀(w:World) (s₀ g:Shared) (J U:Str->Option Value) (B:Addr) (o:Obj) (pm I s:Value) (a:Addr) (A:List Value) (L:List Int),
   Ground q c [] XP w s₀ J U g.heap->YP w g.heap ->
   g.heap.get? B=some o->o.data=.func (docDef d.name d.params d.body d.scope pm I s)->g.heap.CodeRec I d.name->J d.name=some (.ref B) ->
   g.heap.get? a=some { cls:=.type "list",data:=.seq A.toArray }->IntsAre A L->L.length<=n->g.gens=#[] ->
   codeAny (model l.prog w) callerA (.call (.ref B) ⟨[.ref a],[]⟩) (fun r M=>r=.ok (.ret (.bool true))/\OldK g.heap M.heap/\M.os=g.os/\AllBare M.gens) g) :
  WalkO q c XP YP l.row.toRowW d [] (fun f A=>PySem.call f A):=by
 intro w s₀ g J U G Y B o pm I s dV kV ho hd N hD Q hg args a1 as H a0 a3 T a2;obtain rfl:dV=.none:=Dflts.none hD O;obtain rfl:kV=.none:=Dflts.noKw hD;obtain⟨a,A,L,rfl,rfl,E,t,D⟩:=za9 hn H T;refine enter_call (codeAny_mono (call w s₀ g J U B o pm I s a A L G Y ho (fd_plain hd) N Q E t D hg) fun r M hq=>?_)
 obtain⟨rfl,h2,h3,h4⟩:=hq;exact⟨.inl ⟨.bool true,.bool true,[],rfl,fun _=>rfl,.bool true,zbd l _,fun _=>⟨List.Pairwise.nil,fun _ hm=>(nomatch hm)⟩⟩,h2,h3,h4⟩
section
variable{c:Program}{w:World}{A:Around}{E:Value->Shared->Prop}{s:Shared}{K:Frag}
def ledger(h:Heap)(L d:Addr):List (Addr×Obj):=(List.range h.objs.size).filterMap fun a=>if a=L\/a=d then none else(h.get? a).map fun o=>(a,o)
end
end Att
namespace L2
open PySem PySem.Spec PyProof.Rows
theorem Jl:∀{g:List Value} {c:List Int},IntsAre g c->Vals (c.map V.int) g
 | _,_,.nil=>.nil
 | _,_,.cons n t h=>.cons ⟨t,rfl⟩ (Jl h)
def zeW(H:Hp):Prop:=∀b,H b=none\/∃o c,H b=some (.frz o (.lst c))
theorem VX{P:Program}{w:World}{K:W.Frag}{U mb:Str->Option Value}{CX:CXT}{k:Nat}{fa a:Addr}{fd:FuncData}{x:Str}{sp:Sp}{c:Shared}{E:List Value}{Y:List Int}
  (KX:K.In c.heap) (N:c.heap.Ns mainGlobals U) (hb:c.heap.Ns builtinsNs mb) (a1:∀x:Str,x ≠ "__name__" -> mb x=bootBuiltins x) (M:c.heap.NoLimit) (hg:c.gens=#[])
  (ha:c.heap.get? a=some { cls:=.type "list",data:=.seq E.toArray }) (hi:IntsAre E Y) (hl:Y.length<=sizeLine) (hr:Room k callerA)
  (F:∀l:Heap,K.In l->l.Ns mainGlobals U->FnOk P w K U l CX k fa fd [x] sp) (D:∀(s:Shared) (u:Value),BindsTo s fd ⟨[u],[]⟩ [(x,u)])
  (a2:∀H:Hp,zeW H->SqL K H a (Y.map V.int)->sp [.ref a] H (fun v _=>v=.bl true) fun _ _ _=>False)
  (a0:∀H e t,CX [] H c (fun _ _ _=>False) e t->False) :
  codeAny (model P w) callerA (.call (.ref fa) ⟨[.ref a],[]⟩) (fun r t=>r=.ok (.ret (.bool true))/\OldK c.heap t.heap/\t.os=c.os/\AllBare t.gens) c:=by
 have rv:=Jl hi;have T:=hi.length;have B:∀H:Hp,zeW H->SqL K H a (Y.map V.int)->HOk P w H c.heap->(∀b,H b≠none->b=a)->(H a≠none->K.lookup a=none) ->
   codeAny (model P w) callerA (.call (.ref fa) ⟨[.ref a],[]⟩) (fun r t=>r=.ok (.ret (.bool true))/\OldK c.heap t.heap/\t.os=c.os/\AllBare t.gens) c:=by
  intro H hO hS O hA hK;have g:∀{b:Addr} {o:Obj},c.heap.get? b=some o->H b=none->(Xo c.heap H).get? b=some o:=fun e n=>zdh e n
  have a3:∀{b:Addr} {o:Obj} {J:Array DictEntry} {I:Nat},c.heap.get? b=some o->o.data=.dict J I->H b=none:=fun {b o J I} e d=>by
   cases q:H b with
   | none=>rfl
   | some u=>
    have e':b=a:=hA b (by rw[q];simp)
    subst e';rw[ha] at e;cases e
    have d':Data.seq E.toArray _=Data.dict J I:=d;cases d'
  have A:∀{b:Addr} {m:Str->Option Value},c.heap.Ns b m->(Xo c.heap H).Ns b m:=fun {b m} ⟨o,J,I,e,d,r⟩=>⟨o,J,I,g e (a3 e d),d,r⟩
  have L:K.In (Xo c.heap H):=fun b o e=>g (KX b o e) (by
   cases q:H b with
   | none=>rfl
   | some u=>
    have e':b=a:=hA b (by rw[q];simp)
    subst e';rw[hK (by rw[q];simp)] at e;cases e)
  have hM:Mod K U (Xo c.heap H):=⟨L,A N,⟨mb,A hb,a1⟩,let ⟨mc,h1,h2⟩:=M;⟨mc,A h1,h2⟩⟩
  have e0:Env0 P w K U (Xo c.heap H) callerA [] c H:=⟨rfl,hM,fun b o e=>zeu e,wc (zbu _ _),trivial,fun b hb=>absurd (show b∈([]:List Addr) from hb) (by simp),O,.of_eq hg⟩
  refine codeAny_mono ((F _ L (A N)).run callerA [] c H ⟨[.ref a],[]⟩ [.ref a] [.ref a] _ _ hr e0 (D c (.ref a)) (.cons rfl .nil) (a2 H hO hS)) fun r t h=>?_
  cases r with
  | error e=>exact(a0 H e t h).elim
  | ok fl=>
   cases fl with
   | next=>exact False.elim h
   | brk=>exact False.elim h
   | cont=>exact False.elim h
   | ret u=>
    obtain⟨v,H',os,G,un,Q,r',q⟩:=h;have q':v=.bl true:=q;subst q';obtain rfl:u=Value.bool true:=r';refine⟨rfl,OldK.of_keep fun b o e=>?_,os,G⟩
    cases q:H b with
    | none=>exact un.keep b o e q (by intro z;exact absurd (show b∈([]:List Addr) from z) (by simp)) (by simp)
    | some u=>
     rcases hO b with z | ⟨ob,xs,z⟩
     ·rw[q] at z;cases z
     ·have z2:=un.frzs b ob _ z
      obtain⟨e1,_⟩:=O b _ z;obtain⟨e2,_⟩:=Q b _ z2;rw[e] at e1;cases e1
      exact e2
 cases hk:K.lookup a with
 | some o=>
  have e:=KX a o hk;rw[ha] at e;cases e;refine B (fun _=>none) (fun _=>.inl rfl) (.inr ⟨_,E.toArray,_,hk,rfl,rfl,rfl,by rw[zX,T];exact hl,by simpa using rv⟩) (fun b u z=>by have z':(none:Option HO)=some u:=z;cases z') (fun b z=>absurd rfl z) fun z=>absurd rfl z
 | none=>
  refine B (fun b=>if b=a then some (.frz { cls:=.type "list",data:=.seq E.toArray } (.lst (Y.map V.int))) else none) (fun b=>?_) (.inl (.inr ⟨{ cls:=.type "list",data:=.seq E.toArray },zq rfl⟩)) (fun b u z=>?_) (fun b z=>?_) fun _=>hk
  ·by_cases hb:b=a
   ·exact .inr ⟨_,_,zq hb⟩
   ·exact .inl (zo hb)
  ·by_cases hb:b=a
   ·have z':=(zq hb).symm.trans z
    cases z';subst hb;exact⟨ha,by rw[zr];exact hl,E,_,rv,ha⟩
   ·have z':=(zo hb).symm.trans z
    cases z'
  ·by_cases hb:b=a
   ·exact hb
   ·exact absurd (zo hb) z
abbrev KOf{K:W.Frag}{h:Heap}(_:K.In h):PySem.W.Frag:=K
theorem walk_of{l:PySem.W.OpenLaw}{n k:Nat}{q:Program}{A:List Str}{XP:(Str->Option Value)->Heap->Prop}{YP:World->Heap->Prop}{d:DefRec}{K:Params->PySem.W.Frag}{U:World->CXT}{sp:World->Sp}{x:Str}
  (hn:l.most=some n) (O:n<=sizeLine) (M:d.params.defaults=[]) (hr:Room k callerA)
  (hY:∀(w:World) (h:Heap),YP w h->(K w.params).In h)
  (F:∀(w:World) (B:Str->Option Value) (E:Addr) (h:Heap),(K w.params).In h->h.Ns mainGlobals B->B d.name=some (.ref E) ->
   ∃J:FuncData,(∀(s:Shared) (u:Value),BindsTo s J ⟨[u],[]⟩ [(x,u)]) /\
    ∀c:Heap,(K w.params).In c->c.Ns mainGlobals B->FnOk l.prog w (K w.params) B c (U w) k E J [x] (sp w))
  (Q:∀(w:World) (H:Hp) (a:Addr) (I:List Int),I.length<=n->zeW H->SqL (K w.params) H a (I.map V.int)->sp w [.ref a] H (fun v _=>v=.bl true) fun _ _ _=>False)
  (L:∀(w:World) (H:Hp) (s:Shared) (e:Value) (T:Shared),U w [] H s (fun _ _ _=>False) e T->False) :
  PySem.W.WalkO q A XP YP l.row.toRowW d [] (fun f vs=>PySem.call f vs):=by
 refine Att.attach_call hn M fun w s₀ s₁ B mb E o pm cd a0 a vs I G Y ho hd a1 N D t g hg=>?_
 have KX:=hY w _ Y;obtain⟨J,hb,hF⟩:=F w B E _ KX G.T.g N;exact VX KX G.T.g G.T.b G.T.builtins G.T.nolimit hg D t (jU g O) hr hF hb (fun H hO hS=>Q w H a I g hO hS) fun H e T=>L w H s₁ e T
def yz(s:Stmt):Arguments:=match s with
 | .FunctionDef _ a _ _ _ _ _ _ _ _=>a
 | _=>{ posonlyargs:=[],args:=[],vararg:=none,kwonlyargs:=[],kw_defaults:=[],kwarg:=none,defaults:=[] }
def wE(s:Stmt):List Stmt:=match s with
 | .FunctionDef _ _ b _ _ _ _ _ _ _=>b
 | _=>[]
def zx(s:Stmt):Scope:=match s with
 | .FunctionDef _ _ _ _ _ _ c _ _ _=>c
 | _=>{ kind:=.function,names:=[],isGenerator:=false,isCoroutine:=false }
abbrev CX0:CXT:=fun _ _ _ _ _ _=>False
abbrev E0:XK:=fun _ _ _=>False
theorem zhj{X:Cx}:Yl CX0 X E0:=fun _ _ _ _ _ _ _ h=>h.elim
structure Fun(K:W.Frag)(x qual:Str)(st:Stmt)(f:Addr)(fd:FuncData):Prop where
 ex:∃(oc:Value) (od:Option Addr) (kV doc pm:Value) (an:Option Addr) (cdv ct:Value) (osl:Array (Option Value)),
  fd=PySem.W.fnOf x qual (yz st) (wE st) (zx st) .none kV doc pm an cdv ct/\K.lookup f=some ⟨oc,od,.func fd,osl⟩/\PySem.W.codeIn K cdv qual=true
 kp:PySem.W.keepIn K (.ref f)=true
section
variable{P:Program}{w:World}{K:W.Frag}{g:Str->Option Value}{c:Heap}
theorem Fun.ok{x qual:Str}{st:Stmt}{f:Addr}{O:FuncData}{N ps:List Str}{k:Nat}{M:Sp}(F:Fun K x qual st f O)(S:zG N ps (zx st))(L:∀G H Q E,M G H Q E->G.length=ps.length)
  (D:∀(B:Value) (A:Around) (l:List Env) (s:Shared) (H:Hp) (G:List V) (Q:VK) (E:XK),Room k (A.deeper (envOfC qual (zx st) s.heap.objs.size f B))->M G H Q E ->
   ∃t,PSs (zbx CX0 P w K g c N qual (zx st) f B A l s H E).nox (wE st) t/\t { nx:=fun _ T=>Q .non T,rt:=Q } (Zg N G) H):FnOk P w K g c CX0 (k+1) f O ps M:=by
 obtain⟨oc,od,kV,U,pm,an,B,ct,a0,rfl,lk,I⟩:=F.ex;refine zhM lk I S L fun A l s H G Q E Y J=>?_
 obtain⟨t,h,q⟩:=D B A l s H G Q E Y J;exact⟨t,h.nox,q⟩
theorem Fun.binds{x qual:Str}{st:Stmt}{f:Addr}{D:FuncData}{ps:List Str}(F:Fun K x qual st f D)
  (h:∀(kV s A:Value) (t:Option Addr) (l ct:Value) (B:List Value),B.length=ps.length->bindArgs (PySem.W.fnOf x qual (yz st) (wE st) (zx st) .none kV s A t l ct) ⟨B,[]⟩=pure (ps.zip B)):Binds K D ps []:=by
 obtain⟨I,J,kV,s,A,t,l,ct,G,rfl,H,E⟩:=F.ex;exact .all (h kV s A t l ct)
end
theorem V0{A:Around}{k:Nat}(c:Room k A):A.units+1<cLine:=Zd (W9 (by decide:1<=64) _) c.units
theorem za6{n:Nat}(h:n<=1000):n<sizeLine:=Zd h (by decide)
section
variable{X:Cx}
theorem pv(i:Nat){x:Str}{g:Pos}(l:X.N[i]? =some x:=by rfl)(t:Vis X.env.scope x:=by first| exact Or.inl rfl | exact Or.inr (Or.inl rfl) | exact Or.inr (Or.inr rfl))(s:(x==("__debug__":Str))=false:=by decide)
  (c:(x==("__classdict__":Str))=false:=by decide):PE X (.Name x g) (zfx i):=zfU l t s c
end
theorem jE{c A B:Prop}[Decidable c](g:c->A)(l:¬c->B):if c then A else B:=by
 by_cases h:c
 ·rw[zq h]
  exact g h
 ·rw[zo h]
  exact l h
def Same(H c:Hp):Prop:=∀b o,H b=some o->c b=some o
theorem Same.refl(H:Hp):Same H H:=fun _ _ h=>h
def u6:=@Same.refl
theorem Same.trans{H g l:Hp}(a:Same H g)(b:Same g l):Same H l:=fun c o h=>b c o (a c o h)
theorem Same.free{H c:Hp}(e:Same H c){l:Addr}(h:c l=Option.none):H l=Option.none:=by
 cases q:H l with
 | none=>rfl
 | some o=>
  rw[e l o q] at h;cases h
def uc:=@Same.free
theorem Same.seq{K:W.Frag}{H c:Hp}{a:Addr}{g:List V}(e:Same H c)(h:SqL K H a g):SqL K c a g:=by
 rcases h with(h | ⟨o,h⟩) | h
 ·exact .inl (.inl (e _ _ h))
 ·exact .inl (.inr ⟨o,e _ _ h⟩)
 ·exact .inr h
end L2
namespace L2
inductive Ex1{c:Sort _}(P:c->Prop):Prop
 | mk (g:c) (h:P g):Ex1 P
inductive Ex2{c:Sort _}{g:Sort _}(P:c->g->Prop):Prop
 | mk (l:c) (s:g) (h:P l s):Ex2 P
inductive Ex3{c:Sort _}{g:Sort _}{l:Sort _}(P:c->g->l->Prop):Prop
 | mk (s:c) (t:g) (w:l) (h:P s t w):Ex3 P
inductive Ex4{c:Sort _}{g:Sort _}{l:Sort _}{s:Sort _}(P:c->g->l->s->Prop):Prop
 | mk (t:c) (w:g) (A:l) (B:s) (h:P t w A B):Ex4 P
inductive Ex6{c:Sort _}{g:Sort _}{l:Sort _}{s:Sort _}{t:Sort _}{w:Sort _}(P:c->g->l->s->t->w->Prop):Prop
 | mk (A:c) (B:g) (D:l) (E:s) (G:t) (H:w) (h:P A B D E G H):Ex6 P
inductive An2(c g:Prop):Prop
 | mk (l:c) (s:g):An2 c g
inductive An3(c g l:Prop):Prop
 | mk (s:c) (t:g) (w:l):An3 c g l
inductive An4(c g l s:Prop):Prop
 | mk (t:c) (w:g) (A:l) (B:s):An4 c g l s
inductive An5(c g l s t:Prop):Prop
 | mk (w:c) (A:g) (B:l) (D:s) (E:t):An5 c g l s t
inductive An6(c g l s t w:Prop):Prop
 | mk (A:c) (B:g) (D:l) (E:s) (G:t) (H:w):An6 c g l s t w
inductive An7(c g l s t w A:Prop):Prop
 | mk (B:c) (D:g) (E:l) (G:s) (H:t) (I:w) (J:A):An7 c g l s t w A
inductive An8(c g l s t w A B:Prop):Prop
 | mk (D:c) (E:g) (G:l) (H:s) (I:t) (J:w) (L:A) (M:B):An8 c g l s t w A B
theorem zhF{α:Type _}{g:List α}(h:g.length=1):∃c,g=[c]:=
 match g,h with
 | [c],_=>⟨c,rfl⟩
theorem zhE{α:Type _}{l:List α}(h:l.length=2):∃c g,l=[c,g]:=
 match l,h with
 | [c,g],_=>⟨c,g,rfl⟩
theorem zhD{α:Type _}{s:List α}(h:s.length=3):∃c g l,s=[c,g,l]:=
 match s,h with
 | [c,g,l],_=>⟨c,g,l,rfl⟩
theorem zhC{α:Type _}{t:List α}(h:t.length=4):∃c g l s,t=[c,g,l,s]:=
 match t,h with
 | [c,g,l,s],_=>⟨c,g,l,s,rfl⟩
theorem zhB{α:Type _}{w:List α}(h:w.length=5):∃c g l s t,w=[c,g,l,s,t]:=
 match w,h with
 | [c,g,l,s,t],_=>⟨c,g,l,s,t,rfl⟩
theorem zhA{α:Type _}{A:List α}(h:A.length=6):∃c g l s t w,A=[c,g,l,s,t,w]:=
 match A,h with
 | [c,g,l,s,t,w],_=>⟨c,g,l,s,t,w,rfl⟩
end L2
set_option maxHeartbeats 4000000
namespace L2
open PySem PySem.Spec PyProof.Rows
def qg(g:List (Str×Addr)):List (Str×NameKind)->List (Str×Addr)->List (Str×Addr)
 | [],c=>c
 | (n,k)::r,c=>qg g r (if(k==NameKind.free)=true then(n,(g.lookup n).getD 0)::c else c)
theorem zdx{env:Env}(names:List (Str×NameKind)):∀(g:List (Str×Addr)),(∀y∈names,y.2=NameKind.free->∃c,env.cells.lookup y.1=some c) ->
  (forIn names g fun(x:Str×NameKind) (s:List (Str×Addr))=>
   (if(x.2==NameKind.free)=true then(cellOf env x.1 >>= fun a=>(pure (ForInStep.yield ((x.1,a)::s)):Sem (ForInStep (List (Str×Addr))))) else pure (ForInStep.yield s)))=(pure (qg env.cells names g):Sem (List (Str×Addr))):=by
 induction names with
 | nil=>intro g _;rfl
 | cons y r t=>
  intro g h;obtain⟨n,k⟩:=y;rw[XQ];by_cases hk:(k==NameKind.free)=true
  ·obtain⟨c,hc⟩:=h (n,k) jW (by simpa using hk)
   have w:cellOf env n=pure c:=by
    unfold cellOf;rw[show env.cells.lookup n=some c from hc]
   simp only[hk,if_true,w,pure_bind];rw[t _ fun z l=>h z (z9 _ l)]
   show _=pure (qg env.cells r (if(k==NameKind.free)=true then(n,(env.cells.lookup n).getD 0)::g else g))
   rw[zq hk,show env.cells.lookup n=some c from hc]
   all_goals rfl
  ·simp only[hk,pure_bind]
   simp only[yJ,if_false,pure_bind];rw[t _ fun z l=>h z (z9 _ l)]
   show _=pure (qg env.cells r (if(k==NameKind.free)=true then(n,(env.cells.lookup n).getD 0)::g else g))
   rw[zo hk]
theorem Xv{g:Env}{scope:Scope}(h:∀y∈scope.names,y.2=NameKind.free->∃c,g.cells.lookup y.1=some c):closureFor scope g=pure (qg g.cells scope.names []):=by
 have e:=zdx (env:=g) scope.names [] h;unfold closureFor;refine Eq.trans ?_ (Eq.trans (congrArg (fun m=>m >>= fun l=>(pure l:Sem (List (Str×Addr)))) e) ?_)
 ·rfl
 ·simp
theorem vC{s:List (Str×Addr)}{x:Str}:∀(names:List (Str×NameKind)) (c:List (Str×Addr)),(qg s names c).lookup x=(if(names.any fun y=>y.2==NameKind.free&&x==y.1)=true then some ((s.lookup x).getD 0) else c.lookup x)
 | [],c=>by simp[qg]
 | (n,k)::r,c=>by
  unfold qg;rw[vC r];by_cases g:(r.any fun y=>y.2==NameKind.free&&x==y.1)=true
  ·rw[zq g,zq (by rw[vJ,g,Bool.or_true])]
  ·rw[zo g]
   by_cases hk:(k==NameKind.free)=true
   ·rw[zq hk]
    by_cases hx:(x==n)=true
    ·rw[zq (by rw[vJ];simp only[hk,hx,Bool.and_self,Bool.true_or])]
     have e:x=n:=by simpa using hx
     subst e;simp[qK]
    ·rw[zo (by rw[vJ];simp only[hk,hx,XL,QH];exact g)]
     have l:(x==n)=false:=by simpa using hx
     simp[qK,l]
   ·rw[zo hk,zo (by rw[vJ];simp only[hk,QK,QH];exact g)]
abbrev zP(X:Cx)(c:List Str)(scope:Scope)(C:Addr)(s:Shared)(H:Hp)(ex:List Addr):Cx where
 prog:=X.prog
 w:=X.w
 K:=X.K
 mg:=X.mg
 base:=X.base
 A:=X.A
 N:=c
 s₀:=s
 H₀:=H
 env:=compEnvC scope (qg X.env.cells scope.names []) C X.env
 outer:=X.stack
 stack:=X.stack
 ex:=ex
 fn:=fun _=>false
 calm:=X.calm
 pn:=[]
 xe:=fun _ _=>False
abbrev xU(l:List Expr)(g:Env):Sem Bool:=
 forIn l true fun(c:Expr) (r:Bool)=>if r=true then(isTrue c g (eval c g) >>= fun ok=>(pure (ForInStep.yield ok):Sem (ForInStep Bool))) else pure (ForInStep.yield r)
theorem Qz{c:Program}{w:World}{A:Around}{R:Result->Shared->Prop}{s:Shared}{B U D:Expr}{G:List Expr}{scope:Scope}{I:Pos}{M l:Value}{g:Env}(J:Nat->Shared->Prop)
  (L:∀n s,J n s->wpAny (model c w) A (pyNext M) (fun r s1=>match r with
   | none=>R (.ok .next) s1
   | some v=>wpAny (model c w) A (letOwnedTupleGo U M v) (fun _ s2=>wpAny (model c w) A (assign U g v) (fun _ s3=>
     wpAny (model c w) A (xU G g) (fun ok N=>
      if ok=true then wpAny (model c w) A (eval B g) (fun x O=>
       wpAny (model c w) A (call (.builtin "list.append") [l,x]) (fun _ T=>∃m,m<n/\J m T) (fun _ _=>False) O) (fun _ _=>False) N
      else ∃m,m<n/\J m N) (fun _ _=>False) s3) (fun _ _=>False) s2) (fun _ _=>False) s1) (fun _ _=>False) s)
  (n:Nat) (h:J n s):codeAny (model c w) A (.compLoop (.ListComp B [⟨U,D,G,0⟩] scope I) 0 M l g) R s:=by
 have H:∀{α:Type} {t:Sem α} {Q:α->Shared->Prop} {E:Value->Shared->Prop} {s:Shared},wpAny (model c w) A t Q (fun _ _=>False) s->wpAny (model c w) A t Q E s:=fun x=>qA x (fun _ _ q=>q) fun _ _ q=>q.elim
 refine codeAny_loop rfl J (fun k u hJ=>?_) n h
 show wpAny _ A ((compTurn (.ListComp B [⟨U,D,G,0⟩] scope I) 0 M l g).onRaise (fun x=>do noteFrame x g;theTreesLotGoes x)) _ _ u
 refine wpAny_noted ?_
 rw[compTurn_list];refine zn (vF (zn (H (qA (L k u hJ) (fun r s1 h1=>?_) fun _ _ q=>q))))
 cases r with
 | none=>exact zA h1
 | some v=>
  refine zn (H (qA h1 (fun _ s2 h2=>zn (H (qA h2 (fun _ s3 h3=>zn (H (qA h3 (fun ok N h4=>?_) fun _ _ q=>q))) fun _ _ q=>q))) fun _ _ q=>q))
  cases ok with
  | false=>exact zA ⟨rfl,h4⟩
  | true=>
   have Y:wpAny (model c w) A (eval B g) (fun x O=>wpAny (model c w) A (call (.builtin "list.append") [l,x]) (fun _ T=>∃m,m<k/\J m T) (fun _ _=>False) O) (fun _ _=>False) N:=h4
   refine zn (zn (H (qA Y (fun x O h5=>zn (H (qA h5 (fun _ T h6=>zA (zA ⟨rfl,h6⟩)) fun _ _ q=>q))) fun _ _ q=>q)))
def PF(X:Cx)(g:List Expr)(t:TT):Prop:=
 ∀(c:List (Addr×Obj)) (s:Shared) (σ:St) (H:Hp) (Q:Bool->Hp->Prop),Inv X c σ H s->t σ H Q->wpAny (model X.prog X.w) X.A (xU g X.env) (TP X c σ Q) X.xe s
def zhO:TT:=fun _ H Q=>Q true H
theorem qh{X:Cx}:PF X [] zhO:=fun c s σ H Q I h=>zA ⟨H,I,h⟩
theorem Qa{X:Cx}{c:Expr}{t:TT}(hc:PT X c t):PF X [c] t:=by
 intro g s σ H Q I h;unfold xU;simp only[XQ,WP,if_true];refine zn (zn (thn (hc g s σ H Q I h) fun ok l q=>zA (zA q)))
theorem Xn{P:Program}{w:World}{H:Hp}{h g:Heap}{C:Addr}(x:HOk P w H h)(l:H C=none)(k:∀b o,b≠C->h.get? b=some o->g.get? b=some o):HOk P w H g:=fun b u e=>by
 refine(x b u e).stay (fun c v hc q=>k c v ?_ q) (fun _ q=>q) fun _ _ q=>q
 rcases hc with z | z
 ·rw[z];exact zp e l
 ·exact zp z l
theorem wD{P:Program}{w:World}{H:Hp}{h:Heap}{a:Addr}{o:HO}(x:HOk P w H h)(l:H a=none)(g:ObjOk P w (upd H a o) h a o):HOk P w (upd H a o) h:=fun b u e=>by
 by_cases hb:b=a
 ·subst hb;rw[zg] at e;cases e;exact g
 ·rw[zw hb] at e
  exact(x b u e).stay (fun c v _ q=>q) (fun c q=>by rw[zw (zp q l)];exact q) fun c s q=>by rw[zw (zp q l)];exact q
theorem yg{t c:List Addr}{H s:Hp}{h w:Heap}{a:Addr}{o:HO}(u:Un t c H s h w)(A:a∈c)(g:H a=none):Un t c H (upd s a o) h w where
 keep:=u.keep
 slot:=u.slot
 free:=fun b l q n hx=>by
  have hb:b≠a:=fun z=>hx (by rw[z];exact A)
  rw[zw hb];exact u.free b l q n hx
 there:=u.there
 tups:=fun b B q=>by rw[zw (zp q g)];exact u.tups b B q
 frzs:=fun b l v q=>by rw[zw (zp q g)];exact u.frzs b l v q
 tbls:=fun b ps q=>by rw[zw (zp q g)];exact u.tbls b ps q
theorem Wp{s l:List Addr}{H g:Hp}{h t w:Heap}{C:Addr}(u:Un s l H g h t)(c:h.objs.size<=C)(k:∀b o,b≠C->t.get? b=some o->w.get? b=some o):Un s l H g h w where
 keep:=fun b o q n hb hx=>k b o (zM (jr (zD q) c)) (u.keep b o q n hb hx)
 slot:=fun b o q n hb hx=>let ⟨B,e⟩:=u.slot b o q n hb hx;⟨B,k b _ (zM (jr (zD q) c)) e⟩
 free:=u.free
 there:=fun b o q hx=>let ⟨A,e⟩:=u.there b o q hx;⟨A,k b _ (zM (jr (zD q) c)) e⟩
 tups:=u.tups
 frzs:=u.frzs
 tbls:=u.tbls
def Zq(sn on:List (Str×NameKind))(N c:List Str)(g:List Nat):Bool:=
 sn.all (fun y=>y.2 != .cell&&(y.2 != .local||sn.lookup y.1==some .local)&&(y.2 != .free||(on.lookup y.1==some .cell||on.lookup y.1==some .free)))&&c.length==g.length
  && (c.zip g).all fun p=>sn.lookup p.1==some .free&&N[p.2]? ==some p.1
structure zfs(sn on:List (Str×NameKind))(N fr:List Str)(js:List Nat):Prop where
 cell:∀y∈sn,y.2≠NameKind.cell
 loc:∀y∈sn,y.2=NameKind.local->sn.lookup y.1=some .local
 free:∀y∈sn,y.2=NameKind.free->on.lookup y.1=some .cell\/on.lookup y.1=some .free
 len:fr.length=js.length
 fr:∀(k:Nat) (x:Str),fr[k]? =some x->sn.lookup x=some .free/\∃j:Nat,js[k]? =some j/\N[j]? =some x
theorem zdA{sn on:List (Str×NameKind)}{N g:List Str}{c:List Nat}(h:Zq sn on N g c=true):zfs sn on N g c:=by
 unfold Zq at h;rw[qE,qE,jN,jN] at h;obtain⟨⟨l,w⟩,A⟩:=h;have s:g.length=c.length:=by simpa using w
 refine⟨fun y hy=>?_,fun y hy e=>?_,fun y hy e=>?_,s,fun k x e=>?_⟩
 ·have:=l y hy
  simp only[qE,bne_iff_ne] at this;exact this.1.1
 ·have:=l y hy
  simp only[qE,XO,bne_iff_ne,xN] at this;exact this.1.2.resolve_left fun z=>z e
 ·have:=l y hy
  simp only[qE,XO,bne_iff_ne,xN] at this;exact this.2.resolve_left fun z=>z e
 ·have hk:k<g.length:=(zT.mp e).1
  have t:k<c.length:=by omega
  have B:(x,c[k])∈g.zip c:=by
   refine jc (i:=k) ?_
   rw[zdF];exact⟨e,by simp[t]⟩
  have:=A _ B;simp only[qE,xN] at this;exact⟨this.1,c[k],by simp[t],this.2⟩
def upS(n:Nat)(c:List Nat)(σ:St):St:=List.replicate n none++c.map fun j=>(σ[j]?).join
def tLC(U:TI)(n:Nat)(B:List Nat)(g:TG)(T:TT)(O:TE):TE:=fun σ H Q=>U σ H fun J I=>
 ∃W:Nat->Nat->List V->Hp->Prop,(∃m,W 0 m [] I)/\∀i m l c,W i m l c ->
  (J.stop i c/\l.length<=sizeLine/\∀D,c D=none->Q (.ref D) (upd c D (.lst l))) \/
  (J.go i c/\∃N:List V->Hp->Prop,(∀G t,N G t->∃E,E<m/\W (i+1) E G t)/\∀x w,J.yld i c x w->g x (upS n B σ) w fun s L=>s.drop n=(upS n B σ).drop n/\T s L fun b A=>
   if b=true then O s A fun y M=>l.length<sizeLine/\N (l++[y]) M else N l A)
theorem xH{c:Env}{x:Str}{l:NameKind}:∀{names:List (Str×NameKind)},(names.map fun(n,k)=>if(k==NameKind.free&&c.scope.kind==.function&&c.kindOf n==some .cell) then(n,NameKind.cell) else(n,k)).lookup x=some l ->
  ∃k,names.lookup x=some k/\(l=k\/(k=.free/\l=.cell))
 | [],h=>by simp at h
 | (n,k)::r,h=>by
  by_cases hx:(x==n)=true
  ·refine⟨k,by simp[qK,hx],?_⟩
   have h:List.lookup x ((if(k==NameKind.free&&c.scope.kind==.function&&c.kindOf n==some .cell)=true then(n,NameKind.cell) else(n,k))::_)=some l:=h
   by_cases hc:(k==NameKind.free&&c.scope.kind==.function&&c.kindOf n==some .cell)=true
   ·rw[zq hc,qK,hx] at h
    simp only[qE,xN] at hc;exact .inr ⟨hc.1.1,(qU h).symm⟩
   ·rw[zo hc,qK,hx] at h
    exact .inl (qU h).symm
  ·have g:(x==n)=false:=by simpa using hx
   have h:List.lookup x ((if(k==NameKind.free&&c.scope.kind==.function&&c.kindOf n==some .cell)=true then(n,NameKind.cell) else(n,k))::_)=some l:=h
   have s:(r.map fun(n,k)=>if(k==NameKind.free&&c.scope.kind==.function&&c.kindOf n==some .cell) then(n,NameKind.cell) else(n,k)).lookup x=some l:=by
    by_cases hc:(k==NameKind.free&&c.scope.kind==.function&&c.kindOf n==some .cell)=true
    ·rw[zq hc,qK,g] at h;exact h
    ·rw[zo hc,qK,g] at h;exact h
   obtain⟨t,e,z⟩:=xH s;exact⟨t,by rw[qK,g];exact e,z⟩
theorem vq{env:Env}{x:Str}:∀{names:List (Str×NameKind)},names.lookup x=some .free->∃c,(names.map fun(n,k)=>if(k==NameKind.free&&env.scope.kind==.function&&env.kindOf n==some .cell) then(n,NameKind.cell) else(n,k)).lookup x=some c/\(c=.cell\/c=.free)
 | [],h=>by simp at h
 | (n,k)::r,h=>by
  by_cases hx:(x==n)=true
  ·rw[qK,hx] at h
   cases(qU h);show ∃c,List.lookup x ((if(NameKind.free==NameKind.free&&env.scope.kind==.function&&env.kindOf n==some .cell)=true then(n,NameKind.cell) else(n,NameKind.free))::_)=some c/\_
   by_cases hc:(NameKind.free==NameKind.free&&env.scope.kind==.function&&env.kindOf n==some .cell)=true
   ·rw[zq hc];exact⟨.cell,by simp[qK,hx],.inl rfl⟩
   ·rw[zo hc];exact⟨.free,by simp[qK,hx],.inr rfl⟩
  ·have g:(x==n)=false:=by simpa using hx
   rw[qK,g] at h;obtain⟨c,e,z⟩:=vq (env:=env) (names:=r) h;refine⟨c,?_,z⟩
   show List.lookup x ((if(k==NameKind.free&&env.scope.kind==.function&&env.kindOf n==some .cell)=true then(n,NameKind.cell) else(n,k))::_)=some c
   by_cases hc:(k==NameKind.free&&env.scope.kind==.function&&env.kindOf n==some .cell)=true
   ·rw[zq hc,qK,g];exact e
   ·rw[zo hc,qK,g];exact e
theorem zR{g:List (Str×Addr)}{names:List (Str×NameKind)}{x:Str}{c:Addr}(h:(qg g names []).lookup x=some c)(t:∀y∈names,y.2=NameKind.free->∃c,g.lookup y.1=some c):g.lookup x=some c:=by
 rw[vC] at h;by_cases l:(names.any fun y=>y.2==NameKind.free&&x==y.1)=true
 ·rw[zq l] at h
  obtain⟨y,hy,e⟩:=QP.mp l;simp only[qE,xN] at e;obtain⟨w,s⟩:=t y hy e.1;rw[<- e.2] at s;rw[s] at h ⊢;exact h
 ·rw[zo l] at h
  cases h
theorem xD{c:List (Str×Addr)}{names:List (Str×NameKind)}{x:Str}(h:names.lookup x=some .free):(qg c names []).lookup x=some ((c.lookup x).getD 0):=by
 rw[vC,zq];exact QP.mpr ⟨(x,.free),vK h,by simp⟩
theorem x8{n:Nat}{c:List Nat}{σ:St}{i:Nat}{v:V}(h:(upS n c σ)[i]? =some (some v)):n<=i/\((upS n c σ).drop n)[i-n]? =some (some v)/\∃j:Nat,c[i-n]? =some j/\σ[j]? =some (some v):=by
 unfold upS at h ⊢;by_cases s:i<n
 ·rw[jR (by simpa using s),List.getElem?_replicate] at h
  split at h<;>cases h
 ·have e:(List.replicate n (none:Option V)++c.map fun j=>(σ[j]?).join).drop n=c.map fun j=>(σ[j]?).join:=by
   rw[List.drop_append_of_le_length (by simp)];simp
  rw[jB (by simpa using s),wL] at h
  refine⟨by omega,by rw[e];exact h,?_⟩
  rw[zZ] at h;cases g:c[i-n]? with
  | none=>rw[g] at h;cases h
  | some j=>
   rw[g] at h;have h:(σ[j]?).join=some v:=qU h;refine⟨j,rfl,?_⟩
   cases l:σ[j]? with
   | none=>rw[l] at h;cases h
   | some o=>rw[l] at h;exact congrArg some h
theorem JX{n:Nat}{c:List Nat}{σ:St}:(upS n c σ).length=n+c.length:=by unfold upS;simp
section
variable{X:Cx}{w E t:Expr}{A:List Expr}{scope:Scope}{G:Pos}{O:TI}{g:TG}{M:TT}{L:TE}
theorem zbL{N:List (Addr×Obj)}{σ:St}{H:Hp}{s:Shared}{fp:List Addr}(own fr:List Str)(js:List Nat)(I:Inv X N σ H s)(B:zfs scope.names X.env.scope.names X.N fr js)(hk:scope.kind=.function)
  (f2:∀b∈fp,jh X N H b) (fl:∀b∈fp,b<s.heap.objs.size) {D C:Addr} (hD:D=s.heap.objs.size) {T h1:Heap} (e3:T=s.heap.push { cls:=.type "list",dict:=none,data:=.seq ([]:List Value).toArray }) (hC:C=T.objs.size)
  {m:Str->Option Value} (a4:h1.Ns C m) (k4:∀b o,T.get? b=some o->h1.get? b=some o) {t4:Nat} :
  Inv (zP X (own++fr) scope C { s with heap:=T } H (D::fp)) [] (upS own.length js σ) H { s with heap:=h1,toks:=t4 }:=by
 have k3:∀b o,s.heap.get? b=some o->T.get? b=some o:=fun b o e=>by rw[e3];exact zO _ e
 have Y:Inv X N σ H { s with heap:=T }:=I.kept (t':=s.toks) k3;have hz:T.objs.size=s.heap.objs.size+1:=by rw[e3,qS]
 have J:∀y∈scope.names,y.2=NameKind.free->∃c,X.env.cells.lookup y.1=some c:=fun y hy e=>I.ok.has y.1 (B.free y hy e)
 have Q:∀x c,X.env.cells.lookup x=some c->c<s.heap.objs.size:=fun x c e=>by
  obtain⟨v,q⟩:=I.cell x c e;exact q.lt
 refine⟨⟨I.ok.mod,hk,I.ok.glob,I.ok.blt,wc hC.symm,fun x y c e1 e2=>?_,fun x hx=>?_,fun x c hf=>(nomatch hf),fun hc=>I.ok.hd hc,I.ok.frames,.inl rfl,fun b hb=>?_,Y.bs,jU I.ok.bsz Y.sz,fun b o e hb=>?_,fun b hb hf=>?_,Y.stack,Y.stkFree⟩,
  rfl,I.bare,Un.kept k4,⟨m,a4,fun i x v e1 e2 a5=>?_⟩,fun x c e=>?_,?_,fun x c e=>?_,fun p hp=>absurd (show p∈([]:List (Addr×Obj)) from hp) (by simp),Y.hok.kept k4,?_⟩
 ·exact I.ok.inj x y c (zR e1 J) (zR e2 J)
 ·obtain⟨k,e,z⟩:∃k,scope.names.lookup x=some k/\(k=.free):=by
   rcases hx with hx | hx
   ·obtain⟨k,e,z⟩:=xH hx
    rcases z with z | z
    ·subst z;exact absurd rfl (B.cell _ (vK e))
    ·exact⟨k,e,z.1⟩
   ·obtain⟨k,e,z⟩:=xH hx
    rcases z with z | z
    ·subst z;exact⟨_,e,rfl⟩
    ·exact⟨k,e,z.1⟩
  subst z;exact⟨_,xD e⟩
 ·rcases zL.mp hb with z | hb
  ·subst z
   refine⟨by rw[hD,hC,hz];exact zM (j9 _),fun x c e=>?_⟩
   have:=Q x c (zR e J);rw[hD];exact zM this
  ·refine⟨by rw[hC,hz];exact zM (jQ (fl b hb)),fun x c e=>?_⟩
   exact(f2 b hb).2.2.2.2.1 x c (zR e J)
 ·rcases zL.mp hb with z | hb
  ·have:=zD (I.bk b o e)
   rw[z,hD] at this;exact jJ _ this
  ·rcases(f2 b hb).2.2.2.1 with z | z
   ·exact I.ok.noex b o e z
   ·exact absurd (jr (zD (I.ok.bs b o e).1) z) (jJ _)
 ·have a1:=zL.mp (I.stkSub b hf)
  rcases zL.mp hb with z | hb
  ·rcases a1 with y | y
   ·have:=I.lt
    rw[<- y,z,hD] at this;exact jJ _ this
   ·exact I.nofs (a:=b) (by rw[z,hD];exact zC _) y
  ·rcases a1 with y | y
   ·exact(f2 b hb).2.1 y
   ·exact(f2 b hb).2.2.1 y
 ·obtain⟨hn,_,j,ej,es⟩:=x8 e2
  have ex:fr[i-own.length]? =some x:=by rw[jB hn] at e1;exact e1
  obtain⟨U,j',a0,eN⟩:=B.fr _ x ex;have:j'=j:=by rw[ej] at a0;exact(qU a0).symm
  subst this;have a2:=B.free _ (vK U) rfl;obtain⟨m0,_,hl⟩:=I.loc;obtain⟨u,r,l⟩:=hl j' x v eN es (by rcases a2 with z | z;exact .inr (.inl z);exact .inr (.inr z))
  refine⟨u,r,.inr ?_⟩
  rcases l with ⟨kl,_⟩ | ⟨_,c,ec,o,eo,ed⟩
  ·have a3:X.env.scope.names.lookup x=some .local:=kl
   rcases a2 with z | z
   ·exact absurd (z.symm.trans a3) (by decide)
   ·exact absurd (z.symm.trans a3) (by decide)
  ·obtain⟨k',e',z⟩:=vq (env:=X.env) U
   have eq:(qg X.env.cells scope.names []).lookup x=some c:=by rw[xD U,ec];rfl
   refine⟨?_,c,eq,o,k4 c o (k3 c o eo),ed⟩
   rcases z with z | z
   ·subst z;exact .inl e'
   ·subst z;exact .inr e'
 ·obtain⟨v,o,eo,ed⟩:=I.cell x c (zR e J)
  exact⟨v,o,k4 c o (k3 c o eo),ed⟩
 ·exact Y.hok.fresh (wc hC.symm)
 ·exact I.freeC x c (zR e J)
 ·rw[JX,<- B.len]
  show _=(own++fr).length;rw[zY]
inductive LcJ(Y:Cx)(D:Addr)(I:Nat->Heap->Prop)(H:List Addr)(c:List (Addr×Obj))(σ:St)(W:Nat->Nat->List V->Hp->Prop)(n:Nat)(s:Shared):Prop
 | mk (i:Nat) (J:List V) (l:List Value) (B:Hp) (z:Nat) (_:Inv Y c σ B s) (_:I i s.heap) (_:∀b∈H,B b=none) (_:B D=none) (_:s.heap.get? D=some { cls:=.type "list",data:=.seq l.toArray z }) (_:Vals J l) (_:W i n J B):LcJ Y D I H c σ W n s
inductive LcE(Y:Cx)(D:Addr)(c:List (Addr×Obj))(σ:St)(N:List V->Hp->Prop)(s:Shared):Prop
 | mk (H:List V) (l:List Value) (B:Hp) (z:Nat) (_:Inv Y c σ B s) (_:B D=none) (_:s.heap.get? D=some { cls:=.type "list",data:=.seq l.toArray z }) (_:Vals H l) (_:N H B):LcE Y D c σ N s
theorem zag{Y:Cx}{D it:Addr}{B:List Addr}{tn:Nat->Heap->Prop}{J:It}{c:List (Addr×Obj)}{σ4:St}{Kp:St->Prop}{W:Nat->Nat->List V->Hp->Prop}{N:List V->Hp->Prop}{n:Nat}{Q:Shared}
  (hc:Y.calm=true) (hx:Y.xe=fun _ _=>False) (hg:PG Y E g) (hf:PF Y A M) (he:PE Y w L) (T:Ze Y.prog Y.w Y.K E J B it tn)
  (fD:∀s:Hp,s D=none->jh Y c s D) (f2:∀b∈B,∀s:Hp,s b=none->jh Y c s b) (nD:∀b∈B,D≠b) (bk:∀σ9 s s',Inv Y c σ9 s s'->Kp σ9->Inv Y c σ4 s s')
  (ak:∀i m zs H7,W i m zs H7->(J.stop i H7/\N zs H7)\/(J.go i H7/\∃N2:List V->Hp->Prop,(∀zs s,N2 zs s->∃m',m'<m/\W (i+1) m' zs s)/\∀x H8,J.yld i H7 x H8->g x σ4 H8 fun σ9 H9=>Kp σ9/\M σ9 H9 fun b U=>
    if b=true then L σ9 U fun y al=>zs.length<sizeLine/\N2 (zs++[y]) al else N2 zs U)) (j:LcJ Y D tn B c σ4 W n Q) :
  wpAny (model Y.prog Y.w) Y.A (pyNext (.ref it)) (fun r s1=>match r with
   | none=>LcE Y D c σ4 N s1
   | some v=>wpAny (model Y.prog Y.w) Y.A (letOwnedTupleGo E (.ref it) v) (fun _ s2=>wpAny (model Y.prog Y.w) Y.A (assign E Y.env v) (fun _ s3=>
     wpAny (model Y.prog Y.w) Y.A (xU A Y.env) (fun ok s4=>
      if ok=true then wpAny (model Y.prog Y.w) Y.A (eval w Y.env) (fun x Q=>
       wpAny (model Y.prog Y.w) Y.A (call (.builtin "list.append") [.ref D,x]) (fun _ s6=>∃m,m<n/\LcJ Y D tn B c σ4 W m s6) (fun _ _=>False) Q) (fun _ _=>False) s4
      else ∃m,m<n/\LcJ Y D tn B c σ4 W m s4) (fun _ _=>False) s3) (fun _ _=>False) s2) (fun _ _=>False) s1) (fun _ _=>False) Q:=by
 unfold PG at hg;unfold PF at hf;unfold PE at he
 rw[hx] at hg hf he;obtain⟨i,ys,H,H5,z5,I5,aj,af,ao,ai,a7,w5⟩:=j;have ae:=I5.pinned (fp:=[D]) (fun b hb=>by rw[zK.mp hb];exact fD _ ao) (fun b hb=>by rw[zK.mp hb];exact⟨_,ai,fun v q=>nomatch q⟩)
 have mD:(D,({ cls:=.type "list",data:=.seq H.toArray z5 }:Obj))∈c++zU [D] Q.heap:=qt _ (qD (zK.mpr rfl) ai);have ab:∀{s:Hp},(∀b∈B,s b=none)->∀b∈B,jh Y (c++zU [D] Q.heap) s b:=fun hn b hb=>by
  obtain⟨a1,a2,a3,a4,a5,a6⟩:=f2 b hb _ (hn b hb);refine⟨a1,a2,a3,a4,a5,fun p hp=>?_⟩
  rcases qJ.mp hp with q | q
  ·exact a6 p (we _ q)
  ·rcases qJ.mp q with q | q
   ·exact a6 p (qt _ q)
   ·rw[zK.mp (xC q).1];exact nD b hb
 rcases ak i n ys H5 w5 with ⟨stop,q⟩ | ⟨go,N2,hN,step⟩
 ·refine thn (T.done Y rfl rfl rfl hc i _ Q _ H5 _ ae (ab af) aj stop) fun r s6 ⟨hr,I6⟩=>?_
  subst hr;obtain⟨o6,au,_⟩:=I6.pin (D,_) (qt _ mD);exact⟨ys,H,H5,z5,I6.unpinned,au,o6,a7,q⟩
 ·refine thn (T.item Y rfl rfl rfl hc i _ Q _ H5 _ ae (ab af) aj go) fun r s6 ⟨u,hr,h6⟩=>?_
  subst hr;refine thn h6 fun _ s7 ⟨x,H7,I7,r7,y7,a8,an⟩=>?_
  refine thn (hg _ s7 _ H7 x u _ (I7.pinned (ab an) (T.obj _ _ a8)) r7 (step x H7 y7)) fun _ s8 ⟨σ8,H8,I8,ap,q8⟩=>?_
  refine thn (hf _ s8 σ8 H8 _ I8 q8) fun ok s9 ⟨H9,I9,q9⟩=>?_
  have ac:=qt Y.pn (we (zU B s7.heap) mD);have mF:∀b∈B,∀o,s7.heap.get? b=some o->(b,o)∈Y.pn++((c++zU [D] Q.heap)++zU B s7.heap):=fun b hb o e=>qt _ (qt _ (qD hb e))
  generalize hP:(c++zU [D] Q.heap)++zU B s7.heap=P at I9 ac mF he;have aa:∀{s:Hp} {s':Shared},Inv Y P σ8 s s'->Inv Y c σ4 s s':=fun {s s'} J=>by subst hP;exact bk _ _ _ (J.unpinned).unpinned ap
  have ag:∀{s:Hp} {s':Shared},Inv Y P σ8 s s'->∀b∈B,s b=none:=fun {s s'} J b hb=>by
   obtain⟨o,e,_⟩:=T.obj _ _ a8 b hb;exact(J.pin (b,o) (mF b hb o e)).2.1
  cases ok with
  | false=>
   obtain⟨m',hm,w'⟩:=hN _ _ (show N2 ys H9 by simpa using q9)
   obtain⟨o9,av,_⟩:=I9.pin (D,_) ac;exact⟨m',hm,i+1,ys,H,H9,z5,aa I9,T.keep _ _ _ a8 fun b hb o e=>(I9.pin (b,o) (mF b hb o e)).1,ag I9,av,o9,a7,w'⟩
  | true=>
   refine thn (he _ s9 σ8 H9 (fun y H6=>ys.length<sizeLine/\N2 (ys++[y]) H6) I9 (by simpa using q9)) fun yv ay ⟨y,U,a0,ax,aq,az⟩=>?_
   obtain⟨m',hm,w'⟩:=hN _ _ az;obtain⟨aw,I,_⟩:=a0.pin (D,_) ac;refine wpAny_list_append_plain (l:=D) (items:=H.toArray) (hsz:=by rw[zX,<- a7.length];exact vI aq) ⟨_,aw⟩ fun b1 ah a9=>?_
   obtain⟨b0,am⟩:=ah;obtain⟨d0,d1,d2,d3,d4,d5⟩:=fD _ I;refine⟨m',hm,i+1,ys++[y],H++[yv],U,b0,?_,T.keep _ _ _ a8 fun b hb o e=>a9.extBut b o (qc (nD b hb)) (a0.pin (b,o) (mF b hb o e)).1,ag a0,I,?_,a7.append (.cons ax .nil),w'⟩
   ·exact(aa a0).turned (t':=ay.toks) (it:=D) (fun b o hb e=>a9.extBut b o hb e) I d1 d3 d4 d5
   ·rw[am];simp
theorem zdw{use:Option (Value->Sem Unit)}{Qx:Value->Shared->Prop}{cp:Pos}{rest:List Comprehension}{l:List (Addr×Obj)}{s:Shared}{σ:St}{H:Hp}{Q:VK}{Tl:It->(Nat->Nat->List V->Hp->Prop)->Prop}(own fr:List Str)(js:List Nat)(hk:scope.kind=.function)(hb:Zq scope.names X.env.scope.names X.N fr js=true)(hi:PI X E t O)
  (hs:∀x,foldedSetIterable t X.env x=pure x) (I:Inv X l σ H s) (h:O σ H fun J H1=>∃W:Nat->Nat->List V->Hp->Prop,(∃m,W 0 m [] H1)/\Tl J W)
  (a7:∀(C D it:Addr) (U:List Addr) (tn:Nat->Heap->Prop) (J:It) (W:Nat->Nat->List V->Hp->Prop) (Y:Hp) (s3 s4:Shared) (m0:Nat) (R:Result->Shared->Prop),(∀b∈D::U,∀H':Hp,H' b=none->jh (zP X (own++fr) scope C s3 Y (D::U)) [] H' b)->(∀b∈U,D≠b) ->
   Ze X.prog X.w X.K E J U it tn->Tl J W->LcJ (zP X (own++fr) scope C s3 Y (D::U)) D tn U [] (upS own.length js σ) W m0 s4 ->
   (∀s6,LcE (zP X (own++fr) scope C s3 Y (D::U)) D [] (upS own.length js σ) (fun ys H5=>ys.length<=sizeLine/\∀D,H5 D=none->Q (.ref D) (upd H5 D (.lst ys))) s6->R (.ok .next) s6) ->
   codeAny (model X.prog X.w) X.A (.compLoop (.ListComp w (⟨E,t,A,0⟩::rest) scope G) 0 (.ref it) (.ref D) (compEnvC scope (qg X.env.cells scope.names []) C X.env)) R s4)
  (a9:∀(s6:Shared) (D C:Addr) (H6:Hp) (m:Str->Option Value),s6.heap.Ns C m->(∀h7:Heap,(∀b o,b≠C->s6.heap.get? b=some o->h7.get? b=some o)->Inv X l σ H6 { s6 with heap:=h7 })->jh X l H6 C->Q (.ref D) H6->compPost (model X.prog X.w) X.A X.xe use Qx (.ref D) C (.ok .next) s6) :
  wpAny (model X.prog X.w) X.A (comprehension (.ListComp w (⟨E,t,A,0⟩::rest) scope G) scope X.env cp (newList []) false (eval t X.env) use) Qx X.xe s:=by
 have B:=zdA hb;have a0:∀y∈scope.names,y.2=NameKind.free->∃c,X.env.cells.lookup y.1=some c:=fun y hy e=>I.ok.has y.1 (B.free y hy e)
 refine wpAny_comprehension_free rfl hs (Xv a0) hk (fun y hy e=>B.loc y hy e) (thn (hi l s σ H _ I h) fun v s1 h1=>thn h1 fun ai N h2=>?_)
 obtain⟨it,U,tn,J,Y,e,I2,T,a4,f2,W,⟨m0,w0⟩,tl⟩:=h2;subst e;have fl:∀b∈U,b<N.heap.objs.size:=fun b hb=>let ⟨o,e,_⟩:=T.obj _ _ a4 b hb;zD e
 refine jV (wpAny_newFunctionEnv B.cell (by intro y hy;simp at hy) (fun h1 a2 a3=>?_) hk)
 dsimp only at a2 a3 ⊢;generalize e3:N.heap.push { cls:=.type "list",dict:=none,data:=.seq ([]:List Value).toArray }=h3 at a2 a3 ⊢;have k3:∀b o,N.heap.get? b=some o->h3.get? b=some o:=fun b o e=>by rw[<- e3];exact zO _ e
 have k4:∀b o,h3.get? b=some o->h1.get? b=some o:=fun b o e=>a3.extBut b o (zM (zD e)) (zO _ e)
 have I4:Inv (zP X (own++fr) scope h3.objs.size { N with heap:=h3 } Y (N.heap.objs.size::U)) [] (upS own.length js σ) Y { N with heap:=h1,toks:=N.toks+([]:List (Str×Value)).length }:=
  zbL own fr js I2 B hk f2 fl rfl e3.symm rfl a2 k4
 have I3:Inv X l σ Y { N with heap:=h3 }:=I2.kept (t':=N.toks) k3;have hz:h3.objs.size=N.heap.objs.size+1:=by rw[<- e3,qS]
 have a1:N.heap.objs.size≠h3.objs.size:=by rw[hz];exact zM (j9 _)
 have a5:h1.get? N.heap.objs.size=some { cls:=.type "list",data:=.seq ([]:List Value).toArray }:=k4 _ _ (by rw[<- e3];exact zQ _ rfl)
 have ab:=(I3.fpOk (b:=h3.objs.size) (zC _) (I3.hok.fresh (zC _))).2;have dN:Y N.heap.objs.size=none:=I2.hok.fresh (zC _);have dO:=I2.fpOk (b:=N.heap.objs.size) (zC _) dN;have fD:∀b∈U,N.heap.objs.size≠b:=fun b hb=>jI (fl b hb)
 generalize N.heap.objs.size=D at *
 generalize eC:h3.objs.size=C at *
 have hx:∀b,jh X l Y b->∀x c,(qg X.env.cells scope.names []).lookup x=some c->c≠b:=fun b hb x c e=>hb.2.2.2.2.1 x c (zR e a0)
 have ag:∀b∈D::U,b∉frs X.stack:=I4.ok.exfs;have nC:∀b∈D::U,b≠C:=fun b hb=>by
  rcases zL.mp hb with z | hb
  ·rw[z];exact a1
  ·exact(I4.ok.exf b (z9 _ hb)).1
 have all:∀b∈D::U,jh X l Y b:=fun b hb=>by
  rcases zL.mp hb with z | hb
  ·rw[z];exact dO
  ·exact f2 b hb
 have aa:∀b∈D::U,∀H':Hp,H' b=none->jh (zP X (own++fr) scope C { N with heap:=h3 } Y (D::U)) [] H' b:=fun b hb H' hn=>
  ⟨hn,nC b hb,ag b hb,.inl hb,fun x c e=>hx b (all b hb) x c e,fun p h=>absurd h (by simp)⟩
 have go:∀s4:Shared,s4={ N with heap:=h1,toks:=N.toks+([]:List (Str×Value)).length } ->
   codeAny (model X.prog X.w) X.A (.compLoop (.ListComp w (⟨E,t,A,0⟩::rest) scope G) 0 (.ref it) (.ref D) (compEnvC scope (qg X.env.cells scope.names []) C X.env)) (compPost (model X.prog X.w) X.A X.xe use Qx (.ref D) C) s4:=by
  intro s4 e4;subst e4;refine a7 C D it U tn J W Y _ _ m0 _ aa fD T tl ⟨0,[],[],Y,0,I4,T.keep _ _ _ a4 fun b hb o e=>k4 b o (k3 b o e),fun b hb=>(f2 b hb).1,dN,a5,.nil,w0⟩ fun s6 h6=>?_
  obtain⟨ys,af,H5,z5,I6,a8,o6,ah,a6,q⟩:=h6;obtain⟨m6,ae,_⟩:=I6.loc;have ac:upd H5 D (.lst ys) C=none:=by rw[zw (qc a1)];exact I6.free
  refine a9 s6 D C (upd H5 D (.lst ys)) m6 ae (fun h7 k7=>?_) ⟨ac,ab⟩ (q D a8)
  refine I3.call' (s':={ s6 with heap:=h7 }) (ch:=D::U) I6.os (yg (Wp I6.base (wc eC) k7) jW dN) (wD (Xn I6.hok I6.free k7) a8 ⟨a6,af,z5,ah,k7 D _ a1 o6⟩) I6.bare fun b hb=>?_
  obtain⟨_,g1,_,g3,g4,g5⟩:=all b hb;exact⟨g3,g1,g4,g5⟩
 exact codeAny_compStart_list (go _ rfl) (T.self X.A 0 _ _ _ (T.keep _ _ _ a4 fun b hb o e=>k4 b o (k3 b o e)) (go _ rfl))
theorem Vb{Y:Cx}{c:List (Addr×Obj)}{n:Nat}{l:List Nat}{σ H:St}{s:Hp}{D:Shared}(N:(upS n l σ).length=Y.N.length)(J:Inv Y c H s D)(I:H.drop n=(upS n l σ).drop n):Inv Y c (upS n l σ) s D:=by
 refine J.weak (N.trans J.len.symm) fun k v e=>?_
 obtain⟨Q,B,_⟩:=x8 e;rw[<- I,XW] at B;rw[<- B];congr 1
 omega
theorem zah{C D it:Addr}{c:List Addr}{tn:Nat->Heap->Prop}{J:It}{W:Nat->Nat->List V->Hp->Prop}{H2:Hp}{s3 s4:Shared}{m0 n:Nat}{R:Result->Shared->Prop}{U:List Nat}{σ:St}{l:List Str}{N:List V->Hp->Prop}(hc:X.calm=true)
  (hg:∀C s H ex,PG (zP X l scope C s H ex) E g) (hf:∀C s H ex,PF (zP X l scope C s H ex) A M) (he:∀C s H ex,PE (zP X l scope C s H ex) w L) (a1:∀b∈D::c,∀Q:Hp,Q b=none->jh (zP X l scope C s3 H2 (D::c)) [] Q b) (fD:∀b∈c,D≠b) (T:Ze X.prog X.w X.K E J c it tn)
  (a2:∀i m B H7,W i m B H7->(J.stop i H7/\N B H7)\/(J.go i H7/\∃N2:List V->Hp->Prop,(∀B Q,N2 B Q->∃m',m'<m/\W (i+1) m' B Q)/\∀x H8,J.yld i H7 x H8->g x (upS n U σ) H8 fun σ9 H9=>σ9.drop n=(upS n U σ).drop n/\M σ9 H9 fun b a0=>
    if b=true then L σ9 a0 fun y a3=>B.length<sizeLine/\N2 (B++[y]) a3 else N2 B a0))
  (j:LcJ (zP X l scope C s3 H2 (D::c)) D tn c [] (upS n U σ) W m0 s4) (a4:∀s6,LcE (zP X l scope C s3 H2 (D::c)) D [] (upS n U σ) N s6->R (.ok .next) s6) :
  codeAny (model X.prog X.w) X.A (.compLoop (.ListComp w [⟨E,t,A,0⟩] scope G) 0 (.ref it) (.ref D) (compEnvC scope (qg X.env.cells scope.names []) C X.env)) R s4:=by
 have hl:=(let ⟨_,_,_,_,_,I,_,_,_,_,_,_⟩:=j;I.len:(upS n U σ).length=l.length)
 refine Qz (LcJ (zP X l scope C s3 H2 (D::c)) D tn c [] (upS n U σ) W) (fun k s5 j=>qA (zag (Y:=zP X l scope C s3 H2 (D::c)) hc rfl (hg _ _ _ _) (hf _ _ _ _) (he _ _ _ _) T (a1 D jW) (fun b hb=>a1 b (z9 _ hb)) fD (fun σ9 Q s' J hd=>Vb hl J hd) a2 j) (fun r s6 h6=>?_) fun _ _ q=>q) m0 j
 cases r with
 | some v=>exact h6
 | none=>exact a4 s6 h6
theorem zfo(own l:List Str)(U:List Nat)(hc:X.calm=true)(hk:scope.kind=.function)(hb:Zq scope.names X.env.scope.names X.N l U=true)(hi:PI X E t O)
  (hg:∀C s H c,PG (zP X (own++l) scope C s H c) E g) (hf:∀C s H c,PF (zP X (own++l) scope C s H c) A M) (he:∀C s H c,PE (zP X (own++l) scope C s H c) w L)
  (hs:∀x,foldedSetIterable t X.env x=pure x:=by intro _;rfl):PE X (.ListComp w [⟨E,t,A,0⟩] scope G) (tLC O own.length U g M L):=by
 intro Y s σ H Q I h;rw[eval_ListComp];exact zdw (rest:=[]) own l U hk hb hi hs I h (fun C D it fp tn J W H2 s3 s4 m0 R a b T tl j B=>zah hc hg hf he a b T tl j B) fun s6 D C H6 m hn all _ q=>⟨m,hn,fun h7 N=>⟨.ref D,H6,all h7 fun b o hb e=>N.extBut b o hb e,rfl,q⟩⟩
end
section
variable{X:Cx}{g:List (Addr×Obj)}{σ:St}{H:Hp}{s:Shared}
theorem Xl{ch:List Addr}{h':Heap}{t':Nat}{T:Addr}{w:List V}{its:List Value}(I:Inv X g σ H s)(t:∀b∈ch,jh X g H b)(A:s.heap.objs.size<=T)
  (k:∀b o,b∉ch->s.heap.get? b=some o->h'.get? b=some o) (N:w.length<=sizeLine) (Y:Vals w its) (U:TupX h' T its.toArray) :
  Inv X g σ (upd H T (.tup w)) { s with heap:=h',toks:=t' }:=by
 have l:H T=none:=I.hok.fresh A;have ne:∀b o,s.heap.get? b=some o->b≠T:=fun b o e=>zM (jr (zD e) A)
 have B:∀b u,H b=some u->b∉ch:=fun b u e hb=>by rw[(t b hb).1] at e;cases e
 refine I.step (g':=s.gens) (d':=s.drawn) (ch:=ch) (fun b hb=>?_) (fun b o _ _ hc e _=>k b o hc e) (fun b o _ _ hc e _=>⟨o.slots,k b o hc e⟩) (fun b o _ e n=>by rw[zw (ne b o e)];exact n) (fun b o hc e=>⟨o,k b o hc e⟩)
  (fun b xs e=>by rw[zw (zp e l)];exact e) (fun b o u e=>by rw[zw (zp e l)];exact e) (fun b ps e=>⟨#[],by rw[zw (zp e l),e];simp⟩) (fun m O=>?_) (fun b u e=>?_) I.bare
 ·obtain⟨_,G,_,J,L,M⟩:=t b hb
  exact⟨J,G,L,M⟩
 ·obtain⟨o,E,D,Q,r⟩:=O
  exact⟨o,E,D,k _ o (fun z=>(t _ z).2.1 rfl) Q,r⟩
 ·by_cases hb:b=T
  ·subst hb
   rw[zg] at e;cases e;exact⟨N,its,Y,U⟩
  ·rw[zw hb] at e
   refine(I.hok b u e).stay (fun c v hc q=>k c v ?_ q) (fun c q=>by rw[zw (zp q l)];exact q) fun c xs q=>by rw[zw (zp q l)];exact q
   rcases hc with z | z
   ·rw[z];exact B b u e
   ·exact B c _ z
end
def Ite(K:W.Frag)(a:Addr):It:=
 ⟨fun i H=>∃c x,SqL K H a c/\c[i]? =some x,fun i H x g=>∃T y,x=.ref T/\H T=none/\g=upd H T (.tup [.int i,y])/\∀c,SqL K H a c->c[i]? =some y,fun i H=>∃c,SqL K H a c/\c.length<=i⟩
theorem za1{P:Program}{w:World}{K:W.Frag}{U:List Expr}{kk:Nat}{ac:Pos}(a e t:Addr)(M:e≠t) :
  Ze P w K (.Tuple U kk ac) (Ite K a) [e,t] e (fun i h=>(∃G,IsEnum h e t i G)/\h.IsListIter t a i) where
 mem:=by simp
 obj:=fun i h st b hb=>by
  obtain⟨⟨G,g⟩,⟨o,ho,c,d⟩⟩:=st;rcases zL.mp hb with z | z
  ·subst z;exact⟨_,g,fun v q=>nomatch q⟩
  ·rw[zK.mp z];exact⟨o,ho,fun v q=>by rw[d] at q;cases q⟩
 keep:=fun i h h' st k=>by
  obtain⟨⟨G,g⟩,hi⟩:=st;exact⟨⟨G,k e (by simp) _ g⟩,hi.at fun o q=>k t (by simp) o q⟩
 item:=by
  intro X hP hw hK hc i a2 s σ H E I hf st hg;subst hP hw hK;obtain⟨⟨G,g⟩,l⟩:=st;obtain⟨xs,x,hq,hx⟩:=hg;obtain⟨B,rv,p,hz⟩:=I.list hq;obtain⟨u,hu,ru⟩:=rv.get hx;have Q:=p.isList;have Y:a≠t:=fun z=>by
   obtain⟨o,J,L,_⟩:=Q;obtain⟨o',e2,c2,_⟩:=l;rw[z,e2] at J;cases J;rw[c2] at L;exact absurd (QJ L) (by decide)
  have a4:e≠a:=fun z=>by
   obtain⟨o,J,L,_⟩:=Q;rw[<- z,g] at J;cases J;exact absurd (QJ L) (by decide)
  have D:=Draws.list (prog:=X.prog) (w:=X.w) (A:=X.A.in1) (I.ok.hd hc) t a Y B.toArray;have hi:i<B.toArray.size:=by
   have h1:=(zT.mp hu).1;simpa using h1
  refine wpAny_pyNext_enum_itemD D g ⟨l,Q⟩ hi M (by simp[M,a4]) fun x' h' tk a3 a0 a1 hT ag hk=>?_
  have ex:x'=u:=by
   have O:B[i]? =some x':=by simpa using a3
   rw[hu] at O;exact(qU O).symm
  subst ex;refine⟨_,rfl,wpAny_letOwnedTupleGo_enum a0 fun O a8 N=>?_⟩
  have eT:s.heap.objs.size≠e:=jI (zD g);have k2:∀b o,b∉[e,t]->s.heap.get? b=some o->O.get? b=some o:=fun b o hb q=>by
   have n1:b≠e:=fun z=>hb (by simp[z])
   have n2:b≠t:=fun z=>hb (by simp[z])
   exact(N.2 b n1).trans (hk b o n1 n2 q)
  have ab:O.IsListIter t a (i+1):=a1.1.extBut N.extBut (qc M);refine⟨.ref s.heap.objs.size,upd H s.heap.objs.size (.tup [.int i,x]),?_,rfl,⟨_,x,rfl,I.hok.fresh (zC _),rfl,fun ys hy=>by rw[I.list_inj hy hq];exact hx⟩,⟨⟨_,by simpa using a8⟩,ab⟩,fun b hb=>?_⟩
  ·refine Xl (s:=s) (h':=O) (t':=tk+1) (its:=[.int i tk,x']) I hf (zC _) k2 (by rw[sizeLine_eq];exact(by decide:2<=16777216)) (.cons ⟨tk,rfl⟩ (.cons ru .nil)) (TupX.by ((N.2 _ eT).trans hT))
  ·have a5:b<s.heap.objs.size:=by
    rcases zL.mp hb with z | z
    ·rw[z];exact zD g
    ·rw[zK.mp z]
     obtain⟨o',e',_⟩:=l;exact zD e'
   rw[zw (zM a5)];exact(hf b hb).1
 done:=by
  intro X hP hw hK hc i a2 s σ H E I hf st hg;subst hP hw hK;obtain⟨⟨G,g⟩,l⟩:=st;obtain⟨xs,hq,hx⟩:=hg;obtain⟨B,rv,p,hz⟩:=I.list hq;have Q:=p.isList;have Y:a≠t:=fun z=>by
   obtain⟨o,J,L,_⟩:=Q;obtain⟨o',e2,c2,_⟩:=l;rw[z,e2] at J;cases J;rw[c2] at L;exact absurd (QJ L) (by decide)
  obtain⟨f0,f1,f2,f3,f4,f5⟩:=hf t (by simp)
  have a9:B.toArray.size<=i:=by
   have:=rv.length;simp only[zX];omega
  have hT:s.TypeIs (.ref e) "enumerate" :=⟨_,g,rfl⟩;unfold pyNext;refine zn (wpAny_attempt (Zw (name:=Str.ofString "__next__") hT F.slot_enumerate_next (xX F.slot_enumerate_next hT F.entry_enumerate_next ?_ (F.args_enumerate_next_1 _))))
  show wpAny _ _ (field (.ref e) 2 >>= _) _ _ _;refine zn (xz g rfl (x:=.ref t) rfl (zn (wpAny_nextOf_list_end (I.ok.hd hc) l Q (by simpa using a9) fun h' x a7 aa=>?_)))
  obtain⟨o,ho,a6⟩:=aa;refine zn (y9 (T:= "StopIteration") (b:=true) ⟨o,ho,a6⟩ isSubtype_stop ?_)
  exact zA ⟨rfl,I.turned (t':=s.toks) (fun b o hb q=>a7 b o hb q) f0 f1 f3 f4 f5⟩
 self:=fun _ _ _ _ _ st h=>let ⟨⟨_,g⟩,_⟩:=st;wpAny_pyIter_enum g h
section
variable{X:Cx}
def zhL(K:W.Frag)(g:TA):TI:=fun σ H R=>g σ H fun l c=>∃a,l=[.ref a]/\(∃s,SqL K c a s)/\R (Ite K a) c
theorem ww{l:Expr}{G:TA}{p A tp:Pos}{t:List Expr}{kk:Nat}(N:Gl X "enumerate")(Q:X.mg "enumerate" = none)(M:PA X [l] G)(T:starEach [l] X.env=[(false,eval l X.env)]:=by rfl) :
  PI X (.Tuple t kk tp) (.Call (.Name "enumerate" p) [l] [] A) (zhL X.K G):=by
 intro c s σ H R I h;refine Call_ (vV I N Q boot_enumerate (JS (thn (M A c s σ H _ I h) fun us g ⟨vs,D,B,r1,q1⟩=>?_) T rfl))
 obtain⟨a,e,⟨xs,hq⟩,q⟩:=q1;subst e;obtain⟨u,rfl,ru⟩:=vG r1;cases ru;obtain⟨Y,rv,pl,hz⟩:=B.list hq;refine call_enumerate_list pl.isList fun L E O U hk=>wpAny_pyIter_enum E ?_
 have J:Inv X c σ D { g with heap:=L }:=B.kept (t':=g.toks) hk;refine⟨g.heap.objs.size+1,[g.heap.objs.size+1,g.heap.objs.size],_,_,D,rfl,J,za1 a _ _ (Nat.succ_ne_self _),⟨⟨_,E⟩,O⟩,fun b hb=>?_,q⟩
 have w:g.heap.objs.size<=b:=by
  rcases zL.mp hb with z | z
  ·rw[z];exact wb _
  ·rw[zK.mp z];exact zC _
 exact B.fpOk w (B.hok.fresh w)
theorem V6{K:W.Frag}{a:Addr}{xs:List V}{g:TG}{B:TS}{D:Jj}{σ:St}{H:Hp}(Pv:Nat->St->Hp->Prop)(I:Pv 0 σ H)(O:∀i σ H,i<=xs.length->Pv i σ H->SqL K H a xs)
  (Q:∀i x σ H T,xs[i]? =some x->Pv i σ H->H T=none->g (.ref T) σ (upd H T (.tup [.int i,x])) fun w s=>B { D with nx:=Pv (i+1),ct:=Pv (i+1),bk:=D.nx } w s) (L:∀σ H,Pv xs.length σ H->D.nx σ H) :
  ∃W:Nat->Nat->St->Hp->Prop,(∃m,W 0 m σ H)/\∀i m σ H,W i m σ H ->
   ((Ite K a).stop i H/\D.nx σ H)\/((Ite K a).go i H/\∃N:St->Hp->Prop,(∀t c,N t c->∃A,A<m/\W (i+1) A t c)/\∀x c,(Ite K a).yld i H x c->g x σ c fun w s=>B { D with nx:=N,ct:=N,bk:=D.nx } w s):=by
 refine⟨fun i m σ H=>m=xs.length-i/\i<=xs.length/\Pv i σ H,⟨xs.length,by simp,qk _,I⟩,?_⟩
 rintro i m σ H ⟨rfl,M,p⟩;have q:=O i σ H M p;by_cases l:i<xs.length
 ·refine .inr ⟨⟨xs,xs[i],q,by simp[l]⟩,Pv (i+1),fun t c U=>⟨xs.length-(i+1),by omega,rfl,l,U⟩,fun x c y=>?_⟩
  obtain⟨T,z,E,J,G,y⟩:=y;subst E G;exact Q i z σ H T (y xs q) p J
 ·have e:i=xs.length:=by omega
  subst e;exact .inl ⟨⟨xs,q,zC _⟩,L σ H p⟩
inductive ZH(K:W.Frag)(g:List V)(H:Hp)(Q:VK):Prop
 | mk (p:Addr) (c:List Bool) (_:g=[.ref p]) (_:SqL K H p (c.map V.bl)) (_:Q (.bl (c.all id)) H):ZH K g H Q
theorem xE(hc:X.calm=true):CallR X (.builtin "all") (ZH X.K):=by
 intro O s σ H xs us Q I r h;obtain⟨p,c,rfl,hq,q⟩:=h;obtain⟨u,rfl,J⟩:=vG r;cases J;obtain⟨g,L,pl,hz⟩:=I.list hq;have E:=pl.isList;have G:p≠s.heap.objs.size:=by
  obtain⟨o,e,_⟩:=E;exact zM (zD e)
 refine call_all_walk (wpAny_pyIter_list E ?_)
 refine⟨s.heap.objs.size,_,_,_,_,_,fun i=>c.getD i true,rfl,yZ (prog:=X.prog) (w:=X.w) (A:=X.A.in1) (I.ok.hd hc) _ p G g.toArray,⟨⟨_,zQ _ rfl,rfl,rfl⟩,E.push _⟩,?_,fun h' tk hk=>?_⟩
 ·intro i v s' U E' D hQ
  have D:g.toArray[i]? =some v:=D;have M:g[i]? =some v:=by simpa using D
  have l:i<c.length:=by
   have h1:=(zT.mp M).1;have h2:=L.length;rw[zr] at h2;omega
  have Y:(c.map V.bl)[i]? =some (.bl c[i]):=by simp[l]
  obtain⟨u',N,J⟩:=L.get Y;rw[M] at N;cases N;cases J;have e3:c.getD i true=c[i]:=by simp[l]
  have t:U (c.getD i true) s':=hQ;rw[e3] at t;exact yH t
 ·have k:∀b o,s.heap.get? b=some o->h'.get? b=some o:=fun b o e=>hk b o (by simp;exact zM (zD e)) (zO _ e)
  have ea:(List.range g.toArray.size).all (fun i=>c.getD i true)=c.all id:=by
   have B:g.toArray.size=c.length:=by
    have:=L.length;rw[zr] at this;simp only[zX];omega
   rw[B,y6,jN,jN];constructor
   ·intro h b hb
    obtain⟨i,l,rfl⟩:=List.mem_iff_getElem.mp hb;have:=h i (qu.mpr l);simpa [l] using this
   ·intro h i l
    have l:=qu.mp l;have:=h c[i] (jM l);simpa [l] using this
  exact⟨.bl (c.all id),H,I.kept k,by rw[ea];rfl,q⟩
end
def SqK(K:W.Frag)(g:Bool)(H:Hp)(a:Addr)(c:List V):Prop:=match g with
 | true=>SqL K H a c
 | false=>SqT K H a c
def SeqK(g:Bool)(h:Heap)(a:Addr)(c:Array Value):Prop:=match g with
 | true=>h.IsList a c
 | false=>h.IsTuple a c
def ItrK(g:Bool)(h:Heap)(c a:Addr)(i:Nat):Prop:=match g with
 | true=>h.IsListIter c a i
 | false=>h.IsTupleIter c a i
theorem SeqK.at{kd:Bool}{h g:Heap}{a:Addr}{c:Array Value}(x:SeqK kd h a c)(k:∀o,h.get? a=some o->g.get? a=some o):SeqK kd g a c:=by
 cases kd with
 | true=>exact Heap.IsList.at x k
 | false=>obtain⟨o,e,r⟩:=(show h.IsTuple a c from x);exact⟨o,k o e,r⟩
theorem ItrK.at{kd:Bool}{h g:Heap}{c a:Addr}{i:Nat}(x:ItrK kd h c a i)(k:∀o,h.get? c=some o->g.get? c=some o):ItrK kd g c a i:=by
 cases kd with
 | true=>exact Heap.IsListIter.at x k
 | false=>obtain⟨o,e,r⟩:=(show h.IsTupleIter c a i from x);exact⟨o,k o e,r⟩
theorem ItrK.obj{l:Bool}{h:Heap}{g a:Addr}{i:Nat}(x:ItrK l h g a i):∃o,h.get? g=some o/\(o.cls=.type "list_iterator" \/ o.cls=.type "tuple_iterator")/\∀v,o.data≠.cell v:=by
 cases l with
 | true=>obtain⟨o,e,c,d⟩:=(show h.IsListIter g a i from x);exact⟨o,e,.inl c,fun v q=>by rw[d] at q;cases q⟩
 | false=>obtain⟨o,e,c,d⟩:=(show h.IsTupleIter g a i from x);exact⟨o,e,.inr c,fun v q=>by rw[d] at q;cases q⟩
theorem SeqK.cls{l:Bool}{h:Heap}{a:Addr}{g:Array Value}(x:SeqK l h a g):∃o,h.get? a=some o/\(o.cls=.type "list" \/ o.cls=.type "tuple")/\∃n,o.data=.seq g n:=by
 cases l with
 | true=>obtain⟨o,e,c,n,d⟩:=(show h.IsList a g from x);exact⟨o,e,.inl c,n,d⟩
 | false=>obtain⟨o,e,c,n,d⟩:=(show h.IsTuple a g from x);exact⟨o,e,.inr c,n,d⟩
section
variable{l:Program}{w:World}{A:Around}{E:Value->Shared->Prop}{s:Shared}
theorem vz{kd:Bool}{g a:Addr}{i:Nat}{t:Array Value}{x:Value}{Q:Value->Shared->Prop}(L:ItrK kd s.heap g a i)(M:SeqK kd s.heap a t)(hx:t[i]? =some x)
  (J:∀G,ItrK kd G g a (i+1)->Heap.SameBut g s.heap G->Q x { s with heap:=G }):wpAny (model l w) A (Builtin.SmallTypes.nextOf (.ref g)) Q E s:=by
 cases kd with
 | true=>exact wpAny_nextOf_list_item L M hx J
 | false=>
  have c:s.heap.IsTupleIter g a i:=L;obtain⟨o,D,hc,B⟩:=id c;obtain⟨O,I,_,nl,H⟩:=(show s.heap.IsTuple a t from M)
  unfold Builtin.SmallTypes.nextOf;refine zn (Zw (name:=Str.ofString "__next__") c.typeIs X6 (xX X6 c.typeIs zdL ?_ (zdM _)))
  show wpAny _ _ (field (.ref g) 0 >>= _) _ _ _;refine zn (xz D B (x:=.ref a) rfl ?_)
  show wpAny _ _ (if(Value.ref a==Value.none)=true then _ else _) _ _ _;rw[zo (show ¬((Value.ref a==Value.none)=true) from qF)]
  show wpAny _ _ (field (.ref g) 1 >>= _) _ _ _;refine zn (xz D B (x:=.int i 0) rfl ?_)
  show wpAny _ _ (seqItems? (.ref a) >>= _) _ _ _;refine zn (vo I H ?_);simp only[xn,hx]
  refine zn (wm D B (by simp) (zA ⟨x,rfl,zA (J _ (show Heap.IsTupleIter _ _ _ _ from ?_) (QD ..))⟩))
  refine⟨_,wf _ D (Obj.isFreed_of_fields (Obj.data_mapFields B _)),(Obj.cls_mapFields ..).trans hc,?_⟩;rw[Obj.data_mapFields B];simp[rawInt]
theorem yR{kd:Bool}{t a:Addr}{i:Nat}{g:Array Value}{Q:Value->Shared->Prop}(H:A.handled=none)(M:ItrK kd s.heap t a i)(N:SeqK kd s.heap a g)(hx:g[i]? =none)
  (L:∀B e,Heap.ExtBut t s.heap B->(∃o,B.get? e=some o/\o.cls=.type "StopIteration")->E (.ref e) { s with heap:=B }):wpAny (model l w) A (Builtin.SmallTypes.nextOf (.ref t)) Q E s:=by
 cases kd with
 | true=>exact wpAny_nextOf_list_end H M N hx L
 | false=>
  have c:s.heap.IsTupleIter t a i:=M;obtain⟨o,I,hc,D⟩:=id c;obtain⟨T,J,_,nl,G⟩:=(show s.heap.IsTuple a g from N)
  unfold Builtin.SmallTypes.nextOf;refine zn (Zw (name:=Str.ofString "__next__") c.typeIs X6 (xX X6 c.typeIs zdL ?_ (zdM _)))
  show wpAny _ _ (field (.ref t) 0 >>= _) _ _ _;refine zn (xz I D (x:=.ref a) rfl ?_)
  show wpAny _ _ (if(Value.ref a==Value.none)=true then _ else _) _ _ _;rw[zo (show ¬((Value.ref a==Value.none)=true) from qF)]
  show wpAny _ _ (field (.ref t) 1 >>= _) _ _ _;refine zn (xz I D (x:=.int i 0) rfl ?_)
  show wpAny _ _ (seqItems? (.ref a) >>= _) _ _ _;refine zn (vo J G ?_);simp only[xn,hx]
  refine zn (x5 (zn (wm I D (by simp) ?_)));show wpAny _ _ (newExc (.type "StopIteration") [] >>= _) _ _ _
  refine zn ?_;simp only[newExc,newTuple];refine zn (jV ?_ (by size_fits))
  refine zn (m:=firstArgMember _ _) (y4 (a:=Value.none) (by first| rfl | (simp only[firstArgMember];rfl)) (jV ?_ (by size_fits)))
  simp only[raiseNew];refine zn (wpAny_handled ?_);first| rw[show A.in1.handled=none from H] | rw[H]
  exact zn (zA (wpAny_throw (L _ _ (((QD ..).extBut.push _).push _) ⟨_,zQ _ rfl,rfl⟩)))
structure JU(k1 k2:Bool)(h:Heap)(z TI TO i1 i2 a1 a2:Addr)(i:Nat):Prop where
 zz:IsZip h z TI TO .none
 ti:IsPair h TI (.ref i1) (.ref i2)
 to:∃a b,IsPair h TO a b
 r1:ItrK k1 h i1 a1 i
 r2:ItrK k2 h i2 a2 i
structure zav(z TI TO i1 i2:Addr):Prop where
 a:TI≠z
 b:TO≠z
 c:i1≠z
 d:i2≠z
 e:TI≠TO
 f:TI≠i1
 g:TI≠i2
 h:TO≠i1
 i:TO≠i2
 j:i1≠i2
theorem zaw{k1 k2:Bool}{z TI TO B J a1 a2:Addr}{i:Nat}{xs ys:Array Value}{x y:Value}{Q:Option Value->Shared->Prop}(N:zav z TI TO B J)(Z:JU k1 k2 s.heap z TI TO B J a1 a2 i)
  (l1:SeqK k1 s.heap a1 xs) (l2:SeqK k2 s.heap a2 ys) (m1:∀b∈[z,TO,B,J],a1≠b) (m2:∀b∈[z,TO,B,J],a2≠b) (hx:xs[i]? =some x) (hy:ys[i]? =some y)
  (hQ:∀L,IsZip L z TI TO (rawInt s.heap.objs.size)->IsPair L TI (.ref B) (.ref J)->(∃a b,IsPair L TO a b)->ItrK k1 L B a1 (i+1)->ItrK k2 L J a2 (i+1)->IsPair L s.heap.objs.size x y->L.objs.size=s.heap.objs.size+1 ->
   (∀c o,c∉[z,TO,B,J]->s.heap.get? c=some o->L.get? c=some o)->Q (some (.ref s.heap.objs.size)) { s with heap:=L }):wpAny (model l w) A (pyNext (.ref z)) Q E s:=by
 obtain⟨hz,a8,⟨a,b,ac⟩,h1,h2⟩:=Z;have hT:s.TypeIs (.ref z) "zip" :=⟨_,hz,rfl⟩;unfold pyNext;refine zn (wpAny_attempt (Zw (name:=Str.ofString "__next__") hT XN (xX XN hT F.entry_zip_next ?_ (F.args_zip_next_1 _))))
 show wpAny _ _ (field (.ref z) 2 >>= _) _ _ _;refine zn (xz hz rfl (x:=.bool false) rfl ?_)
 show wpAny _ _ (field (.ref z) 3 >>= _) _ _ _;refine zn (xz hz rfl (x:=.ref TI) rfl (zn (vo a8 rfl ?_)))
 show wpAny _ _ (Builtin.SmallTypes.ownedTupleIsFree (.ref z) >>= _) _ _ _;refine zn ?_
 unfold Builtin.SmallTypes.ownedTupleIsFree;refine zn (xz hz rfl (x:=.none) rfl (zA ?_));simp only[if_true]
 refine zn (x5 (zn (xz hz rfl (x:=.ref TO) rfl (zn (Zc hz (by simp) fun g1 a5 G=>?_)))))
 replace a5:IsZip g1 z TI TO .ellipsis:=a5
 refine zn ?_;simp only[List.zipIdx_cons,List.zipIdx_nil,XQ,WP]
 refine zn (zn (wpAny_onRaise ?_));show wpAny _ _ (Builtin.SmallTypes.nextOf (.ref B) >>= _) _ _ _
 refine zn (vz (h1.at fun o e=>G.extBut _ o N.c e) (l1.at fun o e=>G.extBut _ o (m1 z (by simp)) e) hx fun g2 aa M=>zA ?_)
 have U:IsPair g2 TO a b:=M.extBut _ _ N.h (G.extBut _ _ N.b ac);refine zn (vo U rfl (zn (wpAny_updateSeq_pair U fun g3 D O=>?_)))
 replace D:IsPair g3 TO x b:=D
 refine zn (wW (zA ?_));refine zn (zn (wpAny_onRaise ?_));show wpAny _ _ (Builtin.SmallTypes.nextOf (.ref J) >>= _) _ _ _
 have a0:∀c o,c∉[z,TO,B]->s.heap.get? c=some o->g3.get? c=some o:=fun c o hc e=>O.extBut _ o (fun q=>hc (by simp[q])) (M.extBut _ o (fun q=>hc (by simp[q])) (G.extBut _ o (fun q=>hc (by simp[q])) e))
 refine zn (vz (h2.at fun o e=>a0 _ o (by simp[N.d,qc N.i,qc N.j]) e) (l2.at fun o e=>a0 _ o (by simp[m2 z (by simp),m2 TO (by simp),m2 B (by simp)]) e) hy fun g4 ab H=>zA ?_)
 have Y:IsPair g4 TO x b:=H.extBut _ _ N.i D;refine zn (vo Y rfl (zn (wpAny_updateSeq_pair Y fun g t I=>?_)))
 replace t:IsPair g TO x y:=t
 refine zn (wW (zA (zA (zn (vo t rfl (zn (wpAny_newTuple ?_)))))))
 have zs:g.objs.size=s.heap.objs.size:=by rw[I.1,H.1,O.1,M.1,G.1]
 have a9:IsZip g z TI TO .ellipsis:=I.extBut _ _ (qc N.b) (H.extBut _ _ (qc N.d) (O.extBut _ _ (qc N.b) (M.extBut _ _ (qc N.c) a5)));have k5:∀c o,c∉[z,TO,B,J]->s.heap.get? c=some o->g.get? c=some o:=fun c o hc e=>I.extBut _ o (fun q=>hc (by simp[q])) (H.extBut _ o (fun q=>hc (by simp[q])) (a0 c o (fun q=>hc (by simp at q ⊢;rcases q with q | q | q<;>simp[q])) e))
 have r1:ItrK k1 g B a1 (i+1):=aa.at fun o e=>I.extBut _ o (qc N.h) (H.extBut _ o N.j (O.extBut _ o (qc N.h) e))
 have r2:ItrK k2 g J a2 (i+1):=ab.at fun o e=>I.extBut _ o (qc N.i) e
 have zl:z<g.objs.size:=zD a9;show wpAny _ _ (Builtin.SmallTypes.ownedTupleHandOut (.ref z) (.ref g.objs.size) >>= _) _ _ _;refine zn ?_;unfold Builtin.SmallTypes.ownedTupleHandOut
 have ae:IsZip (g.push { cls:=.type "tuple",data:=.seq #[x,y] }) z TI TO .ellipsis:=zO _ a9;refine zn (Zc ae (by simp) fun g7 a6 a3=>?_)
 replace a6:IsZip g7 z TI TO (rawInt g.objs.size):=a6
 refine Zc a6 (by simp) fun g8 T a4=>?_
 replace T:IsZip g8 z TI TO (rawInt g.objs.size):=T
 have up:∀c o,c≠z->g.get? c=some o->g8.get? c=some o:=fun c o c1 e=>a4.extBut _ o c1 (a3.extBut _ o c1 (zO _ e))
 have a7:IsPair g8 g.objs.size x y:=a4.extBut _ _ (jI zl) (a3.extBut _ _ (jI zl) (zQ _ rfl));have z8:g8.objs.size=g.objs.size+1:=by rw[a4.1,a3.1,qS]
 rw[zs] at T a7 z8;refine zA ⟨_,rfl,zA ?_⟩;show Q (some (.ref g.objs.size)) _;rw[zs]
 exact hQ g8 T (up _ _ N.a (k5 _ _ (by simp[N.a,N.e,N.f,N.g]) a8)) ⟨_,_,up _ _ N.b t⟩ (r1.at fun o e=>up _ o N.c e) (r2.at fun o e=>up _ o N.d e) a7 z8 fun c o hc e=>up c o (fun q=>hc (by simp[q])) (k5 c o hc e)
theorem zbN{k1 k2:Bool}{z TI TO J U a1 a2:Addr}{i:Nat}{xs ys:Array Value}{Q:Option Value->Shared->Prop}(hh:A.handled=none)(N:zav z TI TO J U)(Z:JU k1 k2 s.heap z TI TO J U a1 a2 i)
  (l1:SeqK k1 s.heap a1 xs) (l2:SeqK k2 s.heap a2 ys) (m1:∀b∈[z,TO,J,U],a1≠b) (m2:∀b∈[z,TO,J,U],a2≠b) (Y:xs[i]? =none\/ys[i]? =none)
  (hQ:∀h',(∀c o,c∉[z,TO,J,U]->s.heap.get? c=some o->h'.get? c=some o)->Q none { s with heap:=h' }):wpAny (model l w) A (pyNext (.ref z)) Q E s:=by
 obtain⟨O,a6,⟨a,b,a7⟩,h1,h2⟩:=Z;have hT:s.TypeIs (.ref z) "zip" :=⟨_,O,rfl⟩;unfold pyNext;refine zn (wpAny_attempt (Zw (name:=Str.ofString "__next__") hT XN (xX XN hT F.entry_zip_next ?_ (F.args_zip_next_1 _))))
 show wpAny _ _ (field (.ref z) 2 >>= _) _ _ _;refine zn (xz O rfl (x:=.bool false) rfl ?_)
 show wpAny _ _ (field (.ref z) 3 >>= _) _ _ _;refine zn (xz O rfl (x:=.ref TI) rfl (zn (vo a6 rfl ?_)))
 show wpAny _ _ (Builtin.SmallTypes.ownedTupleIsFree (.ref z) >>= _) _ _ _;refine zn ?_
 unfold Builtin.SmallTypes.ownedTupleIsFree;refine zn (xz O rfl (x:=.none) rfl (zA ?_));simp only[if_true]
 refine zn (x5 (zn (xz O rfl (x:=.ref TO) rfl (zn (Zc O (by simp) fun g1 H t=>?_)))))
 replace H:IsZip g1 z TI TO .ellipsis:=H
 refine zn ?_;simp only[List.zipIdx_cons,List.zipIdx_nil,XQ,WP]
 refine zn (zn (wpAny_onRaise ?_));show wpAny _ _ (Builtin.SmallTypes.nextOf (.ref J) >>= _) _ _ _
 cases hx:xs[i]? with
 | none=>
  refine zn (yR hh (h1.at fun o e=>t.extBut _ o N.c e) (l1.at fun o e=>t.extBut _ o (m1 z (by simp)) e) hx fun g2 e B he=>?_)
  obtain⟨oe,g,D⟩:=he;have a4:IsZip g2 z TI TO .ellipsis:=B _ _ (qc N.c) H;have M:e≠z:=fun q=>by subst q;rw[a4] at g;cases g;exact absurd (QJ D) (by decide)
  refine Zc a4 (by simp) fun g3 ab G=>?_
  refine zn (y9 (T:= "StopIteration") (b:=true) ⟨oe,G.extBut _ _ M g,D⟩ isSubtype_stop (zA (hQ _ fun c o hc q=>?_)))
  exact G.extBut _ o (fun q=>hc (by simp[q])) (B _ o (fun q=>hc (by simp[q])) (t.extBut _ o (fun q=>hc (by simp[q])) q))
 | some x=>
  have hy:ys[i]? =none:=by rcases Y with q | q;rw[hx] at q;cases q;exact q
  refine zn (vz (h1.at fun o e=>t.extBut _ o N.c e) (l1.at fun o e=>t.extBut _ o (m1 z (by simp)) e) hx fun g2 aa B=>zA ?_)
  have I:IsPair g2 TO a b:=B.extBut _ _ N.h (t.extBut _ _ N.b a7);refine zn (vo I rfl (zn (wpAny_updateSeq_pair I fun g3 a8 G=>?_)))
  have L:∀c o,c∉[z,TO,J]->s.heap.get? c=some o->g3.get? c=some o:=fun c o hc e=>G.extBut _ o (fun q=>hc (by simp[q])) (B.extBut _ o (fun q=>hc (by simp[q])) (t.extBut _ o (fun q=>hc (by simp[q])) e))
  refine zn (wW (zA ?_));refine zn (zn (wpAny_onRaise ?_));show wpAny _ _ (Builtin.SmallTypes.nextOf (.ref U) >>= _) _ _ _
  refine zn (yR hh (h2.at fun o e=>L _ o (by simp[N.d,qc N.i,qc N.j]) e) (l2.at fun o e=>L _ o (by simp[m2 z (by simp),m2 TO (by simp),m2 J (by simp)]) e) hy fun g4 e a0 he=>?_)
  obtain⟨oe,g,D⟩:=he;have a5:IsZip g4 z TI TO .ellipsis:=a0 _ _ (qc N.d) (G.extBut _ _ (qc N.b) (B.extBut _ _ (qc N.c) H));have M:e≠z:=fun q=>by subst q;rw[a5] at g;cases g;exact absurd (QJ D) (by decide)
  refine Zc a5 (by simp) fun g5 ac a3=>?_
  refine zn (y9 (T:= "StopIteration") (b:=true) ⟨oe,a3.extBut _ _ M g,D⟩ isSubtype_stop (zA (hQ _ fun c o hc q=>?_)))
  exact a3.extBut _ o (fun q=>hc (by simp[q])) (a0 _ o (fun q=>hc (by simp[q])) (L c o (fun q=>hc (by simp at q ⊢;rcases q with q | q | q<;>simp[q])) q))
abbrev zh(h:Heap)(c g:Obj):Heap:=((((h.push c).push g).push { cls:=.type "tuple",data:=.seq #[.ref h.objs.size,.ref (h.push c).objs.size] }).push { cls:=.type "tuple",data:=.seq #[.none,.none] }).push
 { cls:=.type "zip",data:=.fields #[.none,.bool false,.bool false,.ref ((h.push c).push g).objs.size,.ref (((h.push c).push g).push { cls:=.type "tuple",data:=.seq #[.ref h.objs.size,.ref (h.push c).objs.size] }).objs.size] }
theorem zgB{L M:Bool}{I J:Addr}{h:Heap}{t B:Obj}(Y:∀g:Heap,g.get? h.objs.size=some t->ItrK L g h.objs.size I 0)(p2:∀(g:Heap) (n:Addr),g.get? n=some B->ItrK M g n J 0)(T:t.isFreed=false)(U:B.isFreed=false) :
  JU L M (zh h t B) (h.objs.size+4) (h.objs.size+2) (h.objs.size+3) h.objs.size (h.objs.size+1) I J 0/\(∀c o,h.get? c=some o->(zh h t B).get? c=some o)/\(zh h t B).objs.size=h.objs.size+5:=by
 have D:(h.push t).objs.size=h.objs.size+1:=qS ..;have G:((h.push t).push B).objs.size=h.objs.size+2:=by rw[qS,D]
 have H:(((h.push t).push B).push { cls:=.type "tuple",data:=.seq #[.ref h.objs.size,.ref (h.push t).objs.size] }).objs.size=h.objs.size+3:=by rw[qS,G]
 have Q:((((h.push t).push B).push { cls:=.type "tuple",data:=.seq #[.ref h.objs.size,.ref (h.push t).objs.size] }).push { cls:=.type "tuple",data:=.seq #[.none,.none] }).objs.size=h.objs.size+4:=by rw[qS,H]
 have O:(zh h t B).get? (h.objs.size+4)=some _:=Q▸zQ _ rfl;have q4:(zh h t B).get? (h.objs.size+3)=some _:=H▸zO _ (zQ _ rfl);have N:(zh h t B).get? (h.objs.size+2)=some _:=G▸zO _ (zO _ (zQ _ rfl));have q2:(zh h t B).get? (h.objs.size+1)=some B:=D▸zO _ (zO _ (zO _ (zQ _ U)));have q1:(zh h t B).get? h.objs.size=some t:=zO _ (zO _ (zO _ (zO _ (zQ _ T))));rw[G,H] at O;rw[D] at N;exact⟨⟨O,N,⟨_,_,q4⟩,Y _ q1,p2 _ _ q2⟩,fun c o e=>zO _ (zO _ (zO _ (zO _ (zO _ e)))),by rw[qS,Q]⟩
theorem zbM{k1 k2:Bool}{D I:Addr}{xs ys:Array Value} :
  PySem.Meets (Builtin.«zip.__new__» ⟨[.type "zip",.ref D,.ref I],[]⟩) (fun _ R s=>SeqK k1 s.heap D xs/\SeqK k2 s.heap I ys /\
   ∀Q,JU k1 k2 Q (s.heap.objs.size+4) (s.heap.objs.size+2) (s.heap.objs.size+3) s.heap.objs.size (s.heap.objs.size+1) D I 0->(∀c o,s.heap.get? c=some o->Q.get? c=some o)->Q.objs.size=s.heap.objs.size+5->R (.ok (.ret (.ref (s.heap.objs.size+4)))) { s with heap:=Q }):=
 .of_wp fun l w A R s hq=>by
  obtain⟨t,g,d,L,os⟩:=s;obtain⟨O,H,hr⟩:=hq;have T:=sub_zip;have G:∀{J M:Obj},(∀g:Heap,g.get? t.objs.size=some J->ItrK k1 g t.objs.size D 0)->(∀(g:Heap) (n:Addr),g.get? n=some M->ItrK k2 g n I 0)->J.isFreed=false->M.isFreed=false ->
    R (.ok (.ret (.ref ((((t.push J).push M).push { cls:=.type "tuple",data:=.seq #[.ref t.objs.size,.ref (t.push J).objs.size] }).push { cls:=.type "tuple",data:=.seq #[.none,.none] }).objs.size))) ⟨zh t J M,g,d,L,os⟩:=fun {J M} p1 p2 U Y=>by
   obtain⟨A,B,C⟩:=zgB p1 p2 U Y;have e:((((t.push J).push M).push { cls:=.type "tuple",data:=.seq #[.ref t.objs.size,.ref (t.push J).objs.size] }).push { cls:=.type "tuple",data:=.seq #[.none,.none] }).objs.size=t.objs.size+4:=by
    rw[qS,qS,qS,qS]
   rw[e];exact hr _ A B C
  cases k1 with
  | true=>
   have N:Heap.IsList (Shared.heap ⟨t,g,d,L,os⟩) D xs:=O;cases k2 with
   | true=>
    have L2:Heap.IsList (Shared.heap ⟨t.push { cls:=.type "list_iterator",data:=.fields #[.ref D,.int 0 0] },g,d,L,os⟩) I ys:=Heap.IsList.push H _;wp_walk using wpAny_pyIter_list N,wpAny_pyIter_list L2
    exact⟨_,rfl,G (fun g e=>⟨_,e,rfl,rfl⟩) (fun g n e=>⟨_,e,rfl,rfl⟩) rfl rfl⟩
   | false=>
    have L2:Heap.IsTuple (Shared.heap ⟨t.push { cls:=.type "list_iterator",data:=.fields #[.ref D,.int 0 0] },g,d,L,os⟩) I ys:=Heap.IsTuple.push H _;wp_walk using wpAny_pyIter_list N,wpAny_pyIter_tuple L2
    exact⟨_,rfl,G (fun g e=>⟨_,e,rfl,rfl⟩) (fun g n e=>⟨_,e,rfl,rfl⟩) rfl rfl⟩
  | false=>
   have N:Heap.IsTuple (Shared.heap ⟨t,g,d,L,os⟩) D xs:=O;cases k2 with
   | true=>
    have L2:Heap.IsList (Shared.heap ⟨t.push { cls:=.type "tuple_iterator",data:=.fields #[.ref D,.int 0 0] },g,d,L,os⟩) I ys:=Heap.IsList.push H _;wp_walk using wpAny_pyIter_tuple N,wpAny_pyIter_list L2
    exact⟨_,rfl,G (fun g e=>⟨_,e,rfl,rfl⟩) (fun g n e=>⟨_,e,rfl,rfl⟩) rfl rfl⟩
   | false=>
    have L2:Heap.IsTuple (Shared.heap ⟨t.push { cls:=.type "tuple_iterator",data:=.fields #[.ref D,.int 0 0] },g,d,L,os⟩) I ys:=Heap.IsTuple.push H _;wp_walk using wpAny_pyIter_tuple N,wpAny_pyIter_tuple L2
    exact⟨_,rfl,G (fun g e=>⟨_,e,rfl,rfl⟩) (fun g n e=>⟨_,e,rfl,rfl⟩) rfl rfl⟩
theorem zbB{t B:Bool}{D G:Addr}{I J:Array Value}{Q:Value->Shared->Prop}(L:SeqK t s.heap D I)(M:SeqK B s.heap G J)
  (h:∀g,JU t B g (s.heap.objs.size+4) (s.heap.objs.size+2) (s.heap.objs.size+3) s.heap.objs.size (s.heap.objs.size+1) D G 0->(∀c o,s.heap.get? c=some o->g.get? c=some o)->g.objs.size=s.heap.objs.size+5 ->
   Q (.ref (s.heap.objs.size+4)) { s with heap:=g }):wpAny (model l w) A (call (.type "zip") [.ref D,.ref G]) Q E s:=by
 refine callType_new F.called_zip (by decide) (F.typeCall_zip_2 _ _) (F.newCall_zip_2 _ _) (fun H=>F.args_object_init_3 H _ _) F.entry_zip_new (zbM (k1:=t) (k2:=B) (xs:=I) (ys:=J)) ⟨L,M,fun g Z k z=>?_⟩
 exact⟨⟨_,Z.zz,rfl⟩,h g Z k z⟩
end
theorem Inv.seqK{X:Cx}{g:List (Addr×Obj)}{σ:St}{H:Hp}{s:Shared}{l:Bool}{a:Addr}{t:List V}(I:Inv X g σ H s)(h:SqK X.K l H a t):∃c:List Value,Vals t c/\SeqK l s.heap a c.toArray/\t.length<=sizeLine:=by
 cases l with
 | true=>obtain⟨c,r,p,z⟩:=I.list h;exact⟨c,r,p.isList,z⟩
 | false=>obtain⟨c,r,p,z⟩:=I.tuple h;exact⟨c,r,p,z⟩
theorem Inv.seqK_inj{X:Cx}{c:List (Addr×Obj)}{σ:St}{H:Hp}{s:Shared}{g:Bool}{a:Addr}{t w:List V}(I:Inv X c σ H s)(h:SqK X.K g H a t)(l:SqK X.K g H a w):t=w:=by
 cases g with
 | true=>exact I.list_inj h l
 | false=>exact I.tuple_inj h l
theorem SqK.ne_fp{X:Cx}{c:List (Addr×Obj)}{σ:St}{H:Hp}{s:Shared}{t:Bool}{a b:Addr}{g:List V}(I:Inv X c σ H s)(h:SqK X.K t H a g)(f:jh X c H b):a≠b:=fun z=>by
 have w:∀o,X.K.lookup a=some o->False:=fun o e=>by
  have l:=I.mod.kin a o e;rcases f.2.2.2.1 with q | q
  ·exact I.ok.noex a o l (by rw[z];exact q)
  ·have:=zD (I.ok.bs a o l).1
   rw[z] at this;exact jJ _ (jr this q)
 cases t with
 | true=>
  rcases(show SqL X.K H a g from h) with(q | ⟨o,q⟩) | ⟨o,_,_,q,_⟩
  ·rw[z,f.1] at q;cases q
  ·rw[z,f.1] at q;cases q
  ·exact w o q
 | false=>
  rcases(show SqT X.K H a g from h) with(q | ⟨o,q⟩) | ⟨o,_,_,q,_⟩
  ·rw[z,f.1] at q;cases q
  ·rw[z,f.1] at q;cases q
  ·exact w o q
def Itz(K:W.Frag)(t w:Bool)(l s:Addr):It:=
 ⟨fun i H=>∃c g x y,SqK K t H l c/\SqK K w H s g/\c[i]? =some x/\g[i]? =some y,
  fun i H x A=>∃T u v,x=.ref T/\H T=none/\A=upd H T (.tup [u,v])/\(∀c,SqK K t H l c->c[i]? =some u)/\∀g,SqK K w H s g->g[i]? =some v,
  fun i H=>∃c g,SqK K t H l c/\SqK K w H s g/\(c.length<=i\/g.length<=i)⟩
theorem zbW{P:Program}{w:World}{K:W.Frag}{M:List Expr}{kk:Nat}{a8:Pos}{k1 k2:Bool}{a1 a2 z TI TO B D:Addr}(N:zav z TI TO B D) :
  Ze P w K (.Tuple M kk a8) (Itz K k1 k2 a1 a2) [z,TI,TO,B,D] z (fun i h=>JU k1 k2 h z TI TO B D a1 a2 i) where
 mem:=by simp
 obj:=fun i h Z b hb=>by
  obtain⟨a,U,q⟩:=Z.to;have Y:=Z.r1.obj;have e2:=Z.r2.obj;simp only[zL,ya,or_false] at hb;rcases hb with r | r | r | r | r
  ·subst r;exact⟨_,Z.zz,fun v q=>nomatch q⟩
  ·subst r;exact⟨_,Z.ti,fun v q=>nomatch q⟩
  ·subst r;exact⟨_,q,fun v q=>nomatch q⟩
  ·subst r;obtain⟨o,e,_,d⟩:=Y;exact⟨o,e,d⟩
  ·subst r;obtain⟨o,e,_,d⟩:=e2;exact⟨o,e,d⟩
 keep:=fun i h L Z k=>by
  obtain⟨a,U,q⟩:=Z.to;exact⟨k _ (by simp) _ Z.zz,k _ (by simp) _ Z.ti,⟨a,U,k _ (by simp) _ q⟩,Z.r1.at fun o e=>k _ (by simp) o e,Z.r2.at fun o e=>k _ (by simp) o e⟩
 item:=by
  intro X hP hw hK hc i T s σ H E I A Z hg;subst hP hw hK;obtain⟨xs,ys,x,y,g,l,hx,hy⟩:=hg;obtain⟨O,G,p1,a6⟩:=I.seqK g;obtain⟨Q,J,p2,a7⟩:=I.seqK l;obtain⟨u1,a4,a9⟩:=G.get hx;obtain⟨u2,a5,aa⟩:=J.get hy;have sub:∀b∈[z,TO,B,D],b∈[z,TI,TO,B,D]:=fun b hb=>by
   simp only[zL,ya,or_false] at hb ⊢;rcases hb with r | r | r | r<;>simp[r]
  refine zaw N Z p1 p2 (fun b hb=>g.ne_fp I (A b (sub b hb))) (fun b hb=>l.ne_fp I (A b (sub b hb))) (by simpa using a4) (by simpa using a5) fun h1 zz ti to r1 r2 hT ac hk=>?_
  refine⟨_,rfl,wpAny_letOwnedTupleGo_zip zz fun h2 ab t=>?_⟩
  have zl:z<s.heap.objs.size:=zD Z.zz;obtain⟨ta,tb,to⟩:=to;refine⟨.ref s.heap.objs.size,upd H s.heap.objs.size (.tup [x,y]),?_,rfl,⟨_,x,y,rfl,I.hok.fresh (zC _),rfl,fun af L=>by rw[I.seqK_inj L g];exact hx,fun ag L=>by rw[I.seqK_inj L l];exact hy⟩,
   ⟨ab,t.extBut _ _ N.a ti,⟨ta,tb,t.extBut _ _ N.b to⟩,r1.at fun o e=>t.extBut _ o N.c e,r2.at fun o e=>t.extBut _ o N.d e⟩,fun b hb=>?_⟩
  ·exact Xl (s:=s) (h':=h2) (t':=s.toks) (ch:=[z,TO,B,D]) (its:=[u1,u2]) I (fun b hb=>A b (sub b hb)) (zC _) (fun b o hb e=>t.extBut _ o (fun q=>hb (by simp[q])) (hk b o hb e)) (by rw[sizeLine_eq];exact(by decide:2<=16777216)) (.cons a9 (.cons aa .nil))
    (TupX.by (t.extBut _ _ (jI zl) hT))
  ·have a0:b<s.heap.objs.size:=by
    have Y:=Z.r1.obj;have e2:=Z.r2.obj;obtain⟨a,U,q⟩:=Z.to;simp only[zL,ya,or_false] at hb;rcases hb with r | r | r | r | r
    ·subst r;exact zl
    ·subst r;exact zD Z.ti
    ·subst r;exact zD q
    ·subst r;obtain⟨o,e,_⟩:=Y;exact zD e
    ·subst r;obtain⟨o,e,_⟩:=e2;exact zD e
   rw[zw (zM a0)];exact(A b hb).1
 done:=by
  intro X hP hw hK hc i T s σ H E I A Z hg;subst hP hw hK;obtain⟨xs,ys,g,l,a3⟩:=hg;obtain⟨O,G,p1,a6⟩:=I.seqK g;obtain⟨Q,J,p2,a7⟩:=I.seqK l;have sub:∀b∈[z,TO,B,D],b∈[z,TI,TO,B,D]:=fun b hb=>by
   simp only[zL,ya,or_false] at hb ⊢;rcases hb with r | r | r | r<;>simp[r]
  have tr:∀b u,H b=some u->b∉[z,TO,B,D]:=fun b u e hb=>by rw[(A b (sub b hb)).1] at e;cases e
  refine zbN (I.ok.hd hc) N Z p1 p2 (fun b hb=>g.ne_fp I (A b (sub b hb))) (fun b hb=>l.ne_fp I (A b (sub b hb))) ?_ fun L hk=>⟨rfl,?_⟩
  ·have l1:=G.length
   have l2:=J.length;rcases a3 with q | q
   ·exact .inl (by simp;omega)
   ·exact .inr (by simp;omega)
  ·refine I.step (g':=s.gens) (d':=s.drawn) (t':=s.toks) (ch:=[z,TO,B,D]) (fun b hb=>?_) (fun b o _ _ hc e _=>hk b o hc e) (fun b o _ _ hc e _=>⟨o.slots,hk b o hc e⟩) (fun _ _ _ _ n=>n) (fun b o hc e=>⟨o,hk b o hc e⟩)
    (fun _ _ e=>e) (fun _ _ _ e=>e) (fun b ps e=>⟨#[],by rw[e];simp⟩) (fun m hm=>?_) (fun b u e=>?_) I.bare
   ·obtain⟨_,g1,_,g3,g4,g5⟩:=A b (sub b hb)
    exact⟨g3,g1,g4,g5⟩
   ·obtain⟨o,es,ep,ho,r⟩:=hm
    exact⟨o,es,ep,hk _ o (fun z=>(A _ (sub _ z)).2.1 rfl) ho,r⟩
   ·refine(I.hok b u e).stay (fun c v hc q=>hk c v ?_ q) (fun _ q=>q) fun _ _ q=>q
    rcases hc with z | z
    ·rw[z];exact tr b u e
    ·exact tr c _ z
 self:=fun _ _ _ _ _ Z h=>wpAny_pyIter_zip Z.zz h
section
variable{X:Cx}
def zhI(K:W.Frag)(w:TA):TI:=fun σ H R=>w σ H fun A c=>∃s t g l,A=[.ref g,.ref l]/\(∃B,SqK K s c g B)/\(∃D,SqK K t c l D)/\R (Itz K s t g l) c
theorem wR{l m:Expr}{Q:TA}{p D tp:Pos}{w:List Expr}{kk:Nat}(hg:Gl X "zip")(hm:X.mg "zip" = none)(Y:PA X [l,m] Q)(hs:starEach [l,m] X.env=[(false,eval l X.env),(false,eval m X.env)]:=by rfl)(B:starEach [m] X.env=[(false,eval m X.env)]:=by rfl) :
  PI X (.Tuple w kk tp) (.Call (.Name "zip" p) [l,m] [] D) (zhI X.K Q):=by
 intro g s σ H R I h;refine Call_ (vV I hg hm boot_zip (JS (thn (Y D g s σ H _ I h) fun us c ⟨vs,L,t,r1,q1⟩=>?_) (by rw[hs,B]) (by rw[B];rfl)))
 obtain⟨k1,k2,a1,a2,e,⟨xs,E⟩,⟨ys,G⟩,q⟩:=q1;subst e;obtain⟨u,u',rfl,ru,J⟩:=ZT r1;cases ru;cases J;obtain⟨M,a5,p1,a3⟩:=t.seqK E;obtain⟨O,a6,p2,a4⟩:=t.seqK G;refine zbB p1 p2 fun U Z hk a0=>wpAny_pyIter_zip Z.zz ?_
 have T:Inv X g σ L { c with heap:=U }:=t.kept (t':=c.toks) hk;have N:zav (c.heap.objs.size+4) (c.heap.objs.size+2) (c.heap.objs.size+3) c.heap.objs.size (c.heap.objs.size+1):=by
  constructor<;>(intro e;have e':(_:Nat)=_:=e;omega)
 refine⟨c.heap.objs.size+4,_,_,_,L,rfl,T,zbW N,Z,fun b hb=>?_,q⟩
 have A:c.heap.objs.size<=b:=by
  simp only[zL,ya,or_false] at hb;rcases hb with r | r | r | r | r<;>(rw[r];first| exact Nat.le_add_right _ _ | exact zC _)
 exact t.fpOk A (t.hok.fresh A)
end
def TyN(K:W.Frag)(H:Hp)(x:V)(T:String):Prop:=match x with
 | .non=>T = "NoneType"
 | .bl _=>T = "bool"
 | .int _=>T = "int"
 | .str _=>T = "str"
 | .ref a=>(T = "list" /\ ∃c,SqL K H a c)\/(T = "tuple" /\ ∃c,SqT K H a c)
 | _=>False
def jC(T C:String):Bool:=T==C||(T == "bool" && C == "int")
def ZL:List String:=["NoneType","bool","int","str","list","tuple"]
def yA:List String:=["bool","int","str","list","tuple","dict"]
theorem zaj{K:W.Frag}:∀T∈ZL,∀C∈yA,PySem.W.kitOne K (.type T) (.type C)=some (jC T C):=by
 intro T g C c;simp only[ZL,yA,zL,ya,or_false] at g c;rcases g with rfl | rfl | rfl | rfl | rfl | rfl<;>rcases c with rfl | rfl | rfl | rfl | rfl | rfl<;>kernel_rfl
theorem VY{K:W.Frag}{T:String}(c:T∈ZL):∀{Cs:List String},(∀C∈Cs,C∈yA)->PySem.W.kitAny K (.type T) (Cs.map Value.type)=some (Cs.any fun C=>jC T C)
 | [],_=>rfl
 | C::r,h=>by
  have s:=VY (K:=K) c (Cs:=r) fun g l=>h g (z9 _ l)
  show(match PySem.W.kitOne K (.type T) (.type C) with | some true=>some true | some false=>PySem.W.kitAny K (.type T) (r.map Value.type) | none=>none)=_
  rw[zaj T c C (h C jW),vJ];cases jC T C with
  | true=>rfl
  | false=>rw[s];rfl
theorem TyN.mem{K:W.Frag}{H:Hp}{x:V}{T:String}(h:TyN K H x T):T∈ZL:=by
 cases x with
 | non=>cases(show T=_ from h);decide
 | bl _=>cases(show T=_ from h);decide
 | int _=>cases(show T=_ from h);decide
 | str _=>cases(show T=_ from h);decide
 | ref a=>rcases(show _\/_ from h) with ⟨e,_⟩ | ⟨e,_⟩<;>(subst e;decide)
 | _=>exact(show False from h).elim
section
variable{X:Cx}{c:List (Addr×Obj)}{σ:St}{H:Hp}{s:Shared}
theorem zai{x:V}{u:Value}{T:String}(I:Inv X c σ H s)(g:RelV x u)(ty:TyN X.K H x T):∃P:Heap->Prop,P s.heap/\PySem.W.KitX X.K u (.type T) P/\u≠.builtin "__main__.__loader__#opaque" :=by
 cases x with
 | non=>cases(show u=Value.none from g);cases(show T=_ from ty);exact⟨_,True.intro,PySem.W.kitx_none,fun z=>nomatch z⟩
 | bl y=>cases(show u=Value.bool y from g);cases(show T=_ from ty);exact⟨_,True.intro,PySem.W.kitx_bool,fun z=>nomatch z⟩
 | int i=>obtain⟨t,q⟩:=(show ∃t,u=Value.int i t from g);cases q;cases(show T=_ from ty);exact⟨_,True.intro,PySem.W.kitx_int,fun z=>nomatch z⟩
 | str y=>obtain⟨t,q⟩:=(show ∃t,u=Value.str y t from g);cases q;cases(show T=_ from ty);exact⟨_,True.intro,PySem.W.kitx_str,fun z=>nomatch z⟩
 | ref a=>
  cases(show u=Value.ref a from g)
  rcases(show _\/_ from ty) with ⟨e,B,hx⟩ | ⟨e,B,hx⟩
  ·subst e
   obtain⟨A,r,⟨o,n,l,w,_⟩,_⟩:=I.list hx;exact⟨_,⟨o,l,w⟩,PySem.W.kitx_list,fun z=>nomatch z⟩
  ·subst e
   obtain⟨A,r,⟨o,l,w,_⟩,_⟩:=I.tuple hx;exact⟨_,⟨o,l,w⟩,PySem.W.kitx_tuple,fun z=>nomatch z⟩
 | _=>exact(show False from ty).elim
end
section
variable{X:Cx}
theorem Yp:∀{g:List String} {c:List Value},Vals (g.map V.ty) c->c=g.map Value.type
 | [],c,r=>by cases r;rfl
 | C::r,c,h=>by
  cases h with
  | cons l s=>rw[Yp s,show _=Value.type C from l];rfl
inductive Q4(K:W.Frag)(c:List V)(H:Hp)(Q:VK):Prop
 | mk (x T C:_) (_:c=[x,.ty C]) (_:TyN K H x T) (_:C∈yA) (_:Q (.bl (jC T C)) H):Q4 K c H Q
theorem qY:CallR X (.builtin "isinstance") (Q4 X.K):=by
 intro g s σ H G E Q I r h;obtain⟨x,T,C,rfl,ty,l,q⟩:=h;obtain⟨u,D,rfl,A,c⟩:=ZT r;cases(show D=Value.type C from c)
 obtain⟨P,t,Z,w⟩:=zai I A ty;exact PySem.W.kia_one Z I.kIn t (zaj T ty.mem C l) w fun B=>⟨.bl _,H,I.tok B,rfl,q⟩
inductive ZF(K:W.Frag)(g:List V)(H:Hp)(Q:VK):Prop
 | mk (x:V) (T:String) (p:Addr) (c:List String) (_:g=[x,.ref p]) (_:TyN K H x T) (_:H p=some (.tup (c.map V.ty))) (_:(∀C∈c,C∈yA)) (_:Q (.bl (c.any fun C=>jC T C)) H):ZF K g H Q
theorem JJ:CallR X (.builtin "isinstance") (ZF X.K):=by
 intro B s σ H xs us Q I r h;obtain⟨x,T,p,Y,rfl,ty,L,E,q⟩:=h;obtain⟨u,U,rfl,N,w⟩:=ZT r;cases(show U=Value.ref p from w)
 obtain⟨P,G,Z,J⟩:=zai I N ty;obtain⟨t,M,⟨o,A,g,n,l⟩,_⟩:=I.tuple (u5 L);obtain⟨c,dd,D,sl⟩:=o;have g:c=.type "tuple" :=g;have l:D=.seq t.toArray n:=l;subst g l;rw[Yp M] at A;exact PySem.W.kia_tup Z I.kIn G A (VY ty.mem E) J fun O=>⟨.bl _,H,I.tok O,rfl,q⟩
end
inductive Dat where
 | non | bl (b:Bool) | int (i:Int) | str (x:Str) | lst (c:List Dat) | tup (c:List Dat)
mutual
def Rep(K:W.Frag)(H:Hp):Dat->V->Prop
 | .non,v=>v=.non
 | .bl b,v=>v=.bl b
 | .int i,v=>v=.int i
 | .str x,v=>v=.str x
 | .lst g,v=>∃a c,v=.ref a/\SqL K H a c/\Reps K H g c
 | .tup g,v=>∃a c,v=.ref a/\SqT K H a c/\Reps K H g c
def Reps(K:W.Frag)(H:Hp):List Dat->List V->Prop
 | [],c=>c=[]
 | d::g,c=>∃x r,c=x::r/\Rep K H d x/\Reps K H g r
end
mutual
def Dat.dp:Dat->Nat
 | .lst c=>Dat.dps c+1
 | .tup c=>Dat.dps c+1
 | _=>0
def Dat.dps:List Dat->Nat
 | []=>0
 | d::c=>max d.dp (Dat.dps c)
end
theorem Same.sqT{K:W.Frag}{H c:Hp}{a:Addr}{g:List V}(e:Same H c)(h:SqT K H a g):SqT K c a g:=by
 rcases h with(h | ⟨o,h⟩) | h
 ·exact .inl (.inl (e _ _ h))
 ·exact .inl (.inr ⟨o,e _ _ h⟩)
 ·exact .inr h
mutual
theorem Rep.same{K:W.Frag}{H s:Hp}(e:Same H s):∀{d:Dat} {v:V},Rep K H d v->Rep K s d v
 | .non,_,h=>h
 | .bl _,_,h=>h
 | .int _,_,h=>h
 | .str _,_,h=>h
 | .lst _,_,h=>by
  obtain⟨a,xs,c,g,l⟩:=h;exact⟨a,xs,c,e.seq g,Reps.same e l⟩
 | .tup _,_,h=>by
  obtain⟨a,xs,c,g,l⟩:=h;exact⟨a,xs,c,e.sqT g,Reps.same e l⟩
theorem Reps.same{K:W.Frag}{H c:Hp}(e:Same H c):∀{g:List Dat} {xs:List V},Reps K H g xs->Reps K c g xs
 | [],_,h=>h
 | _::_,_,h=>by
  obtain⟨x,r,l,s,t⟩:=h;exact⟨x,r,l,Rep.same e s,Reps.same e t⟩
end
theorem Reps.len{K:W.Frag}{H:Hp}:∀{c:List Dat} {g:List V},Reps K H c g->g.length=c.length
 | [],_,h=>by rw[show _=_ from h];rfl
 | _::_,_,h=>by
  obtain⟨x,r,l,t,s⟩:=h;rw[l,jP,jP,Reps.len s]
theorem Reps.get{K:W.Frag}{H:Hp}:∀{c:List Dat} {g:List V} {i:Nat} {x:V},Reps K H c g->g[i]? =some x->∃d,c[i]? =some d/\Rep K H d x
 | [],_,_,_,h,e=>by rw[show _=_ from h] at e;simp at e
 | d::c,_,i,x,h,e=>by
  obtain⟨y,r,s,t,w⟩:=h;subst s;cases i with
  | zero=>simp at e;subst e;exact⟨d,rfl,t⟩
  | succ i=>
   obtain⟨l,A,B⟩:=Reps.get (i:=i) w (by simpa using e)
   exact⟨l,by simpa using A,B⟩
theorem zf{H:Hp}{a:Addr}{o:HO}(h:H a=none):Same H (upd H a o):=fun b u e=>by rw[zw (zp e h)];exact e
section
variable{X:Cx}
end
structure Dfn(P:Program)(w:World)(K:W.Frag)(mg:Str->Option Value)(base:Heap)(x:Str)(k:Nat)(ps:List Str)(sp:Sp):Prop where
 ex:∃f fd,FnOk P w K mg base CX0 k f fd ps sp/\mg x=some (.ref f)/\PySem.W.keepIn K (.ref f)=true/\Binds K fd ps []
theorem Dfn.imp{P:Program}{w:World}{K:W.Frag}{l:Str->Option Value}{c:Heap}{x:Str}{k:Nat}{ps:List Str}{s g:Sp}(D:Dfn P w K l c x k ps s)(h:∀t H Q E,g t H Q E->s t H Q E):Dfn P w K l c x k ps g:=by
 obtain⟨f,A,F,r⟩:=D.ex;exact⟨f,A,F.imp h,r⟩
section
variable{X:Cx}{x:Str}{k:Nat}{ps:List Str}{l:Sp}{p g:Pos}{e:Expr}{c:List Expr}{t:TA}
theorem zm(D:Dfn X.prog X.w X.K X.mg X.base x k ps l)(G:Room k X.A)(B:Gl X x)(w:PA X (e::c) t)(A:(x==("__debug__":Str))=false:=by decide)
  (H:starEach (e::c) X.env=(false,eval e X.env)::starEach c X.env:=by rfl) (s:(backTo g (starEach c X.env)).any (·.1)=false:=by rfl):PE X (.Call (.Name x p) (e::c) [] g) (zeZ l [] E0 t):=by
 obtain⟨f,I,F,E,hk,hb⟩:=D.ex;exact zej F G B E hk hb .nil zhj w A H s
end
theorem ifT{b:Bool}{A B:Prop}(h:b=true)(q:A):if b=true then A else B:=by rw[zq h];exact q
theorem ifF{b:Bool}{A B:Prop}(h:b=false)(q:B):if b=true then A else B:=by rw[zo (by rw[h];exact qF)];exact q
theorem yS{K:W.Frag}{k1 k2:Bool}{w A:Addr}{xs ys:List V}{g:TG}{U:TT}{Q:TE}{B:St}{n:Nat}{R:List V->Hp->Prop}{H:Hp}(Pv:Nat->List V->Hp->Prop)(h0:Pv 0 [] H)
  (h1:∀i c H,Pv i c H->SqK K k1 H w xs/\SqK K k2 H A ys)
  (hs:∀i x y c H T,xs[i]? =some x->ys[i]? =some y->Pv i c H->H T=none->g (.ref T) B (upd H T (.tup [x,y])) fun s G=>s.drop n=B.drop n/\U s G fun b t=>
   if b=true then Q s t fun v I=>c.length<sizeLine/\Pv (i+1) (c++[v]) I else Pv (i+1) c t)
  (hd:∀c H,Pv (min xs.length ys.length) c H->c.length<=sizeLine/\R c H) :
  ∃W:Nat->Nat->List V->Hp->Prop,(∃m,W 0 m [] H)/\∀i m c l,W i m c l ->
   ((Itz K k1 k2 w A).stop i l/\c.length<=sizeLine/\R c l) \/
   ((Itz K k1 k2 w A).go i l/\∃N:List V->Hp->Prop,(∀c D,N c D->∃O,O<m/\W (i+1) O c D)/\∀x E,(Itz K k1 k2 w A).yld i l x E->g x B E fun s G=>s.drop n=B.drop n/\U s G fun b t=>
    if b=true then Q s t fun y I=>c.length<sizeLine/\N (c++[y]) I else N c t):=by
 refine⟨fun i m c l=>m=min xs.length ys.length-i/\i<=min xs.length ys.length/\Pv i c l,⟨_,rfl,qk _,h0⟩,?_⟩
 rintro i m c l ⟨rfl,hi,p⟩;obtain⟨L,M⟩:=h1 i c l p;by_cases J:i<min xs.length ys.length
 ·have l1:i<xs.length:=by omega
  have l2:i<ys.length:=by omega
  refine .inr ⟨⟨xs,ys,xs[i],ys[i],L,M,by simp[l1],by simp[l2]⟩,Pv (i+1),fun a0 D p'=>⟨_,by omega,rfl,J,p'⟩,fun x E y=>?_⟩
  obtain⟨T,u,v,Y,hT,e2,y1,y2⟩:=y;subst Y e2;exact hs i u v c l T (y1 xs L) (y2 ys M) p hT
 ·have e:i=min xs.length ys.length:=by omega
  subst e;obtain⟨z1,z2⟩:=hd c l p;exact .inl ⟨⟨xs,ys,L,M,by omega⟩,z1,z2⟩
theorem vf{lo:Int}{N n:Nat}{g:TG}{L:TT}{J:TE}{A:St}{R:List V->Hp->Prop}{H:Hp}(Pv:Nat->List V->Hp->Prop)(T:Pv 0 [] H)
  (Y:∀i c H,i<N->Pv i c H->g (.int (lo+i)) A H fun t E=>t.drop n=A.drop n/\L t E fun b w=>if b=true then J t w fun v G=>c.length<sizeLine/\Pv (i+1) (c++[v]) G else Pv (i+1) c w)
  (U:∀c H,Pv N c H->c.length<=sizeLine/\R c H) :
  ∃W:Nat->Nat->List V->Hp->Prop,(∃m,W 0 m [] H)/\∀i m c l,W i m c l ->
   ((Itr lo N).stop i l/\c.length<=sizeLine/\R c l) \/
   ((Itr lo N).go i l/\∃M:List V->Hp->Prop,(∀c B,M c B->∃I,I<m/\W (i+1) I c B)/\∀x D,(Itr lo N).yld i l x D->g x A D fun t E=>t.drop n=A.drop n/\L t E fun b w=>
    if b=true then J t w fun y G=>c.length<sizeLine/\M (c++[y]) G else M c w):=by
 refine⟨fun i m c l=>m=N-i/\i<=N/\Pv i c l,⟨_,rfl,qk _,T⟩,?_⟩
 rintro i m c l ⟨rfl,hi,p⟩;by_cases s:i<N
 ·refine .inr ⟨s,Pv (i+1),fun a0 B p'=>⟨_,by omega,rfl,s,p'⟩,fun x D y=>?_⟩
  obtain⟨O,Q⟩:=y;subst O Q;exact Y i c _ s p
 ·have e:i=N:=by omega
  subst e;obtain⟨z1,z2⟩:=U c l p;exact .inl ⟨zC _,z1,z2⟩
def v0(sn on:List (Str×NameKind))(N own c:List Str)(g:List Nat):Bool:=
 Zq sn on N c g&&own.all (fun x=>sn.lookup x==some .local)&&decide (own++c).Nodup
theorem xF{sn on:List (Str×NameKind)}{N own c:List Str}{g:List Nat}(h:v0 sn on N own c g=true):Zq sn on N c g=true/\(∀x∈own,sn.lookup x=some .local)/\(own++c).Nodup:=by
 unfold v0 at h;rw[qE,qE,jN] at h;exact⟨h.1.1,fun x hx=>by simpa using h.1.2 x hx,jA h.2⟩
section
variable{X:Cx}{g c:Expr}{l:List Expr}{scope:Scope}{t w G I:Pos}{D:TI}{B:TT}{A:TE}{x y:Str}{E:Nat}
theorem xc{J:List Str}{C:Addr}{s:Shared}{H:Hp}{L:List Addr}{i:Nat}(M:scope.names.lookup x=some .local)(O:J.Nodup)(N:J[i]? =some x):PG (zP X J scope C s H L) (.Name x w) (j4 i):=
 zH (X:=zP X J scope C s H L) O N (.inl (lookup_relabel_local M)) (.inr (lookup_relabel_local M))
theorem je(L:List Str)(M:List Nat)(hc:X.calm=true)(hk:scope.kind=.function)(hb:v0 scope.names X.env.scope.names X.N [x] L M=true)(Y:PI X (.Name x w) c D)
  (U:∀C s H J,PF (zP X ([x]++L) scope C s H J) l B) (T:∀C s H J,PE (zP X ([x]++L) scope C s H J) g A)
  (hs:∀x,foldedSetIterable c X.env x=pure x:=by intro _;rfl):PE X (.ListComp g [⟨.Name x w,c,l,0⟩] scope t) (tLC D 1 M (j4 0) B A):=by
 obtain⟨N,O,Q⟩:=xF hb;exact zfo [x] L M hc hk N Y (fun C s H J=>xc (O x (by simp)) Q rfl) U T hs
theorem xL(L:List Str)(M:List Nat)(hc:X.calm=true)(hk:scope.kind=.function)(hb:v0 scope.names X.env.scope.names X.N [x,y] L M=true)(Y:PI X (.Tuple [.Name x w,.Name y G] E I) c D)
  (U:∀C s H J,PF (zP X ([x,y]++L) scope C s H J) l B) (T:∀C s H J,PE (zP X ([x,y]++L) scope C s H J) g A)
  (hs:∀x,foldedSetIterable c X.env x=pure x:=by intro _;rfl):PE X (.ListComp g [⟨.Tuple [.Name x w,.Name y G] E I,c,l,0⟩] scope t) (tLC D 2 M (Xp X.K 2 (xu (j4 0) (xu (j4 1) V3))) B A):=by
 obtain⟨Q,N,O⟩:=xF hb;refine zfo [x,y] L M hc hk Q Y (fun C s H J=>?_) U T hs
 exact ju (X:=zP X ([x,y]++L) scope C s H J) hc (zI (xc (N x (by simp)) O rfl) (zI (xc (N y (by simp)) O rfl) qP))
end
def tWk(t:TS):TS:=fun D σ H=>∃J:St->Hp->Prop,t { D with nx:=J } σ H/\∀g c,J g c->D.nx g c
theorem Xf{X:Cx}{st:Stmt}{t:TS}(h:PS X st t):PS X st (tWk t):=by
 intro c s σ H D I A;obtain⟨J,B,E⟩:=A;refine thn (h c s σ H _ I B) fun f G q=>?_
 cases f with
 | next=>obtain⟨l,g,w,z⟩:=q;exact⟨l,g,w,E l g z⟩
 | brk=>exact q
 | cont=>exact q
 | ret u=>exact q
def Dat.ok:Nat->Dat->Prop
 | n+1,.lst c=>c.length<=1000000/\∀d∈c,Dat.ok n d
 | n+1,.tup c=>c.length<=1000000/\∀d∈c,Dat.ok n d
 | 0,.lst _=>False
 | 0,.tup _=>False
 | _,_=>True
def Dat.tyN:Dat->String
 | .non=> "NoneType" | .bl _=> "bool" | .int _=> "int" | .str _=> "str" | .lst _=> "list" | .tup _=> "tuple"
theorem Rep.ty{K:W.Frag}{H:Hp}{d:Dat}{v:V}(h:Rep K H d v):TyN K H v d.tyN:=by
 cases d with
 | non=>rw[show v=_ from h];exact rfl
 | bl b=>rw[show v=_ from h];exact rfl
 | int b=>rw[show v=_ from h];exact rfl
 | str b=>rw[show v=_ from h];exact rfl
 | lst g=>obtain⟨a,c,rfl,e,_⟩:=h;exact .inl ⟨rfl,c,e⟩
 | tup g=>obtain⟨a,c,rfl,e,_⟩:=h;exact .inr ⟨rfl,c,e⟩
mutual
def Dat.py:Dat->PyData
 | .non=>.none
 | .bl b=>.bool b
 | .int i=>.int i
 | .str x=>.str x
 | .lst c=>.list (Dat.pys c)
 | .tup c=>.tuple (Dat.pys c)
def Dat.pys:List Dat->List PyData
 | []=>[]
 | d::c=>d.py::Dat.pys c
end
mutual
def Dat.shw:Dat->Bool
 | .int i=>decide (i.natAbs<1000000000000)
 | .str x=>x.cps.toList.all fun c=>decide (c<1000000)
 | .lst g=>Dat.shws g
 | .tup g=>Dat.shws g
 | _=>true
def Dat.shws:List Dat->Bool
 | []=>true
 | d::c=>d.shw&&Dat.shws c
end
mutual
def Dat.blk:Dat->Nat
 | .str x=>x.cps.size
 | .lst c=>Dat.blks c
 | .tup c=>Dat.blks c
 | _=>0
def Dat.blks:List Dat->Nat
 | []=>0
 | d::c=>d.blk+1+Dat.blks c
end
section
variable{X:Cx}
inductive Zy(K:W.Frag)(g:List V)(H:Hp)(Q:VK):Prop
 | mk (p:Addr) (c:List Int) (_:g=[.ref p]) (_:SqL K H p (c.map V.int)) (_:(∀z∈c,0<=z/\z<=1000000)) (_:c.length<=100000) (_:Q (.int c.sum) H):Zy K g H Q
theorem vk(hc:X.calm=true):CallR X (.builtin "sum") (Zy X.K):=by
 intro a0 s σ H xs us Q I r h;obtain⟨p,c,rfl,hq,Y,hn,q⟩:=h;obtain⟨u,rfl,ru⟩:=vG r;cases(show u=_ from ru)
 obtain⟨g,rv,pl,_⟩:=I.list hq;have E:=pl.isList;have G:p≠s.heap.objs.size:=by
  obtain⟨o,e,_⟩:=E;exact zM (zD e)
 have D:g.length=c.length:=by have:=rv.length;rw[zr] at this;omega
 have J:∀j,j<=c.length->0<=(c.take j).sum/\(c.take j).sum<=1000000*(j:Int):=by
  intro j;induction j with
  | zero=>intro _;simp
  | succ j ih=>
   intro U;have:=ih (by omega)
   have e:c.take (j+1)=c.take j++[c[j]'(by omega)]:=by rw[QZ]
   have b:=Y (c[j]'(by omega)) (jM _)
   rw[e,QL];simp only[wj,List.sum_nil];constructor
   ·omega
   ·have:(1000000:Int)*((j+1:Nat):Int)=1000000*(j:Int)+1000000:=by omega
    omega
 refine call_sum_walk (wpAny_pyIter_list E ?_)
 refine⟨s.heap.objs.size,_,_,_,_,_,fun i=>c.getD i 0,rfl,yZ (prog:=X.prog) (w:=X.w) (A:=X.A.in1) (I.ok.hd hc) _ p G g.toArray,⟨⟨_,zQ _ rfl,rfl,rfl⟩,E.push _⟩,fun b hb=>?_,fun i v hP=>?_,fun j U=>?_,fun h' tk t' hk=>?_⟩
 ·have L:(s.heap.push { cls:=.type "list_iterator",data:=.fields #[.ref p,.int 0 0] }).objs.size=s.heap.objs.size+1:=qS ..
  show b<(s.heap.push _).objs.size;rw[L];rcases zL.mp hb with z | z
  ·rw[z];exact j9 _
  ·rw[zK.mp z]
   obtain⟨o,e,_⟩:=E;exact jQ (zD e)
 ·have N:g[i]? =some v:=by simpa using hP
  have T:i<c.length:=by have h1:=(zT.mp N).1;omega
  obtain⟨u',O,M⟩:=rv.get (i:=i) (x:=.int c[i]) (by simp[T])
  rw[N] at O;cases O
  obtain⟨t,e⟩:=M;exact⟨t,by rw[e];simp[T]⟩
 ·have B:j<c.length:=by simp only[zX] at U;omega
  have a1:=Y c[j] (jM B);have a2:=J (j+1) (by omega)
  have l:(2:Int)^63=9223372036854775808:=by decide
  refine⟨?_,?_⟩
  ·show InLong (c.getD j 0)
   rw[show c.getD j 0=c[j] by simp[B]]
   unfold InLong;rw[l];omega
  ·rw[preSum_getD]
   unfold InLong;rw[l];have:((j+1:Nat):Int)<=100000:=by omega
   omega
 ·have k:∀b o,s.heap.get? b=some o->h'.get? b=some o:=fun b o e=>hk b o (by simp;exact zM (zD e)) (zO _ e)
  refine⟨.int c.sum,H,I.kept k,⟨t',?_⟩,q⟩
  rw[preSum_getD];have:c.take g.toArray.size=c:=by rw[zX,D,j7]
  rw[this]
end
section
variable{X:Cx}{c:Expr}
end
section
variable{X:Cx}
inductive YZ(x:V)(t:List V)(H:Hp)(Q:VK):Prop
 | mk (l:Addr) (s:List V) (i:Int) (y:V) (_:x=.ref l) (_:t=[.int i,y]) (_:H l=some (.lst s)) (_:0<=i) (_:i<2^62) (_:s.length<sizeLine) (_:Q .non (upd H l (.lst (s.take i.toNat++y::s.drop i.toNat)))):YZ  x t H Q
theorem zbl:MtM X "list.insert" YZ:=by
 intro N s σ H x vs v us Q I Y U h;obtain⟨l,xs,i,y,rfl,rfl,J,i0,i1,hz,q⟩:=h;cases Y;obtain⟨u1,G,rfl,O,T⟩:=ZT U;obtain⟨t,rfl⟩:=O;obtain⟨z,B,n,r,hl,e⟩:=I.lstM J;have L:=r.length;refine call_meets F.slot_list_insert ⟨_,e,rfl⟩ F.entry_list_insert (F.args_list_insert_3 _ _ _) (AutoListH.list_insert_list_int_val_1 l B.toArray n i t G ?_ (by rw[zX];omega)) ⟨e,?_⟩
 ·unfold Builtin.List.listFitsIndex
  simp;omega
 refine⟨.non,_,I.lset (its':=B.take i.toNat++G::B.drop i.toNat) J e ?_ ((r.take _).append (.cons T (r.drop _))) ?_,rfl,q⟩
 ·show(have k:=if i<0 then(i+((B.toArray.size:Nat):Int)).toNat else min i.toNat B.toArray.size;(B.toArray.extract 0 k).push G++B.toArray.extract k)=_
  have hk:(if i<0 then(i+((B.toArray.size:Nat):Int)).toNat else min i.toNat B.toArray.size)=min i.toNat B.length:=by
   rw[zo (by omega),zX]
  simp only[hk];apply Array.toList_inj.mp
  simp;by_cases E:i.toNat<=B.length
  ·have D:(B.drop i.toNat).take (B.length-i.toNat)=B.drop i.toNat:=X3 (by rw[yb];omega)
   rw[Nat.min_eq_left E,D]
  ·have D:B.length<=i.toNat:=by omega
   rw[Nat.min_eq_right D,X3 D,List.drop_of_length_le D];simp
 ·simp only[zY,jO,jP,yb]
  omega
variable{e st:Expr}{w:TE}{A:TO}{c g:Pos}
end
theorem jq{K:W.Frag}{a:Addr}{xs:List V}{g:TG}{L:TT}{J:TE}{A:St}{n:Nat}{R:List V->Hp->Prop}{H:Hp}(Pv:Nat->List V->Hp->Prop)(M:Pv 0 [] H)
  (O:∀i c H,Pv i c H->SqL K H a xs)
  (T:∀i x c H,xs[i]? =some x->Pv i c H->g x A H fun s E=>s.drop n=A.drop n/\L s E fun b t=>
   if b=true then J s t fun v G=>c.length<sizeLine/\Pv (i+1) (c++[v]) G else Pv (i+1) c t)
  (Q:∀c H,Pv xs.length c H->c.length<=sizeLine/\R c H) :
  ∃W:Nat->Nat->List V->Hp->Prop,(∃m,W 0 m [] H)/\∀i m c l,W i m c l ->
   ((Itl K a).stop i l/\c.length<=sizeLine/\R c l) \/
   ((Itl K a).go i l/\∃N:List V->Hp->Prop,(∀c B,N c B->∃I,I<m/\W (i+1) I c B)/\∀x D,(Itl K a).yld i l x D->g x A D fun s E=>s.drop n=A.drop n/\L s E fun b t=>
    if b=true then J s t fun y G=>c.length<sizeLine/\N (c++[y]) G else N c t):=by
 refine⟨fun i m c l=>m=xs.length-i/\i<=xs.length/\Pv i c l,⟨_,rfl,qk _,M⟩,?_⟩
 rintro i m c l ⟨rfl,hi,p⟩;have q:=O i c l p;by_cases w:i<xs.length
 ·refine .inr ⟨⟨xs,xs[i],q,by simp[w]⟩,Pv (i+1),fun a0 B U=>⟨_,by omega,rfl,w,U⟩,fun x D y=>?_⟩
  obtain⟨e,y⟩:=y;subst e;exact T i x c _ (y xs q) p
 ·have e:i=xs.length:=by omega
  subst e;obtain⟨Y,z2⟩:=Q c l p;exact .inl ⟨⟨xs,q,zC _⟩,Y,z2⟩
theorem Qn{K:W.Frag}{a:Addr}{xs:List V}{g:TG}{L:TT}{J:TE}{A:St}{n:Nat}{R:List V->Hp->Prop}{H:Hp}(Pv:Nat->List V->Hp->Prop)(M:Pv 0 [] H)
  (O:∀i c H,Pv i c H->SqT K H a xs)
  (T:∀i x c H,xs[i]? =some x->Pv i c H->g x A H fun s E=>s.drop n=A.drop n/\L s E fun b t=>
   if b=true then J s t fun v G=>c.length<sizeLine/\Pv (i+1) (c++[v]) G else Pv (i+1) c t)
  (Q:∀c H,Pv xs.length c H->c.length<=sizeLine/\R c H) :
  ∃W:Nat->Nat->List V->Hp->Prop,(∃m,W 0 m [] H)/\∀i m c l,W i m c l ->
   ((Itt K a).stop i l/\c.length<=sizeLine/\R c l) \/
   ((Itt K a).go i l/\∃N:List V->Hp->Prop,(∀c B,N c B->∃I,I<m/\W (i+1) I c B)/\∀x D,(Itt K a).yld i l x D->g x A D fun s E=>s.drop n=A.drop n/\L s E fun b t=>
    if b=true then J s t fun y G=>c.length<sizeLine/\N (c++[y]) G else N c t):=by
 refine⟨fun i m c l=>m=xs.length-i/\i<=xs.length/\Pv i c l,⟨_,rfl,qk _,M⟩,?_⟩
 rintro i m c l ⟨rfl,hi,p⟩;have q:=O i c l p;by_cases w:i<xs.length
 ·refine .inr ⟨⟨xs,xs[i],q,by simp[w]⟩,Pv (i+1),fun a0 B U=>⟨_,by omega,rfl,w,U⟩,fun x D y=>?_⟩
  obtain⟨e,y⟩:=y;subst e;exact T i x c _ (y xs q) p
 ·have e:i=xs.length:=by omega
  subst e;obtain⟨Y,z2⟩:=Q c l p;exact .inl ⟨⟨xs,q,zC _⟩,Y,z2⟩
inductive DV(K:W.Frag)(F:Hp)(n:Nat):V->Prop
 | non:DV K F n .non
 | bl (b:Bool):DV K F n (.bl b)
 | int (i:Int) (h:i.natAbs<=10000000000+n):DV K F n (.int i)
 | str (x:Str) (h:x.length<=n):DV K F n (.str x)
 | lst (a:Addr) (c:List V) (h:SqL K F a c) (g:c.length<=n) (all:∀x∈c,DV K F n x):DV K F n (.ref a)
 | tup (a:Addr) (c:List V) (h:SqT K F a c) (g:c.length<=n) (all:∀x∈c,DV K F n x):DV K F n (.ref a)
theorem DV.up{K:W.Frag}{F l:Hp}{n m:Nat}{v:V}(h:DV K F n v)(s:Same F l)(w:n<=m):DV K l m v:=by
 induction h with
 | non=>exact .non
 | bl b=>exact .bl b
 | int i h=>exact .int i (by omega)
 | str x h=>exact .str x (by omega)
 | lst a g h t all c=>exact .lst a g (s.seq h) (by omega) c
 | tup a g h t all c=>exact .tup a g (s.sqT h) (by omega) c
def WX(g:List Addr)(H:Hp):Hp:=fun c=>if c∈g then none else H c
theorem WX.le{g:List Addr}{H:Hp}:Same (WX g H) H:=fun c o e=>by
 unfold WX at e;split at e
 ·cases e
 ·exact e
theorem WX.new{g:List Addr}{H:Hp}{p:Addr}{o:HO}(h:H p=none):Same (WX g H) (WX g (upd H p o)):=fun c u e=>by
 unfold WX at e ⊢;split at e
 ·cases e
 ·rename_i hc
  rw[zo hc,zw (zp e h)];exact e
theorem WX.same{l:List Addr}{H g:Hp}(h:Same H g):Same (WX l H) (WX l g):=fun c u e=>by
 unfold WX at e ⊢;split at e
 ·cases e
 ·rename_i hc
  rw[zo hc];exact h c u e
theorem WX.cons{g:List Addr}{H:Hp}{m:Addr}:Same (WX (m::g) H) (WX g H):=fun c u e=>by
 unfold WX at e ⊢;split at e
 ·cases e
 ·rename_i hc
  rw[zo (fun z=>hc (z9 _ z))]
  exact e
theorem WX.fresh{g:List Addr}{H:Hp}{m:Addr}(h:H m=none)(o:HO):Same (WX g H) (WX (m::g) (upd H m o)):=fun c u e=>by
 unfold WX at e ⊢;split at e
 ·cases e
 ·rename_i hc
  have l:c≠m:=zp e h;rw[zo (fun z=>(zL.mp z).elim l hc),zw l]
  exact e
theorem WX.put{g:List Addr}{H:Hp}{m:Addr}{o:HO}(h:m∈g):Same (WX g H) (WX g (upd H m o)):=fun c u e=>by
 unfold WX at e ⊢;split at e
 ·cases e
 ·rename_i hc
  rw[zo hc,zw (show c≠m from fun z=>hc (by rw[z];exact h))]
  exact e
theorem WX.at{g:List Addr}{H:Hp}{c:Addr}{o:HO}(h:c∉g)(e:H c=some o):WX g H c=some o:=by
 unfold WX;rw[zo h];exact e
def zcZ:Expr->Bool
 | .Starred _ _=>false
 | _=>true
theorem qL{e:Expr}{g:List Expr}{c:Env}(h:zcZ e=true):starEach (e::g) c=(false,eval e c)::starEach g c:=by
 cases e<;>first| rfl | cases h
theorem pa5{X:Cx}{g l s t w:Expr}{A B D E G:TE}(H:PE X g A)(I:PE X l B)(J:PE X s D)(L:PE X t E)(M:PE X w G)(h:([g,l,s,t,w]).all zcZ=true:=by rfl):PA X [g,l,s,t,w] (x9 A (x9 B (x9 D (x9 E (x9 G zfy))))):=by
 have c:=jN.mp h;exact(zd H (zd I (zd J (zd L (zd M ze (qL (c _ (by simp)))) (qL (c _ (by simp)))) (qL (c _ (by simp)))) (qL (c _ (by simp)))) (qL (c _ (by simp))))
theorem pa7{X:Cx}{g l s t w A B:Expr}{D E G H I J L:TE}(M:PE X g D)(N:PE X l E)(O:PE X s G)(Q:PE X t H)(T:PE X w I)(U:PE X A J)(Y:PE X B L)(h:([g,l,s,t,w,A,B]).all zcZ=true:=by rfl):PA X [g,l,s,t,w,A,B] (x9 D (x9 E (x9 G (x9 H (x9 I (x9 J (x9 L zfy))))))):=by
 have c:=jN.mp h;exact(zd M (zd N (zd O (zd Q (zd T (zd U (zd Y ze (qL (c _ (by simp)))) (qL (c _ (by simp)))) (qL (c _ (by simp)))) (qL (c _ (by simp)))) (qL (c _ (by simp)))) (qL (c _ (by simp)))) (qL (c _ (by simp))))
section
variable{X:Cx}{l G c:Expr}{t:List Expr}{scope:Scope}{w:Pos}{E:TI}{g:TG}{B:TT}{A:TE}
theorem zbS{y:Str}{py:Pos}{g2:TG}{s:List (Addr×Obj)}{σ:St}{M:Hp}{Q:St->Hp->Prop}{I:Shared}{D C:Addr}{m:Str->Option Value}(N:PG X (.Name y py) g2)(hn:I.heap.Ns C m)
  (all:∀h7:Heap,(∀b o,b≠C->I.heap.get? b=some o->h7.get? b=some o)->Inv X s σ M { I with heap:=h7 }) (Y:jh X s M C) (q:g2 (.ref D) σ M Q) :
  wpAny (model X.prog X.w) X.A (assign (.Name y py) X.env (.ref D)) (fun _ H=>∃m,H.heap.Ns C m/\∀h',Heap.SameBut C H.heap h'->∃σ' T,Inv X s σ' T { H with heap:=h' }/\Q σ' T) X.xe I:=by
 have J0:=all I.heap fun b o _ e=>e
 obtain⟨L,es,ep,J,hd,r⟩:=hn;have J1:=J0.pinned (fp:=[C]) (fun b hb=>by rw[zK.mp hb];exact Y) (fun b hb=>by rw[zK.mp hb];exact⟨L,J,fun v z=>by rw[hd] at z;cases z⟩)
 have mC:(C,L)∈s++zU [C] I.heap:=qt _ (qD (zK.mpr rfl) J);refine thn (N _ I σ _ (.ref D) (.ref D) _ J1 rfl q) fun _ s8 ⟨σ8,H8,U,q8⟩=>?_
 obtain⟨e8,n8,_⟩:=U.pin (C,L) (qt _ mC);obtain⟨_,g1,_,g3,g4,g5⟩:=Y;exact⟨m,⟨L,es,ep,e8,hd,r⟩,fun h9 O=>⟨σ8,H8,(U.unpinned).turned (t':=s8.toks) (it:=C) (fun b o hb e=>O.extBut b o hb e) n8 g1 g3 g4 g5,q8⟩⟩
theorem zcw{y:Str}{U L:Pos}{g2:TG}(own N:List Str)(js:List Nat)(hc:X.calm=true)(hk:scope.kind=.function)(hb:Zq scope.names X.env.scope.names X.N N js=true)(hi:PI X G c E)
  (hg:∀C s H M,PG (zP X (own++N) scope C s H M) G g) (hf:∀C s H M,PF (zP X (own++N) scope C s H M) t B) (he:∀C s H M,PE (zP X (own++N) scope C s H M) l A)
  (a0:PG X (.Name y U) g2) (a1:swapsWith (.ListComp l [⟨G,c,t,0⟩] scope w) (some (.Name y U)) L.line X.env=pure true:=by rfl)
  (hs:∀x,foldedSetIterable c X.env x=pure x:=by intro _;rfl):PS X (.Assign [.Name y U] (.ListComp l [⟨G,c,t,0⟩] scope w) L) (za2 (tLC E own.length js g B A) g2):=by
 intro O s σ H Dn I h;rw[exec_Assign_Name_used _ _ _ _ a1];refine zn (vF (zn ?_))
 show wpAny _ X.A (do let _<-comprehension (.ListComp l [⟨G,c,t,0⟩] scope w) scope X.env _ (newList []) false (eval c X.env) (some (assign (.Name y U) X.env))) _ _ s
 refine zn (qA (zdw (rest:=[]) (use:=some (assign (.Name y U) X.env)) (Qx:=fun _ s'=>∃σ' H',Inv X O σ' H' s'/\Dn.nx σ' H') (Q:=fun v H1=>g2 v σ H1 Dn.nx) own N js hk hb hi hs I h (fun C D it fp tn J W H2 s3 s4 m0 R a b T tl j Y=>zah hc hg hf he a b T tl j Y) fun s6 D C H6 m hn all fc q=>zbS a0 hn all fc q) (fun _ s' hq=>zA (zA hq)) fun _ _ e=>e)
theorem zfR{x y:Str}{O Q D:Pos}{T:TG}(J:List Str)(N:List Nat)(hc:X.calm=true)(hk:scope.kind=.function)(hb:v0 scope.names X.env.scope.names X.N [x] J N=true)(hi:PI X (.Name x O) c E)
  (hf:∀C s H I,PF (zP X ([x]++J) scope C s H I) t B) (he:∀C s H I,PE (zP X ([x]++J) scope C s H I) l A)
  (L:PG X (.Name y Q) T) (M:swapsWith (.ListComp l [⟨.Name x O,c,t,0⟩] scope w) (some (.Name y Q)) D.line X.env=pure true:=by rfl)
  (hs:∀x,foldedSetIterable c X.env x=pure x:=by intro _;rfl):PS X (.Assign [.Name y Q] (.ListComp l [⟨.Name x O,c,t,0⟩] scope w) D) (za2 (tLC E 1 N (j4 0) B A) T):=by
 obtain⟨U,Y,h3⟩:=xF hb;exact zcw [x] J N hc hk U hi (fun C s H I=>xc (Y x (by simp)) h3 rfl) hf he L M hs
theorem zfQ{x z y:Str}{Q U T D Y:Pos}{O:Nat}{g2:TG}(J:List Str)(N:List Nat)(hc:X.calm=true)(hk:scope.kind=.function)(hb:v0 scope.names X.env.scope.names X.N [x,z] J N=true)(hi:PI X (.Tuple [.Name x Q,.Name z U] O Y) c E)
  (hf:∀C s H I,PF (zP X ([x,z]++J) scope C s H I) t B) (he:∀C s H I,PE (zP X ([x,z]++J) scope C s H I) l A)
  (L:PG X (.Name y T) g2) (M:swapsWith (.ListComp l [⟨.Tuple [.Name x Q,.Name z U] O Y,c,t,0⟩] scope w) (some (.Name y T)) D.line X.env=pure true:=by rfl)
  (hs:∀x,foldedSetIterable c X.env x=pure x:=by intro _;rfl):PS X (.Assign [.Name y T] (.ListComp l [⟨.Tuple [.Name x Q,.Name z U] O Y,c,t,0⟩] scope w) D) (za2 (tLC E 2 N (Xp X.K 2 (xu (j4 0) (xu (j4 1) V3))) B A) g2):=by
 obtain⟨h1,h2,h3⟩:=xF hb;refine zcw [x,z] J N hc hk h1 hi (fun C s H I=>?_) hf he L M hs
 exact ju (X:=zP X ([x,z]++J) scope C s H I) hc (zI (xc (h2 x (by simp)) h3 rfl) (zI (xc (h2 z (by simp)) h3 rfl) qP))
end
theorem Vals.mem{u:Value}:∀{c:List V} {g:List Value},Vals c g->u∈g->∃x∈c,RelV x u
 | _,_,.nil,h=>by cases h
 | x::c,v::s,.cons r t,h=>by
  rcases zL.mp h with e | h
  ·rw[e];exact⟨x,jW,r⟩
  ·obtain⟨y,hy,l⟩:=Vals.mem t h
   exact⟨y,z9 _ hy,l⟩
section
variable{X:Cx}
theorem zgu{G:List (Addr×Obj)}{σ:St}{H:Hp}{s:Shared}(I:Inv X G σ H s){A:Around}(hu:A.units<cLine){a c:Addr}{t w:List V}(hx:SqT X.K H a t)(hy:SqT X.K H c w)(O:t.all xw=true)(Q:w.all xw=true):∃b,SeqAt.EqAt A s (.ref a) (.ref c) b:=by
 by_cases B:a=c
 ·subst B
  exact⟨true,SeqAt.EqAt.same _⟩
 ·obtain⟨D,J,p1,z1⟩:=I.tuple hx
  obtain⟨E,L,p2,z2⟩:=I.tuple hy;have l1:=J.length;have l2:=L.length;refine⟨_,SeqAt.EqAt.of_refs B (SeqAt.RcAt.tuples (e:=fun j=>eqV (t.getD j .non) (w.getD j .non)) p1 p2 hu (fun j Y h2=>?_))⟩
  have g:j<t.length:=by rw[zX] at Y;omega
  have l:j<w.length:=by rw[zX] at h2;omega
  obtain⟨w1,M,q1⟩:=J.get (i:=j) (x:=t[j]) (by simp[g])
  obtain⟨w2,N,q2⟩:=L.get (i:=j) (x:=w[j]) (by simp[l])
  have T:D.toArray[j]=w1:=by simpa using (zT.mp M).2
  have U:E.toArray[j]=w2:=by simpa using (zT.mp N).2
  rw[T,U,show t.getD j .non=t[j] by simp[g],show w.getD j .non=w[j] by simp[l]]
  exact zdn q1 q2 (jN.mp O _ (jM g)) (jN.mp Q _ (jM l))
inductive JV(K:W.Frag)(x:V)(y:V)(H:Hp)(Q:VK):Prop
 | mk (a p:Addr) (s l:List V) (_:x=.ref a) (_:y=.ref p) (_:SqT K H a s) (_:s.all xw=true) (_:SqL K H p l) (_:(∀v∈l,∃(c:Addr) (g:List V),v=.ref c/\SqT K H c g/\g.all xw=true)) (_:∀r:Bool,Q (.bl r) H):JV K x y H Q
open Classical in
theorem zek(hu:X.A.units+64<cLine):OpR X (compareOp .In) (JV X.K):=by
 intro B s σ H x y v u Q I N O h;obtain⟨a,p,zs,Y,rfl,rfl,J,E,L,all,q⟩:=h;cases N;cases O;obtain⟨t,r,M,T⟩:=I.list L;have D:∀w∈t,∃b,SeqAt.EqAt X.A.in1 s w (.ref a) b:=fun w l=>by
  obtain⟨x,hx,A⟩:=Vals.mem r l;obtain⟨c,U,rfl,hc,G⟩:=all x hx;cases A;exact zgu I (by show X.A.units+1<cLine;omega) hc J G E
 refine SeqAt.in_listAt (fun w=>if h:∃b,SeqAt.EqAt X.A.in1 s w (.ref a) b then h.choose else false) M.isList (fun w l=>?_) ⟨.bl _,H,I,rfl,q _⟩
 have g:=D w (by simpa using l)
 simp only[g,dif_pos];exact g.choose_spec
inductive Q3(K:W.Frag)(x:V)(y:V)(H:Hp)(Q:VK):Prop
 | mk (a b:Addr) (c:List V) (_:x=.ref a) (_:y=.ref b) (_:SqL K H a c) (_:SqL K H b []) (_:Q (.bl (!c.isEmpty)) H):Q3 K x y H Q
theorem VG(hu:X.A.units<cLine):OpR X (compareOp .NotEq) (Q3 X.K):=by
 intro A s σ H x y v u Q I G J h;obtain⟨a,b,L,rfl,rfl,hx,hy,q⟩:=h;cases G;cases J;obtain⟨c,D,l,M⟩:=I.list hx;obtain⟨g,E,w,N⟩:=I.list hy;cases E;cases D with
 | nil=>exact SeqAt.RcNeAt.lists (e:=fun _=>true) l.isList w.isList rfl hu (fun j B _=>by simp at B) _ _ _ _ ⟨.bl _,H,I,rfl,q⟩
 | cons r t=>exact SeqAt.RcNeAt.lists_lengths l.isList w.isList (by simp) hu _ _ _ _ ⟨.bl _,H,I,rfl,q⟩
theorem Va:∀{c:List Value} {n k:Nat},c.length=n->(∀j v,c[j]? =some v->∃t,v=Value.int ((k+j:Nat):Int) t)->Vals ((List.range' k n).map fun i:Nat=>V.int (i:Int)) c
 | [],0,k,_,_=>.nil
 | v::c,n+1,k,l,h=>by
  rw[List.range'_succ,jz];obtain⟨t,e⟩:=h 0 v rfl;refine .cons ⟨t,by rw[e];rfl⟩ (Va (by simpa using l) fun j w s=>?_)
  obtain⟨A,g⟩:=h (j+1) w (by simpa using s)
  exact⟨A,by rw[g,show k+(j+1)=k+1+j by omega]⟩
theorem yo{a:Expr}{ta:TA}{p N O c:Pos}(hc:X.calm=true)(hg:Gl X "list")(hm:X.mg "list" = none)(J:Gl X "range")(L:X.mg "range" = none)(M:bootBuiltins "list" = some (.type "list"))(ha:PA X [a] ta)(hs:starEach [a] X.env=[(false,eval a X.env)]:=by rfl)
  (U:starEach [.Call (.Name "range" N) [a] [] c] X.env=[(false,eval (.Call (.Name "range" N) [a] [] c) X.env)]:=by rfl) :
  PE X (.Call (.Name "list" p) [.Call (.Name "range" N) [a] [] c] [] O) (fun σ H Q=>ta σ H fun vs G=>∃j:Int,vs=[.int j]/\0<=j/\j<=1000000/\∀l,G l=none->Q (.ref l) (upd G l (.lst ((List.range j.toNat).map fun i:Nat=>V.int (i:Int))))):=by
 intro A s σ H Q I h;refine wpAny_Call_Name_kw (vV I hg hm M ?_ (by decide) (by decide))
 refine JS ?_ U rfl
 rw[U];refine QR ?_
 refine Call_ (vV I J L boot_range (JS (thn (ha c A s σ H _ I h) fun us E ⟨vs,G,I1,r1,q1⟩=>?_) hs rfl))
 obtain⟨j,e,j0,j1,q⟩:=q1;subst e;cases r1 with
 | cons r rr=>
  cases rr;obtain⟨t,rfl⟩:=r;refine call_range_1 (XT ?_)
  have T:Inv X A σ G { E with heap:=E.heap.push { cls:=.type "range",data:=.fields #[.int 0 E.toks,.int j t,.int 1 (E.toks+1)] },toks:=E.toks+1+1 }:=I1.kept fun b o e=>zO _ e
  have w:=bGe;refine call_list_range (n:=j.toNat) (I.ok.hd hc) (IsRange.new ..) (small_one (by rw[w];omega) (by rw[w];omega) (by rw[w];omega) (by rw[w];omega)) (by rw[rangeSize_one];split<;>omega) (by omega) fun h' tk B c' D get g=>?_
  refine⟨.ref _,_,T.laid (t':=tk) (o:=.lst ((List.range j.toNat).map fun i:Nat=>V.int (i:Int))) D (zC _) ?_,rfl,q _ (T.hok.fresh (zC _))⟩
  refine⟨by rw[zr,zS,sizeLine_eq];omega,B.toList,c',?_,by rw[Array.toArray_toList];exact get⟩
  rw[List.range_eq_range'];refine Va (by rw[j8];exact g.1) fun i v M=>?_
  obtain⟨Y,e'⟩:=g.2 i v (by simpa using M)
  exact⟨Y,by rw[e'];congr 1;omega⟩
end
end L2
namespace L2
open PySem PySem.Spec PyProof.Rows
section
variable{c:Program}{w:World}{A:Around}{E:Value->Shared->Prop}{s:Shared}
end
theorem Inv.track{X:Cx}{c:List (Addr×Obj)}{σ:St}{H:Hp}{s:Shared}{a:Addr}{o:HO}(I:Inv X c σ H s)(f:jh X c H a)(g:ObjOk X.prog X.w (upd H a o) s.heap a o):Inv X c σ (upd H a o) s:=by
 refine I.call' (s':=s) (ch:=[a]) rfl (yg Un.refl (zK.mpr rfl) f.1) (wD I.hok f.1 g) I.bare fun b hb=>?_
 rw[zK.mp hb];exact⟨f.2.2.2.1,f.2.1,f.2.2.2.2.1,f.2.2.2.2.2⟩
def Tups(H:Hp)(g l:List V)(c:List Addr):Prop:=∀(j:Nat) (T:Addr),c[j]? =some T->∃x y,g[j]? =some x/\l[j]? =some y/\H T=some (.tup [x,y])
theorem Tups.same{H g:Hp}{xs t:List V}{l:List Addr}(h:Tups H xs t l)(s:Same H g):Tups g xs t l:=fun j T e=>let ⟨x,y,a,b,c⟩:=h j T e;⟨x,y,a,b,s _ _ c⟩
theorem Tups.snoc{H:Hp}{g l:List V}{c:List Addr}{T:Addr}{x y:V}(h:Tups H g l c)(hx:g[c.length]? =some x)(hy:l[c.length]? =some y)(s:H T=some (.tup [x,y])):Tups H g l (c++[T]):=fun j U e=>by
 by_cases t:j<c.length
 ·rw[jR t] at e
  exact h j U e
 ·rw[jB (by omega)] at e
  have:j=c.length:=by
   have:=(zT.mp e).1;simp at this;omega
  subst this;simp at e;subst e;exact⟨x,y,hx,hy,s⟩
section
variable{X:Cx}{A:Around}{R:Result->Shared->Prop}
end
section
variable{X:Cx}
theorem jG{K:W.Frag}(h:X.K=K):IxR X (zfM K):=by rw[<- h];exact z6
theorem wB{K:W.Frag}(h:X.K=K):IxR X (zfL K):=by rw[<- h];exact qr
theorem wJ{K:W.Frag}(h:X.K=K):CallR X (.builtin "len") (xR K):=by rw[<- h];exact zy
theorem WC{K:W.Frag}(h:X.K=K):OpR X (compareOp .In) (rIn K false):=by rw[<- h];exact JA
theorem Jd{K:W.Frag}(h:X.K=K):OpR X (compareOp .NotIn) (rIn K true):=by rw[<- h];exact Xg
end
section
open AutoSeq1 (wpAny_loadPart')
end
section
variable{c:Program}{w:World}{A:Around}{E:Value->Shared->Prop}{s:Shared}
theorem Draws.tuple{c:Program}{w:World}{A:Around}(N:A.handled=none)(D l:Addr)(H:l≠D)(g:Array Value) :
  Draws c w A D [D,l] g.size (fun i v=>g[i]? =some v) (fun i h=>h.IsTupleIter D l i/\h.IsTuple l g) where
 live:=fun _ _ st=>let ⟨o,O,_⟩:=st.1;⟨o,O⟩
 frame:=fun _ _ _ st hk=>⟨ItrK.at (kd:=false) st.1 fun o e=>hk D (by simp) o e,SeqK.at (kd:=false) st.2 fun o e=>hk l (by simp) o e⟩
 item:=fun i s Q E I st M=>by
  refine vz (kd:=false) st.1 st.2 (x:=g[i]) (by simp[I]) fun J t B=>?_
  exact M _ J s.toks (by simp[I]) ⟨t,SeqK.at (kd:=false) st.2 fun o e=>B.extBut l o H e⟩ B
 done:=fun s Q E st L=>yR (kd:=false) N st.1 st.2 (by simp) L
end
section
variable{X:Cx}
end
end L2
namespace L2
open PySem PySem.Spec PyProof.Rows
section
variable{g:Program}{w:World}{A:Around}{R:Result->Shared->Prop}{s:Shared}
abbrev lc2(B G c:Expr)(l:List Expr)(H t:Expr)(D:List Expr)(scope:Scope)(E:Pos):Expr:=.ListComp B [⟨G,c,l,0⟩,⟨H,t,D,0⟩] scope E
theorem Wd(G J B:Expr)(D:List Expr)(M t:Expr)(H:List Expr)(scope:Scope)(I:Pos)(L E:Value)(l:Env) :
  compTurn (lc2 G J B D M t H scope I) 1 L E l=(do
   standAt t.pos
   match<-pyNext L with
   | none=>pure (.done .next)
   | some v=>
    letOwnedTupleGo M L v
    assign M l v
    let mut ok:=true
    for c in H do
     if ok then ok<-isTrue c l (eval c l)
    if ok then
     (do let _<-call (.builtin "list.append") [E,<- eval G l])
    again (.compLoop (lc2 G J B D M t H scope I) 1 L E l)):=by rfl
theorem Xu(G D l:Expr)(B:List Expr)(L c:Expr)(H:List Expr)(scope:Scope)(I:Pos)(J E:Value)(t:Env) :
  compTurn (lc2 G D l B L c H scope I) 0 J E t=(do
   standAt l.pos
   match<-pyNext J with
   | none=>pure (.done .next)
   | some v=>
    letOwnedTupleGo D J v
    assign D t v
    let ok<-xU B t
    if ok=true then do
     let x<-eval c t
     standAt c.pos
     let x<-foldedSetIterable c t x
     let M<-holding [x] (pyIter x)
     let _<-runOwn (.compStart (lc2 G D l B L c H scope I) 1 M E t) t
     again (.compLoop (lc2 G D l B L c H scope I) 0 J E t)
    else again (.compLoop (lc2 G D l B L c H scope I) 0 J E t)):=by rfl
theorem vY{E I c t N l G scope H M D B}
  (Q:codeAny (model g w) A (.compLoop (lc2 E I c t N l G scope H) 1 M D B) R s)
  (h:wpAny (model g w) A (pyIter M) (fun J L=>codeAny (model g w) A (.compLoop (lc2 E I c t N l G scope H) 1 J D B) R L)
   (notedBy (model g w) A B fun x L=>R (.error x) L) s) :
  codeAny (model g w) A (.compStart (lc2 E I c t N l G scope H) 1 M D B) R s:=by
 refine codeAny_of_tree ?_
 show wpAny _ _ ((compStart (lc2 E I c t N l G scope H) 1 M D B).onRaise (fun x=>do noteFrame x B;standAt theWindowsPlace)) _ _ s
 refine wpAny_notedAt ?_
 unfold compStart;show wpAny _ _ (ask >>= _) _ _ s;refine zn (wpAny_askSetting (wpAny_ite ?_))
 split
 ·first
   | exact zn (zA (zA (And.intro rfl Q)))
   | exact zA (And.intro rfl Q)
 ·first
   | exact zn (x5 (zn (vF (zn (qA h (fun J L O=>zA (And.intro rfl O)) fun _ _ x=>x)))))
   | (refine zn (x5 ?_);show wpAny _ _ (standAt l.pos >>= _) _ _ s;exact zn (vF (zn (qA h (fun J L O=>zA (And.intro rfl O)) fun _ _ x=>x))))
theorem zgy{D N l:Expr}{G:List Expr}{tg H:Expr}{I:List Expr}{scope:Scope}{M:Pos}{T B:Value}{c:Env}(J:Nat->Shared->Prop)
  (O:∀n s,J n s->wpAny (model g w) A (pyNext T) (fun r s1=>match r with
   | none=>R (.ok .next) s1
   | some v=>wpAny (model g w) A (letOwnedTupleGo tg T v) (fun _ s2=>wpAny (model g w) A (assign tg c v) (fun _ s3=>
     wpAny (model g w) A (xU I c) (fun ok U=>
      if ok=true then wpAny (model g w) A (eval D c) (fun x Y=>
       wpAny (model g w) A (call (.builtin "list.append") [B,x]) (fun _ s6=>∃m,m<n/\J m s6) (fun _ _=>False) Y) (fun _ _=>False) U
      else ∃m,m<n/\J m U) (fun _ _=>False) s3) (fun _ _=>False) s2) (fun _ _=>False) s1) (fun _ _=>False) s)
  (n:Nat) (h:J n s):codeAny (model g w) A (.compLoop (lc2 D N l G tg H I scope M) 1 T B c) R s:=by
 have L:∀{α:Type} {t:Sem α} {Q:α->Shared->Prop} {E:Value->Shared->Prop} {s:Shared},wpAny (model g w) A t Q (fun _ _=>False) s->wpAny (model g w) A t Q E s:=fun x=>qA x (fun _ _ q=>q) fun _ _ q=>q.elim
 refine codeAny_loop rfl J (fun k u hJ=>?_) n h
 show wpAny _ A ((compTurn (lc2 D N l G tg H I scope M) 1 T B c).onRaise (fun x=>do noteFrame x c;theTreesLotGoes x)) _ _ u
 refine wpAny_noted ?_
 rw[Wd];refine zn (vF (zn (L (qA (O k u hJ) (fun r s1 h1=>?_) fun _ _ q=>q))))
 cases r with
 | none=>exact zA h1
 | some v=>
  refine zn (L (qA h1 (fun _ s2 h2=>zn (L (qA h2 (fun _ s3 h3=>zn (L (qA h3 (fun ok U h4=>?_) fun _ _ q=>q))) fun _ _ q=>q))) fun _ _ q=>q))
  cases ok with
  | false=>exact zA ⟨rfl,h4⟩
  | true=>
   have a0:wpAny (model g w) A (eval D c) (fun x Y=>wpAny (model g w) A (call (.builtin "list.append") [B,x]) (fun _ s6=>∃m,m<k/\J m s6) (fun _ _=>False) Y) (fun _ _=>False) U:=h4
   refine zn (zn (L (qA a0 (fun x Y h5=>zn (L (qA h5 (fun _ s6 h6=>zA (zA ⟨rfl,h6⟩)) fun _ _ q=>q))) fun _ _ q=>q)))
theorem zeP{I G B:Expr}{D:List Expr}{tg c:Expr}{L:List Expr}{scope:Scope}{M:Pos}{U H:Value}{l:Env}(hs:∀x,foldedSetIterable c l x=pure x)(J:Nat->Shared->Prop)
  (O:∀n s,J n s->wpAny (model g w) A (pyNext U) (fun r s1=>match r with
   | none=>R (.ok .next) s1
   | some v=>wpAny (model g w) A (letOwnedTupleGo G U v) (fun _ s2=>wpAny (model g w) A (assign G l v) (fun _ s3=>
     wpAny (model g w) A (xU D l) (fun ok Y=>
      if ok=true then wpAny (model g w) A (eval c l) (fun x s5=>
       wpAny (model g w) A (pyIter x) (fun T s6=>codeAny (model g w) A (.compStart (lc2 I G B D tg c L scope M) 1 T H l) (fun r s7=>match r with | .ok _=>∃m,m<n/\J m s7 | .error _=>False) s6) (fun _ _=>False) s5) (fun _ _=>False) Y
      else ∃m,m<n/\J m Y) (fun _ _=>False) s3) (fun _ _=>False) s2) (fun _ _=>False) s1) (fun _ _=>False) s)
  (n:Nat) (h:J n s):codeAny (model g w) A (.compLoop (lc2 I G B D tg c L scope M) 0 U H l) R s:=by
 have N:∀{α:Type} {t:Sem α} {Q:α->Shared->Prop} {E:Value->Shared->Prop} {s:Shared},wpAny (model g w) A t Q (fun _ _=>False) s->wpAny (model g w) A t Q E s:=fun x=>qA x (fun _ _ q=>q) fun _ _ q=>q.elim
 refine codeAny_loop rfl J (fun k u hJ=>?_) n h
 show wpAny _ A ((compTurn (lc2 I G B D tg c L scope M) 0 U H l).onRaise (fun x=>do noteFrame x l;theTreesLotGoes x)) _ _ u
 refine wpAny_noted ?_
 rw[Xu];refine zn (vF (zn (N (qA (O k u hJ) (fun r s1 h1=>?_) fun _ _ q=>q))))
 cases r with
 | none=>exact zA h1
 | some v=>
  refine zn (N (qA h1 (fun _ s2 h2=>zn (N (qA h2 (fun _ s3 h3=>zn (N (qA h3 (fun ok Y h4=>?_) fun _ _ q=>q))) fun _ _ q=>q))) fun _ _ q=>q))
  cases ok with
  | false=>exact zA ⟨rfl,h4⟩
  | true=>
   have a0:wpAny (model g w) A (eval c l) (fun x s5=>
       wpAny (model g w) A (pyIter x) (fun T s6=>codeAny (model g w) A (.compStart (lc2 I G B D tg c L scope M) 1 T H l) (fun r s7=>match r with | .ok _=>∃m,m<k/\J m s7 | .error _=>False) s6) (fun _ _=>False) s5) (fun _ _=>False) Y:=h4
   refine zn (N (qA a0 (fun x s5 h5=>zn (vF (zn (y4 (hs x) (zn (xO (N (qA h5 (fun T s6 h6=>?_) fun _ _ q=>q)))))))) fun _ _ q=>q))
   refine zn (wpAny_runOwn (h:=none) ?_)
   rw[Around.mark_none];refine codeAny_mono h6 fun r s7 h7=>?_
   cases r with
   | ok f=>exact zA ⟨rfl,h7⟩
   | error e=>exact h7.elim
end
def Sub:St->St->Prop
 | [],[]=>True
 | none::r,_::c=>Sub r c
 | some v::r,x::c=>x=some v/\Sub r c
 | _,_=>False
theorem Sub.len:∀{a b:St},Sub a b->a.length=b.length
 | [],[],_=>rfl
 | [],_::_,h=>h.elim
 | none::_,[],h=>h.elim
 | some _::_,[],h=>h.elim
 | none::r,_::c,h=>by rw[jP,jP,Sub.len (a:=r) (b:=c) h]
 | some _::r,_::c,h=>by rw[jP,jP,Sub.len (a:=r) (b:=c) h.2]
theorem Sub.get:∀{a b:St} {i:Nat} {v:V},Sub a b->a[i]? =some (some v)->b[i]? =some (some v)
 | [],[],_,_,_,e=>e
 | [],_::_,_,_,h,_=>h.elim
 | none::_,[],_,_,h,_=>h.elim
 | some _::_,[],_,_,h,_=>h.elim
 | none::r,_::c,0,v,h,e=>by simp at e
 | none::r,_::c,i+1,v,h,e=>by
  rw[List.getElem?_cons_succ] at e ⊢
  exact Sub.get (a:=r) (b:=c) h e
 | some _::r,_::c,0,v,h,e=>by
  rw[List.getElem?_cons_zero] at e ⊢
  rw[h.1];exact e
 | some _::r,_::c,i+1,v,h,e=>by
  rw[List.getElem?_cons_succ] at e ⊢
  exact Sub.get (a:=r) (b:=c) h.2 e
def tIn(Q:TI)(g:TG)(O:TT)(M:TE)(T:List V)(N:List V->Hp->Prop):St->Hp->Prop:=fun A H=>Q A H fun J I=>
 ∃W:Nat->Nat->List V->Hp->Prop,(∃m,W 0 m T I)/\∀i m c s,W i m c s ->
  (J.stop i s/\N c s) \/
  (J.go i s/\∃w:List V->Hp->Prop,(∀c D,w c D->∃G,G<m/\W (i+1) G c D)/\∀x E,J.yld i s x E->g x A E fun B L=>Sub A B/\O B L fun b l=>
   if b=true then M B l fun y t=>c.length<sizeLine/\w (c++[y]) t else w c l)
section
variable{X:Cx}{l E c:Expr}{t:List Expr}{B w:Expr}{s:List Expr}{scope:Scope}{A:Pos}{Q M:TI}{g O:TG}{H L:TT}{G:TE}
theorem zeE{Y:Cx}{D:Addr}{U:List (Addr×Obj)}{σ4:St}{H0:Hp}{s0:Shared}{it:Addr}{fp:List Addr}{tn:Nat->Heap->Prop}{J:It}{R:Result->Shared->Prop}{N:List V->Hp->Prop}{ys:List V}{a0:List Value}{z:Nat}{m0:Nat}{W:Nat->Nat->List V->Hp->Prop}
  (hc:Y.calm=true) (hx:Y.xe=fun _ _=>False) (hg:PG Y B g) (hf:PF Y s H) (he:PE Y l G)
  (T:Ze Y.prog Y.w Y.K B J fp it tn) (fD:∀H':Hp,H' D=none->jh Y U H' D) (f2:∀b∈fp,∀H':Hp,H' b=none->jh Y U H' b) (nD:∀b∈fp,D≠b)
  (I:Inv Y U σ4 H0 s0) (st:tn 0 s0.heap) (fr:∀b∈fp,H0 b=none) (a5:H0 D=none) (ho:s0.heap.get? D=some { cls:=.type "list",data:=.seq a0.toArray z }) (rv:Vals ys a0) (w0:W 0 m0 ys H0)
  (a2:∀i m zs H7,W i m zs H7 ->
   (J.stop i H7/\N zs H7) \/
   (J.go i H7/\∃N2:List V->Hp->Prop,(∀zs H',N2 zs H'->∃m',m'<m/\W (i+1) m' zs H')/\∀x H8,J.yld i H7 x H8->g x σ4 H8 fun σ9 H9=>Sub σ4 σ9/\H σ9 H9 fun b a1=>
    if b=true then G σ9 a1 fun y a3=>zs.length<sizeLine/\N2 (zs++[y]) a3 else N2 zs a1))
  (a4:∀s',LcE Y D U σ4 N s'->R (.ok .next) s') :
  codeAny (model Y.prog Y.w) Y.A (.compLoop (lc2 l E c t B w s scope A) 1 (.ref it) (.ref D) Y.env) R s0:=by
 refine zgy (LcJ Y D tn fp U σ4 W) (fun n s5 j=>qA (zag hc hx hg hf he T fD f2 nD (fun σ9 H' s' J hd=>J.weak hd.len fun k v e=>hd.get e) a2 j) (fun r s6 h6=>?_) fun _ _ q=>q) m0 ⟨0,ys,a0,H0,z,I,st,fr,a5,ho,rv,w0⟩
 cases r with
 | some v=>exact h6
 | none=>exact a4 s6 h6
end
def zgI(t:TI)(n:Nat)(G:List Nat)(T:TG)(s:TT)(wi:TI)(g:TG)(Y:TT)(U:TE):TE:=fun σ H Q=>t σ H fun J M=>
 ∃W:Nat->Nat->List V->Hp->Prop,(∃m,W 0 m [] M)/\∀i m l c,W i m l c ->
  (J.stop i c/\l.length<=sizeLine/\∀D,c D=none->Q (.ref D) (upd c D (.lst l))) \/
  (J.go i c/\∃N:List V->Hp->Prop,(∀L A,N L A->∃I,I<m/\W (i+1) I L A)/\∀x B,J.yld i c x B->T x (upS n G σ) B fun w O=>w.drop n=(upS n G σ).drop n/\s w O fun b E=>
   if b=true then tIn wi g Y U l N w E else N l E)
section
variable{X:Cx}{w t iter1:Expr}{l:List Expr}{E c:Expr}{A:List Expr}{scope:Scope}{pos:Pos}{M U:TI}{g O:TG}{L B:TT}{G:TE}
theorem zc8{Y:Cx}{D it:Addr}{H:List Addr}{tn:Nat->Heap->Prop}{J:It}{σ4:St}{Kp:St->Prop}{W:Nat->Nat->List V->Hp->Prop}{N:List V->Hp->Prop}{n:Nat}{s5:Shared}
  (hc:Y.calm=true) (hx:Y.xe=fun _ _=>False) (hg:PG Y t O) (hf:PF Y l B) (b1:PI Y E c M) (b0:PG Y E g) (az:PF Y A L) (he:PE Y w G) (T:Ze Y.prog Y.w Y.K t J H it tn)
  (fB:∀b∈D::H,∀s:Hp,s b=none->jh Y [] s b) (nD:∀b∈H,D≠b) (bk:∀σ9 s s',Inv Y [] σ9 s s'->Kp σ9->Inv Y [] σ4 s s')
  (aq:∀i m zs H7,W i m zs H7->(J.stop i H7/\N zs H7)\/(J.go i H7/\∃N2:List V->Hp->Prop,(∀zs s,N2 zs s->∃m',m'<m/\W (i+1) m' zs s)/\∀x H8,J.yld i H7 x H8->O x σ4 H8 fun σ9 H9=>Kp σ9/\B σ9 H9 fun b aj=>
    if b=true then tIn M g L G zs N2 σ9 aj else N2 zs aj)) (j:LcJ Y D tn H [] σ4 W n s5) :
  wpAny (model Y.prog Y.w) Y.A (pyNext (.ref it)) (fun r s1=>match r with
   | none=>LcE Y D [] σ4 N s1
   | some v=>wpAny (model Y.prog Y.w) Y.A (letOwnedTupleGo t (.ref it) v) (fun _ s2=>wpAny (model Y.prog Y.w) Y.A (assign t Y.env v) (fun _ s3=>
     wpAny (model Y.prog Y.w) Y.A (xU l Y.env) (fun ok s4=>
      if ok=true then wpAny (model Y.prog Y.w) Y.A (eval c Y.env) (fun x s5=>
       wpAny (model Y.prog Y.w) Y.A (pyIter x) (fun i2 s6=>codeAny (model Y.prog Y.w) Y.A (.compStart (lc2 w t iter1 l E c A scope pos) 1 i2 (.ref D) Y.env) (fun r s7=>match r with | .ok _=>∃m,m<n/\LcJ Y D tn H [] σ4 W m s7 | .error _=>False) s6) (fun _ _=>False) s5) (fun _ _=>False) s4
      else ∃m,m<n/\LcJ Y D tn H [] σ4 W m s4) (fun _ _=>False) s3) (fun _ _=>False) s2) (fun _ _=>False) s1) (fun _ _=>False) s5:=by
 have ab:=hg;have aa:=hf;have ac:=b1
 unfold PG at ab;unfold PF at aa;unfold PI at ac
 rw[hx] at ab aa ac;obtain⟨i,ys,ae,H5,z5,I5,ap,al,ax,am,ag,w5⟩:=j;have ak:=I5.pinned (fp:=[D]) (fun b hb=>by rw[zK.mp hb];exact fB D jW _ ax) (fun b hb=>by rw[zK.mp hb];exact⟨_,am,fun v q=>nomatch q⟩)
 have mD:(D,({ cls:=.type "list",data:=.seq ae.toArray z5 }:Obj))∈[]++zU [D] s5.heap:=qt _ (qD (zK.mpr rfl) am);have a9:∀{s:Hp},(∀b∈H,s b=none)->∀b∈H,jh Y ([]++zU [D] s5.heap) s b:=fun hn b hb=>by
  obtain⟨a1,a2,a3,a4,a5,a6⟩:=fB b (z9 _ hb) _ (hn b hb);refine⟨a1,a2,a3,a4,a5,fun p I=>?_⟩
  rcases qJ.mp I with q | q
  ·exact a6 p (we _ q)
  ·rw[zK.mp (xC ((qJ.mp q).resolve_left (by simp))).1];exact nD b hb
 rcases aq i n ys H5 w5 with ⟨stop,q⟩ | ⟨go,N2,hN,step⟩
 ·refine thn (T.done Y rfl rfl rfl hc i _ s5 _ H5 _ ak (a9 al) ap stop) fun r s6 ⟨hr,I6⟩=>?_
  subst hr;obtain⟨o6,b4,_⟩:=I6.pin (D,_) (qt _ mD);exact⟨ys,ae,H5,z5,I6.unpinned,b4,o6,ag,q⟩
 ·refine thn (T.item Y rfl rfl rfl hc i _ s5 _ H5 _ ak (a9 al) ap go) fun r s6 ⟨u,hr,h6⟩=>?_
  subst hr;refine thn h6 fun _ s7 ⟨x,H7,I7,r7,y7,ah,av⟩=>?_
  refine thn (ab _ s7 _ H7 x u _ (I7.pinned (a9 av) (T.obj _ _ ah)) r7 (step x H7 y7)) fun _ s8 ⟨σ8,H8,I8,ay,q8⟩=>?_
  refine thn (aa _ s8 σ8 H8 _ I8 q8) fun ok s9 ⟨H9,I9,q9⟩=>?_
  have af:=we (zU H s7.heap) mD;have kp:∀{P:List (Addr×Obj)} {s:Hp} {s':Shared},Inv Y P σ8 s s'->(∀p∈zU H s7.heap,p∈P)->Inv Y [] σ4 s s'/\tn (i+1) s'.heap/\∀b∈H,s b=none:=fun {P s s'} J hP=>
   ⟨bk _ _ _ (J.pins_of fun p I=>absurd I (by simp)) ay,T.keep _ _ _ ah fun b hb o e=>(J.pin (b,o) (qt _ (hP _ (qD hb e)))).1,fun b hb=>by
    obtain⟨o,e,_⟩:=T.obj _ _ ah b hb;exact(J.pin (b,o) (qt _ (hP _ (qD hb e)))).2.1⟩
  cases ok with
  | false=>
   obtain⟨m',hm,w'⟩:=hN _ _ (show N2 ys H9 by simpa using q9)
   obtain⟨o9,b5,_⟩:=I9.pin (D,_) (qt _ af);obtain⟨k1,k2,k3⟩:=kp I9 fun p I=>qt _ I
   exact⟨m',hm,i+1,ys,ae,H9,z5,k1,k2,k3,b5,o9,ag,w'⟩
  | true=>
   refine thn (ac _ s9 σ8 H9 _ I9 (show tIn M g L G ys N2 σ8 H9 by simpa using q9)) fun xv bb aw=>thn aw fun ba b8 ⟨b2,au,bc,J2,b9,ei,a7,T2,a0,a8,W2,⟨m2,w2⟩,ai⟩=>?_
   subst ei;obtain⟨b6,ao,_⟩:=a7.pin (D,_) (qt _ af);have ar:∀b∈au,∀s:Hp,s b=none->jh Y (zU H s7.heap) s b:=fun b hb s hn=>by
    obtain⟨_,a2,a3,a4,a5,a6⟩:=a8 b hb;exact⟨hn,a2,a3,a4,a5,fun p I=>a6 p ((qJ.mp I).elim (fun q=>we _ q) fun q=>qt _ (qt _ q))⟩
   have fD:∀s:Hp,s D=none->jh Y (zU H s7.heap) s D:=fun s hn=>by
    obtain⟨a1,a2,a3,a4,a5,a6⟩:=fB D jW _ hn;refine⟨a1,a2,a3,a4,a5,fun p I=>?_⟩
    rcases qJ.mp I with q | q
    ·exact a6 p (we _ q)
    ·exact qc (nD _ (xC q).1)
   have Q:codeAny (model Y.prog Y.w) Y.A (.compLoop (lc2 w t iter1 l E c A scope pos) 1 (.ref b2) (.ref D) Y.env) (fun r s7=>match r with
     | .ok _=>∃m,m<n/\LcJ Y D tn H [] σ4 W m s7
     | .error _=>False) b8:=by
    refine zeE (N:=N2) hc hx b0 az he T2 fD ar (fun b hb=>(a8 b hb).2.2.2.2.2 (D,_) (qt _ af)) (a7.pins_of fun p I=>a7.pin p (qt _ (qt _ I))) a0 (fun b hb=>(a8 b hb).1) ao b6 ag w2 ai fun s' h'=>?_
    obtain⟨zs,an,s,z',I',b3,o',b7,q'⟩:=h';obtain⟨m',hm,w'⟩:=hN _ _ q';obtain⟨k1,k2,k3⟩:=kp I' fun p I=>I
    exact⟨m',hm,i+1,zs,an,s,z',k1,k2,k3,b3,o',b7,w'⟩
   exact vY Q (T2.self Y.A 0 _ _ _ a0 Q)
theorem zc9{C D it:Addr}{fp:List Addr}{tn:Nat->Heap->Prop}{J:It}{W:Nat->Nat->List V->Hp->Prop}{H2:Hp}{s3 s4:Shared}{m0 n:Nat}{R:Result->Shared->Prop}{js:List Nat}{σ:St}{Q:List Str}{N:List V->Hp->Prop}(hc:X.calm=true)
  (hg:∀C s H ex,PG (zP X Q scope C s H ex) t O) (hf:∀C s H ex,PF (zP X Q scope C s H ex) l B) (a6:∀C s H ex,PI (zP X Q scope C s H ex) E c M) (a5:∀C s H ex,PG (zP X Q scope C s H ex) E g) (a4:∀C s H ex,PF (zP X Q scope C s H ex) A L) (he:∀C s H ex,PE (zP X Q scope C s H ex) w G)
  (a7:∀C x,foldedSetIterable c (compEnvC scope (qg X.env.cells scope.names []) C X.env) x=pure x) (a3:∀b∈D::fp,∀H':Hp,H' b=none->jh (zP X Q scope C s3 H2 (D::fp)) [] H' b) (fD:∀b∈fp,D≠b) (T:Ze X.prog X.w X.K t J fp it tn)
  (a1:∀i m zs H7,W i m zs H7->(J.stop i H7/\N zs H7)\/(J.go i H7/\∃N2:List V->Hp->Prop,(∀zs H',N2 zs H'->∃m',m'<m/\W (i+1) m' zs H')/\∀x H8,J.yld i H7 x H8->O x (upS n js σ) H8 fun σ9 H9=>σ9.drop n=(upS n js σ).drop n/\B σ9 H9 fun b a0=>
    if b=true then tIn M g L G zs N2 σ9 a0 else N2 zs a0))
  (j:LcJ (zP X Q scope C s3 H2 (D::fp)) D tn fp [] (upS n js σ) W m0 s4) (a2:∀s6,LcE (zP X Q scope C s3 H2 (D::fp)) D [] (upS n js σ) N s6->R (.ok .next) s6) :
  codeAny (model X.prog X.w) X.A (.compLoop (lc2 w t iter1 l E c A scope pos) 0 (.ref it) (.ref D) (compEnvC scope (qg X.env.cells scope.names []) C X.env)) R s4:=by
 have hl:=(let ⟨_,_,_,_,_,I,_,_,_,_,_,_⟩:=j;I.len:(upS n js σ).length=Q.length)
 refine zeP (a7 C) (LcJ (zP X Q scope C s3 H2 (D::fp)) D tn fp [] (upS n js σ) W) (fun k s5 j=>qA (zc8 (iter1:=iter1) (scope:=scope) (pos:=pos) (Y:=zP X Q scope C s3 H2 (D::fp)) hc rfl (hg _ _ _ _) (hf _ _ _ _) (a6 _ _ _ _) (a5 _ _ _ _) (a4 _ _ _ _) (he _ _ _ _) T a3 fD (fun σ9 H' s' J hd=>Vb hl J hd) a1 j) (fun r s6 h6=>?_) fun _ _ q=>q) m0 j
 cases r with
 | some v=>exact h6
 | none=>exact a2 s6 h6
theorem zfY(own Y:List Str)(js:List Nat)(hc:X.calm=true)(hk:scope.kind=.function)(hb:Zq scope.names X.env.scope.names X.N Y js=true)(hi:PI X t iter1 U)
  (hg:∀C s H N,PG (zP X (own++Y) scope C s H N) t O) (hf:∀C s H N,PF (zP X (own++Y) scope C s H N) l B)
  (a3:∀C s H N,PI (zP X (own++Y) scope C s H N) E c M) (a2:∀C s H N,PG (zP X (own++Y) scope C s H N) E g) (a1:∀C s H N,PF (zP X (own++Y) scope C s H N) A L) (he:∀C s H N,PE (zP X (own++Y) scope C s H N) w G)
  (hs:∀x,foldedSetIterable iter1 X.env x=pure x:=by intro _;rfl) (a4:∀C x,foldedSetIterable c (compEnvC scope (qg X.env.cells scope.names []) C X.env) x=pure x:=by intro _ _;rfl):PE X (lc2 w t iter1 l E c A scope pos) (zgI U own.length js O B M g L G):=by
 intro a6 s σ H Q I h;rw[eval_ListComp];exact zdw own Y js hk hb hi hs I h (fun C D it fp tn J W H2 s3 s4 m0 R a b T tl j a0=>zc9 hc hg hf a3 a2 a1 he a4 a b T tl j a0) fun s6 D C H6 m hn all _ q=>⟨m,hn,fun h7 a5=>⟨.ref D,H6,all h7 fun b o hb e=>a5.extBut b o hb e,rfl,q⟩⟩
end
section
variable{X:Cx}
inductive ZG(K:W.Frag)(g:List V)(H:Hp)(Q:VK):Prop
 | mk (p:Addr) (c:List Bool) (_:g=[.ref p]) (_:SqL K H p (c.map V.bl)) (_:Q (.bl (c.any id)) H):ZG K g H Q
theorem zbI(hc:X.calm=true):CallR X (.builtin "any") (ZG X.K):=by
 intro O s σ H xs us Q I r h;obtain⟨p,c,rfl,hq,q⟩:=h;obtain⟨u,rfl,J⟩:=vG r;cases J;obtain⟨g,L,pl,hz⟩:=I.list hq;have E:=pl.isList;have G:p≠s.heap.objs.size:=by
  obtain⟨o,e,_⟩:=E;exact zM (zD e)
 refine call_any_walk (wpAny_pyIter_list E ?_)
 refine⟨s.heap.objs.size,_,_,_,_,_,fun i=>c.getD i false,rfl,yZ (prog:=X.prog) (w:=X.w) (A:=X.A.in1) (I.ok.hd hc) _ p G g.toArray,⟨⟨_,zQ _ rfl,rfl,rfl⟩,E.push _⟩,?_,fun h' tk hk=>?_⟩
 ·intro i v s' U E' D hQ
  have D:g.toArray[i]? =some v:=D;have M:g[i]? =some v:=by simpa using D
  have l:i<c.length:=by
   have h1:=(zT.mp M).1;have h2:=L.length;rw[zr] at h2;omega
  have Y:(c.map V.bl)[i]? =some (.bl c[i]):=by simp[l]
  obtain⟨u',N,J⟩:=L.get Y;rw[M] at N;cases N;cases J;have e3:c.getD i false=c[i]:=by simp[l]
  have t:U (c.getD i false) s':=hQ;rw[e3] at t;exact yH t
 ·have k:∀b o,s.heap.get? b=some o->h'.get? b=some o:=fun b o e=>hk b o (by simp;exact zM (zD e)) (zO _ e)
  have ea:(List.range g.toArray.size).any (fun i=>c.getD i false)=c.any id:=by
   have B:g.toArray.size=c.length:=by
    have:=L.length;rw[zr] at this;simp only[zX];omega
   rw[B,y6,QP,QP];constructor
   ·rintro⟨i,l,e⟩
    have l:=qu.mp l;exact⟨c[i],jM l,by simpa [l] using e⟩
   ·rintro⟨b,hb,e⟩
    obtain⟨i,l,rfl⟩:=List.mem_iff_getElem.mp hb;exact⟨i,qu.mpr l,by simpa [l] using e⟩
  exact⟨.bl (c.any id),H,I.kept k,by rw[ea];rfl,q⟩
theorem zdz:bootBuiltins "any" = some (.builtin "any"):=by decide +kernel
end
theorem yu{K:W.Frag}{a:Addr}{xs:List V}{g:TG}{L:TT}{J:TE}{A:St}{n:Nat}{R:List V->Hp->Prop}{H:Hp}(Pv:Nat->List V->Hp->Prop)(Q:Pv 0 [] H)
  (U:∀i c H,Pv i c H->SqL K H a xs)
  (hs:∀i x c H T,xs[i]? =some x->Pv i c H->H T=none->g (.ref T) A (upd H T (.tup [.int i,x])) fun s E=>s.drop n=A.drop n/\L s E fun b t=>
   if b=true then J s t fun v G=>c.length<sizeLine/\Pv (i+1) (c++[v]) G else Pv (i+1) c t)
  (hd:∀c H,Pv xs.length c H->c.length<=sizeLine/\R c H) :
  ∃W:Nat->Nat->List V->Hp->Prop,(∃m,W 0 m [] H)/\∀i m c l,W i m c l ->
   ((Ite K a).stop i l/\c.length<=sizeLine/\R c l) \/
   ((Ite K a).go i l/\∃N:List V->Hp->Prop,(∀c B,N c B->∃I,I<m/\W (i+1) I c B)/\∀x D,(Ite K a).yld i l x D->g x A D fun s E=>s.drop n=A.drop n/\L s E fun b t=>
    if b=true then J s t fun y G=>c.length<sizeLine/\N (c++[y]) G else N c t):=by
 refine⟨fun i m c l=>m=xs.length-i/\i<=xs.length/\Pv i c l,⟨_,rfl,qk _,Q⟩,?_⟩
 rintro i m c l ⟨rfl,hi,p⟩;have q:=U i c l p;by_cases w:i<xs.length
 ·refine .inr ⟨⟨xs,xs[i],q,by simp[w]⟩,Pv (i+1),fun a0 B p'=>⟨_,by omega,rfl,w,p'⟩,fun x D y=>?_⟩
  obtain⟨T,z,M,Y,O,y⟩:=y;subst M O;exact hs i z c l T (y xs q) p Y
 ·have e:i=xs.length:=by omega
  subst e;obtain⟨z1,z2⟩:=hd c l p;exact .inl ⟨⟨xs,q,zC _⟩,z1,z2⟩
section
variable{X:Cx}{s c:Expr}{g:List Expr}{l:Expr}{t:List Expr}{scope:Scope}{A:Pos}{O E:TI}{M B:TT}{L:TE}{x y z:Str}{H I J N D:Pos}{G w:Nat}
end
section
variable{X:Cx}
theorem Z8{K:W.Frag}(h:X.K=K){s l:Expr}{c:TE}(g:PE X l c):PI X s l (zfp K c):=by rw[<- h];exact qV g
def tLT(K:W.Frag)(t:TE):TT:=fun σ H Q=>t σ H fun x c=>∃a g,x=.ref a/\SqL K c a g/\Q (!g.isEmpty) c
theorem zee{e:Expr}{t:TE}(h:PE X e t)(E:∀c,isTrue e X.env c=(do let v<-c;standAt e.pos;holding [v] (truthy v)):=by intro _;rfl):PT X e (tLT X.K t):=by
 intro g s σ H Q I J;refine isTrue_plain (thn (h g s σ H _ I J) fun v T ⟨x,B,l,O,N⟩=>?_) (E _)
 obtain⟨a,D,rfl,hq,q⟩:=N;cases(show v=_ from O)
 obtain⟨w,A,M,L⟩:=l.list hq;have G:=A.length;refine wpAny_truthy_list M.isList (by rw[zX,<- G];rw[sizeLine_eq] at L;omega) ?_
 have e:(!D.isEmpty)=(!w.toArray.isEmpty):=by
  cases D with
  | nil=>cases A;rfl
  | cons y U=>cases A;rfl
 first
  | exact⟨B,l.tok _,by rw[e] at q;simpa using q⟩
  | exact⟨B,l,by rw[e] at q;simpa using q⟩
end
section
variable{X:Cx}{t E c:Expr}{l:List Expr}{Q s:Expr}{w:List Expr}{scope:Scope}{B:Pos}{U H:TI}{g I:TG}{O D:TT}{N:TE}{x z:Str}{L M T G:Pos}{J A:Nat}
end
def JE:Nat->List Obj->PySem.W.Frag
 | _,[]=>[]
 | n,o::r=>match o.data with
  | .freed=>JE (n+1) r
  | _=>(n,o)::JE (n+1) r
def Xq(h:Heap):PySem.W.Frag:=JE 0 h.objs.toList
theorem V5:∀{l:List Obj} {n a:Nat} {o:Obj},(JE n l).lookup a=some o->n<=a/\l[a-n]? =some o/\o.data≠.freed
 | [],n,a,o,h=>by cases h
 | x::r,n,a,o,h=>by
  have c:(JE (n+1) r).lookup a=some o->n<=a/\(x::r)[a-n]? =some o/\o.data≠.freed:=fun h=>by
   obtain⟨w,g,s⟩:=V5 h;refine⟨by omega,?_,s⟩
   rw[show a-n=(a-(n+1))+1 by omega];exact g
  unfold JE at h;split at h
  ·exact c h
  ·rename_i t
   rw[qK] at h;split at h
   ·rename_i e
    cases h;have:=xN.mp e;subst this;exact⟨zC _,by simp,t⟩
   ·exact c h
theorem zbv(h:Heap):(Xq h).In h:=fun a o e=>by
 obtain⟨_,g,s⟩:=V5 e;have g:h.objs[a]? =some o:=by simpa using g
 unfold Heap.get?;rw[g];obtain⟨c,d,l,t⟩:=o;cases l<;>first| rfl | exact absurd rfl s
inductive Fd(K:W.Frag)(c:Str)(st:Stmt):Prop
 | mk (f:Addr) (g:FuncData) (a:PySem.W.nsIn K mainGlobals c=some (some (.ref f))) (F:Fun K c c st f g):Fd K c st
def zhH:Value->Bool
 | .none=>true
 | _=>false
def Xt(K:W.Frag)(g:Str):Option (Arguments×FuncBody×Scope×Bool):=match PySem.W.nsIn K mainGlobals g with
 | some (some (.ref f))=>(match K.lookup f with
  | some ⟨_,_,.func c,_⟩=>some (c.params,c.body,c.scope,c.name==g&&(c.qualname==g&&(c.globals==mainGlobals&&(c.closure.isEmpty&&(zhH c.defaults&&(c.builtins==builtinsNs&&PySem.W.codeIn K c.code g))))))
  | _=>none)
 | _=>none
def zao(st:Stmt):Option (Arguments×FuncBody×Scope×Bool):=some (yz st,.stmts (wE st),zx st,true)
theorem zhN{K:W.Frag}{J:Str}{st:Stmt}(e:Xt K J=zao st):Fd K J st:=by
 unfold Xt zao at e;split at e
 ·rename_i f N
  split at e
  ·rename_i c d M sl H
   simp only[XS,XJ,qE] at e;obtain⟨D,E,G,g,l,s,t,w,A,I⟩:=e;obtain⟨O,qn,pa,T,sc,gl,Y,B,kw,L,pm,Q,U,ct,bl⟩:=M;dsimp only at D E G g l s t w A I;have g:=xN.mp g;have l:=xN.mp l;have s:=xN.mp s;have t:=List.isEmpty_iff.mp t;have A:=xN.mp A;have w:B=.none:=by cases B<;>first| rfl | exact Bool.noConfusion w
   subst D E G g l s t w A;exact⟨f,_,N,⟨⟨_,_,_,_,_,_,_,_,_,rfl,H,I⟩,by unfold PySem.W.keepIn;dsimp only;rw[H]⟩⟩
  ·cases e
 ·cases e
theorem zgt{K:W.Frag}{l:List (Str×Stmt)}(e:l.map (fun x=>Xt K x.1)=l.map fun x=>zao x.2)(i:Nat){c:Str}{st:Stmt}(h:l[i]? =some (c,st)):Fd K c st:=by
 have:=congrArg (fun z=>z[i]?) e
 simp only[zZ,h,WR,XS] at this;exact zhN this
theorem zeO{K:W.Frag}{l:List Str}(e:l.map (fun x=>PySem.W.nsIn K mainGlobals x)=l.map fun _=>some none){x:Str}(i:Nat)(h:l[i]? =some x):PySem.W.nsIn K mainGlobals x=some none:=by
 have:=congrArg (fun z=>z[i]?) e
 simpa only[zZ,h,WR,XS] using this
def zdZ:List Value->Option (List Str)
 | []=>some []
 | .str x _::r=>(zdZ r).map (x:: ·)
 | _=>none
def Wq(K:W.Frag)(g:Str):Option (List Str×Bool):=match PySem.W.nsIn K mainGlobals g with
 | some (some (.ref a))=>(match K.lookup a with
  | some ⟨.type t,_,.seq c _,_⟩=>(zdZ c.toList).map fun l=>(l,t == "tuple" && decide (c.size<=1000))
  | _=>none)
 | _=>none
theorem Jm:∀{c:List Value} {l:List Str},zdZ c=some l->Vals (l.map V.str) c
 | [],l,h=>by cases h;exact .nil
 | v::r,l,h=>by
  cases v<;>first| (cases h;done) | skip
  simp only[zdZ] at h;obtain⟨s,g,rfl⟩:=jd.mp h;exact .cons ⟨_,rfl⟩ (Jm g)
theorem zgC{K:W.Frag}{s:Str}{l:List Str}(e:Wq K s=some (l,true)):∃a:Addr,PySem.W.nsIn K mainGlobals s=some (some (.ref a))/\∀H,SqT K H a (l.map V.str):=by
 unfold Wq at e;split at e
 ·rename_i a B
  split at e
  ·rename_i t _ I n G D
   obtain⟨E,w,g⟩:=jd.mp e;simp only[XJ,qE,decide_eq_true_eq] at g;obtain⟨rfl,c,A⟩:=g;have c:=xN.mp c;subst c;exact⟨a,B,fun H=>.inr ⟨_,_,_,D,rfl,rfl,vI (za6 A),Jm w⟩⟩
  ·cases e
 ·cases e
def zev(g:List (Str×Stmt))(c:List Str)(l:List (Str×List Str))(K:W.Frag):List (Option (Arguments×FuncBody×Scope×Bool))×List (Option (Option Value))×List (Option (List Str×Bool)):=
 (g.map fun x=>Xt K x.1,c.map fun x=>PySem.W.nsIn K mainGlobals x,l.map fun x=>Wq K x.1)
def zeG(g:List (Str×Stmt))(c:List Str)(l:List (Str×List Str)):List (Option (Arguments×FuncBody×Scope×Bool))×List (Option (Option Value))×List (Option (List Str×Bool)):=
 (g.map fun x=>zao x.2,c.map fun _=>some none,l.map fun x=>some (x.2,true))
def zgv(s:Stmt):Pos:=match s with
 | .FunctionDef _ _ _ _ _ _ _ _ _ p=>p
 | _=>⟨0,0,0,0⟩
def defRec(x:Str)(s:Stmt):DefRec:=⟨x,yz s,wE s,zx s,zgv s⟩
structure Tp(P:Program)(w:World)(K:W.Frag)(mg:Str->Option Value)(base h:Heap)(ds:List (Str×Stmt))(bs:List Str)(ts:List (Str×List Str)):Prop where
 x:K.In h
 g:h.Ns mainGlobals mg
 e:zev ds bs ts K=zeG ds bs ts
section
variable{P:Program}{w:World}{K:W.Frag}{g:Str->Option Value}{c h:Heap}{s:List (Str×Stmt)}{t:List Str}{A:List (Str×List Str)}
theorem Tp.fd(Z:Tp P w K g c h s t A)(i:Nat){l:Str}{st:Stmt}(B:s[i]? =some (l,st)):Fd K l st:=zgt (congrArg Prod.fst Z.e) i B
theorem Tp.bl(Z:Tp P w K g c h s t A)(i:Nat){x:Str}(l:t[i]? =some x):g x=none:=PySem.W.mg_none_of Z.x Z.g (zeO (congrArg (fun z=>z.2.1) Z.e) i l)
theorem Tp.tx(Z:Tp P w K g c h s t A)(i:Nat){x:Str}{l:List Str}(E:A[i]? =some (x,l)):∃a:Addr,g x=some (.ref a)/\∀H,SqT K H a (l.map V.str):=by
 have:=congrArg (fun z=>z.2.2[i]?) Z.e
 simp only[zev,zeG,zZ,E,WR,XS] at this;obtain⟨a,B,D⟩:=zgC this;exact⟨a,PySem.W.mg_of Z.x Z.g B,D⟩
theorem Tp.dfn(Z:Tp P w K g c h s t A)(i:Nat){B:Str}{st:Stmt}{k:Nat}{ps:List Str}{H:Sp}(J:s[i]? =some (B,st))
  (ok:∀f fd,Fun K B B st f fd->g B=some (.ref f)->Binds K fd ps []->FnOk P w K g c CX0 k f fd ps H)
  (hb:∀(kV G L:Value) (I:Option Addr) (E ct:Value) (D:List Value),D.length=ps.length->bindArgs (PySem.W.fnOf B B (yz st) (wE st) (zx st) .none kV G L I E ct) ⟨D,[]⟩=pure (ps.zip D):=by
   intro _ _ _ _ _ _ D l;first| (obtain⟨_,rfl⟩:=zhF l;rfl) | (obtain⟨_,_,rfl⟩:=zhE l;rfl) | (obtain⟨_,_,_,rfl⟩:=zhD l;rfl) | (obtain⟨_,_,_,_,rfl⟩:=zhC l;rfl) | (obtain⟨_,_,_,_,_,rfl⟩:=zhB l;rfl) | (obtain⟨_,_,_,_,_,_,rfl⟩:=zhA l;rfl) | (exact match D,l with | [],_=>rfl)) :
  Dfn P w K g c B k ps H:=by
 obtain⟨f,fd,a,F⟩:=Z.fd i J;have b:=F.binds hb;have m:=PySem.W.mg_of Z.x Z.g a;exact⟨f,fd,ok f fd F m b,m,F.kp,b⟩
end
inductive Seen{β:Type}(f:PySem.W.Frag->β)(v:β)(w:World)(h:Heap):Prop
 | mk (K:W.Frag) (k:K.In h) (e:f K=v):Seen f v w h
theorem Seen.keeps{β:Type}{f:PySem.W.Frag->β}{v:β}(w:World)(h c:Heap)(s:Seen f v w h)(k:∀b o,h.get? b=some o->c.get? b=some o):Seen f v w c:=by
 obtain⟨K,x,e⟩:=s;exact⟨K,x.keeps k,e⟩
theorem walkS{l:PySem.W.OpenLaw}{n k:Nat}{q:Program}{A:List Str}{U:(Str->Option Value)->Heap->Prop}{β:Type}{f:PySem.W.Frag->β}{v:β}{d:DefRec}{sp:PySem.W.Frag->Sp}{x:Str}
  (hn:l.most=some n) (N:n<=sizeLine) (L:d.params.defaults=[]) (hr:Room k callerA)
  (F:∀(w:World) (B:Str->Option Value) (E:Addr) (K:W.Frag) (h:Heap),K.In h->f K=v->h.Ns mainGlobals B->B d.name=some (.ref E) ->
   ∃J:FuncData,(∀(s:Shared) (u:Value),BindsTo s J ⟨[u],[]⟩ [(x,u)]) /\
    ∀c:Heap,K.In c->c.Ns mainGlobals B->FnOk l.prog w K B c CX0 k E J [x] (sp K))
  (O:∀(K:W.Frag) (H:Hp) (a:Addr) (I:List Int),I.length<=n->zeW H->SqL K H a (I.map V.int)->sp K [.ref a] H (fun v _=>v=.bl true) fun _ _ _=>False) :
  PySem.W.WalkO q A U (Seen f v) l.row.toRowW d [] (fun f T=>PySem.call f T):=by
 refine Att.attach_call hn L fun w s₀ s₁ B mb E o pm cd a0 a T I G Y ho hd a1 M D t g hg=>?_
 obtain⟨K,Q,e⟩:=Y;obtain⟨J,hb,hF⟩:=F w B E K _ Q e G.T.g M;exact VX Q G.T.g G.T.b G.T.builtins G.T.nolimit hg D t (jU g N) hr hF hb (fun H hO hS=>O K H a I g hO hS) fun H e s' z=>z
theorem ownHead{l:PySem.W.OpenLaw}{q:Program}{c:List Str}{β:Type}{f:PySem.W.Frag->β}{v:β}{d:DefRec}(N:Nat)
  (t:l.wellSaid=true)
  (left:∀w,(PySem.W.openEnds treeTable l.prog w N).map (fun s=>(PySem.W.openSeen q c (importedModules l.prog.main.body) (fun _=>true) true s,f (Xq s.heap)))=some (PySem.W.openGood q c,v))
  (g:PySem.W.defOf q l.name=some (d,[])) (A:l.prog.theDef l.name=some (d.params,d.body,d.scope)) (hk:PySem.W.kwWritten? d.params.kwonlyargs d.params.kw_defaults=some [])
  (ok:(PySem.W.chainsOk q&&PySem.W.opensWell l.prog&&(PySem.W.frees l.row.toRowW&&l.row.within.isEmpty))=true) (hb:l.prog.bare) (B:l.row.toRowW.promised)
  (call:PySem.W.WalkO q c (fun _ _=>True) (Seen f v) l.row.toRowW d [] fun f E=>PySem.call f E):l.Holds:=
 PySem.W.holds_law t fun D=>PySem.W.holds_open (r:=l.row) (Yf:=fun s=>f (Xq s.heap)) (Ya:=fun _=>v) left (fun _ s e=>⟨_,zbv s.heap,e⟩) Seen.keeps (fun _ _=>trivial) (fun _ _ _ _ _=>trivial) g A hk (fun _ _=>PySem.W.recFacts_nil rfl) (Bool.or_true _) D ok hb B call
def topL(i:Nat):Stmt:=PySem.Challenge.pw_pickboard_k76_whole_no_matching_is_less.main.body.getD i (.Pass ⟨0,0,0,0⟩)
structure Blt(mg:Str->Option Value):Prop where
 abs:mg "abs" = none
 all:mg "all" = none
 divmod:mg "divmod" = none
 enumerate:mg "enumerate" = none
 int:mg "int" = none
 isinstance:mg "isinstance" = none
 len:mg "len" = none
 list:mg "list" = none
 max:mg "max" = none
 min:mg "min" = none
 range:mg "range" = none
 str:mg "str" = none
 tuple:mg "tuple" = none
 bool:mg "bool" = none
 zip:mg "zip" = none
 sum:mg "sum" = none
 any:mg "any" = none
 repr:mg "repr" = none
 sorted:mg "sorted" = none
 dict:mg "dict" = none
 set:mg "set" = none
theorem vn:bootBuiltins "abs" = some (.builtin "abs"):=by decide +kernel
theorem Qy:bootBuiltins "max" = some (.builtin "max"):=by decide +kernel
theorem Wj:bootBuiltins "min" = some (.builtin "min"):=by decide +kernel
theorem Wk:bootBuiltins "divmod" = some (.builtin "divmod"):=by decide +kernel
theorem yC:bootBuiltins "int" = some (.type "int"):=by decide +kernel
theorem jk:bootBuiltins "list" = some (.type "list"):=by decide +kernel
theorem jw:bootBuiltins "tuple" = some (.type "tuple"):=by decide +kernel
theorem Qw:bootBuiltins "str" = some (.type "str"):=by decide +kernel
theorem yW:bootBuiltins "bool" = some (.type "bool"):=by decide +kernel
theorem vZ:bootBuiltins "sorted" = some (.builtin "sorted"):=by decide +kernel
theorem Wi:bootBuiltins "set" = some (.type "set"):=by decide +kernel
theorem zbJ:bootBuiltins "dict" = some (.type "dict"):=by decide +kernel
def yd(i:Int):Int:=if i<0 then -i else i
def zg7:Str:= "abcdefghijklmnopqrstuvwxyz"
def VS(c:Nat):Bool:=decide (97<=c)&&decide (c<=122)
theorem zc5:zg7.cps.toList=List.range' 97 26:=by decide +kernel
def WK:List (Str×Stmt):=[(("is_number":Str),topL 1),(("is_number_within":Str),topL 2),(("way_between":Str),topL 3),(("length_of":Str),topL 4),(("is_tuple_of":Str),topL 6),(("wanted_of":Str),topL 7),(("width_of":Str),topL 9),(("settled":Str),topL 10),(("holders_with":Str),topL 11),(("all_holders":Str),topL 12),(("columns_by":Str),topL 13),(("sum_at":Str),topL 14),(("matched_slots":Str),topL 15),(("paper_for":Str),topL 16),(("are_numbers":Str),topL 17),(("shows_paper":Str),topL 18),(("are_columns":Str),topL 19),(("shows_matched":Str),topL 20),(("slot_cost":Str),topL 21),(("slot_costs":Str),topL 22),(("placed_feeders":Str),topL 23),(("_law_box":Str),topL 25),(("_law_take":Str),topL 26),(("_law_folded":Str),topL 27),(("_law_same":Str),topL 28),(("_law_spelled":Str),topL 29),(("_law_name":Str),topL 30),(("_law_names":Str),topL 31),(("_law_place":Str),topL 32),(("_law_places":Str),topL 33),(("_law_shuffled":Str),topL 34),(("_law_feeders":Str),topL 35),(("_law_aheads":Str),topL 36),(("_law_job":Str),topL 37),(("_law_way":Str),topL 38),(("_law_cost":Str),topL 39),(("_law_all_ways":Str),topL 40),(("_law_small":Str),topL 41),(("_law_sum":Str),topL 42),(("_law_turned_right":Str),topL 43),(("_law_placed_right":Str),topL 44),(("_law_kinds":Str),topL 45),(("_law_slots":Str),topL 46),(("_law_right":Str),topL 47),(("law":Str),topL 48)]
def zbK:List Str:=[("abs":Str),("all":Str),("divmod":Str),("enumerate":Str),("int":Str),("isinstance":Str),("len":Str),("list":Str),("max":Str),("min":Str),("range":Str),("str":Str),("tuple":Str),("bool":Str),("zip":Str),("sum":Str),("any":Str),("repr":Str),("sorted":Str),("dict":Str),("set":Str)]
def zaY:List (Str×List Str):=[]
def zgR:List Str:=WK.dropLast.map (·.1)++[("__name__":Str)]
def zfH:Program:={ PySem.Challenge.pw_pickboard_k76_whole_no_matching_is_less with main:={ PySem.Challenge.pw_pickboard_k76_whole_no_matching_is_less.main with body:=[topL 48] } }
theorem head1:PySem.Challenge.rw_pickboard_k76_whole_no_matching_is_less.wellSaid=true:=by kernel_rfl
theorem head2:∀w,(PySem.W.openEnds treeTable PySem.Challenge.pw_pickboard_k76_whole_no_matching_is_less w 9999).map (fun s=>(PySem.W.openSeen zfH zgR (importedModules PySem.Challenge.pw_pickboard_k76_whole_no_matching_is_less.main.body) (fun _=>true) true s,zev WK zbK zaY (Xq s.heap)))=some (PySem.W.openGood zfH zgR,zeG WK zbK zaY):=fun w=>by kernel_rfl
theorem head3:(PySem.W.chainsOk zfH&&PySem.W.opensWell PySem.Challenge.pw_pickboard_k76_whole_no_matching_is_less&&(PySem.W.frees PySem.Challenge.rw_pickboard_k76_whole_no_matching_is_less.row.toRowW&&PySem.Challenge.rw_pickboard_k76_whole_no_matching_is_less.row.within.isEmpty))=true:=by kernel_rfl
section
variable{κ:Type}[DecidableEq κ]
def vP(c:List (κ×V))(k:κ):Option V:=(c.find? fun g=>decide (g.1=k)).map (·.2)
def xZ(c:List (κ×V))(k:κ)(v:V):List (κ×V):=
 if(c.any fun g=>decide (g.1=k))=true then c.map (fun g=>if g.1=k then(g.1,v) else g) else c++[(k,v)]
def zfq(c:List (κ×V))(k:κ):List (κ×V):=c.filter fun g=>decide (g.1≠k)
theorem vQ{p:κ×V}{r:List (κ×V)}{k:κ}(e:p.1=k):vP (p::r) k=some p.2:=by simp[vP,wY,e]
theorem vR{p:κ×V}{r:List (κ×V)}{k:κ}(e:¬p.1=k):vP (p::r) k=vP r k:=by simp[vP,wY,e]
theorem yf(k:κ):∀c:List (κ×V),(c.any fun g=>decide (g.1=k))=(vP c k).isSome
 | []=>rfl
 | p::r=>by
  rw[vJ];by_cases e:p.1=k
  ·simp only[vQ e,zW e,Bool.true_or,Option.isSome_some]
  ·rw[vR e,jb e,QH];exact yf k r
theorem Zl(c:List (κ×V))(k:κ)(v:V):(xZ c k v).length<=c.length+1:=by
 unfold xZ;split
 ·rw[zr];omega
 ·rw[zY,jP,QN];omega
theorem zcu{c:List (κ×V)}{k:κ}(v:V)(h:vP c k=none):xZ c k v=c++[(k,v)]:=by
 unfold xZ;rw[yf,h];exact zo (by decide)
theorem RelO.isSome_eq{o:Option V}{u:Option Value}(r:RelO o u):o.isSome=u.isSome:=by
 cases o with
 | none=>cases u with
  | none=>rfl
  | some _=>exact(show False from r).elim
 | some _=>cases u with
  | none=>exact(show False from r).elim
  | some _=>rfl
theorem RelO.getD{o:Option V}{u:Option Value}{d:V}{c:Value}(r:RelO o u)(g:RelV d c):RelV (o.getD d) (u.getD c):=by
 cases o with
 | none=>cases u with
  | none=>exact g
  | some _=>exact(show False from r).elim
 | some _=>cases u with
  | none=>exact(show False from r).elim
  | some _=>exact r
theorem KV.val{c:List (κ×V)}{w:List (κ×Value)}(r:KV c w)(k:κ):RelO (vP c k) (valueAt w k):=by
 unfold KV at r;induction r with
 | nil=>exact True.intro
 | @cons p q ps l h t B=>
  obtain⟨s,A⟩:=h;by_cases e:p.1=k
  ·have g:q.1=k:=s.symm.trans e
   have b:valueAt (q::l) k=some q.2:=by simp[valueAt,wY,g]
   rw[vQ e,b];exact A
  ·have g:¬q.1=k:=fun z=>e (s.trans z)
   have b:valueAt (q::l) k=valueAt l k:=by simp[valueAt,wY,g]
   rw[vR e,b];exact B
theorem KV.any{c:List (κ×V)}{l:List (κ×Value)}(r:KV c l)(k:κ):(c.any fun g=>decide (g.1=k))=l.any fun g=>decide (g.1=k):=by
 unfold KV at r;induction r with
 | nil=>rfl
 | cons h t s=>rw[vJ,vJ,s,h.1]
theorem KV.repl{g:List (κ×V)}{s:List (κ×Value)}(r:KV g s)(k:κ){y:V}{u:Value}(B:RelV y u) :
  KV (g.map fun c=>if c.1=k then(c.1,y) else c) (s.map fun c=>if c.1=k then(c.1,u) else c):=by
 unfold KV at r ⊢;induction r with
 | nil=>exact .nil
 | @cons p q ps D h t A=>
  rw[jz,jz];refine .cons ?_ A
  obtain⟨l,w⟩:=h;by_cases e:p.1=k
  ·rw[zq e,zq (l.symm.trans e)];exact⟨l,B⟩
  ·rw[zo e,zo (fun z=>e (l.trans z))];exact⟨l,w⟩
theorem KV.put{c:List (κ×V)}{g:List (κ×Value)}(r:KV c g)(k:κ){y:V}{u:Value}(l:RelV y u):KV (xZ c k y) (stored g k u):=by
 unfold xZ stored;rw[r.any k];by_cases e:(g.any fun s=>decide (s.1=k))=true
 ·rw[zq e,zq e];exact r.repl k l
 ·rw[zo e,zo e];exact Paired.snoc r ⟨rfl,l⟩
theorem KV.drop{c:List (κ×V)}{s:List (κ×Value)}(r:KV c s)(k:κ):KV (zfq c k) (without s k):=by
 unfold KV at r ⊢;unfold zfq without;induction r with
 | nil=>exact .nil
 | @cons p q ps B h t l=>
  obtain⟨g,A⟩:=h;rw[y8,y8];by_cases e:p.1=k
  ·have a:¬decide (p.1≠k)=true:=by simp[e]
   have b:¬decide (q.1≠k)=true:=by simp[g.symm.trans e]
   rw[zo a,zo b];exact l
  ·have w:¬q.1=k:=fun z=>e (g.trans z)
   have a:decide (p.1≠k)=true:=by simp[e]
   have b:decide (q.1≠k)=true:=by simp[w]
   rw[zq a,zq b];exact .cons ⟨g,A⟩ l
theorem KV.keys{c:List (κ×V)}{g:List (κ×Value)}(r:KV c g):c.map (·.1)=g.map (·.1):=by
 unfold KV at r;induction r with
 | nil=>rfl
 | cons h t l=>rw[jz,jz,l,h.1]
theorem KV.length{kvs:List (κ×V)}{c:List (κ×Value)}(r:KV kvs c):kvs.length=c.length:=QI r
end
theorem xm{P:Program}{w:World}{k:Key}{u:Value}(r:RelV (kV k) u):(zN P w).is k u=true:=by
 cases k with
 | inl i=>obtain⟨t,e⟩:=(show ∃t,u=Value.int i t from r);subst e;exact VN P w i t
 | inr x=>obtain⟨t,e⟩:=(show ∃t,u=Value.str x t from r);subst e;exact VM P w x t
theorem wC{P:Program}{w:World}:∀{c:List Key} {g:List Value},Vals (c.map kV) g->ItemsAre (zN P w) c g
 | [],_,r=>by rw[List.map_nil] at r;cases r;exact .nil
 | k::c,_,r=>by
  rw[jz] at r;cases r with
  | cons h t=>exact .cons (xm h) (wC t)
abbrev KT(H:Hp):List (List Key×V)->List (List Key×Addr×Value)->Prop:=Paired fun p q=>p.1=q.1/\H q.2.1=some (.tup (p.1.map kV))/\RelV p.2 q.2.2
theorem KT.val{H:Hp}{c:List (List Key×V)}{w:List (List Key×Addr×Value)}(r:KT H c w)(k:List Key):RelO (vP c k) ((atKey w k).map (·.2)):=by
 induction r with
 | nil=>exact True.intro
 | @cons p q ps l h t B=>
  obtain⟨s,_,A⟩:=h;by_cases e:p.1=k
  ·have g:q.1=k:=s.symm.trans e
   have b:atKey (q::l) k=some q.2:=by simp[atKey,wY,g]
   rw[vQ e,b];exact A
  ·have g:¬q.1=k:=fun z=>e (s.trans z)
   have b:atKey (q::l) k=atKey l k:=by simp[atKey,wY,g]
   rw[vR e,b];exact B
theorem KT.repl{H:Hp}{c:List (List Key×V)}{w:List (List Key×Addr×Value)}(r:KT H c w)(k:List Key){y:V}{u:Value}(D:RelV y u) :
  KT H (c.map fun l=>if l.1=k then(l.1,y) else l) (w.map (putAt k u)):=by
 induction r with
 | nil=>exact .nil
 | @cons p q ps E h t B=>
  rw[jz,jz];refine .cons ?_ B
  obtain⟨g,s,A⟩:=h;unfold putAt;by_cases e:p.1=k
  ·rw[zq e,zq (g.symm.trans e)];exact⟨g,s,D⟩
  ·rw[zo e,zo (fun z=>e (g.trans z))];exact⟨g,s,A⟩
theorem KT.put{H:Hp}{c:List (List Key×V)}{g:List (List Key×Addr×Value)}(r:KT H c g)(k:List Key){b:Addr}{y:V}{u:Value}(hb:H b=some (.tup (k.map kV)))(l:RelV y u) :
  KT H (xZ c k y) (storedH g k b u):=by
 have e:(c.any fun s=>decide (s.1=k))=(atKey g k).isSome:=by
  rw[yf,(r.val k).isSome_eq,Option.isSome_map]
 unfold xZ storedH;rw[e];by_cases q:(atKey g k).isSome=true
 ·rw[zq q,zq q];exact r.repl k l
 ·rw[zo q,zo q];exact Paired.snoc r ⟨rfl,hb,l⟩
theorem KT.keeps{H g:Hp}{c:List (List Key×V)}{l:List (List Key×Addr×Value)}(r:KT H c l)(t:∀b s,H b=some (.tup s)->g b=some (.tup s)):KT g c l:=
 Paired.mapP r fun _ _ z=>⟨z.1,t _ _ z.2.1,z.2.2⟩
section
variable{P:Program}{w:World}{H:Hp}{h:Heap}{a:Addr}
theorem zfl{u:HO}(ok:HOk P w H h)(e:Rd H a u):ObjOk P w H h a u:=e.ok ok
theorem Qu{c:List (Key×V)}(ok:HOk P w H h)(e:Rd H a (.dK c)):c.length<=sizeLine/\(a==sysModules)=false/\∃g,KV c g/\h.DictOf (zN P w) a g:=
 show ObjOk P w H h a (.dK c) from zfl ok e
theorem zdo{c:List (Key×V)}(ok:HOk P w H h)(e:H a=some (.dK c)):c.length<=sizeLine/\(a==sysModules)=false/\∃g,KV c g/\h.DictOf (zN P w) a g:=Qu ok (.inl e)
theorem Qo{g:List Key}(ok:HOk P w H h)(e:H a=some (.tup (g.map kV))):(tupleKind (zN P w)).is h g a:=by
 obtain⟨_,c,r,⟨o,l,s,n,t⟩,_⟩:=(show ObjOk P w H h a (.tup (g.map kV)) from ok a _ e)
 exact⟨o,c.toArray,n,l,s,t,by simpa using wC r⟩
theorem V7{c:List (List Key×V)}(ok:HOk P w H h)(e:Rd H a (.dT c)):c.length<=sizeLine/\(a==sysModules)=false /\
  ∃g,KT H c g/\h.DictOfH (tupleKind (zN P w)) a g:=by
 obtain⟨z,y,g,r,o,A,s,B,D,E,G,I⟩:=(show ObjOk P w H h a (.dT c) from zfl ok e)
 refine⟨z,y,g,r,o,A,s,B,D,E,G,fun x hx=>?_,I⟩
 have all:∀{l:List (List Key×V)} {m:List (List Key×Addr×Value)},KT H l m->∀x∈m,(tupleKind (zN P w)).is h x.1 x.2.1:=by
  intro l m q;induction q with
  | nil=>intro x hx;exact nomatch hx
  | @cons p q ps L hq t J=>
   intro x hx;rcases zL.mp hx with e | hx
   ·subst e
    exact Qo ok (by rw[<- hq.1];exact hq.2.1)
   ·exact J x hx
 exact all r x hx
theorem zhP{c:List (List Key×V)}(ok:HOk P w H h)(e:H a=some (.dT c)):c.length<=sizeLine/\(a==sysModules)=false /\
  ∃g,KT H c g/\h.DictOfH (tupleKind (zN P w)) a g:=V7 ok (.inl e)
end
def DGet(H:Hp)(a:Addr)(y:V)(r:Option V):Prop:=
 (∃c k,Rd H a (.dK c)/\y=kV k/\r=vP c k)\/∃c k b,Rd H a (.dT c)/\y=.ref b/\H b=some (.tup (k.map kV))/\r=vP c k
def DPut(H:Hp)(a:Addr)(y v:V)(g:Hp):Prop:=
 (∃c k,H a=some (.dK c)/\y=kV k/\c.length<sizeLine/\g=upd H a (.dK (xZ c k v))) \/
 ∃c k b,H a=some (.dT c)/\y=.ref b/\H b=some (.tup (k.map kV))/\c.length<sizeLine/\g=upd H a (.dT (xZ c k v))
theorem DGet.k{H:Hp}{a:Addr}{c:List (Key×V)}{k:Key}(e:H a=some (.dK c)):DGet H a (kV k) (vP c k):=.inl ⟨c,k,.inl e,rfl,rfl⟩
theorem DGet.t{H:Hp}{a b:Addr}{c:List (List Key×V)}{k:List Key}(e:H a=some (.dT c))(g:H b=some (.tup (k.map kV))):DGet H a (.ref b) (vP c k):=.inr ⟨c,k,b,.inl e,rfl,g,rfl⟩
theorem DPut.k{H:Hp}{a:Addr}{c:List (Key×V)}{k:Key}{v:V}(e:H a=some (.dK c))(g:c.length<sizeLine):DPut H a (kV k) v (upd H a (.dK (xZ c k v))):=.inl ⟨c,k,e,rfl,g,rfl⟩
theorem DPut.t{H:Hp}{a b:Addr}{c:List (List Key×V)}{k:List Key}{v:V}(e:H a=some (.dT c))(g:H b=some (.tup (k.map kV)))(l:c.length<sizeLine) :
  DPut H a (.ref b) v (upd H a (.dT (xZ c k v))):=.inr ⟨c,k,b,e,rfl,g,l,rfl⟩
section
variable{X:Cx}{t:List (Addr×Obj)}{σ:St}{H:Hp}{s:Shared}{a:Addr}{y v:V}{u r:Value}{o:Option V}{A:Around}{E:Value->Shared->Prop}
theorem Inv.big(I:Inv X t σ H s):sysModules<s.heap.objs.size:=by
 have h:mainGlobals<s.heap.objs.size:=(I.mod.glob.keeps I.bk).lt;exact Nat.lt_trans (by decide) h
theorem zeK{Q:Value->Shared->Prop}(hu:A.units+1<cLine)(I:Inv X t σ H s)(g:DGet H a y o)(J:RelV y u)(h:∀L,Inv X t σ H L->Q (.bool (!o.isSome)) L) :
  wpAny (model X.prog X.w) A (compareOp .NotIn u (.ref a)) Q E s:=by
 rcases g with ⟨G,k,e,B,l⟩ | ⟨G,k,b,e,B,M,l⟩
 ·subst B
  obtain⟨z,D,N,c,w⟩:=Qu I.hok e;refine wpAny_notIn_of (xm J) D w.mapOf ?_
  rw[<- (c.val k).isSome_eq,<- l];exact h _ (I.tok _)
 ·subst B
  cases(show u=Value.ref b from J)
  obtain⟨z,D,O,c,w⟩:=V7 I.hok e;refine wpAny_notIn_heap (tupleKind_room_in1 hu) (Qo I.hok M) D w ?_
  have q:=(c.val k).isSome_eq;rw[Option.isSome_map] at q;rw[<- q,<- l];exact h _ (I.tok _)
theorem zas{c:Heap}{G:Nat}{l:HO}(I:Inv X t σ H s)(D:Mut (H a))(B:Heap.SameBut a s.heap c)(w:∃q,c.get? a=some q)(g:ObjOk X.prog X.w (upd H a l) c a l) :
  Inv X t σ (upd H a l) { s with heap:=c,toks:=G }:=
 I.write (x:=a) (e:=a) D (.inl rfl) (fun b q hb z=>(B.2 b hb).trans z) w g
theorem zdp{P:Program}{w:World}{D:Hp}{B:Heap}{c:List (Key×V)}{l:List (Key×Value)}(z:c.length<=sizeLine)(I:(a==sysModules)=false)(g:KV c l)(G:B.DictOf (zN P w) a l) :
  ObjOk P w D B a (.dK c):=⟨z,I,l,g,G⟩
theorem zbw{Y:Hp}{Q:Unit->Shared->Prop}(hu:A.units+1<cLine)(I:Inv X t σ H s)(g:DPut H a y v Y)(ry:RelV y u)(rv:RelV v r)(h:∀s',Inv X t σ Y s'->Q () s') :
  wpAny (model X.prog X.w) A (setItem (.ref a) u r) Q E s:=by
 rcases g with ⟨w,k,e,L,l,J⟩ | ⟨w,k,b,e,L,eb,l,J⟩
 ·subst L J
  obtain⟨z,M,vs,B,G⟩:=zdo I.hok e;have U:vs.length<=sizeLine:=by rw[<- B.length];exact z
  have N:(xZ w k v).length<=sizeLine:=by have:=Zl w k v;omega
  refine wpAny_setItem_pairs (hsz:=U) (xm ry) G fun h' D O=>h _ ?_
  have he:∃q,h'.get? a=some q:=let ⟨q,_,_,hq,_⟩:=D;⟨q,hq⟩
  exact zas I (by rw[e];exact True.intro) O he (zdp N M (B.put k rv) D)
 ·subst L J
  cases(show u=Value.ref b from ry)
  obtain⟨z,M,xs,B,G⟩:=zhP I.hok e;have U:xs.length<=sizeLine:=by rw[<- QI B];exact z
  have N:(xZ w k v).length<=sizeLine:=by have:=Zl w k v;omega
  refine wpAny_setItem_heap (hsz:=U) (tupleKind_room_in1 hu) (Qo I.hok eb) G fun h' D O=>h _ ?_
  obtain⟨q,es,ep,hq,h2,h3,h4,_,h5⟩:=D;refine zas I (by rw[e];exact True.intro) O ⟨q,hq⟩ ⟨N,M,_,(B.put k eb rv).keeps fun c ys ec=>?_,q,es,ep,hq,h2,h3,h4,h5⟩
  rw[zw (zad ec e (fun z=>nomatch z))]
  exact ec
end
section
variable{X:Cx}{c:List (Addr×Obj)}{σ:St}{H:Hp}{s:Shared}{a:Addr}{g:List (Key×V)}{k:Key}{u:Value}{A:Around}{E:Value->Shared->Prop}
end
def zd2(ty l:TE):TE:=fun σ H Q=>ty σ H fun y g=>l σ g fun x c=>∃a o,x=.ref a/\DGet c a y o/\Q (.bl (!o.isSome)) c
def zg8(t ty w:TE):TS:=fun D σ H=>w σ H fun v g=>t σ g fun x l=>ty σ l fun y s=>∃a c,x=.ref a/\DPut s a y v c/\D.nx σ c
section
variable{X:Cx}{o i e c:Expr}{t l A:Pos}{w ty B:TE}
theorem zbe(hu:X.A.units+1<cLine)(O:PE X i ty)(T:PE X o w):PC X .NotIn i o (zd2 ty w):=by
 intro D s σ H Q I h;refine thn (O D s σ H _ I h) fun iv s1 ⟨y,E,J,ry,Y⟩=>thn (T D s1 σ E _ J Y) fun u s2 ⟨x,G,L,rx,a,U,N,g,q2⟩=>?_
 subst N;obtain rfl:u=Value.ref a:=rx;exact zeK hu L g ry fun s3 M=>⟨.bl (!U.isSome),G,M,rfl,q2⟩
theorem Y2(hu:X.A.units+1<cLine)(Y:PE X o w)(U:PE X i ty)(hv:PE X c B)(hs:swapsWith c (some (.Subscript o i l)) t.line X.env=pure false) :
  PS X (.Assign [.Subscript o i l] c t) (zg8 w ty B):=by
 intro E s σ H D I h;refine wpAny_Assign_Subscript (thn (hv E s σ H _ I h) fun r s1 ⟨v,G,M,rv,q1⟩=>thn (Y E s1 σ G _ M q1) fun u s2 ⟨x,J,N,rx,q2⟩=>thn (U E s2 σ J _ N q2) fun iv s3 ⟨y,H3,O,ry,a,L,T,g,q3⟩=>?_) hs
 subst T;obtain rfl:u=Value.ref a:=rx;exact zbw hu O g ry rv fun s4 Q=>⟨σ,L,Q,q3⟩
end
theorem zdq{P:Program}{w:World}{H:Hp}(h:Heap)(hb:sysModules<h.objs.size):ObjOk P w H (h.push { cls:=.type "dict",data:=.dict #[] }) h.objs.size (.dK []):=
 ⟨qk _,beq_eq_false_iff_ne.mpr (qc (zM hb)),[],.nil,Heap.DictOf.new h⟩
def zfz:TE:=fun _ H Q=>∀p,H p=none->Q (.ref p) (upd H p (.dK []))
section
variable{X:Cx}{c:Pos}
theorem VE:PE X (.Dict [] [] c) zfz:=fun g s σ H Q I h=>
 wpAny_Dict_empty ⟨.ref s.heap.objs.size,_,I.laid (a:=s.heap.objs.size) (o:=.dK []) (t':=s.toks) (fun _ _ q=>zO _ q) (zC _) (zdq s.heap I.big),rfl,h _ (I.hok.fresh (zC _))⟩
end
structure M1(X:Cx)(o:Expr)(m:Str)(apos:Pos)(e:Expr)(cpos:Pos):Prop where
 base:attributeBase o m X.env (eval o X.env)=eval o X.env
 few:((backTo cpos (starEach [e] X.env)).all (fun x=>!x.1)&&(backToKw cpos (keywordEach [] X.env)).all (fun x=>x.1.isSome)
  && decide (([e]:List Expr).length+([]:List Keyword).length+(if([]:List Keyword).isEmpty then 0 else 1)<30))=true
 line:(apos.endLine==cpos.line)=true
 trees:backTo cpos (starEach [e] X.env)=[(false,eval e X.env)]
structure M2(X:Cx)(o:Expr)(m:Str)(apos:Pos)(e f:Expr)(cpos:Pos):Prop where
 base:attributeBase o m X.env (eval o X.env)=eval o X.env
 few:((backTo cpos (starEach [e,f] X.env)).all (fun x=>!x.1)&&(backToKw cpos (keywordEach [] X.env)).all (fun x=>x.1.isSome)
  && decide (([e,f]:List Expr).length+([]:List Keyword).length+(if([]:List Keyword).isEmpty then 0 else 1)<30))=true
 line:(apos.endLine==cpos.line)=true
 trees:backTo cpos (starEach [e,f] X.env)=[(false,eval e X.env),(false,eval f X.env)]
def IsD(H:Hp)(a:Addr):Prop:=(∃c,Rd H a (.dK c))\/∃c,Rd H a (.dT c)
theorem WI{X:Cx}{l:List (Addr×Obj)}{σ:St}{H:Hp}{s:Shared}{a:Addr}(I:Inv X l σ H s)(d:IsD H a) :
  s.TypeIs (.ref a) "dict" /\ (∀b,Value.ref a=.ref b->∃c,s.heap.get? b=some c/\c.dict=none)/\(a==sysModules)=false:=by
 rcases d with ⟨B,e⟩ | ⟨B,e⟩
 ·obtain⟨_,A,D,_,g⟩:=Qu I.hok e
  refine⟨g.typeIs,fun b q=>?_,A⟩
  cases q;obtain⟨c,_,_,t,w,_⟩:=g;exact⟨c,t,w.2.1⟩
 ·obtain⟨_,A,E,_,g⟩:=V7 I.hok e
  refine⟨g.typeIs,fun b q=>?_,A⟩
  cases q;obtain⟨c,_,_,t,w,_⟩:=g;exact⟨c,t,w.2.1⟩
section
variable{X:Cx}{c:List (Addr×Obj)}{σ:St}{H:Hp}{s:Shared}{a:Addr}{y d:V}{u r:Value}{o:Option V}{A:Around}{E:Value->Shared->Prop}
theorem zgx{Q:Value->Shared->Prop}(hu:A.units+1<cLine)(I:Inv X c σ H s)(g:DGet H a y o)(J:RelV y u)(h:∀M L,Inv X c σ H L->RelV (o.getD .non) M->Q M L) :
  wpAny (model X.prog X.w) A (call (.builtin "dict.get") [.ref a,u]) Q E s:=by
 rcases g with ⟨G,k,e,B,l⟩ | ⟨G,k,b,e,B,N,l⟩
 ·subst B
  obtain⟨z,D,T,t,w⟩:=Qu I.hok e;refine call_meetsIn JQ w.typeIs X2 (PySem.F.args_dict_get_2 _ _) (meets_dict_get (zN X.prog X.w) a (xm J) D) ⟨_,w.mapOf,h _ _ (I.tok _) ?_⟩
  rw[l];exact(t.val k).getD rfl
 ·subst B
  cases(show u=Value.ref b from J)
  obtain⟨z,D,O,t,w⟩:=V7 I.hok e;refine call_meetsIn JQ w.typeIs X2 (PySem.F.args_dict_get_2 _ _) (meetsH_dict_get (tupleKind (zN X.prog X.w)) a b D) ⟨tupleKind_room_in1 hu,k,O,Qo I.hok N,w,h _ _ (I.tok _) ?_⟩
  rw[l];exact(t.val k).getD rfl
theorem zgw{Q:Value->Shared->Prop}(hu:A.units+1<cLine)(I:Inv X c σ H s)(g:DGet H a y o)(L:RelV y u)(J:RelV d r)(h:∀N M,Inv X c σ H M->RelV (o.getD d) N->Q N M) :
  wpAny (model X.prog X.w) A (call (.builtin "dict.get") [.ref a,u,r]) Q E s:=by
 rcases g with ⟨G,k,e,B,l⟩ | ⟨G,k,b,e,B,O,l⟩
 ·subst B
  obtain⟨z,D,U,t,w⟩:=Qu I.hok e;refine call_meetsIn JQ w.typeIs X2 (PySem.F.args_dict_get_3 _ _ _) (meets_dict_get_default (zN X.prog X.w) a (xm L) D r) ⟨_,w.mapOf,h _ _ (I.tok _) ?_⟩
  rw[l];exact(t.val k).getD J
 ·subst B
  cases(show u=Value.ref b from L)
  obtain⟨z,D,T,t,w⟩:=V7 I.hok e;refine call_meetsIn JQ w.typeIs X2 (PySem.F.args_dict_get_3 _ _ _) (meetsH_dict_get_default (tupleKind (zN X.prog X.w)) a b D r) ⟨tupleKind_room_in1 hu,k,T,Qo I.hok O,w,h _ _ (I.tok _) ?_⟩
  rw[l];exact(t.val k).getD J
end
def zfB(l ty:TE):TE:=fun σ H Q=>l σ H fun x c=>∃a,x=.ref a/\IsD c a/\ty σ c fun y g=>∃o,DGet g a y o/\Q (o.getD .non) g
def zfA(s ty t:TE):TE:=fun σ H Q=>s σ H fun x c=>∃a,x=.ref a/\IsD c a/\ty σ c fun y l=>t σ l fun z g=>∃o,DGet g a y o/\Q (o.getD z) g
section
variable{X:Cx}{o e f:Expr}{c l:Pos}{t ty w:TE}
theorem zcD(hu:X.A.units+1<cLine)(O:PE X o t)(N:PE X e ty)(m:M1 X o "get" c e l):PE X (.Call (.Attribute o "get" c) [e] [] l) (zfB t ty):=by
 intro A s σ H Q I h;refine wpAny_Call_method m.base m.few m.line X4 JQ PySem.F.type_dict_get (thn (O A s σ H _ I h) fun u s1 ⟨x,E,D,Y,a,M,d,T⟩=>?_)
 subst M;obtain rfl:u=Value.ref a:=Y;obtain⟨t1,t2,_⟩:=WI D d;refine⟨t1,t2,?_⟩
 rw[m.trees];refine QV rfl (Yb (QR (thn (N A s1 σ E _ D T) fun iv s2 ⟨y,G,J,ry,ov,g,U⟩=>XT ?_)))
 exact zgx hu J g ry fun w' s3 L B=>⟨_,G,L,B,U⟩
theorem zcC(hu:X.A.units+1<cLine)(Y:PE X o t)(T:PE X e ty)(U:PE X f w)(m:M2 X o "get" c e f l):PE X (.Call (.Attribute o "get" c) [e,f] [] l) (zfA t ty w):=by
 intro A s σ H Q I h;refine wpAny_Call_method m.base m.few m.line X4 JQ PySem.F.type_dict_get (thn (Y A s σ H _ I h) fun u s1 ⟨x,E,D,rx,a,O,d,q1⟩=>?_)
 subst O;obtain rfl:u=Value.ref a:=rx;obtain⟨t1,t2,_⟩:=WI D d;refine⟨t1,t2,?_⟩
 rw[m.trees];refine QV rfl (Yb (QR (thn (T A s1 σ E _ D q1) fun iv s2 ⟨y,G,L,ry,q2⟩=>
  QR (thn (U A s2 σ G _ L q2) fun fv s3 ⟨z,J,M,rz,ov,g,q3⟩=>XT ?_))))
 exact zgw hu M g ry rz fun w' s4 N B=>⟨_,J,N,B,q3⟩
end
section
variable{X:Cx}{c:List (Addr×Obj)}{σ:St}{H:Hp}{s:Shared}{a:Addr}{g:List (Key×V)}{A:Around}{E:Value->Shared->Prop}
theorem zds{Q:Value->Shared->Prop}(I:Inv X c σ H s)(e:Rd H a (.dK g))(h:∀p w,H p=none->Inv X c σ (upd H p (.dK g)) w->Q (.ref p) w):wpAny (model X.prog X.w) A (call (.type "dict") [.ref a]) Q E s:=by
 obtain⟨z,D,M,l,B⟩:=Qu I.hok e;refine kt_call_dict D B (by rw[<- l.length];exact z) fun J t G=>?_
 refine h _ _ (I.hok.fresh (zC _)) (I.laid (a:=s.heap.objs.size) (o:=.dK g) (t':=s.toks) (fun b q hq=>?_) (zC _) (zdp z (beq_eq_false_iff_ne.mpr (qc (zM I.big))) l t))
 exact(G.2 b (zM (zD hq))).trans (zO _ hq)
end
section
variable{X:Cx}{c:List (Addr×Obj)}{σ:St}{H:Hp}{s:Shared}{a:Addr}{y:V}{u:Value}{A:Around}{E:Value->Shared->Prop}
end
end L2
namespace PySem
open PySem PySem.W PySem.Calls PyProof.Rows PyProof.V PySem.Spec
end PySem
namespace L2
open PySem PySem.Spec PyProof.Rows
section
variable{X:Cx}
end
section
variable{X:Cx}{c:Expr}
end
section
variable{X:Cx}
end
section
variable{X:Cx}
variable{e st:Expr}{l:TE}{s:TO}{c g:Pos}
end
end L2
namespace PySem
def RawD(h:Heap)(d:Addr)(g:Array DictEntry)(c:Nat):Prop:=∃o,h.get? d=some o/\o.ExactDict/\o.data=.dict g c
theorem RawD.at{h l:Heap}{d:Addr}{g:Array DictEntry}{c:Nat}(x:RawD h d g c)(e:∀o,h.get? d=some o->l.get? d=some o):RawD l d g c:=let ⟨o,a,b⟩:=x;⟨o,e _ a,b⟩
section
variable{c:Program}{w:World}{A:Around}{E:Value->Shared->Prop}{s:Shared}{d t:Addr}{l:Array DictEntry}{g i:Nat}
end
end PySem
namespace L2
open PySem PySem.Spec PyProof.Rows
section
variable{X:Cx}{c:Expr}
end
section
variable{c:Program}{w:World}{A:Around}{R:Result->Shared->Prop}{s:Shared}
end
def DPutT(H:Hp)(D:Addr)(y v:V)(g:Hp):Prop:=∃c k b,H D=some (.dT c)/\y=.ref b/\H b=some (.tup (k.map kV))/\c.length<sizeLine/\g=upd H D (.dT (xZ c k v))
theorem DPutT.t{H:Hp}{a b:Addr}{c:List (List Key×V)}{k:List Key}{v:V}(e:H a=some (.dT c))(g:H b=some (.tup (k.map kV)))(l:c.length<sizeLine):DPutT H a (.ref b) v (upd H a (.dT (xZ c k v))):=⟨c,k,b,e,rfl,g,l,rfl⟩
section
variable{X:Cx}{G M B c:Expr}{l:List Expr}{I s:Expr}{t:List Expr}{scope:Scope}{w:Pos}{N D:TI}{g E:TG}{H A:TT}{J L:TE}
end
abbrev z7(X:Cx)(c:List Str)(scope:Scope)(x:Str)(C:Addr)(s:Shared)(H:Hp)(ex:List Addr):Cx where
 prog:=X.prog
 w:=X.w
 K:=X.K
 mg:=X.mg
 base:=X.base
 A:=X.A
 N:=c
 s₀:=s
 H₀:=H
 env:=compEnvC scope ((x,C+1)::qg X.env.cells scope.names []) C X.env
 outer:=X.stack
 stack:=X.stack
 ex:=ex
 fn:=fun y=>y==x
 calm:=X.calm
 pn:=[]
 xe:=fun _ _=>False
def yX(sn on:List (Str×NameKind))(N:List Str)(x:Str)(c:List Str)(g:List Nat):Bool:=
 (sn.filter fun y=>y.2==.cell)==[(x,.cell)]&&sn.lookup x==some .cell&&decide ([x]++c).Nodup&&sn.all (fun y=>(y.2 != .local||sn.lookup y.1==some .local)&&(y.2 != .free||(on.lookup y.1==some .cell||on.lookup y.1==some .free)))&&c.length==g.length
  && (c.zip g).all fun p=>sn.lookup p.1==some .free&&N[p.2]? ==some p.1
structure BlkOkC(sn on:List (Str×NameKind))(N:List Str)(x:Str)(fr:List Str)(js:List Nat):Prop where
 one:(sn.filter fun y=>y.2==.cell)=[(x,.cell)]
 lk:sn.lookup x=some .cell
 nd:([x]++fr).Nodup
 loc:∀y∈sn,y.2=NameKind.local->sn.lookup y.1=some .local
 free:∀y∈sn,y.2=NameKind.free->on.lookup y.1=some .cell\/on.lookup y.1=some .free
 len:fr.length=js.length
 fr:∀(k:Nat) (x:Str),fr[k]? =some x->sn.lookup x=some .free/\∃j:Nat,js[k]? =some j/\N[j]? =some x
theorem BlkOkC.is{sn on:List (Str×NameKind)}{N:List Str}{x:Str}{c:List Str}{g:List Nat}(B:BlkOkC sn on N x c g){y:Str×NameKind}(h:y∈sn)(e:y.2=.cell):y.1=x:=by
 have:y∈sn.filter fun y=>y.2==.cell:=Zs.mpr ⟨h,by rw[e];rfl⟩
 rw[B.one,zK] at this;rw[this]
theorem wF{sn on:List (Str×NameKind)}{N:List Str}{x:Str}{g:List Str}{c:List Nat}(h:yX sn on N x g c=true):BlkOkC sn on N x g c:=by
 unfold yX at h;simp only[qE,jN,xN,decide_eq_true_eq] at h;obtain⟨⟨⟨⟨⟨t,w⟩,E⟩,l⟩,A⟩,B⟩:=h;refine⟨t,w,E,fun y hy e=>?_,fun y hy e=>?_,A,fun k x e=>?_⟩
 ·have:=(l y hy).1
  simp only[XO,bne_iff_ne,xN] at this;exact this.resolve_left fun z=>z e
 ·have:=(l y hy).2
  simp only[XO,bne_iff_ne,xN] at this;exact this.resolve_left fun z=>z e
 ·have hk:k<g.length:=(zT.mp e).1
  have s:k<c.length:=by omega
  have D:(x,c[k])∈g.zip c:=by
   refine jc (i:=k) ?_
   rw[zdF];exact⟨e,by simp[s]⟩
  have:=B _ D;exact⟨this.1,c[k],by simp[s],this.2⟩
theorem Qv:∀{names:List (Str×NameKind)} (n:Nat) (c:List (Str×Addr)) (h:Heap),(names.filter fun y=>y.2==.cell)=[]->cellsFrom n names c=c/\pushCells h names=h
 | [],_,_,_,_=>⟨rfl,rfl⟩
 | (a,k)::r,n,c,h,e=>by
  by_cases q:(k==NameKind.cell)=true
  ·rw[y8,zq (show((a,k).2==NameKind.cell)=true from q)] at e
   cases e
  ·rw[y8,zo (show ¬((a,k).2==NameKind.cell)=true from q)] at e
   unfold cellsFrom pushCells;rw[zo q,zo q];exact Qv n c h e
theorem JH{x:Str}:∀{names:List (Str×NameKind)} (n:Nat) (c:List (Str×Addr)) (h:Heap),(names.filter fun y=>y.2==.cell)=[(x,.cell)]->cellsFrom n names c=(x,n)::c/\pushCells h names=h.push { cls:=.type "cell",data:=.cell none }
 | [],_,_,_,e=>by cases e
 | (a,k)::r,n,c,h,e=>by
  by_cases q:(k==NameKind.cell)=true
  ·rw[y8,zq (show((a,k).2==NameKind.cell)=true from q)] at e
   injection e with g l;cases g;unfold cellsFrom pushCells;rw[zq q,zq q];exact Qv _ _ _ l
  ·rw[y8,zo (show ¬((a,k).2==NameKind.cell)=true from q)] at e
   unfold cellsFrom pushCells;rw[zo q,zo q];exact JH n c h e
theorem Qi{M:Model}{A:Around}{E:Value->Shared->Prop}{s:Shared}{scope:Scope}{globals:Addr}{g:List (Str×Addr)}{qual:Str}{c:Env}{x:Str}{Q:Env->Shared->Prop}(one:(scope.names.filter fun y=>y.2==.cell)=[(x,.cell)])
  (D:Q { scope:=scope,locals:=s.heap.objs.size,globals:=globals,cells:=(x,s.heap.objs.size+1)::g,qual:=qual,func:=none,code:=c.code,frame:=c.frame,builtins:=c.builtins } { s with heap:=(s.heap.push { cls:=.type "dict",data:=.dict #[] }).push { cls:=.type "cell",data:=.cell none } }) :
  wpAny M A (newFunctionEnv scope globals g [] qual none .none (some c)) Q E s:=by
 simp only[newFunctionEnv,Option.isSome_some,if_true];refine zn (wpAny_alloc (zn (wpAny_layCells _ (fun t kind cells=>by cases l:kind==NameKind.cell<;>simp[l]) _ _ _ _ ?_)))
 obtain⟨w,B⟩:=JH (names:=scope.names) (x:=x) (s.heap.push { cls:=.type "dict",data:=.dict #[] }).objs.size g (s.heap.push { cls:=.type "dict",data:=.dict #[] }) one;rw[w,B,qS];exact zn (zA (zA D))
theorem vt{c:Env}{x:Str}:∀{names:List (Str×NameKind)},names.lookup x=some .cell->(names.map fun(n,k)=>if(k==NameKind.free&&c.scope.kind==.function&&c.kindOf n==some .cell) then(n,NameKind.cell) else(n,k)).lookup x=some .cell
 | [],h=>by simp at h
 | (n,k)::r,h=>by
  show List.lookup x ((if(k==NameKind.free&&c.scope.kind==.function&&c.kindOf n==some .cell)=true then(n,NameKind.cell) else(n,k))::_)=some NameKind.cell
  by_cases hx:(x==n)=true
  ·rw[qK,hx] at h
   cases(qU h);split<;>simp[qK,hx]
  ·have g:(x==n)=false:=by simpa using hx
   rw[qK,g] at h;split
   ·rw[qK,g];exact vt h
   ·rw[qK,g];exact vt h
section
variable{X:Cx}{w M t:Expr}{A:List Expr}{scope:Scope}{E:Pos}{O:TI}{g:TG}{L:TT}{G:TE}{x:Str}
theorem WO{Y:List (Addr×Obj)}{σ:St}{H:Hp}{s:Shared}{fp:List Addr}(fr:List Str)(js:List Nat)(I:Inv X Y σ H s)(B:BlkOkC scope.names X.env.scope.names X.N x fr js)(hk:scope.kind=.function)
  (f2:∀b∈fp,jh X Y H b) (fl:∀b∈fp,b<s.heap.objs.size) {D C:Addr} (hD:D=s.heap.objs.size) {h3 h1:Heap} (e3:h3=s.heap.push { cls:=.type "list",dict:=none,data:=.seq ([]:List Value).toArray }) (hC:C=h3.objs.size)
  {m:Str->Option Value} (aa:h1.Ns C m) (a3:h1.IsCell (C+1) none) (k4:∀b o,h3.get? b=some o->h1.get? b=some o) {t4:Nat} :
  Inv (z7 X ([x]++fr) scope x C { s with heap:=h3 } H (D::fp)) [] (upS 1 js σ) H { s with heap:=h1,toks:=t4 }:=by
 have k3:∀b o,s.heap.get? b=some o->h3.get? b=some o:=fun b o e=>by rw[e3];exact zO _ e
 have I3:Inv X Y σ H { s with heap:=h3 }:=I.kept (t':=s.toks) k3;have hz:h3.objs.size=s.heap.objs.size+1:=by rw[e3,qS]
 have J:∀y∈scope.names,y.2=NameKind.free->∃c,X.env.cells.lookup y.1=some c:=fun y hy e=>I.ok.has y.1 (B.free y hy e)
 have Q:∀x c,X.env.cells.lookup x=some c->c<s.heap.objs.size:=fun x c e=>by
  obtain⟨v,q⟩:=I.cell x c e;exact q.lt
 have a4:∀y c,(qg X.env.cells scope.names []).lookup y=some c->c<C:=fun y c e=>by
  have:=Q y c (zR e J);rw[hC,hz];exact jQ this
 have look:∀y c,((x,C+1)::qg X.env.cells scope.names []).lookup y=some c->(y=x/\c=C+1)\/(y≠x/\(qg X.env.cells scope.names []).lookup y=some c):=fun y c e=>by
  rw[qK] at e;by_cases q:(y==x)=true
  ·rw[q] at e
   exact .inl ⟨by simpa using q,(qU e).symm⟩
  ·rw[(w9 _).mp q] at e
   exact .inr ⟨fun z=>q (by simpa using z),e⟩
 refine⟨⟨I.ok.mod,hk,I.ok.glob,I.ok.blt,wc hC.symm,fun y1 y2 c e1 e2=>?_,fun y hy=>?_,fun y c hf e=>?_,fun hc=>I.ok.hd hc,I.ok.frames,.inl rfl,fun b hb=>?_,I3.bs,jU I.ok.bsz I3.sz,fun b o e hb=>?_,fun b hb hf=>?_,I3.stack,I3.stkFree⟩,
  rfl,I.bare,Un.kept k4,⟨m,aa,fun i y v e1 e2 ab=>?_⟩,fun y c e=>?_,?_,fun y c e=>?_,fun p hp=>absurd (show p∈([]:List (Addr×Obj)) from hp) (by simp),I3.hok.kept k4,?_⟩
 ·rcases look _ _ e1 with ⟨T,N⟩ | ⟨T,N⟩<;>rcases look _ _ e2 with ⟨b1,b2⟩ | ⟨b1,b2⟩
  ·rw[T,b1]
  ·have:=a4 _ _ b2
   rw[N] at this;exact absurd this (yY.mpr (wb _))
  ·have:=a4 _ _ N
   rw[b2] at this;exact absurd this (yY.mpr (wb _))
  ·exact I.ok.inj _ _ c (zR N J) (zR b2 J)
 ·by_cases q:y=x
  ·subst q
   exact⟨C+1,by show List.lookup y ((y,C+1)::_)=_;simp[qK]⟩
  obtain⟨k,e,z⟩:∃k,scope.names.lookup y=some k/\(k=.free):=by
   rcases hy with hx | hx
   ·obtain⟨k,e,z⟩:=xH hx
    rcases z with z | z
    ·subst z;exact absurd (B.is (vK e) rfl) q
    ·exact⟨k,e,z.1⟩
   ·obtain⟨k,e,z⟩:=xH hx
    rcases z with z | z
    ·subst z;exact⟨_,e,rfl⟩
    ·exact⟨k,e,z.1⟩
  subst z;refine⟨(X.env.cells.lookup y).getD 0,?_⟩
  show List.lookup y ((x,C+1)::_)=_;rw[qK,show(y==x)=false from by simpa using q]
  exact xD e
 ·rcases look _ _ e with ⟨T,N⟩ | ⟨T,N⟩
  ·rw[N]
   show h3.objs.size<=C+1;rw[hC];exact wb _
  ·exact absurd (by simpa using hf) T
 ·have U:∀b,b<C->∀y c,((x,C+1)::qg X.env.cells scope.names []).lookup y=some c->(∀y c,X.env.cells.lookup y=some c->c≠b)->c≠b:=fun b hb y c e h=>by
   rcases look _ _ e with ⟨T,N⟩ | ⟨T,N⟩
   ·rw[N];exact jI (jQ hb)
   ·exact h y c (zR N J)
  rcases zL.mp hb with z | hb
  ·subst z
   refine⟨by rw[hD,hC,hz];exact zM (j9 _),fun y c e=>U _ (by rw[hD,hC,hz];exact j9 _) y c e fun y c e=>?_⟩
   have:=Q y c e;rw[hD];exact zM this
  ·have a8:b<C:=by rw[hC,hz];exact jQ (fl b hb)
   exact⟨zM a8,fun y c e=>U _ a8 y c e fun y c e=>(f2 b hb).2.2.2.2.1 y c e⟩
 ·rcases zL.mp hb with z | hb
  ·have:=zD (I.bk b o e)
   rw[z,hD] at this;exact jJ _ this
  ·rcases(f2 b hb).2.2.2.1 with z | z
   ·exact I.ok.noex b o e z
   ·exact absurd (jr (zD (I.ok.bs b o e).1) z) (jJ _)
 ·have a6:=zL.mp (I.stkSub b hf)
  rcases zL.mp hb with z | hb
  ·rcases a6 with y | y
   ·have:=I.lt
    rw[<- y,z,hD] at this;exact jJ _ this
   ·exact I.nofs (a:=b) (by rw[z,hD];exact zC _) y
  ·rcases a6 with y | y
   ·exact(f2 b hb).2.1 y
   ·exact(f2 b hb).2.2.1 y
 ·obtain⟨hn,_,j,ej,es⟩:=x8 e2
  have ex:fr[i-1]? =some y:=by
   rw[jB (show([x]:List Str).length<=i from hn)] at e1
   exact e1
  obtain⟨a0,j',a5,eN⟩:=B.fr _ y ex;have:j'=j:=by rw[ej] at a5;exact(qU a5).symm
  subst this;have a7:=B.free _ (vK a0) rfl;obtain⟨m0,_,hl⟩:=I.loc;obtain⟨u,r,l⟩:=hl j' y v eN es (by rcases a7 with z | z;exact .inr (.inl z);exact .inr (.inr z))
  refine⟨u,r,.inr ?_⟩
  have yx:y≠x:=fun z=>by
   have:=B.lk;rw[<- z,a0] at this;cases this
  rcases l with ⟨kl,_⟩ | ⟨_,c,ec,o,eo,ed⟩
  ·have a9:X.env.scope.names.lookup y=some .local:=kl
   rcases a7 with z | z
   ·exact absurd (z.symm.trans a9) (by decide)
   ·exact absurd (z.symm.trans a9) (by decide)
  ·obtain⟨k',e',z⟩:=vq (env:=X.env) a0
   have eq:((x,C+1)::qg X.env.cells scope.names []).lookup y=some c:=by
    rw[qK,show(y==x)=false from by simpa using yx]
    show(qg X.env.cells scope.names []).lookup y=some c;rw[xD a0,ec];rfl
   refine⟨?_,c,eq,o,k4 c o (k3 c o eo),ed⟩
   rcases z with z | z
   ·subst z;exact .inl e'
   ·subst z;exact .inr e'
 ·rcases look _ _ e with ⟨T,N⟩ | ⟨T,N⟩
  ·rw[N];exact⟨none,a3⟩
  ·obtain⟨v,o,eo,ed⟩:=I.cell y c (zR N J)
   exact⟨v,o,k4 c o (k3 c o eo),ed⟩
 ·exact I3.hok.fresh (wc hC.symm)
 ·rcases look _ _ e with ⟨T,N⟩ | ⟨T,N⟩
  ·rw[N]
   exact I3.hok.fresh (by show h3.objs.size<=C+1;rw[hC];exact wb _)
  ·exact I.freeC y c (zR N J)
 ·rw[JX,<- B.len]
  show _=([x]++fr).length;rw[zY];rfl
theorem zf0(fr:List Str)(js:List Nat)(hc:X.calm=true)(hk:scope.kind=.function)(hb:yX scope.names X.env.scope.names X.N x fr js=true)(hi:PI X M t O)
  (hg:∀C s H ex,PG (z7 X ([x]++fr) scope x C s H ex) M g) (hf:∀C s H ex,PF (z7 X ([x]++fr) scope x C s H ex) A L) (he:∀C s H ex,PE (z7 X ([x]++fr) scope x C s H ex) w G)
  (hs:∀x,foldedSetIterable t X.env x=pure x:=by intro _;rfl):PE X (.ListComp w [⟨M,t,A,0⟩] scope E) (tLC O 1 js g L G):=by
 intro a2 s σ H Q I h;have B:=wF hb;have a6:∀y∈scope.names,y.2=NameKind.free->∃c,X.env.cells.lookup y.1=some c:=fun y hy e=>I.ok.has y.1 (B.free y hy e)
 rw[eval_ListComp];refine wpAny_comprehension_free (use:=none) rfl hs (Xv a6) hk (fun y hy e=>B.loc y hy e) (thn (hi a2 s σ H _ I h) fun v s1 h1=>thn h1 fun bg s2 h2=>?_)
 obtain⟨it,Y,tn,J,H2,e,I2,T,af,f2,W,⟨m0,w0⟩,au⟩:=h2;subst e;have fl:∀b∈Y,b<s2.heap.objs.size:=fun b hb=>let ⟨o,e,_⟩:=T.obj _ _ af b hb;zD e
 refine jV (Qi B.one ?_)
 dsimp only;generalize e3:s2.heap.push { cls:=.type "list",dict:=none,data:=.seq ([]:List Value).toArray }=h3;have am:((h3.push { cls:=.type "dict",data:=.dict #[] }).push { cls:=.type "cell",data:=.cell none }).Ns h3.objs.size (fun _=>none):=(Heap.Ns.new h3 (.type "dict")).keeps fun b o e=>zO _ e
 have a1:((h3.push { cls:=.type "dict",data:=.dict #[] }).push { cls:=.type "cell",data:=.cell none }).IsCell (h3.objs.size+1) none:=⟨_,by have:=zQ (h3.push { cls:=.type "dict",data:=.dict #[] }) (o:={ cls:=.type "cell",data:=.cell none }) rfl;rwa[qS] at this,rfl⟩
 have k4:∀b o,h3.get? b=some o->((h3.push { cls:=.type "dict",data:=.dict #[] }).push { cls:=.type "cell",data:=.cell none }).get? b=some o:=fun b o e=>zO _ (zO _ e)
 generalize (h3.push { cls:=.type "dict",data:=.dict #[] }).push { cls:=.type "cell",data:=.cell none }=h1 at am a1 k4;have k3:∀b o,s2.heap.get? b=some o->h3.get? b=some o:=fun b o e=>by rw[<- e3];exact zO _ e
 have I4:Inv (z7 X ([x]++fr) scope x h3.objs.size { s2 with heap:=h3 } H2 (s2.heap.objs.size::Y)) [] (upS 1 js σ) H2 { s2 with heap:=h1 }:=
  WO fr js I2 B hk f2 fl rfl e3.symm rfl am a1 k4
 have I3:Inv X a2 σ H2 { s2 with heap:=h3 }:=I2.kept (t':=s2.toks) k3;have hz:h3.objs.size=s2.heap.objs.size+1:=by rw[<- e3,qS]
 have ac:s2.heap.objs.size≠h3.objs.size:=by rw[hz];exact zM (j9 _)
 have aj:h1.get? s2.heap.objs.size=some { cls:=.type "list",data:=.seq ([]:List Value).toArray }:=k4 _ _ (by rw[<- e3];exact zQ _ rfl)
 generalize eD:s2.heap.objs.size=D at *
 generalize eC:h3.objs.size=C at *
 have fD:∀b∈Y,D≠b:=fun b hb=>jI (fl b hb)
 have look:∀y c,((x,C+1)::qg X.env.cells scope.names []).lookup y=some c->c=C+1\/X.env.cells.lookup y=some c:=fun y c e=>by
  rw[qK] at e;by_cases q:(y==x)=true
  ·rw[q] at e
   exact .inl (qU e).symm
  ·rw[(w9 _).mp q] at e
   exact .inr (zR e a6)
 have hx:∀y c,((x,C+1)::qg X.env.cells scope.names []).lookup y=some c->c≠D:=fun y c e=>by
  rcases look y c e with z | z
  ·rw[z,hz];exact jI (jQ (j9 _))
  ·obtain⟨v,q⟩:=I2.cell y c z
   rw[<- eD];exact zM q.lt
 have b6:∀b∈Y,∀y c,((x,C+1)::qg X.env.cells scope.names []).lookup y=some c->c≠b:=fun b hb y c e=>by
  rcases look y c e with z | z
  ·rw[z,hz];exact jI (jQ (jQ (fl b hb)))
  ·exact(f2 b hb).2.2.2.2.1 y c z
 have aq:∀b∈D::Y,b∉frs X.stack:=I4.ok.exfs;have ay:∀{U:List (Addr×Obj)} {H':Hp} {b:Addr},b∈Y->H' b=none->(∀p∈U,p.1≠b)->jh (z7 X ([x]++fr) scope x C { s2 with heap:=h3 } H2 (D::Y)) U H' b:=fun {U H' b} hb hn hp=>
  ⟨hn,(I4.ok.exf b (z9 _ hb)).1,aq b (z9 _ hb),.inl (z9 _ hb),fun x c e=>b6 b hb x c e,fun p h=>hp p (by simpa using h)⟩
 have az:∀{U:List (Addr×Obj)} {H':Hp},H' D=none->(∀p∈U,p.1≠D)->jh (z7 X ([x]++fr) scope x C { s2 with heap:=h3 } H2 (D::Y)) U H' D:=fun {U H'} hn hp=>
  ⟨hn,ac,aq D jW,.inl jW,fun x c e=>hx x c e,fun p h=>hp p (by simpa using h)⟩
 have a8:∀s4:Shared,s4={ s2 with heap:=h1 } ->
   codeAny (model X.prog X.w) X.A (.compLoop (.ListComp w [⟨M,t,A,0⟩] scope E) 0 (.ref it) (.ref D) (compEnvC scope ((x,C+1)::qg X.env.cells scope.names []) C X.env))
    (compPost (model X.prog X.w) X.A X.xe none (EP X a2 σ Q) (.ref D) C) s4:=by
  intro s4 e4;refine Qz (fun n s'=>∃i ys a0 H',∃z:Nat,Inv (z7 X ([x]++fr) scope x C { s2 with heap:=h3 } H2 (D::Y)) [] (upS 1 js σ) H' s'/\tn i s'.heap/\(∀b∈Y,H' b=none)/\H' D=none /\
   s'.heap.get? D=some { cls:=.type "list",data:=.seq (a0:List Value).toArray z }/\Vals ys a0/\W i n ys H') ?_ m0 ?_
  ·rintro n s5 ⟨i,ys,a0,H5,z5,I5,ar,ah,b1,an,a4,w5⟩
   have ag:=I5.pinned (fp:=[D]) (fun b hb=>by rw[zK.mp hb];exact az b1 (fun p hp=>absurd hp (by simp))) (fun b hb=>by
    rw[zK.mp hb];exact⟨_,an,fun v q=>nomatch q⟩)
   have pD:∀p∈[]++zU [D] s5.heap,p.1=D:=fun p hp=>by
    rw[XM] at hp;exact zK.mp (xC hp).1
   have mD:(D,({ cls:=.type "list",data:=.seq a0.toArray z5 }:Obj))∈[]++zU [D] s5.heap:=by
    rw[XM];exact qD (zK.mpr rfl) an
   have ab:∀{H':Hp},(∀b∈Y,H' b=none)->∀b∈Y,jh (z7 X ([x]++fr) scope x C { s2 with heap:=h3 } H2 (D::Y)) ([]++zU [D] s5.heap) H' b:=fun hn b hb=>ay hb (hn b hb) fun p hp=>by
    rw[pD p hp];exact fD b hb
   rcases au i n ys H5 w5 with ⟨stop,al,q⟩ | ⟨go,N,hN,step⟩
   ·refine thn (T.done (z7 X ([x]++fr) scope x C { s2 with heap:=h3 } H2 (D::Y)) rfl rfl rfl hc i _ s5 _ H5 _ ag (ab ah) ar stop) fun r s6 ⟨hr,I6⟩=>?_
    subst hr;obtain⟨m6,b4,_⟩:=I6.loc;refine⟨m6,b4,fun h7 b5=>?_⟩
    obtain⟨o6,ap,_⟩:=I6.pin (D,_) (qt _ mD);have k7:∀b o,b≠C->s6.heap.get? b=some o->h7.get? b=some o:=fun b o hb e=>b5.extBut b o hb e
    refine⟨.ref D,upd H5 D (.lst ys),?_,rfl,q D ap⟩
    refine I3.call' (s':={ s6 with heap:=h7 }) (ch:=D::Y) I6.os (yg (Wp I6.base (wc eC) k7) jW (I2.hok.fresh ?_)) (wD (Xn I6.hok I6.free k7) ap ⟨al,a0,z5,a4,k7 D _ ac o6⟩) I6.bare fun b hb=>?_
    ·rw[<- eD];exact zC _
    ·rcases zL.mp hb with y | hb
     ·subst y
      refine⟨.inr (by rw[<- eD];exact I2.sz),by rw[<- eD];exact jI I2.lt,fun x c e=>?_,fun p hp=>?_⟩
      ·obtain⟨v,q⟩:=I2.cell x c e
       rw[<- eD];exact zM q.lt
      ·rw[<- eD];exact zM (zD (I2.pin p hp).1)
     ·obtain⟨_,g1,_,g3,g4,g5⟩:=f2 b hb
      exact⟨g3,g1,g4,g5⟩
   ·refine thn (T.item (z7 X ([x]++fr) scope x C { s2 with heap:=h3 } H2 (D::Y)) rfl rfl rfl hc i _ s5 _ H5 _ ag (ab ah) ar go) fun r s6 ⟨u,hr,h6⟩=>?_
    subst hr;refine thn h6 fun _ s7 ⟨x7,H7,I7,r7,y7,a5,b0⟩=>?_
    have aw:=I7.pinned (ab b0) (T.obj _ _ a5);refine thn (hg _ _ _ _ _ s7 _ H7 x7 u _ aw r7 (step x7 H7 y7)) fun _ s8 ⟨σ8,H8,I8,b2,q8⟩=>?_
    refine thn (hf _ _ _ _ _ s8 σ8 H8 _ I8 q8) fun ok s9 ⟨H9,I9,q9⟩=>?_
    have aa:∀{H':Hp} {s':Shared},Inv (z7 X ([x]++fr) scope x C { s2 with heap:=h3 } H2 (D::Y)) (([]++zU [D] s5.heap)++zU Y s7.heap) σ8 H' s' ->
      Inv (z7 X ([x]++fr) scope x C { s2 with heap:=h3 } H2 (D::Y)) [] (upS 1 js σ) H' s':=fun {H' s'} J=>by
     refine(J.unpinned).unpinned.weak (I5.len.trans J.len.symm) fun k v e=>?_
     obtain⟨hn,e1,_⟩:=x8 e;rw[<- b2,XW] at e1;rw[<- e1];congr 1
     omega
    have mF:∀b∈Y,∀o,s7.heap.get? b=some o->(b,o)∈([]++zU [D] s5.heap)++zU Y s7.heap:=fun b hb o e=>qt _ (qD hb e)
    have ao:=we (zU Y s7.heap) mD;have ai:∀{H':Hp} {s':Shared},Inv (z7 X ([x]++fr) scope x C { s2 with heap:=h3 } H2 (D::Y)) (([]++zU [D] s5.heap)++zU Y s7.heap) σ8 H' s'->∀b∈Y,H' b=none:=fun {H' s'} J b hb=>by
     obtain⟨o,e,_⟩:=T.obj _ _ a5 b hb;exact(J.pin (b,o) (qt _ (mF b hb o e))).2.1
    cases ok with
    | false=>
     have ae:N ys H9:=by simpa using q9
     obtain⟨m',hm,w'⟩:=hN _ _ ae;obtain⟨o9,b8,_⟩:=I9.pin (D,_) (qt _ ao);exact⟨m',hm,i+1,ys,a0,H9,z5,aa I9,T.keep _ _ _ a5 fun b hb o e=>(I9.pin (b,o) (qt _ (mF b hb o e))).1,ai I9,b8,o9,a4,w'⟩
    | true=>
     have ae:G σ8 H9 fun y H6=>ys.length<sizeLine/\N (ys++[y]) H6:=by simpa using q9
     refine thn (he _ _ _ _ _ s9 σ8 H9 _ I9 ae) fun yv bb ⟨y,av,a3,ba,b3,bc⟩=>?_
     obtain⟨m',hm,w'⟩:=hN _ _ bc;obtain⟨b9,a9,_⟩:=a3.pin (D,_) (qt _ ao);refine wpAny_list_append_plain (l:=D) (items:=a0.toArray) (hsz:=by rw[zX,<- a4.length];exact vI b3) ⟨_,b9⟩ fun be ak a7=>?_
     obtain⟨bd,ax⟩:=ak;refine⟨m',hm,i+1,ys++[y],a0++[yv],av,bd,?_,T.keep _ _ _ a5 fun b hb o e=>a7.extBut b o (qc (fD b hb)) (a3.pin (b,o) (qt _ (mF b hb o e))).1,ai a3,a9,?_,a4.append (.cons ba .nil),w'⟩
     ·exact(aa a3).turned (t':=bb.toks) (it:=D) (fun b o hb e=>a7.extBut b o hb e) a9 ac (.inl jW) (fun x c e=>hx x c e) fun p hp=>absurd (show p∈([]:List (Addr×Obj)) from hp) (by simp)
     ·rw[ax];simp
  ·subst e4
   exact⟨0,[],[],H2,0,I4,T.keep _ _ _ af fun b hb o e=>k4 b o (k3 b o e),fun b hb=>(f2 b hb).1,I2.hok.fresh (by rw[<- eD];exact zC _),aj,.nil,w0⟩
 exact codeAny_compStart_list (a8 _ rfl) (T.self X.A 0 _ _ _ (T.keep _ _ _ af fun b hb o e=>k4 b o (k3 b o e)) (a8 _ rfl))
theorem zfX{I:Pos}(l:List Str)(D:List Nat)(hc:X.calm=true)(hk:scope.kind=.function)(hb:yX scope.names X.env.scope.names X.N x l D=true)(Q:PI X (.Name x I) t O)
  (N:∀C s H c,PF (z7 X ([x]++l) scope x C s H c) A L) (J:∀C s H c,PE (z7 X ([x]++l) scope x C s H c) w G)
  (T:∀x,foldedSetIterable t X.env x=pure x:=by intro _;rfl):PE X (.ListComp w [⟨.Name x I,t,A,0⟩] scope E) (tLC O 1 D (j4 0) L G):=by
 have B:=wF hb;refine zf0 l D hc hk hb Q (fun C s H c=>?_) N J T
 have U:(compEnvC scope ((x,C+1)::qg X.env.cells scope.names []) C X.env).scope.names.lookup x=some .cell:=vt B.lk;exact zH (X:=z7 X ([x]++l) scope x C s H c) B.nd rfl (.inr U) (.inl (by show(x==x)=true;simp))
end
end L2
namespace L2
end L2
namespace L2
open PySem PySem.W PySem.Spec PyProof.Rows
abbrev bmV:List Value:=[.type "ValueError",.type "Exception",.type "BaseException",.type "object"]
def zhV(K:Frag)(C:Addr)(g:Option Value):Bool:=match K.lookup C with
 | some ⟨.type "type",_,.cls c,t⟩=>(match c.mro with
  | .ref l::s=>(match t.toList with
   | [_,_,_,_,some (.builtin n),_]=>l==C&&(n == "ValueError.__new__" && (!c.hasDel&&(tailIn K bmV s&&(nsOkIn K c.ns&&nsIn K c.ns "__init__" == some g))))
   | _=>false)
  | _=>false)
 | _=>false
structure Xc(h:Heap)(C:Addr)(ini:Option Value):Prop where
 is:∃(bm:List Value) (N:Addr) (nm qn:Str) (bs:List Value) (hd:Bool) (sn:List Str) (sub:List Value) (ab:Bool) (col:Option Bool) (dd:Option Addr) (k0 k1 k2 k3 k5:Option Value) (mN:Str->Option Value),
  h.get? C=some (excClassObj nm qn C N bs bm hd sn sub ab col dd k0 k1 k2 k3 k5 "ValueError.__new__")/\h.Ns N mN/\mN "__init__" = ini/\OwnTail h bmV bm
end L2
namespace L2
open PySem PySem.W PySem.Spec PyProof.Rows
section
variable{P:Program}{w:World}{H:Hp}{h c:Heap}{a:Addr}{o:HO}
theorem ObjOk.has(x:ObjOk P w H h a o):∃u,h.get? a=some u:=by
 cases o with
 | lst s=>obtain⟨_,_,_,_,e⟩:=x;exact⟨_,e⟩
 | tup s=>obtain⟨_,_,_,⟨u,e,_⟩,_⟩:=x;exact⟨u,e⟩
 | dK g=>obtain⟨_,_,_,_,u,_,_,e,_⟩:=x;exact⟨u,e⟩
 | dT g=>obtain⟨_,_,_,_,u,_,_,e,_⟩:=x;exact⟨u,e⟩
 | set S n=>obtain⟨u,_,_,_,e,_⟩:=x;exact⟨u,e⟩
 | ins C t l=>obtain⟨_,_,_,e,_⟩:=x;exact⟨_,e⟩
 | own y=>obtain⟨u,e⟩:=x;exact⟨u,e⟩
 | xd l=>obtain⟨_,⟨u,_,_,e,_⟩,_⟩:=x;exact⟨u,e⟩
 | rng lo A=>obtain⟨_,_,_,e⟩:=x;exact⟨_,e⟩
 | frz B u=>obtain⟨e,_⟩:=x;exact⟨_,e⟩
 | tbl ps=>exact⟨_,show h.get? a=some _ from x⟩
 | met f y=>exact⟨_,show h.get? a=some _ from x⟩
 | ext φ=>obtain⟨_,⟨u,e⟩,_⟩:=x;exact⟨u,e⟩
theorem HOk.none_of(x:HOk P w H h)(e:h.get? a=none):H a=none:=by
 cases q:H a with
 | none=>rfl
 | some u=>obtain⟨z,g⟩:=(x a u q).has;rw[e] at g;cases g
end
section
variable{X:Cx}{g:List (Addr×Obj)}{σ:St}{H:Hp}{s:Shared}{l:Heap}
theorem Inv.laidN{a:Addr}{o:HO}{t':Nat}(I:Inv X g σ H s)(k:∀b u,s.heap.get? b=some u->l.get? b=some u)(A:s.heap.get? a=none)(w:ObjOk X.prog X.w (upd H a o) l a o) :
  Inv X g σ (upd H a o) { s with heap:=l,toks:=t' }:=by
 have D:=I.hok.none_of A;have ne:∀b u,s.heap.get? b=some u->b≠a:=fun b u q z=>by rw[z,A] at q;cases q
 have t:∀b u,H b=some u->b≠a:=fun b u q z=>by rw[z,D] at q;cases q
 refine I.un ⟨fun b u q _ _ _=>k b u q,fun b u q _ _ _=>⟨u.slots,k b u q⟩,fun b u q n _=>by rw[zw (ne b u q)];exact n,fun b u q _=>⟨u,k b u q⟩,
  fun b B q=>by rw[zw (t b _ q)];exact q,fun b u B q=>by rw[zw (t b _ q)];exact q,fun b ps q=>⟨#[],by rw[zw (t b _ q),q];simp⟩⟩ ?_
 intro b u e;by_cases hb:b=a
 ·subst hb;rw[zg] at e;cases e;exact w
 ·rw[zw hb] at e
  exact(I.hok b u e).stay (fun c v _ q=>k c v q) (fun c q=>by rw[zw (t c _ q)];exact q) fun c B q=>by rw[zw (t c _ q)];exact q
end
section
variable{c:Program}{w:World}{A:Around}{E:Value->Shared->Prop}{h:Heap}{g:Array GenState}{d:Drawn}{t:Nat}{os:OsState}{C:Addr}
end
section
variable{l:Program}{w:World}{A:Around}{E:Value->Shared->Prop}{h:Heap}{g:Array GenState}{d:Drawn}{t:Nat}{os:OsState}
variable{Q q:Str}{C N:Addr}{G D:List Value}{c:Bool}{sn:List Str}{sub:List Value}{B:Bool}{s:Option Bool}{H:Option Addr}{I J L M O:Option Value}
end
end L2
namespace L2
open PySem PySem.W PySem.Spec PyProof.Rows
structure XK2(K:Frag)(C:Addr)(ini:Option Value):Prop where
 cls:zhV K C ini=true
 sa:findIn K (.ref C) "__setattr__" = some (some (.builtin "object.__setattr__"))
 ga:findIn K (.ref C) "__getattribute__" = some (some (.builtin "BaseException.__getattribute__"))
 gh:findIn K (.ref C) "__getattr__" = some none
 ob:mroIn K C (.type "object")=some true
 be:mroIn K C (.type "BaseException")=some true
 hd:hasDictIn K C=true
section
variable{c:Program}{w:World}{A:Around}{E:Value->Shared->Prop}{h:Heap}{g:Array GenState}{d:Drawn}{t:Nat}{os:OsState}{K:Frag}{C e s:Addr}{l:Option Value}{f:Str}{v:Value}
end
end L2
namespace L2
open PySem PySem.W PySem.Spec PyProof.Rows
section
variable{c:Program}{w:World}{A:Around}{E:Value->Shared->Prop}{h:Heap}{g:Array GenState}{d:Drawn}{t:Nat}{os:OsState}{K:Frag}{C e G s:Addr}{D:Option Addr}{l:Option Value}{f:Str}{v:Value}{B:Str->Option Value}
end
end L2
namespace L2
open PySem PySem.W PySem.Spec PyProof.Rows
structure XKc(K:Frag)(C:Addr):Prop where
 lk:findIn K (.ref C) "__class__" = some (some (.builtin "object.__class__"))
 gt:specialIn K (.builtin "object.__class__") "__get__" = some (some (.builtin "getset_descriptor.__get__"))
 tk:takesIn K (.builtin "object.__class__")=some true
section
variable{c:Program}{w:World}{A:Around}{E:Value->Shared->Prop}{h:Heap}{g:Array GenState}{d:Drawn}{t:Nat}{os:OsState}{K:Frag}{C s e G:Addr}{B:Option Addr}{l:Option Value}{D:Option Obj}
end
end L2
namespace L2
open PySem PySem.W PySem.Spec PyProof.Rows
structure XOk(K:Frag)(C:Addr)(ini:Option Value):Prop where
 k:XK2 K C ini
 c:XKc K C
 kp:keepIn K (.ref C)=true
 ty:typeIn K (.ref C)=some (.type "type")
 cd:∃cd,clsIn K C=some cd
 ve:mroIn K C (.type "ValueError")=some true
section
variable{X:Cx}{A:CXT}{k:Nat}{f C:Addr}{G:FuncData}{ps:List Str}{B:List Value}{l:List V}{H:Sp}{E:XK}{x m:Str}{p w g:Pos}{e o c:Expr}{D:List Expr}{t:TA}{I J:TE}{s:Option Value}
end
end L2
namespace L2
open PySem PySem.W PySem.Spec PyProof.Rows
section
variable{X:Cx}
end
structure Xs(K:Frag)(mg:Str->Option Value)(x:Str)(C:Addr)(ini:Option Value):Prop where
 ok:XOk K C ini
 gl:mg x=some (.ref C)
structure XsI(P:Program)(w:World)(K:Frag)(mg:Str->Option Value)(base:Heap)(x:Str)(C f:Addr)(k:Nat)(ps:List Str)(sp:Sp):Prop extends Xs K mg x C (some (.ref f)) where
 ex:∃fd oF,FnOk P w K mg base CX0 k f fd ps sp/\K.lookup f=some oF/\oF.cls=.type "function" /\ Binds K fd ps []
section
variable{X:Cx}{x:Str}{k:Nat}{C f:Addr}{ps:List Str}{l:Sp}{p c:Pos}{e:Expr}{g:List Expr}{t:TA}
end
end L2
namespace L2
open PySem PySem.Spec PyProof.Rows
theorem Jk:∀{g:List Value} {c:List Str},StrsAre g c->Vals (c.map V.str) g
 | _,_,.nil=>.nil
 | _,_,.cons n t r=>.cons ⟨t,rfl⟩ (Jk r)
section
variable{X:Cx}
end
section
variable{c:Program}{w:World}{κ:Type}[DecidableEq κ]{g:PySem.KeyKind c w κ}{A:Around}{E:Value->Shared->Prop}{s:Shared}
end
section
variable{c:Program}{w:World}{κ:Type}[DecidableEq κ]{g:PySem.KeyKind c w κ}
end
section
variable{X:Cx}{l ty s:TE}{o e f:Expr}{c g:Pos}
end
theorem zdb{P:Program}{w:World}{k:Key}{u:Value}(h:(zN P w).is k u=true):RelV (kV k) u:=by
 rw[WF] at h;rcases qH h with ⟨i,t,rfl,rfl⟩ | ⟨x,t,rfl,rfl⟩
 ·exact⟨t,rfl⟩
 ·exact⟨t,rfl⟩
theorem KV.get:∀{c:List (Key×V)} {g:List (Key×Value)} {j:Nat} {q:Key×Value},KV c g->g[j]? =some q->∃p,c[j]? =some p/\p.1=q.1/\RelV p.2 q.2
 | _,_,j,_,.nil,e=>by simp at e
 | _,_,0,_,.cons h _,e=>by simp at e;subst e;exact⟨_,rfl,h⟩
 | _,_,j+1,_,.cons _ t,e=>by
  obtain⟨p,l,r⟩:=KV.get (j:=j) t (by simpa using e)
  exact⟨p,by simpa using l,r⟩
section
variable{X:Cx}
end
section
variable{X:Cx}{l ty:TE}{o e:Expr}{c g:Pos}
end
section
variable{X:Cx}
end
theorem KV.back:∀{c:List (Key×V)} {g:List (Key×Value)} {j:Nat} {p:Key×V},KV c g->c[j]? =some p->∃q,g[j]? =some q/\p.1=q.1
 | _,_,j,_,.nil,e=>by simp at e
 | _,_,0,_,.cons h _,e=>by simp at e;subst e;exact⟨_,rfl,h.1⟩
 | _,_,j+1,_,.cons _ t,e=>by
  obtain⟨q,l,r⟩:=KV.back (j:=j) t (by simpa using e)
  exact⟨q,by simpa using l,r⟩
section
variable{X:Cx}{c:Expr}
end
open Sem (wp)
section
variable{c:Program}{w:World}{A:Around}{E:Value->Shared->Prop}{s:Shared}
end
section
variable{c:Program}{w:World}{A:Around}{E:Value->Shared->Prop}{h:Heap}{g:Array GenState}{d:Drawn}{t:Nat}{os:OsState}{a:Addr}{n:Nat}{l:Array Value}
end
end L2
namespace L2
open PySem PySem.Spec PyProof.Rows
section
variable{c:Program}{w:World}{K:Type}[DecidableEq K]{t:KeyKind c w K}{A:Around}{R:Result->Shared->Prop}{B l D:Addr}{g:Array Value}{s:List (K×Value)}{res:Value}
end
section
variable{c:Program}{w:World}{K:Type}[DecidableEq K]{g:KeyKind c w K}{A:Around}{E:Value->Shared->Prop}{s:Shared}
end
def PrsL(H:Hp)(g:List V)(c:List (Key×V)):Prop:=g.length=c.length/\∀(j:Nat) (x:V),g[j]? =some x->∃(T:Addr) (k:Key) (v:V),x=.ref T/\H T=some (.tup [kV k,v])/\c[j]? =some (k,v)
theorem PrsL.nil{H:Hp}:PrsL H [] []:=⟨rfl,fun j x e=>by simp at e⟩
theorem PrsL.same{H l:Hp}{xs:List V}{g:List (Key×V)}(h:PrsL H xs g)(s:Same H l):PrsL l xs g:=⟨h.1,fun j x e=>let ⟨T,k,v,a,b,c⟩:=h.2 j x e;⟨T,k,v,a,s _ _ b,c⟩⟩
theorem PrsL.snoc{H:Hp}{t:List V}{s:List (Key×V)}{T:Addr}{k:Key}{v:V}(h:PrsL H t s)(e:H T=some (.tup [kV k,v])):PrsL H (t++[.ref T]) (s++[(k,v)]):=by
 refine⟨by rw[zY,zY,h.1];rfl,fun j x g=>?_⟩
 have l:=h.1;by_cases A:j<t.length
 ·rw[jR A] at g
  obtain⟨w,B,D,a,b,c⟩:=h.2 j x g;exact⟨w,B,D,a,b,by rw[jR (by omega)];exact c⟩
 ·rw[jB (by omega)] at g
  have:j=t.length:=by
   have:=(zT.mp g).1;simp at this;omega
  subst this;simp at g;subst g;exact⟨T,k,v,rfl,e,by rw[l,jB (zC _)];simp⟩
theorem Vals.at:∀{c:List V} {g:List Value} {i:Nat} {u:Value},Vals c g->g[i]? =some u->∃x,c[i]? =some x/\RelV x u:=fun {c g i u} r e=>by
 have l:=Vals.length r;have h:=(zT.mp e).1;obtain⟨v,s,t⟩:=r.get (i:=i) (x:=c[i]'(by omega)) (qo _)
 rw[e] at s;cases s;exact⟨_,qo _,t⟩
section
variable{X:Cx}
end
section
variable{X:Cx}{l G c:Expr}{s:List Expr}{scope:Scope}{t:Pos}{I:TI}{g:TG}{E:TT}{D:TE}{x:Str}
variable{y:Str}{A B H:Pos}{w:Nat}
end
def Up(c:Array Nat):Prop:=c.toList.Pairwise (·< ·)
theorem Up.lt{g:Array Nat}(h:Up g){i j:Nat}{a b:Nat}(A:g[i]? =some a)(B:g[j]? =some b)(c:i<j):a<b:=by
 have t:=Yh.mp A;have w:=Yh.mp B;obtain⟨D,l⟩:=t;obtain⟨E,s⟩:=w;have:=Yg.mp h i j (by simpa using D) (by simpa using E) c
 simpa [l,s] using this
theorem QB(l:Array Nat)(j:Nat):∀(fuel lo g:Nat),g-lo<=fuel->lo<=g->g<=l.size->Up l->(∀i a,i<lo->l[i]? =some a->a<j)->(∀i a,g<=i->l[i]? =some a->j<=a) ->
  SetTable.below.go l j fuel lo g<=l.size/\(∀i a,i<SetTable.below.go l j fuel lo g->l[i]? =some a->a<j)/\∀i a,SetTable.below.go l j fuel lo g<=i->l[i]? =some a->j<=a
 | 0,lo,g,G,H,A,u,t,w=>by
  have e:g=lo:=by omega
  subst e;exact⟨A,t,w⟩
 | fuel+1,lo,g,G,H,A,u,t,w=>by
  unfold SetTable.below.go;by_cases c:lo<g
  ·rw[zq c]
   dsimp only;have B:(lo+g)/2<l.size:=by omega
   have s:l[(lo+g)/2]? =some (l[(lo+g)/2]'B):=xP B;have E:l.getD ((lo+g)/2) j=l[(lo+g)/2]'B:=by rw[xQ,s];rfl
   rw[E];by_cases d:l[(lo+g)/2]'B<j
   ·rw[zq d]
    refine QB l j fuel _ g (by omega) (by omega) A u (fun i a D e=>?_) w
    by_cases q:i=(lo+g)/2
    ·subst q;rw[s] at e;cases e;exact d
    ·have:=u.lt e s (by omega)
     omega
   ·rw[zo d]
    refine QB l j fuel lo _ (by omega) (by omega) (by omega) u t fun i a D e=>?_
    by_cases q:i=(lo+g)/2
    ·subst q;rw[s] at e;cases e;omega
    ·have:=u.lt s e (by omega)
     omega
  ·rw[zo c]
   have e:g=lo:=by omega
   subst e;exact⟨A,t,w⟩
theorem Wm{c:Array Nat}(u:Up c)(j:Nat):SetTable.below c j<=c.size/\(∀i a,i<SetTable.below c j->c[i]? =some a->a<j)/\∀i a,SetTable.below c j<=i->c[i]? =some a->j<=a:=by
 unfold SetTable.below;exact QB c j c.size 0 c.size (by omega) (qk _) (zC _) u (fun i a h=>absurd h (jL _)) fun i a h e=>absurd (Yh.mp e).1 (by omega)
theorem Wn{g:Array Nat}(u:Up g){i:Nat}{j:Nat}(D:i<=g.size)(w:∀k a,k<i->g[k]? =some a->a<j)(A:∀k a,i<=k->g[k]? =some a->j<=a):SetTable.below g j=i:=by
 obtain⟨B,s,t⟩:=Wm u j;by_cases c:SetTable.below g j<i
 ·have l:SetTable.below g j<g.size:=by omega
  have e:=xP l;have:=w _ _ c e;have:=t _ _ (zC _) e;omega
 ·by_cases d:i<SetTable.below g j
  ·have l:i<g.size:=by omega
   have e:=xP l;have:=s _ _ d e;have:=A _ _ (zC _) e;omega
  ·omega
theorem zaW{c:Array Nat}(u:Up c){j:Nat}(J:c[SetTable.below c j]?≠some j):Up (SetTable.insertAt c (SetTable.below c j) j):=by
 obtain⟨L,E,l⟩:=Wm u j;unfold Up SetTable.insertAt;generalize SetTable.below c j=p at *
 have H:((c.extract 0 p).push j++c.extract p c.size).toList=c.toList.take p++(j::c.toList.drop p):=by
  simp[Array.toList_extract,List.extract_eq_drop_take];exact X3 (by simp)
 rw[H,List.pairwise_append];have D:c.toList.Pairwise (·< ·):=u
 refine⟨D.sublist (WV _ _),Zb.mpr ⟨fun a t=>?_,D.sublist (List.drop_sublist _ _)⟩,fun a t b hb=>?_⟩
 ·obtain⟨k,hk,e⟩:=zdE.mp t
  have g:c[k+p]? =some a:=by rw[<- Zv,zT];exact⟨by omega,by rw[<- e];congr 1;omega⟩
  have:=l (k+p) a (by omega) g
  by_cases q:k=0
  ·subst q
   rw[Nat.zero_add] at g;exact Nat.lt_of_le_of_ne this fun z=>J (by rw[g,z])
  ·have A:p<c.size:=by rw[j8] at hk;omega
   have:=l p _ (zC _) (xP A);have:=u.lt (xP A) g (by omega)
   omega
 ·obtain⟨k,hk,e⟩:=List.mem_take_iff_getElem.mp t
  have g:c[k]? =some a:=by rw[<- Zv,zT];exact⟨by omega,e⟩
  have w:=E k a (by omega) g
  rcases zL.mp hb with z | z
  ·rw[z];exact w
  ·obtain⟨B,I,G⟩:=zdE.mp z
   have s:c[B+p]? =some b:=by rw[<- Zv,zT];exact⟨by omega,by rw[<- G];congr 1;omega⟩
   have:=l (B+p) b (by omega) s
   omega
structure TabOk(b:Bool)(t:SetTable):Prop where
 up:Up t.place
 no:t.dummies=#[]
 led:t.led=b
theorem V1(j:Nat):SetTable.has #[] j=false:=by
 unfold SetTable.has;rw[show(#[]:Array Nat)[SetTable.below #[] j]? =none from X1 (by simp)]
 rfl
theorem za7{t:SetTable}(h:t.dummies=#[])(j:Nat):(t.slot j=.empty/\t.place[SetTable.below t.place j]?≠some j)\/∃i,t.slot j=.live i:=by
 unfold SetTable.slot;rw[h,V1];dsimp only;by_cases c:(t.place[SetTable.below t.place j]? ==some j)=true
 ·rw[zq c]
  exact .inr ⟨_,rfl⟩
 ·rw[zo c,zo qF]
  exact .inl ⟨rfl,fun z=>c (by rw[z];simp)⟩
theorem Ji(t:SetTable)(p:SetTable.Probe):(t.advance p).dummy=p.dummy:=by
 unfold SetTable.advance;split
 ·rfl
 ·rfl
theorem Zh{t:SetTable}(g:t.dummies=#[]){f:Nat->Int}{h:Int}:∀(fuel:Nat) (p:SetTable.Probe) (j:Nat) (d:Option Nat),SetTable.probe.go t f h fuel p=some (.empty j d)->t.place[SetTable.below t.place j]?≠some j/\d=p.dummy
 | 0,p,j,d,e=>by unfold SetTable.probe.go at e;cases e
 | fuel+1,p,j,d,e=>by
  unfold SetTable.probe.go at e;rcases za7 g p.j with ⟨l,s⟩ | ⟨i,c⟩
  ·rw[l] at e
   cases e;exact⟨s,rfl⟩
  ·rw[c] at e
   dsimp only at e;split at e
   ·cases e
   ·have:=Zh g fuel _ j d e
    rw[Ji] at this;exact this
theorem zeF{t:SetTable}(l:t.dummies=#[]){h:Int}{s:Nat}{w:Bool}(e:t.freeSlot h=some (s,w)):t.place[SetTable.below t.place s]?≠some s:=by
 unfold SetTable.freeSlot SetTable.probe at e;split at e
 ·rename_i j d q
  obtain⟨c,g⟩:=Zh l _ _ _ _ q;cases(show d=none from g)
  cases e;exact c
 ·cases e
theorem zbT(n:Nat):Up (Array.range n):=by
 unfold Up;rw[Array.toList_range];exact Yc
theorem TabOk.stand{b:Bool}{t:SetTable}(h:TabOk b t)(n:Nat):TabOk b (t.standIn n):=⟨zbT n,rfl,h.led⟩
theorem TabOk.plain{b p:Bool}{t:SetTable}(h:TabOk b t):TabOk b { t with plain:=p }:=⟨h.up,h.no,h.led⟩
theorem TabOk.or{b:Bool}{t:SetTable}(h:TabOk b t)(n:Nat):TabOk b (t.orStandIn n):=by
 unfold SetTable.orStandIn;split
 ·exact h
 ·exact h.stand n
theorem TabOk.layNew{b:Bool}{t:SetTable}(h:TabOk b t)(g:Array (Int×Value))(k:Int)(x:Value):TabOk b (layNew t g k x).2.1:=by
 unfold PySem.layNew;split
 ·rename_i c w e
  have l:TabOk b (t.put c).1:=⟨zaW h.up (zeF h.no e),by
   show(if SetTable.has t.dummies c=true then _ else t.dummies)=#[]
   rw[h.no,V1];rfl,h.led⟩
  exact l.or _
 ·exact h.stand _
theorem zdW{α:Type}(m:Nat)(f:Nat->Option α):(((List.range m).filterMap fun j=>(f j).map (j,·)).map (·.1)).Pairwise (·< ·):=by
 have g:∀l:List Nat,((l.filterMap fun j=>(f j).map (j,·)).map (·.1)).Sublist l:=fun l=>by
  induction l with
  | nil=>exact .slnil
  | cons x l c=>
   rw[XX];cases f x with
   | none=>exact c.cons _
   | some y=>exact c.cons₂ _
 exact List.Pairwise.sublist (g _) Yc
theorem TabOk.relay{b:Bool}{t:SetTable}(h:TabOk b t)(s:Array (Int×Value))(n:Nat):TabOk b (relayAll t s n).2.1:=by
 unfold relayAll;split
 ·rename_i w g e
  dsimp only;split
  ·unfold SetTable.relaid SetTable.laid at e
   obtain⟨c,_,l⟩:=Option.bind_eq_some_iff.mp e;cases l;refine⟨?_,rfl,h.led⟩
   exact zdW _ fun j=>c.getD j none
  ·exact h.stand _
 ·exact h.stand _
theorem TabOk.fresh(b:Bool):TabOk b (.fresh 0 0 b):=⟨List.Pairwise.nil,rfl,rfl⟩
theorem zbi{α:Type}{l:List α}{x:α}(h:l.Nodup)(hx:x∉l):(l++[x]).Nodup:=by
 rw[Zu];exact⟨h,by simp,fun a c b hb e=>hx (by rw[zK] at hb;rw[<- hb,<- e];exact c)⟩
theorem Zj{α β:Type}{R:α->β->Prop}{B s:List β}(p:s.Perm B):∀{g:List α},Paired R g B->∃c,c.Perm g/\Paired R c s:=by
 induction p with
 | nil=>intro g h;exact⟨g,.refl _,h⟩
 | cons y _ H=>
  intro g h;cases h with
  | cons r t=>
   obtain⟨c,I,D⟩:=H t;exact⟨_::c,I.cons _,.cons r D⟩
 | swap y z l=>
  intro g h;cases h with
  | cons r t=>
   cases t with
   | cons M N=>exact⟨_,.swap _ _ _,.cons M (.cons r N)⟩
 | trans _ _ w A=>
  intro g h;obtain⟨Q,J,E⟩:=A h;obtain⟨O,L,G⟩:=w E;exact⟨O,L.trans J,G⟩
theorem Qh{α β:Type}{R:α->β->Prop}{x:α}{y:β}(r:R x y):∀{c:List α} {g:List β},Paired R c g->Paired R (c++[x]) (g++[y])
 | _,_,.nil=>.cons r .nil
 | _,_,.cons h t=>.cons h (Qh r t)
theorem Qf{α β:Type}{R:α->β->Prop}:∀{c:List α} {g:List β},Paired R c g->(∀x∈c,∃y∈g,R x y)/\∀y∈g,∃x∈c,R x y
 | _,_,.nil=>⟨fun x h=>(nomatch h),fun y h=>(nomatch h)⟩
 | _,_,.cons h t=>by
  obtain⟨a,b⟩:=Qf t;refine⟨fun x hx=>?_,fun y hy=>?_⟩
  ·rcases zL.mp hx with z | z
   ·rw[z];exact⟨_,jW,h⟩
   ·obtain⟨y,hy,r⟩:=a x z
    exact⟨y,z9 _ hy,r⟩
  ·rcases zL.mp hy with z | z
   ·rw[z];exact⟨_,jW,h⟩
   ·obtain⟨x,hx,r⟩:=b y z
    exact⟨x,z9 _ hx,r⟩
section
variable{B:Program}{w:World}{K:Type}[DecidableEq K](l:KeyKind B w K)
def ElX(g:List (Int×Value))(t:List K):Prop:=ElemsOf l g/\∃c,c.Perm t/\Paired (fun k (e:Int×Value)=>l.is k e.2=true) c g
def ObX(b:Bool)(o:Obj)(g:List K):Prop:=∃c D t,o.ExactSet/\o.data=.set c D t/\ElX l c.toList g/\g.Nodup/\c.size<scanBound/\t.fits c.size=true/\TabOk b t
def SetX(b:Bool)(h:Heap)(a:Addr)(c:List K):Prop:=∃o,h.get? a=some o/\ObX l b o c
variable{l}
theorem ElX.perm{D c:List (Int×Value)}{G:List K}(h:ElX l D G)(p:c.Perm D):ElX l c G:=by
 obtain⟨H,I,J,M⟩:=h;obtain⟨g,L,t⟩:=Zj p M;exact⟨H.perm p,g,L.trans J,t⟩
theorem ElX.len{c:List (Int×Value)}{g:List K}(h:ElX l c g):c.length=g.length:=by
 obtain⟨_,t,D,G⟩:=h;rw[<- D.length_eq];exact(QI G).symm
theorem ElX.mem{c:List (Int×Value)}{g:List K}(h:ElX l c g)(k:K):k∈g↔∃e∈c,l.is k e.2=true:=by
 obtain⟨_,D,G,H⟩:=h;obtain⟨a,b⟩:=Qf H;rw[<- G.mem_iff];refine⟨a k,fun ⟨e,t,r⟩=>?_⟩
 obtain⟨J,hk,I⟩:=b e t;rwa[l.inj _ _ _ r I]
theorem ElX.snoc{g:List (Int×Value)}{t:List K}(h:ElX l g t){k:K}{x:Value}(hk:l.is k x=true)(hx:x.scannable=true):ElX l (g++[(l.hash k,x)]) (t++[k]):=by
 obtain⟨D,c,G,H⟩:=h;exact⟨D.push hk hx,c++[k],G.append_right _,Qh (R:=fun k (e:Int×Value)=>l.is k e.2=true) hk H⟩
theorem SetX.at{b:Bool}{h c:Heap}{a:Addr}{g:List K}(x:SetX l b h a g)(k:∀o,h.get? a=some o->c.get? a=some o):SetX l b c a g:=let ⟨o,e,r⟩:=x;⟨o,k o e,r⟩
variable{A:Around}{E:Value->Shared->Prop}{s:Shared}
theorem zhe{b:Bool}{h:Heap}{a:Addr}{o:Obj}{N:Array (Int×Value)}{I:Nat}{t:SetTable}(Q:h.get? a=some o)(G:o.ExactSet)(L:o.data=.set N I t){c:Array (Int×Value)}{D:SetTable}{J:List K}(M:ElX l c.toList J)(T:J.Nodup)
  (hb:c.size<scanBound) (O:D.fits c.size=true) (U:TabOk b D):∃H,(h.update a (Obj.putSet c D)).get? a=some H/\H.ExactSet/\H.data=.set c (I+1) D/\ObX l b H J:=by
 have g:=wf (Obj.putSet c D) Q (by rw[putSet_of c D L];rfl)
 rw[putSet_of c D L] at g;exact⟨_,g,G,rfl,c,I+1,D,G,rfl,M,T,hb,O,U⟩
theorem zeY{b:Bool}{g:Bool->Sem Unit}(hg:∀(c:Bool) (s1:Shared) (Q:Unit->Shared->Prop),Q () s1->wpAny (model B w) A (g c) Q E s1){a:Addr}{o:Obj}{es:Array (Int×Value)}{ep:Nat}{t:SetTable}(ho:s.heap.get? a=some o)(L:o.ExactSet)
  (Y:o.data=.set es ep t) {D:Array (Int×Value)} {H:SetTable} {M:List K} (U:ElX l D.toList M) (nd:M.Nodup) (hb:D.size<scanBound) (hf:H.fits D.size=true) (tb:TabOk b H) {G:Bool} {R:Option Bool->Shared->Prop}
  (h:∀J,Heap.SameBut a s.heap J->SetX l b J a M->R (some true) { s with heap:=J }) :
  wpAny (model B w) A (storeSet a D H >>= fun _=>if(!G&&H.tooFull)=true then g (relayAll H D (SetTable.grown D.size)).2.2 >>= fun _=>storeSet a (relayAll H D (SetTable.grown D.size)).1 (relayAll H D (SetTable.grown D.size)).2.1 >>= fun _=>pure (some true) else pure (some true)) R E s:=by
 obtain⟨o1,I,x1,T,N⟩:=zhe ho L Y U nd hb hf tb;have sb:=QD s.heap a (Obj.putSet D H);refine zn (wpAny_storeSet_of ho Y ?_ (fits_of_scanBound hb))
 split
 ·have pm:=relayAll_perm H D (SetTable.grown D.size)
  have ft:=relayAll_fits H D (SetTable.grown D.size);have tr:=tb.relay D (SetTable.grown D.size);have sz:(relayAll H D (SetTable.grown D.size)).1.size=D.size:=by have:=pm.length_eq;rwa[j8,j8] at this
  obtain⟨o2,g2,x2,d2,O⟩:=zhe I x1 T (U.perm pm) nd (by rw[sz];exact hb) ft tr
  exact zn (hg _ _ _ (zn (wpAny_storeSet_of I T (zA (h _ (sb.trans (QD _ a _)) ⟨o2,g2,O⟩)) (fits_of_scanBound (by rw[sz];exact hb)))))
 ·exact zA (h _ sb ⟨o1,I,N⟩)
theorem zic{b:Bool}{a:Addr}{g:List K}{k:K}{x:Value}{Q:Bool->Shared->Prop}(D:l.is k x=true)(N:x.scannable=true)(hS:SetX l b s.heap a g)(M:g.length+1<scanBound)
  (h:∀I c,Heap.SameBut a s.heap I->SetX l b I a (if k∈g then g else g++[k])->Q c { s with heap:=I }):wpAny (model B w) A (setAddHashed a x (l.hash k)) Q E s:=by
 obtain⟨o,ho,O,ep,t,J,hd,G,nd,hb,hf,tb⟩:=hS;have ln:=G.len;rw[j8] at ln;unfold setAddHashed setAddHashedIn;refine xO (zn (Za ho hd hf ?_));dsimp only
 rw[byScan_of N hb G.1,zq rfl];unfold setAddByScan;refine zn (zn (x5 (zn (wpAny_setScan_of D ho hd hf G.1 ?_))))
 cases hr:List.findIdx? (fun e=>l.is k e.2) O.toList with
 | some j=>
  obtain⟨hj,a1,_⟩:=List.findIdx?_eq_some_iff_getElem.mp hr
  have hk:k∈g:=(G.mem k).mpr ⟨_,jM hj,a1⟩;have:=h s.heap false (Heap.SameBut.refl a s.heap) (by rw[zq hk];exact⟨o,ho,O,ep,t,J,hd,G,nd,hb,hf,tb⟩)
  exact zA (zA this)
 | none=>
  have hk:k∉g:=fun z=>by
   obtain⟨e,he,r⟩:=(G.mem k).mp z;have:=List.findIdx?_eq_none_iff.mp hr e he
   rw[r] at this;cases this
  rw[zo hk] at h;have gw:∀(c:Bool) (s1:Shared) (Q':Unit->Shared->Prop),Q' () s1->wpAny (model B w) A (match c with | true=>rule "set.scan.the-table-gave-way" | false=>pure ()) Q' E s1:=fun c s1 Q' hq=>by
   cases c
   ·exact zA hq
   ·exact x5 hq
  have pm:=layNew_perm t O (l.hash k) x;have U:=layNew_fits t O (l.hash k) x;have tn:=tb.layNew O (l.hash k) x;generalize layNew t O (l.hash k) x=L at pm U tn;obtain⟨T,t1,wd,a2⟩:=L;dsimp only at pm U tn ⊢;rw[Array.toList_push] at pm;have H:ElX l T.toList (g++[k]):=(G.snoc D N).perm pm;have l1:=H.len;rw[j8,zY] at l1;have Y:T.size<scanBound:=by rw[l1];exact M
  have a0:(g++[k]).Nodup:=zbi nd hk;refine zn (gw _ _ _ ?_)
  split
  ·rw[hashByValue_scannable 8 N]
   refine zn (zA (zeY gw ho J hd H a0 Y ?_ ?_ fun I sb sx=>zA (h I true sb sx)))
   ·split
    ·exact U
    ·exact SetTable.fits_plain_off U
   ·split
    ·exact tn
    ·exact tn.plain
  ·exact zn (zA (zeY gw ho J hd H a0 Y U tn fun I sb sx=>zA (h I true sb sx)))
end
def Qm(w:World):Bool:=!w.params.followText "set-order"
def xG(w:World):Obj:={ cls:=.type "set",dict:=none,data:=.set #[] 0 (.fresh 0 0 (Qm w)) }
section
variable{K:Type}[DecidableEq K]
def xA(c:List K)(k:K):List K:=if k∈c then c else c++[k]
def jY(s c:List K):List K:=c.foldl xA s
theorem JT(c:List K)(k:K):(xA c k).length<=c.length+1:=by
 unfold xA;split
 ·omega
 ·rw[zY];exact zC _
theorem Vd:∀(s c:List K),(jY c s).length<=c.length+s.length
 | [],c=>zC _
 | j::s,c=>by
  have t:=Vd s (xA c j);have B:=JT c j;show(jY (xA c j) s).length<=_;rw[jP];omega
theorem Vc:∀{s c:List K} {x:K},x∈jY c s↔x∈c\/x∈s
 | [],c,x=>by simp[jY]
 | j::s,c,x=>by
  show x∈jY (xA c j) s↔_;rw[Vc,zL];unfold xA;split
  ·rename_i h
   constructor
   ·rintro(z | z)
    ·exact .inl z
    ·exact .inr (.inr z)
   ·rintro(z | z | z)
    ·exact .inl z
    ·rw[z];exact .inl h
    ·exact .inr z
  ·rw[qJ,zK,or_assoc]
theorem zaX{s c:List K}{i:Nat}{k:K}(h:c[i]? =some k):jY (xA s k) (c.drop (i+1))=jY s (c.drop i):=by
 obtain⟨t,B⟩:=zT.mp h;rw[List.drop_eq_getElem_cons t,B];rfl
variable{g:Program}{w:World}{knd:KeyKind g w K}{A:Around}{R:Result->Shared->Prop}{it l S:Addr}{items:Array Value}{keys:List K}{b:Bool}
theorem Ys(hh:A.handled=none)(L:l≠it)(M:l≠S)(E:it≠S)(a0:keys.length=items.size)(J:∀(j:Nat) (u:Value),items[j]? =some u->∃k,keys[j]? =some k/\knd.is k u=true/\u.scannable=true) :
  ∀(m:Nat) (s:Shared) (i:Nat) (B:List K),items.size-i=m->i<=items.size->s.heap.IsListIter it l i->s.heap.IsList l items->SetX knd b s.heap S B->B.length+m+1<scanBound ->
   (∀D U,SetX knd b D S (jY B (keys.drop i))->(∀c o,c≠it->c≠S->s.heap.get? c=some o->D.get? c=some o)->R (.ok (.ret .none)) { s with heap:=D,toks:=U }) ->
   codeAny (model g w) A (.builtin "set.update.loop" ⟨[.ref S,.ref it],[]⟩) R s:=by
 intro m;induction m with
 | zero=>
  intro s i B hm hi N I O hz q;have G:items[i]? =none:=by simp;omega
  refine codeAny_builtin zdO ?_
  rw[QE Yj _];refine zn (wpAny_pyNext_list_end hh N I G fun D hx=>zA ?_)
  have e0:jY B (keys.drop i)=B:=by rw[List.drop_eq_nil_of_le (by omega)];rfl
  exact q D s.toks (by rw[e0];exact O.at fun o e=>hx S o (qc E) e) fun c o hc _ e=>hx c o hc e
 | succ m ih=>
  intro s i B hm hi N I O hz q;have H:i<items.size:=by omega
  obtain⟨u,hu⟩:∃u,items[i]? =some u:=⟨_,xP H⟩;obtain⟨k,ek,kk,sc⟩:=J i u hu;refine codeAny_builtin zdO ?_
  rw[QE Yj _];refine zn (wpAny_pyNext_list_item N I hu fun Y i1 s1=>?_)
  have k1:∀c o,c≠it->s.heap.get? c=some o->Y.get? c=some o:=fun c o hc e=>(s1.2 c hc).trans e
  refine zn (xO (show wpAny _ _ (setAdd S u) _ _ _ from xO (zn (knd.pyHash kk ?_))))
  refine zic (s:={ s with heap:=Y,toks:=s.toks+1 }) kk sc (O.at fun o e=>k1 S o (qc E) e) (by omega) fun h2 c sb T=>?_
  have k2:∀c o,c≠it->c≠S->s.heap.get? c=some o->h2.get? c=some o:=fun c o hc t e=>(sb.2 c t).trans (k1 c o hc e)
  have lk:=JT B k;refine zA ⟨plainId_quiet Yj _,?_⟩
  refine ih { s with heap:=h2,toks:=s.toks+1 } (i+1) (xA B k) (by omega) H (i1.at fun o e=>(sb.2 it E).trans e) (I.at fun o e=>k2 l o L M e) T (by omega) fun D U Q kp=>?_
  exact q D U (by rw[<- zaX ek];exact Q) fun c o hc t e=>kp c o hc t (k2 c o hc t e)
end
section
variable{l:Program}{w:World}{A:Around}{E:Value->Shared->Prop}{s:Shared}
theorem Yr{T t g:String}{args:List Value}{Q Q1:Value->Shared->Prop}(B:TypeCalled T t g)(O:checkTypeCall T ⟨args,[]⟩=pure ())
  (H:codeAny (model l w) A.in1 (.call (.builtin t) ⟨.type T::args,[]⟩) (wants Q1 E) s)
  (D:∀u J,Q1 u J->J.TypeIs u T/\codeAny (model l w) A.in1 (.call (.builtin g) ⟨u::args,[]⟩) (wants (fun r L=>r=.none/\Q u L) E) J) :
  wpAny (model l w) A (call (.type T) args) Q E s:=by
 obtain⟨c,tl,Y⟩:=B.mro;have m2:=B.made;have m3:=B.sub;have m4:=B.notType;have m5:=B.canCreate;refine wpAny_call (codeAny_of_tree (show wpAny _ _ (callAny (.type T) _) _ _ _ from zA ⟨Code.quiet_builtin _ (by decide +kernel),codeAny_builtin F.entry_type_call ?_⟩))
 rw[Around.under_plain (weight_type_call_type T args []) rfl];repeat' (first| assumption | wp_step)
 refine codeAny_mono H fun r J I=>?_
 match r,I with
 | .error e,I=>exact I
 | .ok (.ret u),I=>
  obtain⟨ty,M⟩:=D _ _ I;have m6:=B.init.lookup;have m7:=B.init.bind u;repeat' (first| assumption | wp_step)
  refine codeAny_mono M fun U L G=>?_
  match U,G with
  | .error e,G=>exact G
  | .ok (.ret v),⟨N,hq⟩=>
   subst N;repeat' (first| assumption | wp_step)
theorem VL(x:Value){c:Value->Shared->Prop}(h:c (.ref s.heap.objs.size) { s with heap:=s.heap.push (xG w) }) :
  codeAny (model l w) A (.call (.builtin "set.__new__") ⟨[.type "set",x],[]⟩) (wants c E) s:=by
 refine codeAny_call_builtin F.plain_set_new F.entry_set_new (y4 (F.newCall_set_1 x) ?_)
 unfold Builtin.«set.__new__» Builtin.Frozenset.newClass;have B:=sub_set_self;obtain⟨t,g,d,D,os⟩:=s;dsimp only;wp_walk
 refine wpAny_askSetting (zA ?_)
 simp only[newObj];exact zn (wpAny_alloc (zA (zA h)))
end
section
variable{g:Program}{w:World}{K:Type}[DecidableEq K]{knd:KeyKind g w K}{A:Around}{E:Value->Shared->Prop}{s:Shared}
theorem VA(h:Heap):SetX knd (Qm w) (h.push (xG w)) h.objs.size []:=
 ⟨xG w,zQ _ rfl,#[],0,_,⟨rfl,rfl,rfl⟩,rfl,⟨fun e c=>by simp at c,[],.refl _,.nil⟩,yF,by decide,rfl,TabOk.fresh _⟩
theorem zbC{l:Addr}{t:Array Value}{n:Nat}{keys:List K}{Q:Value->Shared->Prop}(hh:A.handled=none)(Y:s.heap.get? l=some { cls:=.type "list",data:=.seq t n })(H:keys.length=t.size)(hb:t.size+1<scanBound)
  (L:∀(j:Nat) (u:Value),t[j]? =some u->∃k,keys[j]? =some k/\knd.is k u=true/\u.scannable=true)
  (h:∀D T,SetX knd (Qm w) D s.heap.objs.size (jY [] keys)->(∀c o,s.heap.get? c=some o->D.get? c=some o)->Q (.ref s.heap.objs.size) { s with heap:=D,toks:=T }) :
  wpAny (model g w) A (call (.type "set") [.ref l]) Q E s:=by
 refine Yr (Q1:=fun u s1=>u=.ref s.heap.objs.size/\s1={ s with heap:=s.heap.push (xG w) }) XH (F.typeCall_set_1 (.ref l)) (VL (.ref l) ⟨rfl,rfl⟩) fun u s1 e=>?_
 obtain⟨eu,es⟩:=e;subst eu es;have U:(s.heap.push (xG w)).get? s.heap.objs.size=some (xG w):=zQ _ rfl;have J:Shared.TypeIs { s with heap:=s.heap.push (xG w) } (.ref s.heap.objs.size) "set" :=⟨_,U,rfl⟩;have B:=zO (xG w) Y;refine⟨J,codeAny_call_builtin XH.init.plain F.entry_set_init (check_set_init_1 J ?_)⟩
 have m1:=F.sub_list_set;have m2:=F.sub_list_frozenset;have m3:(Value.type "list" == Value.type "dict")=false:=by decide
 have G:l<s.heap.objs.size:=zD Y;unfold xG at U J B;unfold Builtin.«set.__init__» noKeywords Builtin.Frozenset.updateFrom xG;generalize I:pyIter=PI;wp_walk
 subst I;refine wpAny_pyIter_list ⟨_,B,rfl,n,rfl⟩ (zn (wpAny_runValue ?_))
 have M:A.in1.in1.in1.handled=none:=by simp[hh]
 have O:(s.heap.push (xG w)).objs.size=s.heap.objs.size+1:=qS ..;have N:∀c o,s.heap.get? c=some o->c<s.heap.objs.size:=fun c o e=>zD e
 refine Ys (knd:=knd) (b:=Qm w) (A:=A.in1.in1) (S:=s.heap.objs.size) (it:=(s.heap.push (xG w)).objs.size) (l:=l) (items:=t) (keys:=keys) M (by rw[O];exact zM (jQ G)) (zM G) (by rw[O];exact jI (j9 _)) H L t.size
  ⟨(s.heap.push (xG w)).push { cls:=.type "list_iterator",data:=.fields #[.ref l,.int 0 0] },s.gens,s.drawn,s.toks,s.os⟩ 0 [] rfl (qk _) ⟨_,zQ _ rfl,rfl,rfl⟩ ⟨_,zO _ B,rfl,n,rfl⟩ ((VA s.heap).at fun o e=>zO _ e) (by rw[QN];omega) fun D T sx kp=>?_
 refine zA (zA ⟨rfl,h D T (by simpa using sx) fun c o e=>?_⟩)
 have:=N c o e;exact kp c o (by rw[O];exact zM (jQ this)) (zM this) (zO _ (zO _ e))
end
theorem qO:Slot "set_iterator" "__next__" "set_iterator.__next__" :=
 .of (owner:= "set_iterator") (n:= "__next__") (by rw[typeLookup_type,builtinLookup_eq_fast];kernel_rfl) (by decide +kernel) (by decide +kernel) (by decide +kernel)
  (by first| exact .inl (by decide +kernel) | exact .inr (by decide +kernel)) (by rw[isSubtype_type];kernel_rfl)
theorem wH:entryFor table "set_iterator.__next__" = some Builtin.«set_iterator.__next__»:=entryFor_of_tree (by kernel_rfl)
theorem yD(x:Value):argsOk "set_iterator.__next__" ⟨[x],[]⟩:=by unfold argsOk;kernel_rfl
theorem slot_set_iter:Slot "set" (Str.ofString "__iter__") "set.__iter__" :=PySem.F.slot_set_iter
theorem Qt:entryFor table "set.__iter__" = some Builtin.«frozenset.__iter__»:=
 entryFor_alias (id':= "frozenset.__iter__") (by kernel_rfl) (by first| rfl | decide +kernel) (by decide +kernel) (by kernel_rfl)
theorem Jh(x:Value):argsOk "set.__iter__" ⟨[x],[]⟩:=by unfold argsOk;kernel_rfl
theorem wV{α:Type}:∀(l:List α) (i:Nat) (h:i<l.length),(l[i]::l.eraseIdx i).Perm l
 | x::l,0,_=>.refl _
 | x::l,i+1,h=>by
  have:=wV l i (by simpa using h)
  exact(List.Perm.swap _ _ _).trans (this.cons x)
section
variable{M:Model}{A:Around}{E:Value->Shared->Prop}{s:Shared}
theorem zax{c:Source}{n:Nat}{Q:Nat->Shared->Prop}(g:0<n)(h:∀i,i<n->Q i { s with drawn:=s.drawn.bump c }):wpAny M A (choose c n) Q E s:=fun Γ p l=>
 ⟨jI g,h _ (Nat.mod_lt _ g)⟩
theorem X8{α:Type}:∀(n:Nat) (c:List α) (s:Shared) {Q:List α->Shared->Prop},c.length<=n->(∀d l,l.Perm c->Q l { s with drawn:=d })->wpAny M A (drawOrder n c) Q E s
 | 0,c,s,Q,g,h=>by
  cases c with
  | nil=>exact zA (h s.drawn [] (.refl _))
  | cons x c=>simp at g
 | n+1,[],s,Q,g,h=>zA (h s.drawn [] (.refl _))
 | n+1,x::c,s,Q,g,h=>by
  unfold drawOrder;refine zn (zax (by simp) fun i t=>?_)
  rw[qo t];dsimp only;refine zn (X8 n ((x::c).eraseIdx i) _ ?_ fun d l p=>zA (h d _ ?_))
  ·rw[List.length_eraseIdx]
   split<;>simp at* <;>omega
  ·exact(p.cons _).trans (wV _ _ t)
end
theorem Y4{α:Type}(next:Nat->Nat):∀(fuel k:Nat) (left:List α) (c:Array α),left.length<=fuel->(pickOrder.go next fuel k left c).toList.Perm (c.toList++left)
 | 0,k,left,c,h=>by
  cases left with
  | nil=>unfold pickOrder.go;simp
  | cons x g=>simp at h
 | fuel+1,k,left,c,h=>by
  unfold pickOrder.go;cases left with
  | nil=>simp
  | cons x g=>
   have l:next k % (x::g).length<(x::g).length:=Nat.mod_lt _ (by simp)
   rw[qo l];dsimp only;have s:=Y4 next fuel (k+1) ((x::g).eraseIdx (next k % (x::g).length)) (c.push ((x::g)[next k % (x::g).length]'l)) (by rw[List.length_eraseIdx,zq l];simp at h ⊢;omega)
   refine s.trans ?_
   rw[Array.toList_push,List.append_assoc];exact List.Perm.append_left _ (wV _ _ l)
theorem Jy{α:Type}(next:Nat->Nat)(c:Array α):(pickOrder next c).toList.Perm c.toList:=by
 unfold pickOrder;have:=Y4 next c.size 0 c.toList #[] (by simp)
 simpa using this
def siO(first:Value)(i:Nat)(c:Value)(n g:Nat):Obj:={ cls:=.type "set_iterator",data:=.fields #[first,.int i 0,c,.int n 0,.int g 0] }
section
variable{c:Program}{w:World}{A:Around}{E:Value->Shared->Prop}{h:Heap}{g:Array GenState}{d:Drawn}{l:Nat}{os:OsState}{G a:Addr}{o:Obj}{D:Array (Int×Value)}{B:Nat}{t:SetTable}{i:Nat}
theorem Vw{sl:Nat}{x:Value}{nx:Nat}{Q:Fin->Shared->Prop}(L:h.get? G=some (siO (.int sl 0) i (.ref a) D.size B))(ho:h.get? a=some o)(U:o.data=.set D B t)(Y:t.fits D.size=true)
  (N:∀(H:Option (Value×Nat)->Shared->Prop),H (some (x,nx)) ⟨h,g,d,l,os⟩->wpAny (model c w) A (setNext a sl i B) H E ⟨h,g,d,l,os⟩)
  (hq:∀I,I.get? G=some (siO (.int nx 0) (i+1) (.ref a) D.size B)->Heap.SameBut G h I->Q (.done (.ret x)) ⟨I,g,d,l,os⟩) :
  wpAny (model c w) A (Builtin.«set_iterator.__next__» ⟨[.ref G],[]⟩) Q E ⟨h,g,d,l,os⟩:=by
 unfold siO at L;have O:∀{H:Array (Int×Value)->Shared->Prop},H D ⟨h,g,d,l,os⟩->wpAny (model c w) A (setEntries a) H E ⟨h,g,d,l,os⟩:=fun q=>wpAny_setEntries_of (s:=⟨h,g,d,l,os⟩) ho U Y q
 unfold Builtin.«set_iterator.__next__»;generalize T:setNext=SN at N;generalize J:setField=SF;repeat(any_goals (first| assumption | (with_reducible refine O ?_) | wp_step))
 subst J;have z1:((sl:Int)).toNat=sl:=xn _;have z2:((i:Int)).toNat=i:=xn _;have z3:((B:Int)).toNat=B:=xn _;rw[z1,z2,z3];refine N _ ?_
 refine zn (wm L rfl (by show 0<5;decide) ?_)
 have M:=wf (Obj.mapFields (·.setIfInBounds 0 (rawInt nx))) L rfl
 refine zn (wm M rfl (by show 1<5;decide) (zA (hq _ ?_ ?_)))
 ·exact wf (Obj.mapFields (·.setIfInBounds 1 (rawInt ((i:Int)+1)))) M rfl
 ·exact(QD _ _ _).trans (QD _ _ _)
theorem ym{sl:Nat}{Q:Fin->Shared->Prop}(hh:A.handled=none)(M:h.get? G=some (siO (.int sl 0) i (.ref a) D.size B))(ho:h.get? a=some o)(U:o.data=.set D B t)(Y:t.fits D.size=true)
  (L:∀(H:Option (Value×Nat)->Shared->Prop),H none ⟨h,g,d,l,os⟩->wpAny (model c w) A (setNext a sl i B) H E ⟨h,g,d,l,os⟩)
  (hq:∀I e,Heap.ExtBut G h I->(∃N,I.get? e=some N/\N.cls=.type "StopIteration")->E (.ref e) ⟨I,g,d,l,os⟩) :
  wpAny (model c w) A (Builtin.«set_iterator.__next__» ⟨[.ref G],[]⟩) Q E ⟨h,g,d,l,os⟩:=by
 unfold siO at M;have O:∀{H:Array (Int×Value)->Shared->Prop},H D ⟨h,g,d,l,os⟩->wpAny (model c w) A (setEntries a) H E ⟨h,g,d,l,os⟩:=fun q=>wpAny_setEntries_of (s:=⟨h,g,d,l,os⟩) ho U Y q
 unfold Builtin.«set_iterator.__next__»;generalize T:setNext=SN at L;generalize J:setField=SF;repeat(any_goals (first| assumption | (with_reducible refine O ?_) | wp_step))
 subst J;have z1:((sl:Int)).toNat=sl:=xn _;have z2:((i:Int)).toNat=i:=xn _;have z3:((B:Int)).toNat=B:=xn _;rw[z1,z2,z3];refine L _ (zn (wm M rfl (by show 2<5;decide) ?_))
 refine zn (show wpAny _ _ (newExc (.type "StopIteration") []) _ _ _ from ?_)
 unfold newExc newTuple;refine zn (jV (zn (m:=firstArgMember _ _) (y4 (a:=Value.none) (by first| rfl | (simp only[firstArgMember];rfl)) (jV ?_))))
 unfold raiseNew;refine zn (wpAny_handled ?_)
 rw[hh];refine zn (zA (wpAny_throw (hq _ _ (fun b p hb e=>?_) ⟨_,zQ _ rfl,rfl⟩)))
 exact zO _ (zO _ ((vL _ _ (qc hb)).trans e))
end
section
variable{c:Program}{w:World}{A:Around}{E:Value->Shared->Prop}{s:Shared}{a:Addr}{o:Obj}{g:Array (Int×Value)}{l:Nat}{t:SetTable}{i B:Nat}
theorem ZR{Q:Bool->Shared->Prop}(h:Q (w.params.followText "set-order") s):wpAny (model c w) A setsByText Q E s:=zn (wpAny_askSetting (zA h))
theorem JC{Q:Option (Value×Nat)->Shared->Prop}(D:w.params.followText "set-order" = true)(I:s.heap.get? a=some o)(G:o.data=.set g l t)(H:t.fits g.size=true)
  (h:Q (((pickOrder (w.params.setOrder a l) g)[i]?).map fun e=>(e.2,B)) s):wpAny (model c w) A (setNext a B i l) Q E s:=by
 unfold setNext;refine zn (Za I G H (zn (ZR ?_)))
 rw[D,zq rfl,zo (by simp)]
 refine zn ?_
 unfold setWalk;refine zn (Za I G H (zn (ZR ?_)))
 rw[D,zq rfl];exact zn (wpAny_askSetting (zA (zA h)))
theorem VJ{Q:Option (Value×Nat)->Shared->Prop}(D:w.params.followText "set-order" = false)(L:(!t.plain&&decide (g.size>1))=false)(I:t.led=true)(J:s.heap.get? a=some o)(G:o.data=.set g l t)(H:t.fits g.size=true)
  (h:Q (match g[SetTable.below t.place B]?,t.place[SetTable.below t.place B]? with | some (_,x),some j=>some (x,j+1) | _,_=>none) s):wpAny (model c w) A (setNext a B i l) Q E s:=by
 unfold setNext;refine zn (Za J G H (zn (ZR ?_)))
 rw[D,zo qF];refine(show wpAny _ _ (if(!t.plain&&decide (g.size>1))=true then _ else _) _ _ _ from ?_)
 rw[L,zo qF];refine zn (show wpAny _ _ (if(!t.led&&!g.isEmpty)=true then unsupported "set:maker-not-led" else pure ()) _ _ _ from ?_)
 rw[I];exact zA (zA h)
theorem WE{x:Value}{I:Int}{p:Nat}{Q:Value->Shared->Prop}(H:s.heap.get? a=some o)(D:o.data=.set g l t)(G:t.fits g.size=true)(hx:g[p]? =some (I,x))(h:Q x s):wpAny (model c w) A (setNextDrawn a p l) Q E s:=by
 unfold setNextDrawn;refine zn (Za H D G ?_)
 dsimp only;rw[zo (by simp),hx]
 exact zA h
theorem zde{Q:Bool->Shared->Prop}(H:s.heap.get? a=some o)(D:o.data=.set g l t)(G:t.fits g.size=true)(h:Q (!w.params.followText "set-order" && (!t.plain&&decide (g.size>1))) s):wpAny (model c w) A (setDrawn a) Q E s:=by
 unfold setDrawn;exact zn (Za H D G (zn (ZR (zA h))))
end
section
variable{l:Program}{w:World}{A:Around}{E:Value->Shared->Prop}{h:Heap}{g:Array GenState}{d:Drawn}{B:Nat}{os:OsState}{H a T:Addr}{o I:Obj}{D:Array (Int×Value)}{G:Nat}{t:SetTable}{i n c:Nat}{ps:Array Value}
theorem za8{x:Value}{hs:Int}{p:Nat}{Q:Fin->Shared->Prop}(U:h.get? H=some (siO (.ref T) i (.ref a) D.size G))(ho:h.get? a=some o)(Y:o.data=.set D G t)(hf:t.fits D.size=true)(hT:h.get? T=some I)(O:I.data=.seq ps c)
  (hp:ps[i]? =some (.int p 0)) (hx:D[p]? =some (hs,x)) (hq:∀L,L.get? H=some (siO (.ref T) (i+1) (.ref a) D.size G)->Heap.SameBut H h L->Q (.done (.ret x)) ⟨L,g,d,B,os⟩) :
  wpAny (model l w) A (Builtin.«set_iterator.__next__» ⟨[.ref H],[]⟩) Q E ⟨h,g,d,B,os⟩:=by
 unfold siO at U;have hE:∀{J:Array (Int×Value)->Shared->Prop},J D ⟨h,g,d,B,os⟩->wpAny (model l w) A (setEntries a) J E ⟨h,g,d,B,os⟩:=fun q=>wpAny_setEntries_of (s:=⟨h,g,d,B,os⟩) ho Y hf q
 have hS:∀{J:Option (Array Value)->Shared->Prop},J (some ps) ⟨h,g,d,B,os⟩->wpAny (model l w) A (seqItems? (.ref T)) J E ⟨h,g,d,B,os⟩:=fun q=>vo (s:=⟨h,g,d,B,os⟩) hT O q
 unfold Builtin.«set_iterator.__next__»;generalize N:setNextDrawn=SN;generalize M:setField=SF;repeat(any_goals (first| assumption | (with_reducible refine hE ?_) | (with_reducible refine hS ?_) | wp_step))
 subst M N;have z2:((i:Int)).toNat=i:=xn _;have z3:((G:Int)).toNat=G:=xn _;rw[z2,z3,hp];refine zn (show wpAny _ _ (setNextDrawn a ((p:Int)).toNat G) _ _ _ from ?_)
 rw[xn];refine WE (s:=⟨h,g,d,B,os⟩) ho Y hf hx (zn (wm U rfl (by show 1<5;decide) (zA (hq _ ?_ (QD _ _ _)))))
 exact wf (Obj.mapFields (·.setIfInBounds 1 (rawInt ((i:Int)+1)))) U rfl
theorem Ja{Q:Fin->Shared->Prop}(hh:A.handled=none)(U:h.get? H=some (siO (.ref T) i (.ref a) D.size G))(ho:h.get? a=some o)(hd:o.data=.set D G t)(hf:t.fits D.size=true)(hT:h.get? T=some I)(O:I.data=.seq ps c)
  (hp:ps[i]? =none) (hq:∀L e,Heap.ExtBut H h L->(∃Y,L.get? e=some Y/\Y.cls=.type "StopIteration")->E (.ref e) ⟨L,g,d,B,os⟩) :
  wpAny (model l w) A (Builtin.«set_iterator.__next__» ⟨[.ref H],[]⟩) Q E ⟨h,g,d,B,os⟩:=by
 unfold siO at U;have hE:∀{J:Array (Int×Value)->Shared->Prop},J D ⟨h,g,d,B,os⟩->wpAny (model l w) A (setEntries a) J E ⟨h,g,d,B,os⟩:=fun q=>wpAny_setEntries_of (s:=⟨h,g,d,B,os⟩) ho hd hf q
 have hS:∀{J:Option (Array Value)->Shared->Prop},J (some ps) ⟨h,g,d,B,os⟩->wpAny (model l w) A (seqItems? (.ref T)) J E ⟨h,g,d,B,os⟩:=fun q=>vo (s:=⟨h,g,d,B,os⟩) hT O q
 unfold Builtin.«set_iterator.__next__»;generalize N:setNextDrawn=SN;generalize M:setField=SF;repeat(any_goals (first| assumption | (with_reducible refine hE ?_) | (with_reducible refine hS ?_) | wp_step))
 subst M N;have z2:((i:Int)).toNat=i:=xn _;rw[z2,hp];refine zn (wm U rfl (by show 0<5;decide) ?_)
 have g1:=wf (Obj.mapFields (·.setIfInBounds 0 (rawInt 0))) U rfl
 refine zn (wm g1 rfl (by show 2<5;decide) ?_)
 refine zn (show wpAny _ _ (newExc (.type "StopIteration") []) _ _ _ from ?_)
 unfold newExc newTuple;refine zn (jV (zn (m:=firstArgMember _ _) (y4 (a:=Value.none) (by first| rfl | (simp only[firstArgMember];rfl)) (jV ?_))))
 unfold raiseNew;refine zn (wpAny_handled ?_)
 rw[hh];refine zn (zA (wpAny_throw (hq _ _ (fun b p hb e=>?_) ⟨_,zQ _ rfl,rfl⟩)))
 exact zO _ (zO _ ((vL _ _ (qc hb)).trans ((vL _ _ (qc hb)).trans e)))
end
section
variable{c:Program}{w:World}{A:Around}{E:Value->Shared->Prop}{s:Shared}{g:Addr}{l:Obj}
theorem zd7{x:Value}{Q:Option Value->Shared->Prop}{N:Heap->Prop}(D:s.heap.get? g=some l)(hc:l.cls=.type "set_iterator")
  (I:∀(B:Fin->Shared->Prop) (H:Value->Shared->Prop),(∀t,N t->Heap.SameBut g s.heap t->B (.done (.ret x)) { s with heap:=t })->wpAny (model c w) A.in1 (Builtin.«set_iterator.__next__» ⟨[.ref g],[]⟩) B H s)
  (hq:∀t,N t->Heap.SameBut g s.heap t->Q (some x) { s with heap:=t }):wpAny (model c w) A (pyNext (.ref g)) Q E s:=by
 unfold pyNext;refine zn (wpAny_attempt (Zw (name:=Str.ofString "__next__") (T:= "set_iterator") ⟨_,D,hc⟩ qO (xX qO (T:= "set_iterator") ⟨_,D,hc⟩ wH (I _ _ fun t n J=>⟨x,rfl,zA (hq t n J)⟩) (yD _))))
theorem zd6{Q:Option Value->Shared->Prop}(G:s.heap.get? g=some l)(hc:l.cls=.type "set_iterator")
  (M:∀(I:Fin->Shared->Prop) (D:Value->Shared->Prop),(∀t e,Heap.ExtBut g s.heap t->(∃B,t.get? e=some B/\B.cls=.type "StopIteration")->D (.ref e) { s with heap:=t })->wpAny (model c w) A.in1 (Builtin.«set_iterator.__next__» ⟨[.ref g],[]⟩) I D s)
  (hq:∀t,Heap.ExtBut g s.heap t->Q none { s with heap:=t }):wpAny (model c w) A (pyNext (.ref g)) Q E s:=by
 unfold pyNext;refine zn (wpAny_attempt (Zw (name:=Str.ofString "__next__") (T:= "set_iterator") ⟨_,G,hc⟩ qO (xX qO (T:= "set_iterator") ⟨_,G,hc⟩ wH (M _ _ fun t e N B=>?_) (yD _))))
 obtain⟨B,J,L⟩:=B;refine zn (y9 (T:= "StopIteration") (b:=true) ⟨_,J,L⟩ isSubtype_stop ?_)
 exact zA (hq t N)
end
theorem yk:Slot "set_iterator" "__iter__" "set_iterator.__iter__" :=
 .of (owner:= "set_iterator") (n:= "__iter__") (by rw[typeLookup_type,builtinLookup_eq_fast];kernel_rfl) (by decide +kernel) (by decide +kernel) (by decide +kernel)
  (by first| exact .inl (by decide +kernel) | exact .inr (by decide +kernel)) (by rw[isSubtype_type];kernel_rfl)
theorem Je:entryFor table "set_iterator.__iter__" = some Builtin.«dict_keyiterator.__iter__»:=
 entryFor_alias (id':= "dict_keyiterator.__iter__") (by kernel_rfl) (by first| rfl | decide +kernel) (by decide +kernel) (by kernel_rfl)
theorem XA(x:Value):argsOk "set_iterator.__iter__" ⟨[x],[]⟩:=by unfold argsOk;kernel_rfl
section
variable{D:Program}{w:World}{A:Around}
theorem Z2{B:Addr}{M:List Addr}{n:Nat}{P:Nat->Value->Prop}{St:Nat->Heap->Prop}(hf:B∈M)(Y:∀i h,St i h->∃I,h.get? B=some I/\I.cls=.type "set_iterator")
  (O:∀i h g,St i h->(∀b∈M,∀o,h.get? b=some o->g.get? b=some o)->St i g)
  (U:∀i (s:Shared),i<n->St i s.heap->∃x,P i x/\∀(L:Fin->Shared->Prop) (J:Value->Shared->Prop),(∀g,St (i+1) g->Heap.SameBut B s.heap g->L (.done (.ret x)) { s with heap:=g })->wpAny (model D w) A.in1 (Builtin.«set_iterator.__next__» ⟨[.ref B],[]⟩) L J s)
  (N:∀(s:Shared),St n s.heap->∀(L:Fin->Shared->Prop) (J:Value->Shared->Prop),(∀g e,Heap.ExtBut B s.heap g->(∃ob,g.get? e=some ob/\ob.cls=.type "StopIteration")->J (.ref e) { s with heap:=g })->wpAny (model D w) A.in1 (Builtin.«set_iterator.__next__» ⟨[.ref B],[]⟩) L J s) :
  Walks D w A B M [B] n P St where
 sub:=fun b hb=>by rw[zK.mp hb];exact hf
 frame:=O
 item:=fun i s Q E hi st H=>by
  obtain⟨I,e,c⟩:=Y i _ st;obtain⟨x,px,hx⟩:=U i s hi st;exact zd7 e c hx fun g a0 sb=>H x g s.toks px a0 fun b o hb e=>(sb.2 b fun z=>hb (by rw[z];exact zK.mpr rfl)).trans e
 done:=fun s Q E st H=>by
  obtain⟨I,e,c⟩:=Y n _ st;exact zd6 e c (N s st) fun g xb=>H g s.toks fun b o hb e=>xb b o (fun z=>hb (by rw[z];exact zK.mpr rfl)) e
 self:=fun i s Q E st H=>by
  obtain⟨I,e,c⟩:=Y i _ st;refine wpAny_pyIter_slot (T:= "set_iterator") ⟨_,e,c⟩ yk (xX yk (T:= "set_iterator") ⟨_,e,c⟩ Je ?_ (XA _))
  exact zA ⟨_,rfl, "set_iterator",_,⟨_,e,c⟩,qO.lookup,H⟩
def wO(g:Array Nat):Nat->Nat
 | 0=>0
 | i+1=>g.getD i 0+1
theorem QA{g:Array Nat}(u:Up g){i:Nat}(h:i<=g.size):SetTable.below g (wO g i)=i:=by
 cases i with
 | zero=>exact Wn u (qk _) (fun k a hk=>absurd hk (jL _)) fun k a _ _=>qk _
 | succ i=>
  have e:g[i]? =some (g[i]'(by omega)):=xP _
  have l:wO g (i+1)=g[i]'(by omega)+1:=by show g.getD i 0+1=_;rw[xQ,e];rfl
  rw[l];refine Wn u h (fun k a hk s=>?_) fun k a hk s=>?_
  ·by_cases q:k=i
   ·subst q;rw[e] at s;cases s;omega
   ·have:=u.lt s e (by omega);omega
  ·have:=u.lt e s (by omega);omega
variable{B a T:Addr}{o oT:Obj}{l:Array (Int×Value)}{G c:Nat}{t:SetTable}
theorem zaV(hh:A.handled=none)(N:w.params.followText "set-order" = true)(E:o.data=.set l G t)(I:t.fits l.size=true) :
  Walks D w A B [B,a] [B] l.size (fun i v=>((pickOrder (w.params.setOrder a G) l).toList.map (·.2))[i]? =some v) (fun i h=>h.get? B=some (siO (.int 0 0) i (.ref a) l.size G)/\h.get? a=some o):=by
 have ln:(pickOrder (w.params.setOrder a G) l).size=l.size:=by have:=(Jy (w.params.setOrder a G) l).length_eq;rwa[j8,j8] at this
 refine Z2 (by simp) (fun i h st=>⟨_,st.1,rfl⟩) (fun i h H st k=>⟨k B (by simp) _ st.1,k a (by simp) _ st.2⟩) (fun i s hi st=>?_) fun s st U Q hq=>?_
 ·have e:(pickOrder (w.params.setOrder a G) l)[i]? =some ((pickOrder (w.params.setOrder a G) l)[i]'(by omega)):=xP _
  refine⟨((pickOrder (w.params.setOrder a G) l)[i]'(by omega)).2,by rw[zZ,Zv,e];rfl,fun U Q hq=>?_⟩
  obtain⟨h,g,d,L,os⟩:=s;refine Vw (sl:=0) (nx:=0) st.1 st.2 E I (fun Y J=>JC (s:=⟨h,g,d,L,os⟩) N st.2 E I (by rw[e];exact J)) fun H g1 O=>hq H ⟨g1,?_⟩ O
  have ne:a≠B:=fun z=>by
   have h1:=st.1;have M:=st.2;rw[z,h1] at M;cases M;cases E
  exact(O.2 a ne).trans st.2
 ·have e:(pickOrder (w.params.setOrder a G) l)[l.size]? =none:=X1 (by omega)
  obtain⟨h,g,d,L,os⟩:=s;exact ym (sl:=0) hh st.1 st.2 E I (fun Y J=>JC (s:=⟨h,g,d,L,os⟩) N st.2 E I (by rw[e];exact J)) fun H e xb ob=>hq H e xb ob
theorem zbR(hh:A.handled=none)(Q:w.params.followText "set-order" = false)(hp:(!t.plain&&decide (l.size>1))=false)(Y:t.led=true)(u:Up t.place)(I:o.data=.set l G t)(E:t.fits l.size=true) :
  Walks D w A B [B,a] [B] l.size (fun i v=>(l.toList.map (·.2))[i]? =some v) (fun i h=>h.get? B=some (siO (.int (wO t.place i:Nat) 0) i (.ref a) l.size G)/\h.get? a=some o):=by
 have sz:t.place.size=l.size:=by
  simp only[SetTable.fits,qE,xN] at E;exact E.1
 refine Z2 (by simp) (fun i h st=>⟨_,st.1,rfl⟩) (fun i h J st k=>⟨k B (by simp) _ st.1,k a (by simp) _ st.2⟩) (fun i s U st=>?_) fun s st Q' E' hq=>?_
 ·have e:l[i]? =some (l[i]'U):=xP _
  have H:t.place[i]? =some (t.place[i]'(by omega)):=xP _
  have M:wO t.place (i+1)=t.place[i]'(by omega)+1:=by show t.place.getD i 0+1=_;rw[xQ,H];rfl
  refine⟨(l[i]'U).2,by rw[zZ,Zv,e];rfl,fun Q' E' hq=>?_⟩
  obtain⟨h,g,d,N,os⟩:=s;refine Vw (sl:=wO t.place i) (nx:=wO t.place (i+1)) st.1 st.2 I E (fun Q2 L=>VJ (s:=⟨h,g,d,N,os⟩) Q hp Y st.2 I E ?_) fun J g1 sb=>hq J ⟨g1,?_⟩ sb
  ·rw[QA u (by omega),e,H]
   rw[M] at L;exact L
  ·have ne:a≠B:=fun z=>by
    have h1:=st.1;have O:=st.2;rw[z,h1] at O;cases O;cases I
   exact(sb.2 a ne).trans st.2
 ·obtain⟨h,g,d,N,os⟩:=s
  refine ym (sl:=wO t.place l.size) hh st.1 st.2 I E (fun Q2 L=>VJ (s:=⟨h,g,d,N,os⟩) Q hp Y st.2 I E ?_) fun J e xb ob=>hq J e xb ob
  rw[QA u (by omega),X1 (xs:=l) (by omega)]
  exact L
theorem Wo{ps:List Nat}(hh:A.handled=none)(L:o.data=.set l G t)(U:t.fits l.size=true)(J:oT.data=.seq (ps.map fun i:Nat=>Value.int i 0).toArray c)(Y:ps.Perm (List.range l.size)) :
  Walks D w A B [B,a,T] [B] l.size (fun i v=>(ps.map fun j=>(l.getD j (0,.none)).2)[i]? =some v) (fun i h=>h.get? B=some (siO (.ref T) i (.ref a) l.size G)/\h.get? a=some o/\h.get? T=some oT):=by
 have ln:ps.length=l.size:=by have:=Y.length_eq;rwa[zS] at this
 have lt:∀j∈ps,j<l.size:=fun j H=>qu.mp (Y.mem_iff.mp H)
 have ne:∀(h:Heap) (i:Nat),h.get? B=some (siO (.ref T) i (.ref a) l.size G)->h.get? a=some o->h.get? T=some oT->a≠B/\T≠B:=fun h i N O Q=>by
  refine⟨fun z=>?_,fun z=>?_⟩
  ·rw[z,N] at O;cases O;cases L
  ·rw[z,N] at Q;cases Q;cases J
 refine Z2 (by simp) (fun i h st=>⟨_,st.1,rfl⟩) (fun i h I st k=>⟨k B (by simp) _ st.1,k a (by simp) _ st.2.1,k T (by simp) _ st.2.2⟩) (fun i s hi st=>?_) fun s st Q' E' hq=>?_
 ·have E:i<ps.length:=by omega
  have H:=lt _ (jM E);have e:l[ps[i]]? =some (l[ps[i]]'H):=xP _;refine⟨(l[ps[i]]'H).2,?_,fun Q' E' hq=>?_⟩
  ·rw[zZ,qo E]
   show some (l.getD ps[i] (0,.none)).2=some _;rw[xQ,e];rfl
  obtain⟨h,g,d,tk,os⟩:=s;obtain⟨n1,n2⟩:=ne h i st.1 st.2.1 st.2.2;refine za8 (p:=ps[i]) st.1 st.2.1 L U st.2.2 J (by simp[E]) (hs:=(l[ps[i]]'H).1) e fun I g1 M=>hq I ⟨g1,(M.2 a n1).trans st.2.1,(M.2 T n2).trans st.2.2⟩ M
 ·obtain⟨h,g,d,tk,os⟩:=s
  exact Ja hh st.1 st.2.1 L U st.2.2 J (by simp;omega) fun I e xb ob=>hq I e xb ob
end
section
variable{prog:Program}{w:World}{A:Around}{E:Value->Shared->Prop}{s:Shared}{a:Addr}{o:Obj}{g:Array (Int×Value)}{B:Nat}{t:SetTable}
def zhU(prog:Program)(w:World)(s:Shared)(a:Addr)(g:Array (Int×Value))(Q:Value->Shared->Prop):Prop:=
 ∀(D:Addr) (I:List Addr) (G:Heap) (J:Drawn) (l:List Value) (St:Nat->Heap->Prop),s.heap.objs.size<=D->(∀H:Around,H.handled=none->Walks prog w H D I [D] g.size (fun i v=>l[i]? =some v) St)->St 0 G ->
  (∀c u,s.heap.get? c=some u->G.get? c=some u)->(∀c∈I,c=a\/s.heap.objs.size<=c)->l.Perm (g.toList.map (·.2))->Q (.ref D) { s with heap:=G,drawn:=J }
theorem zbs{Q:Value->Shared->Prop}(l:s.heap.get? a=some o)(L:o.ExactSet)(D:o.data=.set g B t)(G:t.fits g.size=true)(hb:g.size<scanBound)(Y:TabOk (Qm w) t)(h:zhU prog w s a g Q):wpAny (model prog w) A (pyIter (.ref a)) Q E s:=by
 have U:s.TypeIs (.ref a) "set" :=⟨_,l,L.1⟩;refine wpAny_pyIter_slot U slot_set_iter (xX slot_set_iter U Qt ?_ (Jh _))
 have lt:=zD l;unfold Builtin.«frozenset.__iter__»;refine zn (show wpAny _ _ (pure a) _ _ _ from zA ?_)
 refine zn (show wpAny _ _ (setEntries a >>= fun x=>pure x.size) _ _ _ from zn (wpAny_setEntries_of l D G (zA ?_)))
 refine zn (zde l D G ?_)
 cases J:w.params.followText "set-order" with
 | true=>
  refine zn (zA (zn (wpAny_setEpoch_of l D G (zn (jV (zA ⟨_,rfl, "set_iterator",_,⟨_,zQ _ rfl,rfl⟩,qO.lookup,?_⟩))))))
  refine h s.heap.objs.size [s.heap.objs.size,a] _ s.drawn _ _ (zC _) (fun N H=>zaV H J D G) ⟨zQ _ rfl,zO _ l⟩ (fun c u e=>zO _ e) (fun c hc=>?_) ((Jy _ g).map _)
  rcases zL.mp hc with z | z
  ·rw[z];exact .inr (zC _)
  ·exact .inl (zK.mp z)
 | false=>
  have hl:t.led=true:=by rw[Y.led];unfold Qm;rw[J];rfl
  cases hp:(!t.plain&&decide (g.size>1)) with
  | false=>
   refine zn (zA (zn (wpAny_setEpoch_of l D G (zn (jV (zA ⟨_,rfl, "set_iterator",_,⟨_,zQ _ rfl,rfl⟩,qO.lookup,?_⟩))))))
   refine h s.heap.objs.size [s.heap.objs.size,a] _ s.drawn _ _ (zC _) (fun N H=>zbR H J hp hl Y.up D G) ⟨zQ _ rfl,zO _ l⟩ (fun c u e=>zO _ e) (fun c hc=>?_) (.refl _)
   rcases zL.mp hc with z | z
   ·rw[z];exact .inr (zC _)
   ·exact .inl (zK.mp z)
  | true=>
   refine zn (X8 _ _ s (by simp) fun d' ps M=>?_)
   have ln:ps.length=g.size:=by have:=M.length_eq;rwa[zS] at this
   refine zn (show wpAny _ _ (newObj (.type "tuple") (.seq (ps.map fun(i:Nat)=>rawInt i).toArray)) _ _ _ from jV ?_ (by show(ps.map fun(i:Nat)=>rawInt i).toArray.size<=sizeLine;rw[zX,zr,ln];exact fits_of_scanBound hb))
   have I:=zO { cls:=.type "tuple",data:=.seq (ps.map fun(i:Nat)=>rawInt i).toArray } l
   refine zn (wpAny_setEpoch_of I D G (zn (jV (zA ⟨_,rfl, "set_iterator",_,⟨_,zQ _ rfl,rfl⟩,qO.lookup,?_⟩))))
   refine h _ [_,a,s.heap.objs.size] _ d' _ _ ?_ (fun N H=>Wo (T:=s.heap.objs.size) (ps:=ps) H D G (c:=0) (oT:={ cls:=.type "tuple",data:=.seq (ps.map fun(i:Nat)=>rawInt i).toArray }) rfl M) ⟨zQ _ rfl,zO _ I,zO _ (zQ _ rfl)⟩ (fun c u e=>zO _ (zO _ e)) (fun c hc=>?_) ?_
   ·rw[qS];exact wb _
   ·rcases zL.mp hc with z | z
    ·rw[z,qS];exact .inr (wb _)
    ·rcases zL.mp z with z | z
     ·exact .inl z
     ·rw[zK.mp z];exact .inr (zC _)
   ·have e:g.toList.map (·.2)=(List.range g.size).map fun j=>(g.getD j (0,.none)).2:=by
     refine Zt (by simp) fun j O h2=>?_
     simp only[zr,zS,j8] at O;simp[xQ,O]
    rw[e];exact M.map _
theorem zdg{Q:Bool->Shared->Prop}(c:s.TypeIs (.ref a) "set")(h:Q false s):wpAny (model prog w) A (Builtin.List.listLengthHint (.ref a)) Q E s:=by
 unfold Builtin.List.listLengthHint;refine zn (wpAny_specialOf c PySem.F.slot_set_len.lookup ?_)
 generalize D:("set.__len__" : String)=l;wp_delta
 rw[show splitId l=some ("set", "__len__") from by subst D;decide +kernel]
 subst D;refine zn (y9 (T:= "set") (b:=true) c (by rw[isSubtype_type];kernel_rfl) ?_)
 refine wpAny_ite_split (fun z=>absurd z (by decide)) fun _=>wpAny_ite_split (fun _=>zn (wpAny_typeOf c (zA h))) fun z=>absurd (by decide +kernel) z
theorem zeT{c:Array Value}{D:List Value}{n:Nat}(h:ItemsOf (fun i v=>D[i]? =some v) c n)(l:D.length=n):c.toList=D:=by
 refine List.ext_getElem? fun i=>?_
 by_cases G:i<c.size
 ·have e:=xP G
  rw[Zv,e];exact(h.2 i _ e).symm
 ·rw[XZ (by rw[j8];omega),XZ (by have:=h.1;omega)]
theorem zdl{R:Result->Shared->Prop}(hh:A.handled=none)(ho:s.heap.get? a=some o)(H:o.ExactSet)(hd:o.data=.set g B t)(hf:t.fits g.size=true)(hb:g.size<scanBound)(tb:TabOk (Qm w) t)(S:Addr)(M:S≠a)(res:Value)(c0:Nat)
  (hS:s.heap.get? S=some { cls:=.type "list",data:=.seq #[] c0 })
  (hR:∀h' U d' c J,(∀b u,b≠S->s.heap.get? b=some u->h'.get? b=some u)->h'.get? S=some { cls:=.type "list",dict:=none,data:=.seq c J,slots:=#[] }->c.toList.Perm (g.toList.map (·.2))->R (.ok (.ret res)) { s with heap:=h',toks:=U,drawn:=d' }) :
  wpAny (model prog w) A.in1 (Builtin.List.listExtendWith (.ref S) (.ref a) res) (fun a0 I=>match a0 with | .done f=>R (.ok f) I | .again J=>J.quiet=true/\codeAny (model prog w) A J R I) (fun e I=>R (.error e) I) s:=by
 have hn:=fits_of_scanBound hb;have hT:s.TypeIs (.ref a) "set" :=⟨_,ho,H.1⟩;have ltS:=zD hS;have a7:Builtin.List.listSameRef (.ref S) (.ref a)=false:=by simp[Builtin.List.listSameRef,M]
 have nl:(Value.type "set" == Value.type "list")=false:=by decide
 have nt:(Value.type "set" == Value.type "tuple")=false:=by decide
 unfold Builtin.List.listExtendWith;refine zn (wpAny_typeOf hT ?_)
 simp only[a7,nl,nt,Bool.or_false,yJ,if_false];refine zn (zbs ho H hd hf hb tb fun it fp Q d1 a8 St a5 W st T a1 pm=>?_)
 have lo:a8.length=g.size:=by have:=pm.length_eq;rwa[zr,j8] at this
 have N:S∉fp:=fun z=>by
  rcases a1 S z with q | q
  ·exact M q
  ·exact absurd ltS (yY.mpr q)
 have D:∀(L:Heap) (Y U:Nat),St 0 L->(∀b u,b≠S->s.heap.get? b=some u->L.get? b=some u)->L.get? S=some { cls:=.type "list",data:=.seq #[] Y } ->
   codeAny (model prog w) A (.builtin "list.extend.loop" ⟨[.ref S,.ref it,res],[]⟩) R ⟨L,s.gens,d1,U,s.os⟩:=by
  intro L Y U a9 k2 l;refine codeAny_extend_loopS (W A.in1 hh).toS hn S N res g.size 0 _ #[] Y rfl (qk _) a9 l (ItemsOf.nil _) fun I c J hm a2 a6=>?_
  rw[Moved.eq_with hm];refine hR I.heap I.toks d1 c J (fun b u hb e=>hm.heap b u (fun z=>?_) (k2 b u hb e)) a2 (by rw[zeT a6 lo];exact pm)
  rcases zL.mp z with q | q
  ·exact hb q
  ·rw[zK.mp q] at e
   exact absurd (zD e) (yY.mpr a5)
 have G:=T S _ hS;have a4:Shared.TypeIs ⟨Q,s.gens,d1,s.toks,s.os⟩ (.ref a) "set" :=⟨_,T a _ ho,H.1⟩;refine zn (xO (zdg a4 ?_))
 refine wpAny_ite_split (fun _=>?_) (fun _=>zA ⟨plainId_quiet zdD _,D Q c0 _ st (fun b u _ e=>T b u e) G⟩)
 refine zn (x5 (zn (show wpAny _ _ (updateSeq S (·.push .none) >>= fun _=>updateSeq S (·.pop)) _ _ _ from zn (wpAny_updateSeq G rfl ?_))))
 have l:=wf (Obj.mapSeq (·.push Value.none)) G rfl
 refine wpAny_updateSeq (hz:=by seq_fits) l rfl ?_
 have a3:=wf (Obj.mapSeq (·.pop)) l rfl
 have O:∀b u,b≠S->Q.get? b=some u->((Q.update S (Obj.mapSeq (·.push Value.none))).update S (Obj.mapSeq (·.pop))).get? b=some u:=fun b u hb e=>(vL _ _ (qc hb)).trans ((vL _ _ (qc hb)).trans e)
 refine zA ⟨plainId_quiet zdD _,D _ _ _ ((W A.in1 hh).frame 0 _ _ st fun b hb u e=>O b u (fun z=>N (z▸hb)) e) (fun b u hb e=>O b u hb (T b u e)) a3⟩
theorem zbA{R:List Value->Shared->Prop}(hh:A.handled=none)(T:s.heap.get? a=some o)(M:o.ExactSet)(hd:o.data=.set g B t)(hf:t.fits g.size=true)(hb:g.size<scanBound)(tb:TabOk (Qm w) t)
  (h:∀D H G U,(∀b u,s.heap.get? b=some u->D.get? b=some u)->U.Perm (g.toList.map (·.2))->R U { s with heap:=D,toks:=H,drawn:=G }):wpAny (model prog w) A (collect (.ref a)) R E s:=by
 have lt:=zD T;unfold collect;refine zn (wpAny_runValue (codeAny_builtin PySem.F.entry_proto_collect ?_))
 rw[QE PySem.F.plain_proto_collect _];refine(show wpAny _ A.in1 (newList [] >>= fun l=>again (.builtin "list.__iadd__" ⟨[l,.ref a],[]⟩)) _ _ s from zn (jV (zA ⟨plainId_quiet PySem.F.plain_list_iadd _,codeAny_builtin PySem.F.entry_list_iadd ?_⟩)))
 rw[QE PySem.F.plain_list_iadd _];have hS:(s.heap.push { cls:=.type "list",data:=.seq ([]:List Value).toArray }).get? s.heap.objs.size=some { cls:=.type "list",data:=.seq #[] }:=zQ _ rfl;have N:=zdl (A:=A) (w:=w) (prog:=prog) (s:={ s with heap:=s.heap.push { cls:=.type "list",data:=.seq ([]:List Value).toArray } }) (a:=a)
  (R:=fun q O=>∃(D:Heap) (H:Nat) (G:Drawn) (c:Array Value) (I:Nat),q=.ok (.ret (.ref s.heap.objs.size))/\O={ s with heap:=D,toks:=H,drawn:=G }/\(∀b u,s.heap.get? b=some u->D.get? b=some u) /\
   D.get? s.heap.objs.size=some { cls:=.type "list",dict:=none,data:=.seq c I,slots:=#[] }/\c.toList.Perm (g.toList.map (·.2)))
  hh (zO _ T) M hd hf hb tb s.heap.objs.size (jI lt) (.ref s.heap.objs.size) 0 hS fun D H G c I k e p=>⟨D,H,G,c,I,rfl,rfl,fun b u Q=>k b u (zM (zD Q)) (zO _ Q),e,p⟩
 refine qA N (fun L O x=>?_) fun e O x=>?_
 ·cases L with
  | done f=>
   obtain⟨D,H,G,c,I,e,rfl,k,J,p⟩:=x;cases e;exact zn (wpAny_load J (zA (h D H G _ k p)))
  | again c1=>
   refine⟨x.1,codeAny_mono x.2 fun q s2 y=>?_⟩
   obtain⟨D,H,G,c,I,rfl,rfl,k,J,p⟩:=y;exact zn (wpAny_load J (zA (h D H G _ k p)))
 ·obtain⟨_,_,_,_,_,Y,_⟩:=x
  cases Y
end
section
variable{X:Cx}
def Jb(P:Program)(w:World)(p:Addr)(c:List Key):HO:=.ext fun h=>SetX (zN P w) (Qm w) h p c
inductive ZA(P:Program)(w:World)(g:List V)(H:Hp)(Q:VK):Prop
 | mk (a:Addr) (c:List Key) (_:g=[.ref a]) (_:H a=some (.lst (c.map kV))) (_:c.length<=4000) (_:∀p,H p=none->Q (.ref p) (upd H p (Jb P w p (jY [] c)))):ZA P w g H Q
theorem zbE(L:X.A.handled=none):CallR X (.type "set") (ZA X.prog X.w):=by
 intro D s σ H xs us Q I r h;obtain⟨a,g,rfl,hx,hl,q⟩:=h;obtain⟨u,rfl,T⟩:=ua r;cases(show u=Value.ref a from T)
 obtain⟨zz,N,n,c,J⟩:=(show ObjOk X.prog X.w H s.heap a (.lst (g.map kV)) from I.hok a _ hx)
 have ln:=c.length;rw[zr] at ln;have M:H s.heap.objs.size=none:=I.hok.fresh (zC _);have sb:scanBound=4096:=rfl;refine zbC (knd:=zN X.prog X.w) (keys:=g) L J (by simp[ln]) (by simp;omega) (fun j u e=>?_) fun Y U E k=>?_
 ·rw[List.getElem?_toArray] at e
  obtain⟨x,w,l⟩:=Vals.at c e;rw[zZ] at w;obtain⟨B,G,rfl⟩:=jd.mp w;refine⟨B,G,xm l,?_⟩
  cases B with
  | inl i=>obtain⟨t,rfl⟩:=l;rfl
  | inr i=>obtain⟨t,rfl⟩:=l;rfl
 ·refine⟨.ref s.heap.objs.size,_,I.laid (a:=s.heap.objs.size) (o:=Jb X.prog X.w s.heap.objs.size (jY [] g)) (t':=U) k (zC _) ⟨E,?_,fun h1 h2 x e=>x.at e⟩,rfl,q _ M⟩
  obtain⟨o,e,_⟩:=E;exact⟨o,e⟩
end
theorem Inv.drawn{X:Cx}{c:List (Addr×Obj)}{σ:St}{H:Hp}{s:Shared}(I:Inv X c σ H s)(d:Drawn):Inv X c σ H { s with drawn:=d }:=
 I.call' (s':={ s with drawn:=d }) (ch:=[]) rfl Un.refl I.hok I.bare fun b hb=>(nomatch hb)
theorem Qg{α β γ:Type}{R:α->γ->Prop}{f:β->γ}:∀{c:List α} {g:List β},Paired (fun x y=>R x (f y)) c g->Paired R c (g.map f)
 | _,_,.nil=>.nil
 | _,_,.cons h t=>.cons h (Qg t)
theorem zcr:∀{ks:List Key},(∀k∈ks,∃i,k=Sum.inr i)->∃c:List Str,ks=c.map Sum.inr
 | [],_=>⟨[],rfl⟩
 | k::ks,h=>by
  obtain⟨i,e⟩:=h k (by simp)
  obtain⟨c,g⟩:=zcr (ks:=ks) fun l hk=>h l (z9 _ hk)
  exact⟨i::c,by rw[e,g];rfl⟩
theorem Zf{P:Program}{w:World}:∀{g:List Str} {c:List Value},Paired (fun k v=>(zN P w).is k v=true) (g.map Sum.inr) c->StrsAre c g
 | [],c,h=>by cases h;exact .nil
 | z::g,c,h=>by
  cases h with
  | cons r t=>
   obtain⟨l,rfl⟩:=zdb r;exact .cons z l (Zf t)
theorem Xi{α β:Type}{f:α->β}{l:List α}(h:(l.map f).Nodup):l.Nodup:=by
 have c:l.Pairwise fun a b=>f a≠f b:=vp.mp h
 exact c.imp fun n e=>n (by rw[e])
section
variable{X:Cx}
theorem za5{D:List (Addr×Obj)}{σ:St}{H:Hp}{s:Shared}{a:Addr}{A:List Key}{E:Value->Shared->Prop}{Q:Value->Shared->Prop}(hh:X.A.handled=none)(I:Inv X D σ H s)(hx:H a=some (Jb X.prog X.w a A))
  (h:∀(c:Heap) (O:Nat) (J:Drawn) (g:List Value) (B:List Key),B.Perm A->A.Nodup->Paired (fun k v=>(zN X.prog X.w).is k v=true) B g->(∀b u,s.heap.get? b=some u->c.get? b=some u) ->
   wpAny (model X.prog X.w) X.A.in1.in1 (Builtin.«list.sort» ⟨[.ref c.objs.size],[]⟩) (fun l Y=>∃v,l=.done (.ret v)/\Q (.ref c.objs.size) Y) E { s with heap:=c.push (seqObj "list" g.toArray 0),toks:=O,drawn:=J }) (a0:A.length<64) :
  wpAny (model X.prog X.w) X.A (call (.builtin "sorted") [.ref a]) Q E s:=by
 obtain⟨sx,_,_⟩:=(show ObjOk X.prog X.w H s.heap a (Jb X.prog X.w a A) from I.hok a _ hx)
 obtain⟨o,ho,es,ep,t,L,hd,T,nd,hb,hf,tb⟩:=sx;have le:=T.len;rw[j8] at le;obtain⟨_,a1,p1,pr⟩:=T;have sz:sizeLine=16777216:=sizeLine_eq;refine Ye kind_sorted plain_sorted entry_sorted (args_sorted1 _) ?_
 delta Builtin.«sorted»;refine zn (m:=checkCount "sorted" 1 1 _) (zA (zn (zbA hh ho L hd hf hb tb fun c O J g w U=>?_)))
 obtain⟨M,p2,N⟩:=Zj U (Qg (R:=fun k v=>(zN X.prog X.w).is k v=true) (f:=Prod.snd) pr)
 have lv:g.length=es.size:=by have:=U.length_eq;rwa[zr,j8] at this
 refine zn (wpAny_newList ?_ (by omega))
 have G:(c.push (seqObj "list" g.toArray 0)).get? c.objs.size=some (seqObj "list" g.toArray 0):=zQ _ rfl;refine zn (xO (xX slot_list_sort ⟨_,G,rfl⟩ entry_list_sort (qA (h c O J g M (p2.trans p1) nd N w) (fun l Y x=>?_) fun _ _ e=>e) (args_list_sort _)))
 obtain⟨v,ev,q⟩:=x;exact⟨v,ev,zA ⟨_,rfl,q⟩⟩
theorem vW{l:List (Addr×Obj)}{σ:St}{H:Hp}{s:Shared}{g:Heap}{vs:List Value}{out:Array Value}{zs:List V}{tk:Nat}{d':Drawn}(I:Inv X l σ H s)(c:∀b u,s.heap.get? b=some u->g.get? b=some u)(D:Vals zs out.toList)(G:zs.length<=sizeLine) :
  Inv X l σ (upd H g.objs.size (.lst zs)) { s with heap:=sortedHeap (g.push (seqObj "list" vs.toArray 0)) g.objs.size vs out,toks:=tk,drawn:=d' }/\H g.objs.size=none:=by
 have w:(g.push (seqObj "list" vs.toArray 0)).get? g.objs.size=some (seqObj "list" vs.toArray 0):=zQ _ rfl;have t:s.heap.get? g.objs.size=none:=by
  cases z:s.heap.get? g.objs.size with
  | none=>rfl
  | some o=>exact absurd (zD (c _ _ z)) (jJ _)
 obtain⟨A,B⟩:=sortedHeap_at (out:=out) w;refine⟨(I.drawn d').laidN (a:=g.objs.size) (o:=.lst zs) (t':=tk) (fun b o e=>?_) t ⟨G,out.toList,A,D,by rw[B]⟩,I.hok.none_of t⟩
 have E:=zD (c b o e);rw[sortedHeap_old (zM E) (by rw[qS];exact jQ E)]
 exact zO _ (c b o e)
inductive vN(P:Program)(w:World)(l:List V)(H:Hp)(Q:VK):Prop
 | mk (a:Addr) (g:List Str) (_:l=[.ref a]) (_:H a=some (Jb P w a (jY [] (g.map Sum.inr)))) (_:g.length<64) (_:∀(p:Addr) (c:List Str),H p=none->sortedS c=true->c.Nodup->(∀j,j∈c↔j∈g)->Q (.ref p) (upd H p (.lst (c.map V.str)))):vN P w l H Q
theorem Jf(hh:X.A.handled=none):CallR X (.builtin "sorted") (vN X.prog X.w):=by
 intro U s σ H xs us Q I r h;obtain⟨a,T,rfl,hx,a0,q⟩:=h;obtain⟨u,rfl,ru⟩:=ua r;cases(show u=Value.ref a from ru)
 have lk:=Vd (T.map Sum.inr:List Key) [];rw[QN,zr] at lk;have sz:sizeLine=16777216:=sizeLine_eq;refine za5 hh I hx (fun l M A c D G nd Y g=>?_) (by omega)
 have mem:∀k,k∈D↔k∈T.map Sum.inr:=fun k=>by rw[G.mem_iff,Vc];simp
 obtain⟨N,ez⟩:=zcr fun k hk=>by
  obtain⟨i,_,e⟩:=jg.mp ((mem k).mp hk);exact⟨i,e.symm⟩
 subst ez;have w:(l.push (seqObj "list" c.toArray 0)).get? l.objs.size=some (seqObj "list" c.toArray 0):=zQ _ rfl;have lz:=G.length_eq;rw[zr] at lz;have lv:c.length=N.length:=by have:=QI Y;rw[zr] at this;omega
 have B:=Zf Y;refine list_sort_treeK strKind_oneLt (s:={ s with heap:=l.push (seqObj "list" c.toArray 0),toks:=M,drawn:=A }) w B.keysOf (fun v1 v2 rest e=>keyKind_strs (by rw[<- e];exact B)) (by omega) fun L b1 b2=>⟨_,rfl,?_⟩
 obtain⟨O,a1,t,a3⟩:=sorted_out_str B b1 b2;have E:N.Nodup:=Xi (G.nodup_iff.mpr nd);obtain⟨J,hn⟩:=vW (vs:=c) (out:=(arrOf L).map (·.2)) (zs:=O.map V.str) (tk:=M) (d':=A) I g (Jk a1) (by rw[zr,t.length_eq];omega)
 refine⟨.ref l.objs.size,_,J,rfl,q _ O hn a3 (t.nodup_iff.mpr E) fun j=>?_⟩
 rw[t.mem_iff];have:=mem (Sum.inr j);simpa using this
end
section
variable{X:Cx}{t c g:Expr}{l w:List Expr}{scope:Scope}{G:Pos}{wi E:TI}{tf B:TT}{Y:TE}{x y z u:Str}{O Q U N tp D:Pos}{L A:Nat}
theorem zei(fr:List Str)(js:List Nat)(hc:X.calm=true)(hk:scope.kind=.function)(hb:v0 scope.names X.env.scope.names X.N [x,y,z,u] fr js=true)(hi:PI X (.Tuple [.Name x O,.Name y Q] L tp) c E)
  (hf:∀C s H ex,PF (zP X ([x,y,z,u]++fr) scope C s H ex) l B) (a2:∀C s H ex,PI (zP X ([x,y,z,u]++fr) scope C s H ex) (.Tuple [.Name z U,.Name u N] A D) g wi) (a1:∀C s H ex,PF (zP X ([x,y,z,u]++fr) scope C s H ex) w tf)
  (he:∀C s H ex,PE (zP X ([x,y,z,u]++fr) scope C s H ex) t Y) (hs:∀x,foldedSetIterable c X.env x=pure x:=by intro _;rfl) (a3:∀C x,foldedSetIterable g (compEnvC scope (qg X.env.cells scope.names []) C X.env) x=pure x:=by intro _ _;rfl) :
  PE X (lc2 t (.Tuple [.Name x O,.Name y Q] L tp) c l (.Tuple [.Name z U,.Name u N] A D) g w scope G) (zgI E 4 js (Xp X.K 2 (xu (j4 0) (xu (j4 1) V3))) B wi (Xp X.K 2 (xu (j4 2) (xu (j4 3) V3))) tf Y):=by
 obtain⟨h1,h2,h3⟩:=xF hb;refine zfY [x,y,z,u] fr js hc hk h1 hi (fun C s H ex=>?_) hf a2 (fun C s H ex=>?_) a1 he hs a3
 ·exact ju (X:=zP X ([x,y,z,u]++fr) scope C s H ex) hc (zI (xc (h2 x (by simp)) h3 rfl) (zI (xc (h2 y (by simp)) h3 rfl) qP))
 ·exact ju (X:=zP X ([x,y,z,u]++fr) scope C s H ex) hc (zI (xc (h2 z (by simp)) h3 rfl) (zI (xc (h2 u (by simp)) h3 rfl) qP))
variable{oo e:Expr}{a0:List Expr}{to:TE}{tt:TA}{M:Str}{I J:Pos}{T id:String}{r:V->List V->Hp->VK->Prop}
end
end L2
namespace L2
open PySem PySem.Spec PyProof.Rows PySem.W
def KRun{α:Type}(c:Nat->Nat->Bool)(n:Nat):KasT α->(α->Prop)->Prop
 | .ret a,Q=>Q a
 | .ask i j k,Q=>i<n/\j<n/\KRun c n (k (c i j)) Q
theorem KRun.mono{α:Type}{l:Nat->Nat->Bool}{n:Nat}{Q g:α->Prop}(h:∀a,Q a->g a):∀{t:KasT α},KRun l n t Q->KRun l n t g
 | .ret a,x=>h a x
 | .ask i j k,⟨a,b,c⟩=>⟨a,b,KRun.mono h c⟩
def u8:=@KRun.mono
theorem KRun.bind{α β:Type}{g:Nat->Nat->Bool}{n:Nat}{f:α->KasT β}{Q:β->Prop}:∀{t:KasT α},KRun g n t (fun a=>KRun g n (f a) Q)->KRun g n (t.bind f) Q
 | .ret a,x=>x
 | .ask i j k,⟨a,b,c⟩=>⟨a,b,KRun.bind c⟩
def ud:=@KRun.bind
theorem KRun.wp{α:Type}{bt:Nat->Nat->Bool}{n:Nat}{ask:Nat->Nat->(Bool->Shared->Prop)->Shared->Prop}{J:Shared->Prop}{Q:α->Prop}{G:α->Shared->Prop}
  (w:∀i j,i<n->j<n->∀(C:Bool->Shared->Prop) s,J s->(∀l,J l->C (bt i j) l)->ask i j C s) (A:∀a s,Q a->J s->G a s):∀{t:KasT α} {s:Shared},KRun bt n t Q->J s->t.kasWp ask G s
 | .ret a,s,x,j=>A a s x j
 | .ask i j k,s,⟨a,b,c⟩,B=>w i j a b _ s B fun l g=>KRun.wp w A c g
section
variable{n:Nat}{r:Nat->Nat}
def vA(r:Nat->Nat)(p:Array Nat)(k:Nat):Nat:=r (p.getD k 0)
structure Gd(n:Nat)(p:Array Nat):Prop where
 pm:p.toList.Perm (List.range n)
theorem Gd.sz{p:Array Nat}(g:Gd n p):p.size=n:=by have:=g.pm.length_eq;rwa[j8,zS] at this
theorem Gd.at{p:Array Nat}(g:Gd n p){k:Nat}(h:k<n):p[k]? =some (p.getD k 0):=by
 rw[xQ,xP (by rw[g.sz];exact h)]
 rfl
theorem Gd.lt{p:Array Nat}(g:Gd n p)(c:0<n)(k:Nat):p.getD k 0<n:=by
 by_cases h:k<n
 ·have:=g.at h
  rw[<- Zv] at this;exact qu.mp (g.pm.mem_iff.mp (jc this))
 ·rw[xQ,X1 (by rw[g.sz];omega)]
  exact c
theorem Gd.inj{p:Array Nat}(g:Gd n p)(s:∀i j,i<n->j<n->r i=r j->i=j){i j:Nat}(E:i<n)(G:j<n)(e:vA r p i=vA r p j):i=j:=by
 have w:0<n:=by omega
 have D:=s _ _ (g.lt w i) (g.lt w j) e;have H:p.toList.Nodup:=g.pm.nodup_iff.mpr QO;have c:=g.at E;have l:=g.at G;rw[<- Zv] at c l;obtain⟨I,A⟩:=zT.mp c;obtain⟨J,B⟩:=zT.mp l;exact(yc H).mp (by rw[A,B,D])
theorem Gd.rev{p:Array Nat}(g:Gd n p)(i j:Nat):Gd n (kas_rev p i j):=⟨(zdH.mp (mirror_perm p i j _)).trans g.pm⟩
theorem Gd.bub{p:Array Nat}(g:Gd n p)(i j:Nat):Gd n (bubble p i j):=⟨(zdH.mp (bubble_perm p i j)).trans g.pm⟩
def AscA(r:Nat->Nat)(p:Array Nat)(m:Nat):Prop:=∀i j,i<j->j<m->vA r p i<vA r p j
def DscA(r:Nat->Nat)(p:Array Nat)(m:Nat):Prop:=∀i j,i<j->j<m->vA r p j<vA r p i
theorem AscA.step{p:Array Nat}{m:Nat}(h:AscA r p m)(w:1<=m)(l:vA r p (m-1)<vA r p m):AscA r p (m+1):=fun i j c A=>by
 by_cases e:j=m
 ·subst e
  by_cases g:i=j-1
  ·subst g;exact l
  ·have:=h i (j-1) (by omega) (by omega)
   omega
 ·exact h i j c (by omega)
theorem DscA.step{p:Array Nat}{m:Nat}(h:DscA r p m)(w:1<=m)(l:vA r p m<vA r p (m-1)):DscA r p (m+1):=fun i j c A=>by
 by_cases e:j=m
 ·subst e
  by_cases g:i=j-1
  ·subst g;exact l
  ·have:=h i (j-1) (by omega) (by omega)
   omega
 ·exact h i j c (by omega)
variable{t:Nat->Nat->Bool}(s:∀i j,i<n->j<n->r i=r j->i=j)(hb:∀i j,i<n->j<n->t i j=decide (r i<r j))
include s hb
theorem Xa{p:Array Nat}(g:Gd n p):∀(f m:Nat),1<=m->m+f<=n->AscA r p m->KRun t n (kas_asc p f m) fun l=>AscA r p l/\m<=l/\l<=m+f/\(l<m+f->vA r p l<vA r p (l-1))
 | 0,m,A,E,a=>⟨a,zC _,zC _,fun z=>absurd z (jJ _)⟩
 | f+1,m,A,E,a=>by
  have w:0<n:=by omega
  refine⟨g.lt w _,g.lt w _,?_⟩
  rw[hb _ _ (g.lt w _) (g.lt w _)];by_cases c:vA r p m<vA r p (m-1)
  ·rw[show decide (r (p.getD m 0)<r (p.getD (m-1) 0))=true from zW c]
   dsimp only;rw[zq rfl];exact⟨a,zC _,by omega,fun _=>c⟩
  ·rw[show decide (r (p.getD m 0)<r (p.getD (m-1) 0))=false from jb c]
   dsimp only;rw[zo qF];have ne:vA r p m≠vA r p (m-1):=fun z=>by have:=g.inj s (by omega) (by omega) z;omega
   refine u8 (fun l ⟨B,G,H,D⟩=>⟨B,by omega,by omega,fun z=>D (by omega)⟩) (Xa g f (m+1) (by omega) (by omega) (a.step A (by omega)))
theorem VD{p:Array Nat}(g:Gd n p):∀(f m:Nat),1<=m->m+f<=n->DscA r p m->KRun t n (kas_desc f p m 0) fun x=>x.1=p/\x.2.2=0/\DscA r p x.2.1/\m<=x.2.1/\x.2.1<=m+f
 | 0,m,w,E,a=>⟨rfl,rfl,a,zC _,zC _⟩
 | f+1,m,w,E,a=>by
  have l:0<n:=by omega
  refine⟨g.lt l _,g.lt l _,?_⟩
  rw[hb _ _ (g.lt l _) (g.lt l _)];by_cases c:vA r p m<vA r p (m-1)
  ·rw[show decide (r (p.getD m 0)<r (p.getD (m-1) 0))=true from zW c]
   dsimp only;rw[zq rfl,zo (jJ 0)];exact u8 (fun x ⟨A,B,D,G,H⟩=>⟨A,B,D,by omega,by omega⟩) (VD g f (m+1) (by omega) (by omega) (a.step w c))
  ·rw[show decide (r (p.getD m 0)<r (p.getD (m-1) 0))=false from jb c]
   dsimp only;rw[zo qF];have ne:vA r p m≠vA r p (m-1):=fun z=>by have:=g.inj s (by omega) (by omega) z;omega
   refine⟨g.lt l _,g.lt l _,?_⟩
   rw[hb _ _ (g.lt l _) (g.lt l _),show decide (r (p.getD (m-1) 0)<r (p.getD m 0))=true from zW (show vA r p (m-1)<vA r p m by omega)]
   dsimp only;rw[zq rfl];exact⟨rfl,rfl,a,zC _,(by show m<=m+(f+1);omega)⟩
theorem yO{p:Array Nat}(g:Gd n p){k:Nat}(hk:k<n)(a:AscA r p k):∀(f l h:Nat),h-l<=f->l<=h->h<=k->(∀i,i<l->vA r p i<vA r p k)->(∀i,h<=i->i<k->vA r p k<vA r p i) ->
  KRun t n (kas_place p k f l h) fun x=>x<=k/\(∀i,i<x->vA r p i<vA r p k)/\∀i,x<=i->i<k->vA r p k<vA r p i
 | 0,l,h,G,H,B,w,A=>by
  have e:l=h:=by omega
  subst e;exact⟨B,w,A⟩
 | f+1,l,h,G,H,B,w,A=>by
  have D:0<n:=by omega
  unfold kas_place;by_cases c:l≥h
  ·rw[zq c]
   have e:l=h:=by omega
   subst e;exact⟨B,w,A⟩
  ·rw[zo c]
   refine⟨g.lt D _,g.lt D _,?_⟩
   rw[hb _ _ (g.lt D _) (g.lt D _)];by_cases d:vA r p k<vA r p ((l+h)/2)
   ·rw[show decide (r (p.getD k 0)<r (p.getD ((l+h)/2) 0))=true from zW d]
    dsimp only;rw[zq rfl];refine yO g hk a f l _ (by omega) (by omega) (by omega) w fun i I E=>?_
    by_cases q:i=(l+h)/2
    ·rw[q];exact d
    ·have:=a ((l+h)/2) i (by omega) E
     omega
   ·rw[show decide (r (p.getD k 0)<r (p.getD ((l+h)/2) 0))=false from jb d]
    dsimp only;rw[zo qF];have ne:vA r p k≠vA r p ((l+h)/2):=fun z=>by have:=g.inj s hk (by omega) z;omega
    refine yO g hk a f _ h (by omega) (by omega) B (fun i I=>?_) A
    by_cases q:i=(l+h)/2
    ·rw[q];omega
    ·have:=a i ((l+h)/2) (by omega) (by omega)
     omega
omit hb in
theorem zea{p:Array Nat}(g:Gd n p){m:Nat}(A:m<=n)(d:DscA r p m):AscA r (kas_rev p 0 m) m:=fun i j l w=>by
 have c:∀k,k<m->vA r (kas_rev p 0 m) k=vA r p (m-1-k):=fun k hk=>by
  unfold vA kas_rev;have e:=getElem?_mirror_all (xs:=p) (i:=0) (j:=m) (by rw[g.sz];exact A) k
  rw[zq ⟨qk _,hk⟩,Nat.zero_add] at e;rw[xQ,e,<- xQ]
 rw[c i (by omega),c j w]
 exact d _ _ (by omega) (by omega)
theorem zcp{p:Array Nat}(g:Gd n p){m:Nat}(w:1<=m)(A:m<=n)(d:DscA r p m):KRun t n (kas_tail3 m n p) fun x=>Gd n x.2/\AscA r x.2 x.1/\1<=x.1/\x.1<=n:=by
 unfold kas_tail3;refine ud (u8 (fun c ⟨l,B,D,_⟩=>?_) (Xa s hb (g.rev 0 m) (n-m) m w (by omega) (zea s g A d)))
 exact⟨g.rev 0 m,l,by show 1<=c;omega,by show c<=n;omega⟩
theorem zba{p:Array Nat}(g:Gd n p)(Q:2<=n):KRun t n (kas_count n p) fun x=>Gd n x.2/\AscA r x.2 x.1/\1<=x.1/\x.1<=n:=by
 have l:0<n:=by omega
 unfold kas_count;refine ud (u8 (fun m ⟨w,B,M,E⟩=>?_) (Xa s hb g (n-1) 1 (zC _) (by omega) fun i j A L=>by omega))
 by_cases c:(m==n)=true
 ·rw[zq c]
  exact⟨g,w,B,by show m<=n;omega⟩
 ·rw[zo c]
  have T:m<n:=by
   have:m≠n:=fun z=>c (by rw[z];simp)
   omega
  by_cases D:m>1
  ·rw[zq D]
   refine⟨g.lt l _,g.lt l _,?_⟩
   rw[hb _ _ (g.lt l _) (g.lt l _),show decide (r (p.getD 0 0)<r (p.getD (m-1) 0))=true from zW (show vA r p 0<vA r p (m-1) from w 0 (m-1) (by omega) (by omega))]
   dsimp only;rw[zq rfl];exact⟨g,w,B,by show m<=n;omega⟩
  ·rw[zo D]
   have e:m=1:=by omega
   subst e;have J:DscA r p 2:=fun i j A L=>by
    have:i=0:=by omega
    have:j=1:=by omega
    subst i j;exact E (by omega)
   unfold kas_descPart;refine ud (u8 (fun x ⟨G,H,I,N,O⟩=>?_) (VD s hb g (n-(1+1)) (1+1) (by omega) (by omega) J))
   rw[H,zo (jJ 0),G];exact zcp s hb g (by omega) (by omega) I
theorem YT:∀(f:Nat) (p:Array Nat) (k:Nat),Gd n p->k+f=n->AscA r p k->KRun t n (kas_bin f p k) fun x=>Gd n x/\AscA r x n
 | 0,p,k,g,e,a=>by
  have:k=n:=by omega
  subst this;exact⟨g,a⟩
 | f+1,p,k,g,e,a=>by
  unfold kas_bin;have hk:k<n:=by omega
  refine ud (u8 (fun l ⟨L,G,H⟩=>?_) (yO s hb g hk a k 0 k (by omega) (qk _) (zC _) (fun i I=>absurd I (jL _)) fun i N O=>by omega))
  refine YT f _ (k+1) (g.bub k (k-l)) (by omega) fun i j B Q=>?_
  have A:∀i,vA r (bubble p k (k-l)) i=if i=l then vA r p k else if l<i/\i<=k then vA r p (i-1) else vA r p i:=fun i=>by
   unfold vA;have e:=getElem?_bubble (xs:=p) (src:=k) (by rw[g.sz];exact hk) (k-l) (by omega) i
   rw[show k-(k-l)=l by omega] at e
   rw[xQ,e];by_cases c:i=l
   ·rw[zq c,zq c,<- xQ]
   ·rw[zo c,zo c]
    by_cases w:l<i/\i<=k
    ·rw[zq w,zq w,<- xQ]
    ·rw[zo w,zo w,<- xQ]
  rw[A i,A j];by_cases c:i=l
  ·rw[zq c,zo (by omega),zq (by omega)]
   exact H (j-1) (by omega) (by omega)
  ·rw[zo c]
   by_cases w:l<i/\i<=k
   ·rw[zq w,zo (by omega),zq (by omega)]
    exact a (i-1) (j-1) (by omega) (by omega)
   ·rw[zo w]
    by_cases D:j=l
    ·rw[zq D]
     exact G i (by omega)
    ·rw[zo D]
     by_cases E:l<j/\j<=k
     ·rw[zq E]
      by_cases M:i=j-1
      ·omega
      ·exact a i (j-1) (by omega) (by omega)
     ·rw[zo E]
      exact a i j B (by omega)
theorem zcq(H:2<=n):KRun t n (kas_sort n) fun p=>p.toList.Perm (List.range n)/\(p.toList.map r).Pairwise (·< ·):=by
 have l:∀p:Array Nat,Gd n p->AscA r p n->p.toList.Perm (List.range n)/\(p.toList.map r).Pairwise (·< ·):=fun p g a=>by
  refine⟨g.pm,vp.mpr (Yg.mpr fun i j B A w=>?_)⟩
  rw[j8,g.sz] at B A;have:=a i j w A;unfold vA at this;rw[xQ,xQ,xP (by rw[g.sz];exact B),xP (by rw[g.sz];exact A)] at this
  simpa using this
 unfold kas_sort;refine ud (u8 (fun x ⟨g,a,E,I⟩=>?_) (zba s hb (p:=List.toArray (List.range n)) ⟨.refl _⟩ H))
 by_cases c:x.1<n
 ·rw[zq c,Nat.max_eq_left E]
  exact u8 (fun p ⟨G,D⟩=>l p G D) (YT s hb (n-x.1) x.2 x.1 g (by omega) a)
 ·rw[zo c]
  have e:x.1=n:=by omega
  rw[e] at a;exact l x.2 g a
end
end L2
namespace L2
open PySem PySem.Spec PyProof.Rows PySem.W
section
variable{g:Program}{w:World}{A:Around}{E:Value->Shared->Prop}{s:Shared}
theorem Z7(c:List Value):((List.range c.length).map fun i=>c.getD i Value.none)=c:=by
 refine Zt (by simp) fun i t l=>?_
 simp[l]
theorem Jw{a:Addr}{l:List Value}{n:Nat}{P:PySem.Fin->Shared->Prop}(O:s.heap.get? a=some (seqObj "list" l.toArray n))(a0:l.length<64)(r:Nat->Nat)(ri:∀i j,i<l.length->j<l.length->r i=r j->i=j)
  (hk:2<=l.length->∀M,(∀b o,b≠a->s.heap.get? b=some o->M.get? b=some o)->∃κ,(∀Q:SortKind->Shared->Prop,Q κ { s with heap:=M }->wpAny (model g w) A (keyKind' l.toArray) Q (fun _ _=>False) { s with heap:=M }) /\
   ∀i j,i<l.length->j<l.length->∀C:Bool->Shared->Prop,C (decide (r i<r j)) { s with heap:=M }->kas_ask g w A κ l i j C { s with heap:=M })
  (h:∀p:List Nat,p.Perm (List.range l.length)->(p.map r).Pairwise (·< ·)->P (.done (.ret .none)) { s with heap:=sortedHeap s.heap a l (p.map fun i=>l.getD i Value.none).toArray }) :
  wpAny (model g w) A (Builtin.«list.sort» ⟨[.ref a],[]⟩) P E s:=by
 have ha:a<s.heap.objs.size:=zD O;have sz:sizeLine=16777216:=sizeLine_eq;obtain⟨T,N⟩:∃T,(s.heap.update a (Obj.mapSeq fun _=>(#[]:Array Value))).get? a=some (seqObj "list" #[] T):=⟨_,get?_update_seq O fun _=>#[]⟩
 rw[list_sort_plain];refine zn (listItems_at O rfl (zn (listUpdate_at O rfl ?_ (by rw[zX];omega) (qk _))))
 refine zn (seqEpoch_at N rfl (zn (wpAny_newTuple ?_ (by show l.length<=_;omega))))
 refine zn (wpAny_newList ?_ (qk _))
 refine xO (show wpAny (model g w) A _ P E { s with heap:=((s.heap.update a (Obj.mapSeq fun _=>(#[]:Array Value))).push (seqObj "tuple" l.toArray 0)).push (seqObj "list" #[] 0) } from ?_)
 have B:(((s.heap.update a (Obj.mapSeq fun _=>(#[]:Array Value))).push (seqObj "tuple" l.toArray 0)).push (seqObj "list" #[] 0)).get? a=some (seqObj "list" #[] T):=zO _ (zO _ N)
 have a1:∀b o,b≠a->s.heap.get? b=some o->(((s.heap.update a (Obj.mapSeq fun _=>(#[]:Array Value))).push (seqObj "tuple" l.toArray 0)).push (seqObj "list" #[] 0)).get? b=some o:=fun b o hb e=>zO _ (zO _ ((vL _ _ (qc hb)).trans e))
 dsimp only;by_cases I:l.toArray.size<2
 ·rw[zq I,zq I]
  have l2:l.length<2:=by rw[zX] at I;exact I
  refine zn (zA ?_)
  rw[StateT.run_pure];refine zn (zA ?_)
  dsimp only;have eo:((l.toArray.zip l.toArray).map (·.2))=((List.range l.length).map fun i=>l.getD i Value.none).toArray:=by
   rw[Z7];refine Array.ext (by simp) fun i h1 h3=>?_
   simp
  refine zn (seqEpoch_at B rfl (zn (listUpdate_at B rfl ?_ (qk _) (by rw[show arrOf (SortSt.mk' general' (l.toArray.zip l.toArray) #[] 7 none)=l.toArray.zip l.toArray from rfl,eo,Z7,zX];omega))))
  simp only[bne_self_eq_false,yJ,if_false];refine zA ?_
  have:=h (List.range l.length) (.refl _) (vp.mpr (Yg.mpr fun i j hi hj a7=>by simp at hj;omega))
  rw[<- eo] at this;exact this
 ·rw[zo I,zo I]
  have L:2<=l.length:=by rw[zX] at I;omega
  obtain⟨κ,kk,ask⟩:=hk L _ a1;refine zn (qA (kk (fun κ' t=>κ'=κ/\t=_) ⟨rfl,rfl⟩) (fun κ' t e=>?_) fun _ _ x=>x.elim)
  obtain⟨U,Y⟩:=e;subst U Y;refine zn (qA (kat_run (ks:=l) (vs:=l) (κ:=κ') (Q:=fun D t=>∃p:Array Nat,arrOf D=p.map (kas_item (l.toArray.zip l.toArray))/\failedOf D=none/\p.toList.Perm (List.range l.length)/\(p.toList.map r).Pairwise (·< ·)/\t={ s with heap:=((s.heap.update a (Obj.mapSeq fun _=>(#[]:Array Value))).push (seqObj "tuple" l.toArray 0)).push (seqObj "list" #[] 0) })
   (G:=fun p t=>p.toList.Perm (List.range l.length)/\(p.toList.map r).Pairwise (·< ·)/\t={ s with heap:=((s.heap.update a (Obj.mapSeq fun _=>(#[]:Array Value))).push (seqObj "tuple" l.toArray 0)).push (seqObj "list" #[] 0) })
   rfl L a0 (fun p D t _ a2 a3 ⟨a4,a5,a6⟩=>⟨p,a2,a3,a4,a5,a6⟩) (KRun.wp (J:=fun t=>t={ s with heap:=((s.heap.update a (Obj.mapSeq fun _=>(#[]:Array Value))).push (seqObj "tuple" l.toArray 0)).push (seqObj "list" #[] 0) }) (bt:=fun i j=>decide (r i<r j)) (n:=l.length)
    (fun i j hi hj C t e c=>?_) (fun p t ⟨q1,q2⟩ e=>⟨q1,q2,e⟩) (zcq ri (fun i j _ _=>rfl) L) rfl)) (fun x t hx=>?_) fun _ _ e=>e)
  ·subst e
   exact ask i j hi hj C (c _ rfl)
  ·obtain⟨⟨⟩,D⟩:=x
   obtain⟨p,b1,b2,b3,b4,b5⟩:=hx;subst b5;dsimp only;have H:=kat_snds (ks:=l) (vs:=l) rfl b1;have lp:p.toList.length=l.length:=by have:=b3.length_eq;rwa[zS] at this
   refine zn (seqEpoch_at B rfl (zn (listUpdate_at B rfl ?_ (qk _) (by rw[H,zX,zr];omega))))
   rw[b2];simp only[bne_self_eq_false,yJ,if_false];refine zA ?_
   have:=h p.toList b3 b4;rw[<- H] at this;exact this
end
end L2
namespace L2
open PySem PySem.Spec PyProof.Rows PySem.W
def rkB(n:Nat)(c:Nat->Nat->Bool)(i:Nat):Nat:=(List.range n).countP fun j=>c j i
theorem Xd{n:Nat}{g:Nat->Nat->Bool}(D:∀i,i<n->g i i=false)(G:∀i j k,i<n->j<n->k<n->g i j=true->g j k=true->g i k=true){i j:Nat}(A:i<n)(E:j<n)(h:g i j=true):rkB n g i<rkB n g j:=by
 unfold rkB;have sub:∀l:List Nat,(∀x∈l,x<n)->l.countP (fun x=>g x i)<=l.countP (fun x=>g x j):=fun l=>by
  induction l with
  | nil=>intro _;exact zC _
  | cons x l B=>
   intro t;have H:=B fun y hy=>t y (z9 _ hy)
   rw[XR,XR];by_cases c:g x i=true
   ·have:=G x i j (t x (by simp)) A E c h
    rw[zq c,zq this];omega
   ·rw[zo c]
    split<;>omega
 have s:∀l:List Nat,(∀x∈l,x<n)->i∈l->l.countP (fun x=>g x i)<l.countP (fun x=>g x j):=fun l=>by
  induction l with
  | nil=>intro _ z;cases z
  | cons x l B=>
   intro t I;have w:∀y∈l,y<n:=fun y hy=>t y (z9 _ hy)
   rw[XR,XR];rcases zL.mp I with z | z
   ·subst z
    rw[zo (by rw[D i A];exact qF),zq h]
    have:=sub l w;omega
   ·have H:=B w z
    by_cases c:g x i=true
    ·have:=G x i j (t x (by simp)) A E c h
     rw[zq c,zq this];omega
    ·rw[zo c]
     split<;>omega
 exact s _ (fun x hx=>qu.mp hx) (qu.mpr A)
theorem ZN{n:Nat}{g:Nat->Nat->Bool}(l:∀i,i<n->g i i=false)(w:∀i j k,i<n->j<n->k<n->g i j=true->g j k=true->g i k=true)(tot:∀i j,i<n->j<n->i≠j->g i j=true\/g j i=true){i j:Nat}(s:i<n)(t:j<n):g i j=decide (rkB n g i<rkB n g j):=by
 by_cases c:g i j=true
 ·rw[c,zW (Xd l w s t c)]
 ·rw[(w9 _).mp c,eq_comm]
  refine jb fun z=>?_
  by_cases e:i=j
  ·subst e;omega
  ·rcases tot i j s t e with q | q
   ·exact c q
   ·have:=Xd l w t s q;omega
theorem YW{n:Nat}{g:Nat->Nat->Bool}(l:∀i,i<n->g i i=false)(w:∀i j k,i<n->j<n->k<n->g i j=true->g j k=true->g i k=true)(tot:∀i j,i<n->j<n->i≠j->g i j=true\/g j i=true)(i j:Nat)(s:i<n)(t:j<n)(e:rkB n g i=rkB n g j):i=j:=by
 by_cases c:i=j
 ·exact c
 ·rcases tot i j s t c with q | q
  ·have:=Xd l w s t q;omega
  ·have:=Xd l w t s q;omega
def ltS(a b:Str):Bool:=decide (a.cps.toList<b.cps.toList)
theorem yt(a:Str):ltS a a=false:=jb (List.lt_irrefl _)
theorem WH{a b c:Str}(g:ltS a b=true)(l:ltS b c=true):ltS a c=true:=zW (List.lt_trans (jA g) (jA l))
theorem zd3{a b:Str}(h:a.cps.toList=b.cps.toList):a=b:=by
 cases a;cases b
 congr
 exact Array.toList_inj.mp h
theorem zaf{a b:Str}(h:a≠b):ltS a b=true\/ltS b a=true:=by
 by_cases c:a.cps.toList<b.cps.toList
 ·exact .inl (zW c)
 ·by_cases g:b.cps.toList<a.cps.toList
  ·exact .inr (zW g)
  ·exact absurd (zd3 (List.le_antisymm (show a.cps.toList<=b.cps.toList from g) c)) h
theorem Z5:∀{l:List Str} {p:Str},risingS p l=true->(p::l).Nodup->(p::l).Pairwise fun a b=>ltS a b=true
 | [],p,_,_=>List.pairwise_singleton _ _
 | x::l,p,h,w=>by
  have s:(!ltCps x.cps.toList p.cps.toList&&risingS x l)=true:=h;rw[qE] at s;have g:=xW.mp w;have t:=Z5 s.2 g.2;have c:ltS p x=true:=by
   rcases zaf (a:=p) (b:=x) (fun e=>g.1 (by rw[e];simp)) with q | q
   ·exact q
   ·have z:=s.1
    rw[ltCps_eq] at z;rw[show decide (x.cps.toList<p.cps.toList)=true from q] at z
    cases z
  refine Zb.mpr ⟨fun b hb=>?_,t⟩
  rcases zL.mp hb with e | e
  ·rw[e];exact c
  ·exact WH c ((Zb.mp t).1 b e)
theorem Wx{l:List Str}(h:sortedS l=true)(c:l.Nodup):l.Pairwise fun a b=>ltS a b=true:=by
 cases l with
 | nil=>exact .nil
 | cons p l=>exact Z5 h c
theorem JY:∀{s t:List Str},(s.Pairwise fun a b=>ltS a b=true)->(t.Pairwise fun a b=>ltS a b=true)->(∀j,j∈s↔j∈t)->s=t
 | [],[],_,_,_=>rfl
 | [],y::t,_,_,h=>absurd ((h y).mpr (by simp)) (by simp)
 | x::s,[],_,_,h=>absurd ((h x).mp (by simp)) (by simp)
 | x::s,y::t,hx,hy,h=>by
  obtain⟨w,H⟩:=Zb.mp hx;obtain⟨A,I⟩:=Zb.mp hy;have G:∀{a b:Str},ltS a b=true->ltS b a=true->False:=fun B D=>by have:=WH B D;rw[yt] at this;cases this
  have e:x=y:=by
   rcases zL.mp ((h x).mp (by simp)) with a | a
   ·exact a
   ·rcases zL.mp ((h y).mpr (by simp)) with b | b
    ·exact b.symm
    ·exact(G (w y b) (A x a)).elim
  subst e;have g:∀{l:List Str},(∀b∈l,ltS x b=true)->x∉l:=fun E z=>by have:=E x z;rw[yt] at this;cases this
  rw[JY H I fun j=>?_]
  constructor
  ·intro c
   rcases zL.mp ((h j).mp (z9 _ c)) with a | a
   ·exact absurd (a▸c) (g w)
   ·exact a
  ·intro c
   rcases zL.mp ((h j).mpr (z9 _ c)) with a | a
   ·exact absurd (a▸c) (g A)
   ·exact a
section
variable{X:Cx}{g:List (Addr×Obj)}{σ:St}{s:Shared}
theorem Jn:∀(as:List Addr) (B:List (List V)) (H:Hp),as.Nodup->(∀a∈as,jh X g H a)->Inv X g σ H s->as.length=B.length ->
  (∀(j:Nat) a t,as[j]? =some a->B[j]? =some t->t.length<=sizeLine/\∃w:List Value,Vals t w/\TupX s.heap a w.toArray) ->
  ∃A,Inv X g σ A s/\Same H A/\(∀c,c∉as->A c=H c)/\∀(j:Nat) a t,as[j]? =some a->B[j]? =some t->A a=some (.tup t)
 | [],B,H,_,_,I,_,_=>⟨H,I,u6 _,fun _ _=>rfl,fun j a t e=>by simp at e⟩
 | a::as,[],H,_,_,_,l,_=>by simp at l
 | a::as,t::B,H,nd,G,I,l,N=>by
  obtain⟨Y,L⟩:=xW.mp nd;obtain⟨z,w,rv,U⟩:=N 0 a t rfl rfl;have T:Inv X g σ (upd H a (.tup t)) s:=I.track (G a (by simp)) ⟨z,w,rv,U⟩
  have J:∀b∈as,jh X g (upd H a (.tup t)) b:=fun b hb=>⟨by rw[zw (show b≠a from fun e=>Y (e▸hb))];exact(G b (z9 _ hb)).1,(G b (z9 _ hb)).2⟩
  obtain⟨A,Q,O,o',t'⟩:=Jn as B _ L J T (by simpa using l) fun j b M D E=>N (j+1) b M (by simpa using D) (by simpa using E)
  refine⟨A,Q,(zf (G a (by simp)).1).trans O,fun c hc=>?_,fun j b M D E=>?_⟩
  ·rw[o' c (fun z=>hc (z9 _ z)),zw (fun z=>hc (by rw[z];simp))]
  ·cases j with
   | zero=>
    cases D;cases E;exact O _ _ zg
   | succ j=>exact t' j b M (by simpa using D) (by simpa using E)
end
end L2
namespace L2
open PySem PySem.Spec PyProof.Rows PySem.W
def ltI(c:List (Str×Int))(i j:Nat):Bool:=ltS (c.getD i ("",0)).1 (c.getD j ("",0)).1
theorem zez{c:List (Str×Int)}(t:(c.map (·.1)).Nodup)(i j:Nat)(g:i<c.length)(l:j<c.length)(h:i≠j):ltI c i j=true\/ltI c j i=true:=by
 refine zaf fun e=>h ?_
 have s:(c.map (·.1))[i]'(by simpa using g)=(c.map (·.1))[j]'(by simpa using l):=by simpa [g,l] using e
 exact(yc t).mp s
theorem Qq{h:Heap}:∀(as:List Addr),(∀a∈as,∃o s n x t,h.get? a=some o/\o.cls=.type "tuple" /\ o.data=.seq s n/\s[0]? =some (Value.str x t))->∃c,KatTups h (as.map Value.ref) c/\c.length=as.length/\∀v∈c,∃x t,v=Value.str x t
 | [],_=>⟨[],KatTups.nil,rfl,fun v g=>nomatch g⟩
 | a::as,w=>by
  obtain⟨c,k,l,m⟩:=Qq as fun b hb=>w b (z9 _ hb)
  obtain⟨o,s,n,x,t,A,B,D,E⟩:=w a (by simp)
  refine⟨.str x t::c,KatTups.cons A B D E k,by rw[jP,l];rfl,fun v g=>?_⟩
  rcases zL.mp g with z | z
  ·exact⟨x,t,z⟩
  ·exact m v z
section
variable{X:Cx}
def xT(p d:Addr):HO:=.ext fun h=>h.IsItemsView p d
inductive zct(x:V)(g:List V)(H:Hp)(Q:VK):Prop
 | mk (d c:_) (_:x=.ref d) (_:g=[]) (_:H d=some (.dK c)) (_:∀p,H p=none->Q (.ref p) (upd H p (xT p d))):zct  x g H Q
theorem zc0:MtM X "dict.items" zct:=by
 intro g s σ H x l v N Q I G E h;obtain⟨d,B,rfl,rfl,t,q⟩:=h;cases G;cases E;obtain⟨O,lo,l,D,c⟩:=zdo I.hok t;have w:H s.heap.objs.size=none:=I.hok.fresh (zC _);refine call_meetsIn QW c.typeIs PySem.F.entry_dict_items (zdC _) (meets_dict_items (zN X.prog X.w) d lo) ⟨⟨l,c⟩,?_⟩
 refine⟨.ref s.heap.objs.size,_,I.laid (a:=s.heap.objs.size) (o:=xT s.heap.objs.size d) (t':=s.toks) (fun b u e=>zO _ e) (zC _) ⟨⟨_,zQ _ rfl,rfl,rfl⟩,⟨_,zQ _ rfl⟩,fun J L x e=>let ⟨o,A,r⟩:=x;⟨o,e o A,r⟩⟩,rfl,q _ w⟩
inductive vO(w:List V)(H:Hp)(Q:VK):Prop
 | mk (p d:Addr) (c:List (Str×Int)) (_:w=[.ref p]) (_:H p=some (xT p d)) (_:H d=some (.dK (c.map fun t=>(Sum.inr t.1,.int t.2)))) (_:(c.map (·.1)).Nodup) (_:c.length<64) (_:∀(l:Addr) (ps:List (Str×Int)) (s:List V) g,Same H g->H l=none->g l=some (.lst s)->ps.Perm c->((ps.map (·.1)).Pairwise fun a b=>ltS a b=true)->s.length=ps.length->(∀(j:Nat) q,ps[j]? =some q->∃T,s[j]? =some (.ref T)/\H T=none/\g T=some (.tup [.str q.1,.int q.2]))->Q (.ref l) g):vO w H Q
theorem Jg(hh:X.A.handled=none):CallR X (.builtin "sorted") (vO):=by
 intro O s σ H xs us Q I r h;obtain⟨p,d,c,rfl,hp,hx,nd,a5,q⟩:=h;obtain⟨u,rfl,ru⟩:=ua r;cases(show u=Value.ref p from ru)
 obtain⟨hv,_,_⟩:=(show ObjOk X.prog X.w H s.heap p (xT p d) from I.hok p _ hp)
 obtain⟨zz,lo,vs,L,dd⟩:=zdo I.hok hx;obtain⟨ep,da⟩:=dd.dictAt;have ln:=L.length;rw[zr] at ln;have sz:sizeLine=16777216:=sizeLine_eq;refine Ye kind_sorted plain_sorted entry_sorted (args_sorted1 _) ?_
 delta Builtin.«sorted»;refine zn (m:=checkCount "sorted" 1 1 _) (zA (zn (kdx_collect (knd:=zN X.prog X.w) (kvs:=vs) (ep:=ep) hh hv da (by omega) fun N tk as a4 la G=>?_)))
 have tup:∀(j:Nat) a g,as[j]? =some a->c[j]? =some g->∃B D,N.get? a=some { cls:=.type "tuple",data:=.seq #[.str g.1 B,.int g.2 D] }:=fun j a g E Y=>by
  obtain⟨ac,k,x,e3,e4,e5⟩:=G.pairs j a E;obtain⟨p',e6,e7,e8⟩:=KV.get L e3;rw[zZ,Y] at e6;cases e6;have e7:(Sum.inr g.1:Key)=k:=e7;subst e7;obtain⟨B,rfl⟩:=zdb e4;obtain⟨D,rfl⟩:=(show RelV (.int g.2) x from e8)
  exact⟨B,D,e5⟩
 have lv:(as.map Value.ref).length=c.length:=by rw[zr];omega
 refine zn (wpAny_newList ?_ (by rw[lv];omega))
 have a0:(N.push (seqObj "list" (as.map Value.ref).toArray 0)).get? N.objs.size=some (seqObj "list" (as.map Value.ref).toArray 0):=zQ _ rfl;have U:∀i,i<c.length->ltI c i i=false:=fun i _=>yt _
 have tr:∀i j k,i<c.length->j<c.length->k<c.length->ltI c i j=true->ltI c j k=true->ltI c i k=true:=fun i j k _ _ _=>WH
 have tot:=zez nd;have a8:as.Nodup:=G.rise.imp fun h=>zM h
 have a9:∀a∈as,a≠N.objs.size:=fun a ha=>zM (G.there ha)
 refine zn (xO (xX slot_list_sort ⟨_,a0,rfl⟩ entry_list_sort (Jw (s:={ s with heap:=N.push (seqObj "list" (as.map Value.ref).toArray 0),toks:=tk }) a0 (by rw[lv];exact a5) (rkB c.length (ltI c)) (by rw[lv];exact YW U tr tot) (fun g2 h2 k2=>?_) fun p pm pw=>⟨_,rfl,?_⟩) (args_list_sort _)))
 ·have D:∀(j:Nat) a g,as[j]? =some a->c[j]? =some g->∃B D,h2.get? a=some { cls:=.type "tuple",data:=.seq #[.str g.1 B,.int g.2 D] }:=fun j a g E Y=>by
   obtain⟨B,D,e⟩:=tup j a g E Y;exact⟨B,D,k2 a _ (a9 a (jc E)) (zO _ e)⟩
  obtain⟨fs,kt,lf,sf⟩:=Qq (h:=h2) as fun a ha=>by
   obtain⟨j,A⟩:=List.mem_iff_getElem?.mp ha;have ab:=(zT.mp A).1;obtain⟨B,ag,e⟩:=D j a (c[j]'(by omega)) A (qo _)
   exact⟨_,_,_,_,B,e,rfl,rfl,rfl⟩
  refine⟨tuples' (Value.type "str" != Value.type "tuple"),fun Q' a7=>kat_kind kt (by rw[lf];rw[zr] at g2;omega) (fun v hv=>?_) rfl a7,fun i j w A C hC=>?_⟩
  ·obtain⟨x,t,rfl⟩:=sf v hv
   exact Looks.now
  ·rw[lv] at w A
   have M:as[i]? =some (as[i]'(by omega)):=qo _
   have ej:as[j]? =some (as[j]'(by omega)):=qo _
   have fi:c[i]? =some (c[i]'w):=qo _;have fj:c[j]? =some (c[j]'A):=qo _;obtain⟨a1,a2,oi⟩:=D i _ _ M fi;obtain⟨b1,b2,oj⟩:=D j _ _ ej fj;have vi:(as.map Value.ref).getD i Value.none=.ref (as[i]'(by omega)):=by rw[qz,zZ,M];rfl
   have vj:(as.map Value.ref).getD j Value.none=.ref (as[j]'(by omega)):=by rw[qz,zZ,ej];rfl
   have gi:c.getD i ("",0)=c[i]'w:=by rw[qz,fi];rfl
   have gj:c.getD j ("",0)=c[j]'A:=by rw[qz,fj];rfl
   rw[<- ZN U tr tot w A] at hC;have T:C (ltS (c[i]'w).1 (c[j]'A).1) { s with heap:=h2,toks:=tk }:=by unfold ltI at hC;rw[gi,gj] at hC;exact hC
   unfold kas_ask;rw[vi,vj];refine kat_lt oi rfl oj rfl (kat_cons ((zN X.prog X.w).eqBool (a:=Sum.inr (c[i]'w).1) (b:=Sum.inr (c[j]'A).1) (xm ⟨a1,rfl⟩) (xm ⟨b1,rfl⟩) ?_))
   refine kat_go (fun e=>?_) (fun e=>?_)
   ·have ek:(c[i]'w).1=(c[j]'A).1:=XC (jA e)
    have ij:i=j:=by
     by_cases z:i=j
     ·exact z
     ·have tt:=tot i j w A z
      unfold ltI at tt;rw[gi,gj,ek,yt] at tt;rcases tt with q | q<;>cases q
    subst ij;refine kat_yes (kat_cons ((zN X.prog X.w).eqBool (a:=Sum.inl (c[i]'w).2) (b:=Sum.inl (c[i]'w).2) (xm ⟨a2,rfl⟩) (xm ⟨b2,rfl⟩) ?_))
    rw[zW rfl];refine kat_yes (kat_nil ?_)
    rw[yt] at T;exact T
   ·refine kat_no (strKind_oneLt X.prog X.w _ _ _ _ _ ((c[i]'w).1.cps.toList) ((c[j]'A).1.cps.toList) rfl rfl ?_)
    exact T
 ·rw[lv] at pm
  have a3:∀a∈as,jh X O H a:=fun a ha=>I.fpOk (vI (G.above a ha)) (I.hok.fresh (vI (G.above a ha)))
  have I1:Inv X O σ H { s with heap:=N,toks:=tk }:=I.kept a4;obtain⟨H1,J1,s1,_,B⟩:=Jn (s:={ s with heap:=N,toks:=tk }) as (c.map fun g=>[V.str g.1,V.int g.2]) H a8 a3 I1 (by rw[zr];omega) fun j a ys E Y=>by
   rw[zZ] at Y;obtain⟨g,e3,rfl⟩:=jd.mp Y;obtain⟨b1,b2,e⟩:=tup j a g E e3;exact⟨by show 2<=_;omega,[.str g.1 b1,.int g.2 b2],.cons ⟨b1,rfl⟩ (.cons ⟨b2,rfl⟩ .nil),TupX.by e⟩
  have lt:∀i∈p,i<c.length:=fun i w=>qu.mp (pm.mem_iff.mp w)
  have L:Vals (p.map fun i=>V.ref (as.getD i 0)) ((p.map fun i=>(as.map Value.ref).getD i Value.none).toArray.toList):=by
   rw[W8];have go:∀l:List Nat,(∀i∈l,i<c.length)->Vals (l.map fun i=>V.ref (as.getD i 0)) (l.map fun i=>(as.map Value.ref).getD i Value.none):=fun l=>by
    induction l with
    | nil=>intro _;exact .nil
    | cons i l ih=>
     intro hl;refine .cons ?_ (ih fun k hk=>hl k (z9 _ hk))
     have w:=hl i (by simp)
     have M:as[i]? =some (as[i]'(by omega)):=qo _
     show(as.map Value.ref).getD i Value.none=Value.ref (as.getD i 0);rw[qz,zZ,M,qz,M];rfl
   exact go p lt
  have lp:p.length=c.length:=by have:=pm.length_eq;rwa[zS] at this
  obtain⟨J,hn⟩:=vW (vs:=as.map Value.ref) (out:=(p.map fun i=>(as.map Value.ref).getD i Value.none).toArray) (zs:=p.map fun i=>V.ref (as.getD i 0)) (tk:=tk) (d':=s.drawn) J1 (fun _ _ e=>e) L (by rw[zr];omega)
  refine zA ⟨_,rfl,.ref N.objs.size,_,J,rfl,q _ (p.map fun i=>c.getD i ("",0)) (p.map fun i=>V.ref (as.getD i 0)) _ (s1.trans (zf hn)) (s1.free hn) zg ?_ ?_ (by rw[zr,zr]) fun j qq e=>?_⟩
  ·have E:(List.range c.length).map (fun i=>c.getD i ("",0))=c:=by
    refine Zt (by simp) fun i h1 h2=>?_
    simp[h2]
   rw[<- E];rw[E];have:=pm.map (fun i=>c.getD i ("",0))
   rwa[E] at this
  ·rw[jT]
   have aa:=vp.mp pw;refine vp.mpr (aa.imp_of_mem fun {i j} w A a6=>?_)
   have:=ZN U tr tot (lt i w) (lt j A);rw[zW a6] at this;exact this
  ·rw[zZ] at e
   obtain⟨i,M,rfl⟩:=jd.mp e;have w:=lt i (jc M);have ea:as[i]? =some (as[i]'(by omega)):=qo _
   have ga:as.getD i 0=as[i]'(by omega):=by rw[qz,ea];rfl
   have ek:c[i]? =some (c.getD i ("",0)):=by rw[qz,qo w];rfl
   have ma:as.getD i 0∈as:=by rw[ga];exact jM _
   refine⟨as.getD i 0,by rw[zZ,M];rfl,(a3 _ ma).1,?_⟩
   have:=B i (as.getD i 0) [V.str (c.getD i ("",0)).1,V.int (c.getD i ("",0)).2] (by rw[ga];exact ea) (by rw[zZ,ek];rfl)
   rw[zw (zp this hn)];exact this
end
end L2
namespace L2
open PySem PySem.Spec PyProof.Rows
section
variable{X:Cx}
variable{g c:Expr}{l:List Expr}{scope:Scope}{s:Pos}{H:TI}{E:TT}{D:TE}{x y z:Str}{w A B G:Pos}{t:Nat}
end
section
variable{X:Cx}
end
section
variable{X:Cx}{w M t:Expr}{A:List Expr}{scope:Scope}{E:Pos}{O:TI}{g:TG}{L:TT}{G:TE}{x:Str}
theorem WN{Y:List (Addr×Obj)}{σ:St}{H:Hp}{s:Shared}{fp:List Addr}(ow fr:List Str)(js:List Nat)(I:Inv X Y σ H s)(B:BlkOkC scope.names X.env.scope.names X.N x fr js)(hk:scope.kind=.function)
  (f2:∀b∈fp,jh X Y H b) (fl:∀b∈fp,b<s.heap.objs.size) {D C:Addr} (hD:D=s.heap.objs.size) {h3 h1:Heap} (e3:h3=s.heap.push { cls:=.type "list",dict:=none,data:=.seq ([]:List Value).toArray }) (hC:C=h3.objs.size)
  {m:Str->Option Value} (aa:h1.Ns C m) (a3:h1.IsCell (C+1) none) (k4:∀b o,h3.get? b=some o->h1.get? b=some o) {t4:Nat} :
  Inv (z7 X (ow++fr) scope x C { s with heap:=h3 } H (D::fp)) [] (upS ow.length js σ) H { s with heap:=h1,toks:=t4 }:=by
 have k3:∀b o,s.heap.get? b=some o->h3.get? b=some o:=fun b o e=>by rw[e3];exact zO _ e
 have I3:Inv X Y σ H { s with heap:=h3 }:=I.kept (t':=s.toks) k3;have hz:h3.objs.size=s.heap.objs.size+1:=by rw[e3,qS]
 have J:∀y∈scope.names,y.2=NameKind.free->∃c,X.env.cells.lookup y.1=some c:=fun y hy e=>I.ok.has y.1 (B.free y hy e)
 have Q:∀x c,X.env.cells.lookup x=some c->c<s.heap.objs.size:=fun x c e=>by
  obtain⟨v,q⟩:=I.cell x c e;exact q.lt
 have a4:∀y c,(qg X.env.cells scope.names []).lookup y=some c->c<C:=fun y c e=>by
  have:=Q y c (zR e J);rw[hC,hz];exact jQ this
 have look:∀y c,((x,C+1)::qg X.env.cells scope.names []).lookup y=some c->(y=x/\c=C+1)\/(y≠x/\(qg X.env.cells scope.names []).lookup y=some c):=fun y c e=>by
  rw[qK] at e;by_cases q:(y==x)=true
  ·rw[q] at e
   exact .inl ⟨by simpa using q,(qU e).symm⟩
  ·rw[(w9 _).mp q] at e
   exact .inr ⟨fun z=>q (by simpa using z),e⟩
 refine⟨⟨I.ok.mod,hk,I.ok.glob,I.ok.blt,wc hC.symm,fun y1 y2 c e1 e2=>?_,fun y hy=>?_,fun y c hf e=>?_,fun hc=>I.ok.hd hc,I.ok.frames,.inl rfl,fun b hb=>?_,I3.bs,jU I.ok.bsz I3.sz,fun b o e hb=>?_,fun b hb hf=>?_,I3.stack,I3.stkFree⟩,
  rfl,I.bare,Un.kept k4,⟨m,aa,fun i y v e1 e2 ab=>?_⟩,fun y c e=>?_,?_,fun y c e=>?_,fun p hp=>absurd (show p∈([]:List (Addr×Obj)) from hp) (by simp),I3.hok.kept k4,?_⟩
 ·rcases look _ _ e1 with ⟨T,N⟩ | ⟨T,N⟩<;>rcases look _ _ e2 with ⟨b1,b2⟩ | ⟨b1,b2⟩
  ·rw[T,b1]
  ·have:=a4 _ _ b2
   rw[N] at this;exact absurd this (yY.mpr (wb _))
  ·have:=a4 _ _ N
   rw[b2] at this;exact absurd this (yY.mpr (wb _))
  ·exact I.ok.inj _ _ c (zR N J) (zR b2 J)
 ·by_cases q:y=x
  ·subst q
   exact⟨C+1,by show List.lookup y ((y,C+1)::_)=_;simp[qK]⟩
  obtain⟨k,e,z⟩:∃k,scope.names.lookup y=some k/\(k=.free):=by
   rcases hy with hx | hx
   ·obtain⟨k,e,z⟩:=xH hx
    rcases z with z | z
    ·subst z;exact absurd (B.is (vK e) rfl) q
    ·exact⟨k,e,z.1⟩
   ·obtain⟨k,e,z⟩:=xH hx
    rcases z with z | z
    ·subst z;exact⟨_,e,rfl⟩
    ·exact⟨k,e,z.1⟩
  subst z;refine⟨(X.env.cells.lookup y).getD 0,?_⟩
  show List.lookup y ((x,C+1)::_)=_;rw[qK,show(y==x)=false from by simpa using q]
  exact xD e
 ·rcases look _ _ e with ⟨T,N⟩ | ⟨T,N⟩
  ·rw[N]
   show h3.objs.size<=C+1;rw[hC];exact wb _
  ·exact absurd (by simpa using hf) T
 ·have U:∀b,b<C->∀y c,((x,C+1)::qg X.env.cells scope.names []).lookup y=some c->(∀y c,X.env.cells.lookup y=some c->c≠b)->c≠b:=fun b hb y c e h=>by
   rcases look _ _ e with ⟨T,N⟩ | ⟨T,N⟩
   ·rw[N];exact jI (jQ hb)
   ·exact h y c (zR N J)
  rcases zL.mp hb with z | hb
  ·subst z
   refine⟨by rw[hD,hC,hz];exact zM (j9 _),fun y c e=>U _ (by rw[hD,hC,hz];exact j9 _) y c e fun y c e=>?_⟩
   have:=Q y c e;rw[hD];exact zM this
  ·have a8:b<C:=by rw[hC,hz];exact jQ (fl b hb)
   exact⟨zM a8,fun y c e=>U _ a8 y c e fun y c e=>(f2 b hb).2.2.2.2.1 y c e⟩
 ·rcases zL.mp hb with z | hb
  ·have:=zD (I.bk b o e)
   rw[z,hD] at this;exact jJ _ this
  ·rcases(f2 b hb).2.2.2.1 with z | z
   ·exact I.ok.noex b o e z
   ·exact absurd (jr (zD (I.ok.bs b o e).1) z) (jJ _)
 ·have a6:=zL.mp (I.stkSub b hf)
  rcases zL.mp hb with z | hb
  ·rcases a6 with y | y
   ·have:=I.lt
    rw[<- y,z,hD] at this;exact jJ _ this
   ·exact I.nofs (a:=b) (by rw[z,hD];exact zC _) y
  ·rcases a6 with y | y
   ·exact(f2 b hb).2.1 y
   ·exact(f2 b hb).2.2.1 y
 ·obtain⟨hn,_,j,ej,es⟩:=x8 e2
  have ex:fr[i-ow.length]? =some y:=by
   rw[jB (show ow.length<=i from hn)] at e1
   exact e1
  obtain⟨a0,j',a5,eN⟩:=B.fr _ y ex;have:j'=j:=by rw[ej] at a5;exact(qU a5).symm
  subst this;have a7:=B.free _ (vK a0) rfl;obtain⟨m0,_,hl⟩:=I.loc;obtain⟨u,r,l⟩:=hl j' y v eN es (by rcases a7 with z | z;exact .inr (.inl z);exact .inr (.inr z))
  refine⟨u,r,.inr ?_⟩
  have yx:y≠x:=fun z=>by
   have:=B.lk;rw[<- z,a0] at this;cases this
  rcases l with ⟨kl,_⟩ | ⟨_,c,ec,o,eo,ed⟩
  ·have a9:X.env.scope.names.lookup y=some .local:=kl
   rcases a7 with z | z
   ·exact absurd (z.symm.trans a9) (by decide)
   ·exact absurd (z.symm.trans a9) (by decide)
  ·obtain⟨k',e',z⟩:=vq (env:=X.env) a0
   have eq:((x,C+1)::qg X.env.cells scope.names []).lookup y=some c:=by
    rw[qK,show(y==x)=false from by simpa using yx]
    show(qg X.env.cells scope.names []).lookup y=some c;rw[xD a0,ec];rfl
   refine⟨?_,c,eq,o,k4 c o (k3 c o eo),ed⟩
   rcases z with z | z
   ·subst z;exact .inl e'
   ·subst z;exact .inr e'
 ·rcases look _ _ e with ⟨T,N⟩ | ⟨T,N⟩
  ·rw[N];exact⟨none,a3⟩
  ·obtain⟨v,o,eo,ed⟩:=I.cell y c (zR N J)
   exact⟨v,o,k4 c o (k3 c o eo),ed⟩
 ·exact I3.hok.fresh (wc hC.symm)
 ·rcases look _ _ e with ⟨T,N⟩ | ⟨T,N⟩
  ·rw[N]
   exact I3.hok.fresh (by show h3.objs.size<=C+1;rw[hC];exact wb _)
  ·exact I.freeC y c (zR N J)
 ·rw[JX,<- B.len]
  show _=(ow++fr).length;rw[zY]
theorem zfZ(ow fr:List Str)(js:List Nat)(hc:X.calm=true)(hk:scope.kind=.function)(hb:yX scope.names X.env.scope.names X.N x fr js=true)(hi:PI X M t O)
  (hg:∀C s H ex,PG (z7 X (ow++fr) scope x C s H ex) M g) (hf:∀C s H ex,PF (z7 X (ow++fr) scope x C s H ex) A L) (he:∀C s H ex,PE (z7 X (ow++fr) scope x C s H ex) w G)
  (hs:∀x,foldedSetIterable t X.env x=pure x:=by intro _;rfl):PE X (.ListComp w [⟨M,t,A,0⟩] scope E) (tLC O ow.length js g L G):=by
 intro a2 s σ H Q I h;have B:=wF hb;have a6:∀y∈scope.names,y.2=NameKind.free->∃c,X.env.cells.lookup y.1=some c:=fun y hy e=>I.ok.has y.1 (B.free y hy e)
 rw[eval_ListComp];refine wpAny_comprehension_free (use:=none) rfl hs (Xv a6) hk (fun y hy e=>B.loc y hy e) (thn (hi a2 s σ H _ I h) fun v s1 h1=>thn h1 fun bg s2 h2=>?_)
 obtain⟨it,Y,tn,J,H2,e,I2,T,af,f2,W,⟨m0,w0⟩,au⟩:=h2;subst e;have fl:∀b∈Y,b<s2.heap.objs.size:=fun b hb=>let ⟨o,e,_⟩:=T.obj _ _ af b hb;zD e
 refine jV (Qi B.one ?_)
 dsimp only;generalize e3:s2.heap.push { cls:=.type "list",dict:=none,data:=.seq ([]:List Value).toArray }=h3;have am:((h3.push { cls:=.type "dict",data:=.dict #[] }).push { cls:=.type "cell",data:=.cell none }).Ns h3.objs.size (fun _=>none):=(Heap.Ns.new h3 (.type "dict")).keeps fun b o e=>zO _ e
 have a1:((h3.push { cls:=.type "dict",data:=.dict #[] }).push { cls:=.type "cell",data:=.cell none }).IsCell (h3.objs.size+1) none:=⟨_,by have:=zQ (h3.push { cls:=.type "dict",data:=.dict #[] }) (o:={ cls:=.type "cell",data:=.cell none }) rfl;rwa[qS] at this,rfl⟩
 have k4:∀b o,h3.get? b=some o->((h3.push { cls:=.type "dict",data:=.dict #[] }).push { cls:=.type "cell",data:=.cell none }).get? b=some o:=fun b o e=>zO _ (zO _ e)
 generalize (h3.push { cls:=.type "dict",data:=.dict #[] }).push { cls:=.type "cell",data:=.cell none }=h1 at am a1 k4;have k3:∀b o,s2.heap.get? b=some o->h3.get? b=some o:=fun b o e=>by rw[<- e3];exact zO _ e
 have I4:Inv (z7 X (ow++fr) scope x h3.objs.size { s2 with heap:=h3 } H2 (s2.heap.objs.size::Y)) [] (upS ow.length js σ) H2 { s2 with heap:=h1 }:=
  WN ow fr js I2 B hk f2 fl rfl e3.symm rfl am a1 k4
 have I3:Inv X a2 σ H2 { s2 with heap:=h3 }:=I2.kept (t':=s2.toks) k3;have hz:h3.objs.size=s2.heap.objs.size+1:=by rw[<- e3,qS]
 have ac:s2.heap.objs.size≠h3.objs.size:=by rw[hz];exact zM (j9 _)
 have aj:h1.get? s2.heap.objs.size=some { cls:=.type "list",data:=.seq ([]:List Value).toArray }:=k4 _ _ (by rw[<- e3];exact zQ _ rfl)
 generalize eD:s2.heap.objs.size=D at *
 generalize eC:h3.objs.size=C at *
 have fD:∀b∈Y,D≠b:=fun b hb=>jI (fl b hb)
 have look:∀y c,((x,C+1)::qg X.env.cells scope.names []).lookup y=some c->c=C+1\/X.env.cells.lookup y=some c:=fun y c e=>by
  rw[qK] at e;by_cases q:(y==x)=true
  ·rw[q] at e
   exact .inl (qU e).symm
  ·rw[(w9 _).mp q] at e
   exact .inr (zR e a6)
 have hx:∀y c,((x,C+1)::qg X.env.cells scope.names []).lookup y=some c->c≠D:=fun y c e=>by
  rcases look y c e with z | z
  ·rw[z,hz];exact jI (jQ (j9 _))
  ·obtain⟨v,q⟩:=I2.cell y c z
   rw[<- eD];exact zM q.lt
 have b6:∀b∈Y,∀y c,((x,C+1)::qg X.env.cells scope.names []).lookup y=some c->c≠b:=fun b hb y c e=>by
  rcases look y c e with z | z
  ·rw[z,hz];exact jI (jQ (jQ (fl b hb)))
  ·exact(f2 b hb).2.2.2.2.1 y c z
 have aq:∀b∈D::Y,b∉frs X.stack:=I4.ok.exfs;have ay:∀{U:List (Addr×Obj)} {H':Hp} {b:Addr},b∈Y->H' b=none->(∀p∈U,p.1≠b)->jh (z7 X (ow++fr) scope x C { s2 with heap:=h3 } H2 (D::Y)) U H' b:=fun {U H' b} hb hn hp=>
  ⟨hn,(I4.ok.exf b (z9 _ hb)).1,aq b (z9 _ hb),.inl (z9 _ hb),fun x c e=>b6 b hb x c e,fun p h=>hp p (by simpa using h)⟩
 have az:∀{U:List (Addr×Obj)} {H':Hp},H' D=none->(∀p∈U,p.1≠D)->jh (z7 X (ow++fr) scope x C { s2 with heap:=h3 } H2 (D::Y)) U H' D:=fun {U H'} hn hp=>
  ⟨hn,ac,aq D jW,.inl jW,fun x c e=>hx x c e,fun p h=>hp p (by simpa using h)⟩
 have a8:∀s4:Shared,s4={ s2 with heap:=h1 } ->
   codeAny (model X.prog X.w) X.A (.compLoop (.ListComp w [⟨M,t,A,0⟩] scope E) 0 (.ref it) (.ref D) (compEnvC scope ((x,C+1)::qg X.env.cells scope.names []) C X.env))
    (compPost (model X.prog X.w) X.A X.xe none (EP X a2 σ Q) (.ref D) C) s4:=by
  intro s4 e4;refine Qz (fun n s'=>∃i ys a0 H',∃z:Nat,Inv (z7 X (ow++fr) scope x C { s2 with heap:=h3 } H2 (D::Y)) [] (upS ow.length js σ) H' s'/\tn i s'.heap/\(∀b∈Y,H' b=none)/\H' D=none /\
   s'.heap.get? D=some { cls:=.type "list",data:=.seq (a0:List Value).toArray z }/\Vals ys a0/\W i n ys H') ?_ m0 ?_
  ·rintro n s5 ⟨i,ys,a0,H5,z5,I5,ar,ah,b1,an,a4,w5⟩
   have ag:=I5.pinned (fp:=[D]) (fun b hb=>by rw[zK.mp hb];exact az b1 (fun p hp=>absurd hp (by simp))) (fun b hb=>by
    rw[zK.mp hb];exact⟨_,an,fun v q=>nomatch q⟩)
   have pD:∀p∈[]++zU [D] s5.heap,p.1=D:=fun p hp=>by
    rw[XM] at hp;exact zK.mp (xC hp).1
   have mD:(D,({ cls:=.type "list",data:=.seq a0.toArray z5 }:Obj))∈[]++zU [D] s5.heap:=by
    rw[XM];exact qD (zK.mpr rfl) an
   have ab:∀{H':Hp},(∀b∈Y,H' b=none)->∀b∈Y,jh (z7 X (ow++fr) scope x C { s2 with heap:=h3 } H2 (D::Y)) ([]++zU [D] s5.heap) H' b:=fun hn b hb=>ay hb (hn b hb) fun p hp=>by
    rw[pD p hp];exact fD b hb
   rcases au i n ys H5 w5 with ⟨stop,al,q⟩ | ⟨go,N,hN,step⟩
   ·refine thn (T.done (z7 X (ow++fr) scope x C { s2 with heap:=h3 } H2 (D::Y)) rfl rfl rfl hc i _ s5 _ H5 _ ag (ab ah) ar stop) fun r s6 ⟨hr,I6⟩=>?_
    subst hr;obtain⟨m6,b4,_⟩:=I6.loc;refine⟨m6,b4,fun h7 b5=>?_⟩
    obtain⟨o6,ap,_⟩:=I6.pin (D,_) (qt _ mD);have k7:∀b o,b≠C->s6.heap.get? b=some o->h7.get? b=some o:=fun b o hb e=>b5.extBut b o hb e
    refine⟨.ref D,upd H5 D (.lst ys),?_,rfl,q D ap⟩
    refine I3.call' (s':={ s6 with heap:=h7 }) (ch:=D::Y) I6.os (yg (Wp I6.base (wc eC) k7) jW (I2.hok.fresh ?_)) (wD (Xn I6.hok I6.free k7) ap ⟨al,a0,z5,a4,k7 D _ ac o6⟩) I6.bare fun b hb=>?_
    ·rw[<- eD];exact zC _
    ·rcases zL.mp hb with y | hb
     ·subst y
      refine⟨.inr (by rw[<- eD];exact I2.sz),by rw[<- eD];exact jI I2.lt,fun x c e=>?_,fun p hp=>?_⟩
      ·obtain⟨v,q⟩:=I2.cell x c e
       rw[<- eD];exact zM q.lt
      ·rw[<- eD];exact zM (zD (I2.pin p hp).1)
     ·obtain⟨_,g1,_,g3,g4,g5⟩:=f2 b hb
      exact⟨g3,g1,g4,g5⟩
   ·refine thn (T.item (z7 X (ow++fr) scope x C { s2 with heap:=h3 } H2 (D::Y)) rfl rfl rfl hc i _ s5 _ H5 _ ag (ab ah) ar go) fun r s6 ⟨u,hr,h6⟩=>?_
    subst hr;refine thn h6 fun _ s7 ⟨x7,H7,I7,r7,y7,a5,b0⟩=>?_
    have aw:=I7.pinned (ab b0) (T.obj _ _ a5);refine thn (hg _ _ _ _ _ s7 _ H7 x7 u _ aw r7 (step x7 H7 y7)) fun _ s8 ⟨σ8,H8,I8,b2,q8⟩=>?_
    refine thn (hf _ _ _ _ _ s8 σ8 H8 _ I8 q8) fun ok s9 ⟨H9,I9,q9⟩=>?_
    have aa:∀{H':Hp} {s':Shared},Inv (z7 X (ow++fr) scope x C { s2 with heap:=h3 } H2 (D::Y)) (([]++zU [D] s5.heap)++zU Y s7.heap) σ8 H' s' ->
      Inv (z7 X (ow++fr) scope x C { s2 with heap:=h3 } H2 (D::Y)) [] (upS ow.length js σ) H' s':=fun {H' s'} J=>by
     refine(J.unpinned).unpinned.weak (I5.len.trans J.len.symm) fun k v e=>?_
     obtain⟨hn,e1,_⟩:=x8 e;rw[<- b2,XW] at e1;rw[<- e1];congr 1
     omega
    have mF:∀b∈Y,∀o,s7.heap.get? b=some o->(b,o)∈([]++zU [D] s5.heap)++zU Y s7.heap:=fun b hb o e=>qt _ (qD hb e)
    have ao:=we (zU Y s7.heap) mD;have ai:∀{H':Hp} {s':Shared},Inv (z7 X (ow++fr) scope x C { s2 with heap:=h3 } H2 (D::Y)) (([]++zU [D] s5.heap)++zU Y s7.heap) σ8 H' s'->∀b∈Y,H' b=none:=fun {H' s'} J b hb=>by
     obtain⟨o,e,_⟩:=T.obj _ _ a5 b hb;exact(J.pin (b,o) (qt _ (mF b hb o e))).2.1
    cases ok with
    | false=>
     have ae:N ys H9:=by simpa using q9
     obtain⟨m',hm,w'⟩:=hN _ _ ae;obtain⟨o9,b8,_⟩:=I9.pin (D,_) (qt _ ao);exact⟨m',hm,i+1,ys,a0,H9,z5,aa I9,T.keep _ _ _ a5 fun b hb o e=>(I9.pin (b,o) (qt _ (mF b hb o e))).1,ai I9,b8,o9,a4,w'⟩
    | true=>
     have ae:G σ8 H9 fun y H6=>ys.length<sizeLine/\N (ys++[y]) H6:=by simpa using q9
     refine thn (he _ _ _ _ _ s9 σ8 H9 _ I9 ae) fun yv bb ⟨y,av,a3,ba,b3,bc⟩=>?_
     obtain⟨m',hm,w'⟩:=hN _ _ bc;obtain⟨b9,a9,_⟩:=a3.pin (D,_) (qt _ ao);refine wpAny_list_append_plain (l:=D) (items:=a0.toArray) (hsz:=by rw[zX,<- a4.length];exact vI b3) ⟨_,b9⟩ fun be ak a7=>?_
     obtain⟨bd,ax⟩:=ak;refine⟨m',hm,i+1,ys++[y],a0++[yv],av,bd,?_,T.keep _ _ _ a5 fun b hb o e=>a7.extBut b o (qc (fD b hb)) (a3.pin (b,o) (qt _ (mF b hb o e))).1,ai a3,a9,?_,a4.append (.cons ba .nil),w'⟩
     ·exact(aa a3).turned (t':=bb.toks) (it:=D) (fun b o hb e=>a7.extBut b o hb e) a9 ac (.inl jW) (fun x c e=>hx x c e) fun p hp=>absurd (show p∈([]:List (Addr×Obj)) from hp) (by simp)
     ·rw[ax];simp
  ·subst e4
   exact⟨0,[],[],H2,0,I4,T.keep _ _ _ af fun b hb o e=>k4 b o (k3 b o e),fun b hb=>(f2 b hb).1,I2.hok.fresh (by rw[<- eD];exact zC _),aj,.nil,w0⟩
 exact codeAny_compStart_list (a8 _ rfl) (T.self X.A 0 _ _ _ (T.keep _ _ _ af fun b hb o e=>k4 b o (k3 b o e)) (a8 _ rfl))
theorem zeh{y:Str}{Q T U:Pos}{I:Nat}(c:List Str)(D:List Nat)(hc:X.calm=true)(hk:scope.kind=.function)(hb:yX scope.names X.env.scope.names X.N x c D=true)(hy:(scope.names.lookup y==some .local&&decide ([x,y]++c).Nodup)=true)(hi:PI X (.Tuple [.Name x Q,.Name y T] I U) t O)
  (hf:∀C s H l,PF (z7 X ([x,y]++c) scope x C s H l) A L) (Y:∀C s H l,PE (z7 X ([x,y]++c) scope x C s H l) w G)
  (hs:∀x,foldedSetIterable t X.env x=pure x:=by intro _;rfl):PE X (.ListComp w [⟨.Tuple [.Name x Q,.Name y T] I U,t,A,0⟩] scope E) (tLC O 2 D (Xp X.K 2 (xu (j4 0) (xu (j4 1) V3))) L G):=by
 have B:=wF hb;rw[qE] at hy;have yl:scope.names.lookup y=some .local:=by simpa using hy.1
 have N:([x,y]++c).Nodup:=jA hy.2;refine zfZ [x,y] c D hc hk hb hi (fun C s H l=>?_) hf Y hs
 have lk:(compEnvC scope ((x,C+1)::qg X.env.cells scope.names []) C X.env).scope.names.lookup x=some .cell:=vt B.lk;have J:(compEnvC scope ((x,C+1)::qg X.env.cells scope.names []) C X.env).scope.names.lookup y=some .local:=lookup_relabel_local yl;exact ju (X:=z7 X ([x,y]++c) scope x C s H l) hc (zI (zH (X:=z7 X ([x,y]++c) scope x C s H l) N rfl (.inr lk) (.inl (by show(x==x)=true;simp))) (zI (zH (X:=z7 X ([x,y]++c) scope x C s H l) N rfl (.inl J) (.inr J)) qP))
end
end L2
namespace L2
open PySem PySem.Spec PyProof.Rows PySem.W
section
variable{c:Program}{w:World}{A:Around}{E:Value->Shared->Prop}{s:Shared}
end
end L2
namespace L2
open PySem PySem.Spec PyProof.Rows PySem.W
def ltP(a b:Int×Int):Bool:=decide (a.1<b.1\/a.1=b.1/\a.2<b.2)
theorem ZP(a:Int×Int):ltP a a=false:=jb (by omega)
theorem zc2{a b c:Int×Int}(g:ltP a b=true)(l:ltP b c=true):ltP a c=true:=by
 have:=jA g;have:=jA l;exact zW (by omega)
theorem zey{a b:Int×Int}(h:a≠b):ltP a b=true\/ltP b a=true:=by
 by_cases c:a.1=b.1
 ·have l:a.2≠b.2:=fun z=>h (by cases a;cases b;simp at c z;rw[c,z])
  by_cases g:a.2<b.2
  ·exact .inl (zW (by omega))
  ·exact .inr (zW (by omega))
 ·by_cases g:a.1<b.1
  ·exact .inl (zW (by omega))
  ·exact .inr (zW (by omega))
def PrR(H:Hp)(c:List V)(ps:List (Int×Int)):Prop:=c.length=ps.length/\∀(j:Nat) q,ps[j]? =some q->∃T,c[j]? =some (.ref T)/\H T=some (.tup [.int q.1,.int q.2])
theorem PrR.nil{H:Hp}:PrR H [] []:=⟨rfl,fun j q e=>by simp at e⟩
theorem PrR.same{H c:Hp}{g:List V}{ps:List (Int×Int)}(h:PrR H g ps)(s:Same H c):PrR c g ps:=⟨h.1,fun j k e=>let ⟨T,a,b⟩:=h.2 j k e;⟨T,a,s _ _ b⟩⟩
theorem PrR.snoc{H:Hp}{s:List V}{ps:List (Int×Int)}{q:Int×Int}{T:Addr}(h:PrR H s ps)(e:H T=some (.tup [.int q.1,.int q.2])):PrR H (s++[.ref T]) (ps++[q]):=by
 refine⟨by rw[zY,zY,h.1];rfl,fun j r c=>?_⟩
 by_cases g:j<ps.length
 ·rw[jR g] at c
  obtain⟨U,t,w⟩:=h.2 j r c;exact⟨U,by rw[jR (by rw[h.1];exact g)];exact t,w⟩
 ·have l:=(zT.mp c).1
  rw[zY] at l;have A:j=ps.length:=by simp at l;omega
  subst A;rw[jB (zC _),x6] at c;have:q=r:=by simpa using c
  subst this;exact⟨T,by rw[<- h.1,jB (zC _),x6];rfl,e⟩
theorem PrR.rev{H:Hp}{g:List V}{ps:List (Int×Int)}(h:PrR H g ps):PrR H g.reverse ps.reverse:=by
 refine⟨by rw[W7,W7,h.1],fun j q e=>?_⟩
 have c:=(zT.mp e).1;rw[W7] at c;rw[List.getElem?_reverse c] at e
 obtain⟨T,l,s⟩:=h.2 _ q e;exact⟨T,by rw[List.getElem?_reverse (by rw[h.1];exact c),h.1];exact l,s⟩
theorem Zm{h:Heap}:∀(g:List Value),(∀v∈g,∃a o s n x t,v=Value.ref a/\h.get? a=some o/\o.cls=.type "tuple" /\ o.data=.seq s n/\s[0]? =some (Value.int x t))->∃c,KatTups h g c/\c.length=g.length/\∀v∈c,∃x t,v=Value.int x t
 | [],_=>⟨[],KatTups.nil,rfl,fun v G=>nomatch G⟩
 | v::g,w=>by
  obtain⟨c,k,l,m⟩:=Zm g fun b hb=>w b (z9 _ hb)
  obtain⟨a,o,s,n,x,t,rfl,A,B,D,E⟩:=w v (by simp)
  refine⟨.int x t::c,KatTups.cons A B D E k,by rw[jP,l];rfl,fun u hu=>?_⟩
  rcases zL.mp hu with z | z
  ·exact⟨x,t,z⟩
  ·exact m u z
def ltQ(ps:List (Int×Int))(i j:Nat):Bool:=ltP (ps.getD i (0,0)) (ps.getD j (0,0))
theorem zex{ps:List (Int×Int)}(l:ps.Nodup)(i j:Nat)(c:i<ps.length)(g:j<ps.length)(h:i≠j):ltQ ps i j=true\/ltQ ps j i=true:=by
 refine zey fun e=>h ?_
 rw[qz,qz,qo c,qo g] at e;exact(yc l).mp e
section
variable{X:Cx}
end
end L2
namespace L2
open PySem PySem.Spec PyProof.Rows
section
variable{X:Cx}
end
def AtQ(K:W.Frag)(H:Hp)(t:Bool)(a:Addr)(c:List V):Prop:=if t=true then SqT K H a c else H a=some (.lst c)
theorem AtQ.same{K:W.Frag}{H c:Hp}{t:Bool}{a:Addr}{xs:List V}(h:AtQ K H t a xs)(s:Same H c):AtQ K c t a xs:=by
 cases t with
 | true=>exact s.sqT h
 | false=>exact s _ _ h
def oQ(t:Bool)(c:List V):HO:=if t=true then .tup c else .lst c
def Tkn(H:Hp)(c:List Addr):Prop:=∀e∈c,∃o,H e=some o
theorem Tkn.out{H:Hp}{c:List Addr}{p:Addr}(h:Tkn H c)(g:H p=none):p∉c:=fun z=>by
 obtain⟨o,e⟩:=h p z;rw[g] at e;cases e
theorem AtQ.new{K:W.Frag}{H:Hp}{g:List Addr}{p:Addr}(T:Tkn H g)(l:H p=none)(t:Bool)(c:List V):AtQ K (WX g (upd H p (oQ t c))) t p c:=by
 have:=WX.at (T.out l) (zg (H:=H) (a:=p) (o:=oQ t c));cases t with
 | true=>exact u5 this
 | false=>exact this
section
variable{X:Cx}
end
end L2
namespace PySem
section
variable{c:Program}{w:World}{A:Around}{d:Addr}{l:Array DictEntry}{g:Nat}
end
end PySem
namespace L2
open PySem PySem.Spec PyProof.Rows
section
variable{X:Cx}
end
section
variable{X:Cx}
variable{o e:Expr}{s:List Expr}{to:TE}{t:TA}{l:Str}{c g:Pos}{id:String}{r:V->List V->Hp->VK->Prop}
end
end L2
namespace L2
open PySem PySem.Spec PyProof.Rows PySem.W
section
variable{X:Cx}
def zh4(l:TE):TE:=fun σ H R=>l σ H fun x g=>∃d c,x=.ref d/\g d=some (.dK c)/\∀o,R x (upd g d (.frz o (.dK c)))
theorem zcB{e:Expr}{B:TE}(L:PE X e B):PE X e (zh4 B):=by
 intro g s σ H R I h;refine thn (L g s σ H _ I h) fun v l ⟨x,D,w,N,M⟩=>?_
 obtain⟨d,c,e,A,q⟩:=M;subst e;obtain⟨z,y,O,r,o,G,E,t,J⟩:=(show ObjOk X.prog X.w D l.heap d (.dK c) from w.hok d _ A)
 refine⟨.ref d,_,w.write (s:=l) (t':=l.toks) (h':=l.heap) (x:=d) (e:=d) (o:=.frz o (.dK c)) (by rw[A];exact True.intro) (.inl rfl) (fun b u _ e=>e) ⟨o,t⟩ ?_,N,q o⟩
 exact⟨t,z,y,O,r,o,G,E,t,J⟩
inductive YY(x:V)(g:List V)(H:Hp)(Q:VK):Prop
 | mk (d o c:_) (_:x=.ref d) (_:g=[]) (_:H d=some (.frz o (.dK c))) (_:∀p,H p=none->Q (.ref p) (upd H p (xT p d))):YY  x g H Q
theorem JD:MtM X "dict.items" YY:=by
 intro g s σ H x l v N Q I G E h;obtain⟨d,o,B,rfl,rfl,t,q⟩:=h;cases G;cases E;obtain⟨O,lo,l,D,c⟩:=Qu I.hok (.inr ⟨o,t⟩);have w:H s.heap.objs.size=none:=I.hok.fresh (zC _);refine call_meetsIn QW c.typeIs PySem.F.entry_dict_items (zdC _) (meets_dict_items (zN X.prog X.w) d lo) ⟨⟨l,c⟩,?_⟩
 exact⟨.ref s.heap.objs.size,_,I.laid (a:=s.heap.objs.size) (o:=xT s.heap.objs.size d) (t':=s.toks) (fun b u e=>zO _ e) (zC _) ⟨⟨_,zQ _ rfl,rfl,rfl⟩,⟨_,zQ _ rfl⟩,fun J L x e=>let ⟨o,A,r⟩:=x;⟨o,e o A,r⟩⟩,rfl,q _ w⟩
end
def ItV(d:Addr)(o:Obj)(c:List (Key×V)):It:=
 ⟨fun i H=>H d=some (.frz o (.dK c))/\i<c.length,fun i H x g=>∃T k v,x=.ref T/\H T=none/\g=upd H T (.tup [kV k,v])/\c[i]? =some (k,v),fun i H=>H d=some (.frz o (.dK c))/\c.length<=i⟩
theorem zdj{P:Program}{w:World}{H:Hp}{h:Heap}{d:Addr}{o:Obj}{c:List (Key×V)}{t:Array DictEntry}{s:Nat}(ok:HOk P w H h)(e:H d=some (.frz o (.dK c)))(D:o.data=.dict t s) :
  (d==sysModules)=false/\∃g,KV c g/\h.DictAt (zN P w) d g s:=by
 obtain⟨l,z,y,g,r,N,G,E,A,I,B,J,L,M⟩:=(show ObjOk P w H h d (.frz o (.dK c)) from ok d _ e)
 rw[l] at A;cases A;rw[D] at B;cases B;exact⟨y,g,r,o,t,l,I,D,J,L,M⟩
theorem zaZ{P:Program}{w:World}{K:W.Frag}{t:List Expr}{kk:Nat}{a1:Pos}(d c:Addr)(o:Obj)(g:List (Key×V))(es:Array DictEntry)(ep:Nat)(he:o.data=.dict es ep) :
  Ze P w K (.Tuple t kk a1) (ItV d o g) [c] c (fun i h=>∃ok ov,IsItemIter h c d i g.length ep ok ov) where
 mem:=by simp
 obj:=fun i h st b hb=>by
  have e:b=c:=by simpa using hb
  subst e;obtain⟨_,_,st⟩:=st;exact⟨_,st,fun v z=>nomatch z⟩
 keep:=fun i h N st k=>let ⟨a,b,st⟩:=st;⟨a,b,k c (by simp) _ st⟩
 item:=by
  intro X Q hw O hc i D s σ H E I G st hg;subst Q hw O;obtain⟨U,hi⟩:=hg;obtain⟨ok,ov,st⟩:=st;obtain⟨lo,vs,r,J⟩:=zdj I.hok U he;have ln:=r.length;obtain⟨⟨k,v⟩,hx⟩:∃p,g[i]? =some p:=⟨g[i],by simp[hi]⟩
  obtain⟨⟨k',u⟩,hy⟩:∃p,vs[i]? =some p:=⟨vs[i]'(by omega),by simp⟩
  obtain⟨p',e6,L,M⟩:=KV.get r hy;rw[hx] at e6;cases e6;have L:k=k':=L;subst L;have M:RelV v u:=M;rw[ln] at st;refine wpAny_pyNext_items_item st J hy fun a0 N hk A hT a2 l=>?_
  refine⟨_,rfl,wpAny_letOwnedTupleGo_items A fun h2 Y B=>?_⟩
  have eT:s.heap.objs.size≠c:=jI (zD st);have k2:∀b o,b∉[c]->s.heap.get? b=some o->h2.get? b=some o:=fun b o hb q=>by
   have n1:b≠c:=fun z=>hb (by simp[z])
   exact(B.2 b n1).trans (l b o n1 q)
  refine⟨.ref s.heap.objs.size,upd H s.heap.objs.size (.tup [kV k,v]),?_,rfl,⟨_,k,v,rfl,I.hok.fresh (zC _),rfl,hx⟩,⟨_,_,by rw[ln];exact Y⟩,fun b hb=>?_⟩
  ·exact Xl (s:=s) (h':=h2) (t':=s.toks) (its:=[a0,u]) I G (zC _) k2 (by rw[sizeLine_eq];exact(by decide:2<=16777216)) (.cons (zdb hk) (.cons M .nil)) (TupX.by ((B.2 _ eT).trans hT))
  ·have T:b<s.heap.objs.size:=by
    rw[zK.mp hb];exact zD st
   rw[zw (zM T)];exact(G b hb).1
 done:=by
  intro X Q hw O hc i D s σ H E I G st hg;subst Q hw O;obtain⟨U,hi⟩:=hg;obtain⟨ok,ov,st⟩:=st;obtain⟨lo,vs,r,J⟩:=zdj I.hok U he;have ln:=r.length;obtain⟨f0,f1,f2,f3,f4,f5⟩:=G c (by simp)
  rw[ln] at st;exact wpAny_pyNext_items_end (I.ok.hd hc) st J (by simp;omega) fun N eb=>⟨rfl,I.turned (t':=s.toks) (fun b o hb e=>eb b o hb e) f0 f1 f3 f4 f5⟩
 self:=fun _ _ _ _ _ st h=>let ⟨_,_,st⟩:=st;kcp_self st h
section
variable{X:Cx}
def zhJ(l:TE):TI:=fun σ H R=>l σ H fun x g=>∃p d o c,x=.ref p/\g p=some (xT p d)/\g d=some (.frz o (.dK c))/\R (ItV d o c) g
theorem Y5{l:Expr}{M:TE}{w:List Expr}{kk:Nat}{tp:Pos}(Y:PE X l M):PI X (.Tuple w kk tp) l (zhJ M):=by
 intro A s σ H R I h;refine thn (Y A s σ H _ I h) fun v g ⟨x,B,t,r1,q1⟩=>?_
 obtain⟨p,d,o,c,e,hp,U,q⟩:=q1;subst e;cases r1;obtain⟨hv,_,_⟩:=(show ObjOk X.prog X.w B g.heap p (xT p d) from t.hok p _ hp)
 obtain⟨E,z,y,vs,r,o',G,D,J,N,L,O,Q,T⟩:=(show ObjOk X.prog X.w B g.heap d (.frz o (.dK c)) from t.hok d _ U)
 rw[E] at J;cases J;have ln:=r.length;refine wpAny_pyIter_items (knd:=zN X.prog X.w) (kvs:=vs) (ep:=D) hv ⟨o,G,E,N,L,O,Q,T⟩ ?_
 refine⟨g.heap.objs.size,[g.heap.objs.size],_,_,B,rfl,t.kept (t':=g.toks) (fun b o e=>zO _ e),zaZ d _ o c G D L,⟨.none,.none,by rw[ln];exact zQ _ rfl⟩,fun b hb=>?_,q⟩
 have e:b=g.heap.objs.size:=by simpa using hb
 subst e;exact t.fpOk (zC _) (t.hok.fresh (zC _))
end
theorem zdk{d:Addr}{o:Obj}{kvs:List (Key×V)}{g:TG}{B:TS}{D:Jj}{σ:St}{H:Hp}(Pv:Nat->St->Hp->Prop)(I:Pv 0 σ H)(O:∀i σ H,i<=kvs.length->Pv i σ H->H d=some (.frz o (.dK kvs)))
  (Q:∀i k v σ H T,kvs[i]? =some (k,v)->Pv i σ H->H T=none->g (.ref T) σ (upd H T (.tup [kV k,v])) fun w s=>B { D with nx:=Pv (i+1),ct:=Pv (i+1),bk:=D.nx } w s) (L:∀σ H,Pv kvs.length σ H->D.nx σ H) :
  ∃W:Nat->Nat->St->Hp->Prop,(∃m,W 0 m σ H)/\∀i m σ H,W i m σ H ->
   ((ItV d o kvs).stop i H/\D.nx σ H)\/((ItV d o kvs).go i H/\∃N:St->Hp->Prop,(∀t c,N t c->∃A,A<m/\W (i+1) A t c)/\∀x c,(ItV d o kvs).yld i H x c->g x σ c fun w s=>B { D with nx:=N,ct:=N,bk:=D.nx } w s):=by
 refine⟨fun i m σ H=>m=kvs.length-i/\i<=kvs.length/\Pv i σ H,⟨_,rfl,qk _,I⟩,?_⟩
 rintro i m σ H ⟨rfl,M,p⟩;have q:=O i σ H M p;by_cases l:i<kvs.length
 ·refine .inr ⟨⟨q,l⟩,Pv (i+1),fun t c U=>⟨kvs.length-(i+1),by omega,rfl,l,U⟩,fun x c y=>?_⟩
  obtain⟨T,k,v,E,J,G,y⟩:=y;subst E G;exact Q i k v σ H T y p J
 ·have e:i=kvs.length:=by omega
  subst e;exact .inl ⟨⟨q,zC _⟩,L σ H p⟩
theorem zeC{d:Addr}{o:Obj}{kvs:List (Key×V)}{n:Nat}{g:TG}{N:TT}{L:TE}{A:St}{R:List V->Hp->Prop}{H:Hp}(Pv:Nat->List V->Hp->Prop)(U:Pv 0 [] H)
  (I:∀i c H,Pv i c H->H d=some (.frz o (.dK kvs)))
  (hs:∀i k v c H T,kvs[i]? =some (k,v)->Pv i c H->H T=none->g (.ref T) A (upd H T (.tup [kV k,v])) fun s E=>s.drop n=A.drop n/\N s E fun b t=>if b=true then L s t fun v G=>c.length<sizeLine/\Pv (i+1) (c++[v]) G else Pv (i+1) c t)
  (hd:∀c H,Pv kvs.length c H->c.length<=sizeLine/\R c H) :
  ∃W:Nat->Nat->List V->Hp->Prop,(∃m,W 0 m [] H)/\∀i m c l,W i m c l ->
   ((ItV d o kvs).stop i l/\c.length<=sizeLine/\R c l) \/
   ((ItV d o kvs).go i l/\∃M:List V->Hp->Prop,(∀c B,M c B->∃J,J<m/\W (i+1) J c B)/\∀x D,(ItV d o kvs).yld i l x D->g x A D fun s E=>s.drop n=A.drop n/\N s E fun b t=>
    if b=true then L s t fun y G=>c.length<sizeLine/\M (c++[y]) G else M c t):=by
 refine⟨fun i m c l=>m=kvs.length-i/\i<=kvs.length/\Pv i c l,⟨_,rfl,qk _,U⟩,?_⟩
 rintro i m c l ⟨rfl,hi,p⟩;by_cases w:i<kvs.length
 ·refine .inr ⟨⟨I i c l p,w⟩,Pv (i+1),fun a0 B p'=>⟨_,by omega,rfl,w,p'⟩,fun x D y=>?_⟩
  obtain⟨T,k,v,O,Y,Q,y⟩:=y;subst O Q;exact hs i k v c l T y p Y
 ·have e:i=kvs.length:=by omega
  subst e;obtain⟨z1,z2⟩:=hd c l p;exact .inl ⟨⟨I _ c l p,zC _⟩,z1,z2⟩
end L2
namespace L2
open PySem PySem.Spec PyProof.Rows PySem.W
section
variable{X:Cx}
inductive wn(K:W.Frag)(g:List V)(H:Hp)(Q:VK):Prop
 | mk (a:Addr) (t:List V) (ps:List (Int×Int)) (_:g=[.ref a]) (_:SqL K H a t) (_:PrR H t ps) (_:ps.Nodup) (_:ps.length<64) (_:∀(l:Addr) (c:List (Int×Int)) (s:List V),H l=none->c.Perm ps->(c.Pairwise fun a b=>ltP a b=true)->PrR H s c->Q (.ref l) (upd H l (.lst s))):wn K g H Q
theorem Xw:CallR X (.builtin "sorted") (wn X.K):=by
 intro a8 s σ H xs us Q I r h;obtain⟨a,N,ps,rfl,hx,pr,nd,aa,q⟩:=h;obtain⟨u,rfl,ru⟩:=ua r;cases(show u=Value.ref a from ru)
 obtain⟨c,a0,pl,hz⟩:=I.list hx;have ac:=a0.length;have af:=pr.1;have sz:sizeLine=16777216:=sizeLine_eq;refine Ye kind_sorted plain_sorted entry_sorted (args_sorted1 _) ?_
 delta Builtin.«sorted»;refine zn (m:=checkCount "sorted" 1 1 _) (zA (zn (collect_list pl.isList ?_ (by omega))))
 have g:∀b o,s.heap.get? b=some o->((s.heap.push (seqObj "list" #[] 0)).update s.heap.objs.size (Obj.mapSeq (·++c.toArray))).get? b=some o:=fun b o e=>by
  rw[vL _ _ (qc (zM (zD e)))];exact zO _ e
 generalize (s.heap.push (seqObj "list" #[] 0)).update s.heap.objs.size (Obj.mapSeq (·++c.toArray))=h1 at g
 refine zn (wpAny_newList ?_ (by omega))
 have a3:(h1.push (seqObj "list" c.toArray 0)).get? h1.objs.size=some (seqObj "list" c.toArray 0):=zQ _ rfl;have tup:∀(j:Nat) v,c[j]? =some v->∃T G t1 t2,v=Value.ref T/\ps[j]? =some G/\∃o n,s.heap.get? T=some o/\o.cls=.type "tuple" /\ o.data=.seq #[.int G.1 t1,.int G.2 t2] n:=fun j v A=>by
  have ab:=(zT.mp A).1;have ek:ps[j]? =some (ps[j]'(by omega)):=qo _
  generalize ps[j]'(by omega)=G at ek
  obtain⟨T,O,M⟩:=pr.2 j G ek;obtain⟨v',e3,e4⟩:=a0.get O;rw[A] at e3;cases e3;cases(show v=Value.ref T from e4)
  obtain⟨_,ts,rt,⟨o,ho,hc,n,hd⟩,_⟩:=(show ObjOk X.prog X.w H s.heap T (.tup [.int G.1,.int G.2]) from I.hok T _ M)
  cases rt with
  | cons r1 rt=>
   cases rt with
   | cons r2 rt=>
    cases rt;obtain⟨t1,rfl⟩:=r1;obtain⟨t2,rfl⟩:=r2;exact⟨T,G,t1,t2,rfl,ek,o,n,ho,hc,hd⟩
 have Y:∀i,i<c.length->ltQ ps i i=false:=fun i _=>ZP _
 have tr:∀i j k,i<c.length->j<c.length->k<c.length->ltQ ps i j=true->ltQ ps j k=true->ltQ ps i k=true:=fun i j k _ _ _=>zc2
 have tot:∀i j,i<c.length->j<c.length->i≠j->ltQ ps i j=true\/ltQ ps j i=true:=fun i j E A=>zex nd i j (by omega) (by omega)
 refine zn (xO (xX slot_list_sort ⟨_,a3,rfl⟩ entry_list_sort (Jw (s:={ s with heap:=h1.push (seqObj "list" c.toArray 0) }) a3 (by omega) (rkB c.length (ltQ ps)) (YW Y tr tot) (fun g2 h2 k2=>?_) fun p pm pw=>⟨_,rfl,?_⟩) (args_list_sort _)))
 ·have k3:∀T o,s.heap.get? T=some o->h2.get? T=some o:=fun T o e=>k2 T o (zM (zD (g T o e))) (zO _ (g T o e))
  obtain⟨fs,kt,lf,sf⟩:=Zm (h:=h2) c fun v hv=>by
   obtain⟨j,A⟩:=List.mem_iff_getElem?.mp hv;obtain⟨T,G,t1,t2,O,_,o,n,e3,e4,e5⟩:=tup j v A;exact⟨T,o,_,n,G.1,t1,O,k3 T o e3,e4,e5,rfl⟩
  refine⟨tuples' (Value.type "int" != Value.type "tuple"),fun Q' a6=>kat_kind kt (by omega) (fun v hv=>?_) rfl a6,fun i j E A C hC=>?_⟩
  ·obtain⟨x,t,rfl⟩:=sf v hv
   exact Looks.now
  ·have ei:c[i]? =some (c[i]'E):=qo _
   have ej:c[j]? =some (c[j]'A):=qo _;generalize c[i]'E=vi at ei;generalize c[j]'A=vj at ej;obtain⟨T,B,a1,a2,rfl,fi,oi,ni,gi,_,di⟩:=tup i vi ei;obtain⟨U,D,b1,b2,rfl,fj,oj,nj,gj,_,dj⟩:=tup j vj ej;rw[<- ZN Y tr tot E A] at hC;have w:C (ltP B D) { s with heap:=h2 }:=by
    unfold ltQ at hC;rw[qz,fi,qz,fj] at hC;exact hC
   unfold kas_ask;rw[qz,ei,qz,ej];refine kat_lt (k3 _ _ gi) di (k3 _ _ gj) dj (kat_cons ((zN X.prog X.w).eqBool (a:=Sum.inl B.1) (b:=Sum.inl D.1) (xm ⟨a1,rfl⟩) (xm ⟨b1,rfl⟩) ?_))
   refine kat_go (fun e=>?_) (fun e=>?_)
   ·have ek:B.1=D.1:=wX (jA e)
    refine kat_yes (kat_cons ((zN X.prog X.w).eqBool (a:=Sum.inl B.2) (b:=Sum.inl D.2) (xm ⟨a2,rfl⟩) (xm ⟨b2,rfl⟩) ?_))
    refine kat_go (fun M=>?_) (fun M=>?_)
    ·have a9:B.2=D.2:=wX (jA M)
     refine kat_yes (kat_nil ?_)
     rw[show ltP B D=false from jb (by omega)] at w
     exact w
    ·rw[show ltP B D=decide (B.2<D.2) from by unfold ltP;rw[wK];omega] at w
     exact kat_no (kat_one _ _ (PyProof.Rows.lt_int w))
   ·have nk:B.1≠D.1:=fun z=>(of_decide_eq_false e) (by rw[z])
    refine kat_no (oneLt_int ?_)
    rw[show ltP B D=decide (B.1<D.1) from by unfold ltP;rw[wK];omega] at w
    exact w
 ·have L:∀i∈p,i<c.length:=fun i E=>qu.mp (pm.mem_iff.mp E)
  have lp:p.length=c.length:=by have:=pm.length_eq;rwa[zS] at this
  have a4:Vals (p.map fun i=>N.getD i .non) ((p.map fun i=>c.getD i Value.none).toArray.toList):=by
   rw[W8];have go:∀l:List Nat,(∀i∈l,i<c.length)->Vals (l.map fun i=>N.getD i .non) (l.map fun i=>c.getD i Value.none):=fun l=>by
    induction l with
    | nil=>intro _;exact .nil
    | cons i l ih=>
     intro hl;refine .cons ?_ (ih fun k hk=>hl k (z9 _ hk))
     have E:=hl i (by simp)
     have ez:N[i]? =some (N[i]'(by omega)):=qo _
     obtain⟨v,O,M⟩:=a0.get ez;show RelV (N.getD i .non) (c.getD i Value.none);rw[qz,qz,ez,O];exact M
   exact go p L
  obtain⟨J,hn⟩:=vW (vs:=c) (out:=(p.map fun i=>c.getD i Value.none).toArray) (zs:=p.map fun i=>N.getD i .non) (tk:=s.toks) (d':=s.drawn) I g a4 (by rw[zr];omega)
  have O:(List.range c.length).map (fun i=>ps.getD i (0,0))=ps:=by
   refine Zt (by rw[zr,zS];omega) fun i h1 h2=>?_
   rw[w8,QQ,qz,qo h2];rfl
  have a7:=vp.mp pw;refine zA ⟨_,rfl,.ref h1.objs.size,_,J,rfl,q _ (p.map fun i=>ps.getD i (0,0)) _ hn ?_ ?_ ⟨by rw[zr,zr],fun j qq e=>?_⟩⟩
  ·have:=pm.map (fun i=>ps.getD i ((0:Int),(0:Int)))
   rw[O] at this;exact this
  ·refine vp.mpr (a7.imp_of_mem fun {i j} E A a5=>?_)
   have:=ZN Y tr tot (L i E) (L j A);rw[zW a5] at this;exact this
  ·rw[zZ] at e
   obtain⟨i,ei,rfl⟩:=jd.mp e;have E:=L i (jc ei);have ek:ps[i]? =some (ps.getD i (0,0)):=by rw[qz,qo (by omega)];rfl
   obtain⟨T,M,e3⟩:=pr.2 i _ ek;refine⟨T,?_,e3⟩
   rw[zZ,ei];show some (N.getD i .non)=_;rw[qz,M];rfl
end
end L2
namespace L2
open PySem PySem.Spec PyProof.Rows PySem.W
section
variable{X:Cx}
end
end L2
namespace L2
open PySem PySem.Spec PyProof.Rows PySem.W
section
variable{c:Program}{w:World}{A:Around}{E:Value->Shared->Prop}{s:Shared}
inductive Q6(c:Program)(w:World)(A:Around)(s:Shared):List Value->List Value->Bool->Prop
 | nil:Q6 c w A s [] [] false
 | nl {y B}:Q6 c w A s [] (y::B) true
 | ln {x l}:Q6 c w A s (x::l) [] false
 | eq {x y l B b} (h:∀(Q:Bool->Shared->Prop) E,Q true s->wpAny (model c w) A (eqBool x y) Q E s) (t:Q6 c w A s l B b):Q6 c w A s (x::l) (y::B) b
 | ne {x y l B b} (h:∀(Q:Bool->Shared->Prop) E,Q false s->wpAny (model c w) A (eqBool x y) Q E s) (g:∀(Q:Value->Shared->Prop) E,Q (.bool b) s->wpAny (model c w) A (richCompare .Lt x y) Q E s):Q6 c w A s (x::l) (y::B) b
theorem Q8{x y:Addr}{N J:Obj}{B D:Array Value}{n k:Nat}{b:Bool}{P:PySem.Fin->Shared->Prop}(hx:s.heap.get? x=some N)(Q:N.data=.seq B n)(hy:s.heap.get? y=some J)(O:J.cls=.type "tuple")(U:J.data=.seq D k)
  (T:Q6 c w A s B.toList D.toList b) (h:P (.done (.ret (.bool b))) s):wpAny (model c w) A (Builtin.«tuple.__lt__» ⟨[.ref x,.ref y],[]⟩) P E s:=by
 show wpAny _ _ (isInstance (.ref y) (.type "tuple") >>= _) _ _ s;refine zn (y9 (T:= "tuple") ⟨J,hy,O⟩ isSubtype_tuple_tuple ?_)
 simp only[Bool.not_true,yJ,if_false];refine zn (wpAny_tupleItemsOf hx Q (zn (wpAny_tupleItemsOf hy U (zn ?_))))
 refine wpAny_forIn_list _ (fun rest r L=>r.1=none/\L=s/\∃H I,rest=List.zip H I/\Q6 c w A s H I b/\H.length+D.size=I.length+B.size) _ ?_ ?_ _ _ ⟨rfl,rfl,B.toList,D.toList,rfl,T,by simp[Nat.add_comm]⟩
 ·rintro⟨u,v⟩ rest r L ⟨M,rfl,H,I,l,t,G⟩
  cases t with
  | nil=>simp at l
  | nl=>simp at l
  | ln=>simp at l
  | eq e t=>
   simp only[List.zip_cons_cons,List.cons.injEq,XJ] at l;obtain⟨⟨rfl,rfl⟩,rfl⟩:=l;refine zn (e _ _ ?_)
   simp only[Bool.not_true,yJ,if_false];exact zA ⟨rfl,rfl,_,_,rfl,t,by simp only[jP] at G;omega⟩
  | ne e g=>
   simp only[List.zip_cons_cons,List.cons.injEq,XJ] at l;obtain⟨⟨rfl,rfl⟩,rfl⟩:=l;refine zn (e _ _ ?_)
   simp only[Bool.not_false,if_true];refine zn (x5 (zn (g _ _ ?_)))
   exact zn (zA (zA (zA h)))
 ·rintro⟨Y,r2⟩ L ⟨M,rfl,H,I,l,t,G⟩
  simp only at M;subst M;refine zA ?_
  have hb:decide (B.size<D.size)=b:=by
   cases t with
   | nil=>exact jb (by simp at G;omega)
   | nl=>exact zW (by simp at G;omega)
   | ln=>exact jb (by simp at G;omega)
   | eq e t=>simp at l
   | ne e g=>simp at l
  show P (.done (.ret (.bool (decide (B.size<D.size))))) L;rw[hb];exact h
theorem Vg{x y:Addr}{g l:Obj}{D G:Array Value}{n k:Nat}{b:Bool}{Q:Value->Shared->Prop}(hu:A.units<cLine)(hx:s.heap.get? x=some g)(t:g.cls=.type "tuple")(H:g.data=.seq D n)(hy:s.heap.get? y=some l)(B:l.cls=.type "tuple")(I:l.data=.seq G k)
  (T:Q6 c w A.in1 s D.toList G.toList b) (h:Q (.bool b) s):wpAny (model c w) A (richCompare .Lt (.ref x) (.ref y)) Q E s:=
 wpAny_richCompare_same_room (op:=.Lt) (T:= "tuple") ⟨g,hx,t⟩ ⟨l,hy,B⟩ F.slot_tuple_lt
  (xX F.slot_tuple_lt ⟨g,hx,t⟩ F.entry_tuple_lt (Q8 hx H hy B I T ⟨_,rfl,(fun e=>nomatch e),h⟩) (F.args_tuple_lt_2 _ _)) hu
def ltN:List Int->List Int->Bool
 | [],[]=>false
 | [],_::_=>true
 | _::_,[]=>false
 | a::as,b::g=>if a=b then ltN as g else decide (a<b)
theorem eq_int(x y:Int)(t u:Tok){Q:Bool->Shared->Prop}(h:Q (decide (x=y)) s):wpAny (model c w) A (eqBool (.int x t) (.int y u)) Q E s:=by
 refine(zN c w).eqBool (a:=Sum.inl x) (b:=Sum.inl y) (xm ⟨t,rfl⟩) (xm ⟨u,rfl⟩) ?_
 rw[show decide ((Sum.inl x:Key)=Sum.inl y)=decide (x=y) from wK.mpr ⟨fun z=>wX z,fun z=>by rw[z]⟩]
 exact h
theorem zae(x y:Int)(t u:Tok){Q:Value->Shared->Prop}(h:Q (.bool (decide (x<y))) s):wpAny (model c w) A (richCompare .Lt (.int x t) (.int y u)) Q E s:=
 richCompare_gives (op:=.Lt) (typeIs_int s _ t) (typeIs_int s _ u) F.slot_int_lt F.entry_int_lt (F.args_int_lt_2 _ _) (gives_int_lt _ _ t u) (fun x=>nomatch x) h
theorem VW:∀{as g:List Int} {l B:List Value},Vals (as.map V.int) l->Vals (g.map V.int) B->Q6 c w A s l B (ltN as g)
 | [],[],_,_,.nil,.nil=>.nil
 | [],_::_,_,_,.nil,.cons _ _=>.nl
 | _::_,[],_,_,.cons _ _,.nil=>.ln
 | a::as,b::g,_,_,.cons ⟨t,D⟩ H,.cons ⟨u,G⟩ I=>by
  subst D G;by_cases h:a=b
  ·have e:ltN (a::as) (b::g)=ltN as g:=zq h
   rw[e];exact .eq (fun Q E q=>eq_int a b t u (by rw[zW h];exact q)) (VW H I)
  ·have e:ltN (a::as) (b::g)=decide (a<b):=zo h
   rw[e];exact .ne (fun Q E q=>eq_int a b t u (by rw[jb h];exact q)) fun Q E q=>zae a b t u q
def ltW(p q:Int×List Int):Bool:=if p.1=q.1 then(if p.2=q.2 then false else ltN p.2 q.2) else decide (p.1<q.1)
theorem zgk{p q:Int×List Int}(h:ltW p q=true):p.1<=q.1:=by
 unfold ltW at h;by_cases e:p.1=q.1
 ·omega
 ·rw[zo e] at h
  exact Int.le_of_lt (jA h)
theorem zgl{p q:Int×List Int}(h:ltW p q=false):q.1<=p.1:=by
 unfold ltW at h;by_cases e:p.1=q.1
 ·omega
 ·rw[zo e] at h
  have:=of_decide_eq_false h;omega
end
section
variable{g:Program}{w:World}{A:Around}{R:Result->Shared->Prop}{I S:Addr}{t l:List Addr}{n:Nat}{P:Nat->Value->Prop}{St:Nat->Heap->Prop}
theorem zbn(W:Walks g w A.in1 I t l n P St)(T:Nat->Nat->Bool)(J:Heap->Prop)(hJ:∀h B,J h->(∀b o,b∉l->b≠S->h.get? b=some o->B.get? b=some o)->J B)
  (hc:∀i j vi vj (s:Shared) (Q:Value->Shared->Prop) (E:Value->Shared->Prop),J s.heap->P i vi->P j vj->Q (.bool (T i j)) s->wpAny (model g w) A.in1 (richCompare .Lt vi vj) Q E s) (Y:S∉t) :
  ∀(k j:Nat) (s:Shared) (H:Value) (c:Nat),n=j+1+k->St (j+1) s.heap->J s.heap->P (argBest T j) H->s.heap.get? S=some (seqObj "list" #[H,H] c) ->
   (∀v B tk,P (argBest T (n-1)) v->(∀b o,b∉l->b≠S->s.heap.get? b=some o->B.get? b=some o)->R (.ok (.ret v)) { s with heap:=B,toks:=tk }) ->
   codeAny (model g w) A (.builtin "min.loop" ⟨[.ref I,.none,.ref S],[]⟩) R s:=by
 have nw:S∉l:=fun h=>Y (W.sub _ h)
 have nm:(toString "min" ++ toString ".loop" : String) = "min.loop" :=by decide
 intro k;induction k with
 | zero=>
  intro j s H c hn st j0 pb U hR;refine codeAny_builtin WT ?_
  rw[QE w6 _];show wpAny _ A.in1 (seqItems? (.ref S) >>= _) _ _ s;refine zn (vo U rfl ?_)
  show wpAny _ A.in1 (tryCatch (pyNext (.ref I)) _ >>= _) _ _ s;have a1:St n s.heap:=by rw[hn];exact st
  refine zn (wpAny_tryCatch (W.done s _ _ a1 fun B tk M=>?_))
  show wpAny _ A.in1 (updateSeq S (fun _=>#[]) >>= _) _ _ _
  refine zn (wpAny_updateSeq (M S _ nw U) rfl (zn (wW (zA ?_))))
  exact hR H _ tk (by rw[hn];exact pb) fun b o G D e=>(vL _ _ (qc D)).trans (M b o G e)
 | succ k ih=>
  intro j s H c hn st j0 pb U hR;refine codeAny_builtin WT ?_
  rw[QE w6 _];show wpAny _ A.in1 (seqItems? (.ref S) >>= _) _ _ s;refine zn (vo U rfl ?_)
  show wpAny _ A.in1 (tryCatch (pyNext (.ref I)) _ >>= _) _ _ s;refine zn (wpAny_tryCatch (W.item (j+1) s _ _ (by omega) st fun v B tk pv a0 M=>?_))
  have L:=M S _ nw U;have j2:J B:=hJ _ _ j0 fun b o G _ e=>M b o G e
  show wpAny _ A.in1 (tryCatch (holding [v,v] (richCompare .Lt v H >>= _)) _ >>= _) _ _ _;refine zn (wpAny_tryCatch (xO (zn (hc (j+1) (argBest T j) v H { s with heap:=B,toks:=tk } _ _ j2 pv pb ?_))))
  refine zn (xO (yH (zn (wW (zA ?_)))))
  cases hb:T (j+1) (argBest T j) with
  | true=>
   simp only[if_true];refine zn (wpAny_updateSeq L rfl (zn (wW ?_)))
   rw[nm];have N:∀b o,b≠S->B.get? b=some o->(B.update S (Obj.mapSeq fun _=>#[v,v])).get? b=some o:=fun b o D e=>(vL _ _ (qc D)).trans e
   refine zA ⟨plainId_quiet w6 _,ih (j+1) _ v _ (by omega) (W.frame _ _ _ a0 fun b bf o e=>N b o (fun z=>Y (by rw[<- z];exact bf)) e) (hJ _ _ j2 fun b o _ D e=>N b o D e) (by simp only[argBest,hb,if_true];exact pv) (wf _ L rfl) fun v' h2 O p2 k2=>?_⟩
   exact hR v' h2 O p2 fun b o G D e=>k2 b o G D (N b o D (M b o G e))
  | false=>
   simp only[yJ,if_false];refine zn (wW ?_)
   rw[nm];refine zA ⟨plainId_quiet w6 _,ih (j+1) _ H c (by omega) a0 j2 (by simp only[argBest,hb,yJ,if_false];exact pb) L fun v' h2 O p2 k2=>?_⟩
   exact hR v' h2 O p2 fun b o G D e=>k2 b o G D (M b o G e)
end
end L2
namespace L2
open PySem PySem.Spec PyProof.Rows PySem.W
def WkR(H:Hp)(c:List V)(ps:List (Int×List Int)):Prop:=c.length=ps.length/\∀(j:Nat) q,ps[j]? =some q->∃T U,c[j]? =some (.ref T)/\H T=some (.tup [.int q.1,.ref U])/\H U=some (.tup (q.2.map V.int))
theorem WkR.nil{H:Hp}:WkR H [] []:=⟨rfl,fun j q e=>by simp at e⟩
theorem WkR.same{H g:Hp}{l:List V}{ps:List (Int×List Int)}(h:WkR H l ps)(s:Same H g):WkR g l ps:=⟨h.1,fun j k e=>let ⟨T,U,a,b,c⟩:=h.2 j k e;⟨T,U,a,s _ _ b,s _ _ c⟩⟩
theorem WkR.snoc{H:Hp}{s:List V}{ps:List (Int×List Int)}{q:Int×List Int}{T U:Addr}(h:WkR H s ps)(e:H T=some (.tup [.int q.1,.ref U]))(A:H U=some (.tup (q.2.map V.int))):WkR H (s++[.ref T]) (ps++[q]):=by
 refine⟨by rw[zY,zY,h.1];rfl,fun j r c=>?_⟩
 by_cases g:j<ps.length
 ·rw[jR g] at c
  obtain⟨t,w,B,D,E⟩:=h.2 j r c;exact⟨t,w,by rw[jR (by rw[h.1];exact g)];exact B,D,E⟩
 ·have l:=(zT.mp c).1
  rw[zY] at l;have G:j=ps.length:=by simp at l;omega
  subst G;rw[jB (zC _),x6] at c;have:q=r:=by simpa using c
  subst this;exact⟨T,U,by rw[<- h.1,jB (zC _),x6];rfl,e,A⟩
theorem WkR.set{H:Hp}{s:List V}{ps:List (Int×List Int)}{q:Int×List Int}{T U:Addr}{i:Nat}(h:WkR H s ps)(e:H T=some (.tup [.int q.1,.ref U]))(A:H U=some (.tup (q.2.map V.int))):WkR H (s.set i (.ref T)) (ps.set i q):=by
 refine⟨by rw[Zr,Zr,h.1],fun j r c=>?_⟩
 by_cases g:i=j
 ·subst g
  have l:=(zT.mp c).1;rw[Zr] at l;rw[JR l] at c;cases c;exact⟨T,U,JR (by rw[h.1];exact l),e,A⟩
 ·rw[JP g] at c
  obtain⟨t,w,B,D,E⟩:=h.2 j r c;exact⟨t,w,by rw[JP g];exact B,D,E⟩
def Qj(ps:List (Int×List Int)):Nat:=argBest (fun i j=>ltW (ps.getD i (0,[])) (ps.getD j (0,[]))) (ps.length-1)
theorem XB(f:Nat->Int×List Int):∀n,argBest (fun i j=>ltW (f i) (f j)) n<=n/\∀j,j<=n->(f (argBest (fun i j=>ltW (f i) (f j)) n)).1<=(f j).1
 | 0=>⟨zC _,fun j g=>by rw[show j=0 by omega];exact xy _⟩
 | n+1=>by
  obtain⟨l,c⟩:=XB f n;cases hb:ltW (f (n+1)) (f (argBest (fun i j=>ltW (f i) (f j)) n)) with
  | true=>
   have e:argBest (fun i j=>ltW (f i) (f j)) (n+1)=n+1:=by simp only[argBest,hb,if_true]
   rw[e];refine⟨zC _,fun j g=>?_⟩
   rcases XG j (n+1) with z | z
   ·exact vD (zgk hb) (c j (by omega))
   ·rw[show j=n+1 by omega];exact xy _
  | false=>
   have e:argBest (fun i j=>ltW (f i) (f j)) (n+1)=argBest (fun i j=>ltW (f i) (f j)) n:=by simp only[argBest,hb,yJ,if_false]
   rw[e];refine⟨by omega,fun j g=>?_⟩
   rcases XG j (n+1) with z | z
   ·exact c j (by omega)
   ·rw[show j=n+1 by omega];exact zgl hb
theorem Xj{ps:List (Int×List Int)}(h:ps≠[]):Qj ps<ps.length:=by
 have:=(XB (fun i=>ps.getD i (0,[])) (ps.length-1)).1
 have:=W6.mpr h;unfold Qj;omega
theorem zew{ps:List (Int×List Int)}{j:Nat}(h:j<ps.length):(ps.getD (Qj ps) (0,[])).1<=(ps.getD j (0,[])).1:=
 (XB (fun i=>ps.getD i (0,[])) (ps.length-1)).2 j (by omega)
section
variable{X:Cx}
inductive ZB(K:W.Frag)(g:List V)(H:Hp)(Q:VK):Prop
 | mk (p:Addr) (c:List V) (ps:List (Int×List Int)) (_:g=[.ref p]) (_:SqL K H p c) (_:WkR H c ps) (_:ps≠[]) (_:∀v,c[Qj ps]? =some v->Q v H):ZB K g H Q
theorem zbF(hc:X.calm=true)(hu:X.A.units+64<cLine):CallR X (.builtin "min") (ZB X.K):=by
 intro ay s σ H xs us Q I r h;obtain⟨p,zs,ps,rfl,hq,wk,a9,q⟩:=h;obtain⟨u,rfl,ru⟩:=vG r;cases(show u=_ from ru)
 obtain⟨g,rv,pl,hz⟩:=I.list hq;have hl:=pl.isList;have b0:=rv.length;have wl:=wk.1;have h0:0<ps.length:=W6.mpr a9;have B:p<s.heap.objs.size:=let ⟨_,e,_⟩:=hl;zD e
 have nm:(toString "min" ++ toString ".loop" : String) = "min.loop" :=by decide
 have N:X.A.in1.in1.units<cLine:=Zd (W9 (by decide:2<=64) _) hu
 have am:X.A.in1.units<cLine:=Zd (W9 (by decide:1<=64) _) hu
 have tup:∀(j:Nat) v,g[j]? =some v->∃T q,v=Value.ref T/\ps[j]? =some q/\∃o n t U,s.heap.get? T=some o/\o.cls=.type "tuple" /\ o.data=.seq #[.int q.1 t,.ref U] n/\∃o' n' ai,s.heap.get? U=some o'/\o'.cls=.type "tuple" /\ o'.data=.seq ai n'/\Vals (q.2.map V.int) ai.toList:=fun j v hj=>by
  have az:=(zT.mp hj).1;have ek:ps[j]? =some (ps[j]'(by omega)):=qo _
  generalize ps[j]'(by omega)=k at ek
  obtain⟨T,U,L,J,e3⟩:=wk.2 j k ek;obtain⟨v',e4,e5⟩:=rv.get L;rw[hj] at e4;cases e4;cases(show v=Value.ref T from e5)
  obtain⟨_,ts,rt,⟨o,ho,ak,n,al⟩,_⟩:=(show ObjOk X.prog X.w H s.heap T (.tup [.int k.1,.ref U]) from I.hok T _ J)
  obtain⟨_,ax,au,⟨o',aj,aa,n',ab⟩,_⟩:=(show ObjOk X.prog X.w H s.heap U (.tup (k.2.map V.int)) from I.hok U _ e3)
  cases rt with
  | cons r1 rt=>
   cases rt with
   | @cons _ Y _ _ r2 rt=>
    cases rt;obtain⟨t1,rfl⟩:=r1;cases(show Y=Value.ref U from r2)
    exact⟨T,k,rfl,ek,o,n,t1,U,ho,ak,al,o',n',ax.toArray,aj,aa,ab,by rw[W8];exact au⟩
 refine call_function_tree F.kind_min F.plain_min F.entry_min (F.args_min1 _) ?_
 show wpAny _ X.A.in1 (Builtin.Builtins.bindParams "min" ["key","default"] 0 ⟨[],[]⟩ >>= _) _ _ s;refine zn (y4 (show Builtin.Builtins.bindParams "min" ["key","default"] 0 ⟨[],[]⟩=pure [none,none] from rfl) (zn (zA (zn (wpAny_pyIter_list hl ?_)))))
 refine zn (jV ?_)
 rw[nm];have hI:s.heap.objs.size<(s.heap.push { cls:=.type "list_iterator",data:=.fields #[.ref p,.int 0 0] }).objs.size:=by rw[qS];exact j9 _
 have ae:(s.heap.push { cls:=.type "list_iterator",data:=.fields #[.ref p,.int 0 0] }).IsListIter s.heap.objs.size p 0:=⟨_,zQ _ rfl,rfl,rfl⟩;have a8:(s.heap.push { cls:=.type "list_iterator",data:=.fields #[.ref p,.int 0 0] }).IsList p g.toArray:=hl.push _;have k1:∀b o,s.heap.get? b=some o->(s.heap.push { cls:=.type "list_iterator",data:=.fields #[.ref p,.int 0 0] }).get? b=some o:=fun b o e=>zO _ e
 generalize s.heap.push { cls:=.type "list_iterator",data:=.fields #[.ref p,.int 0 0] }=l at hI ae a8 k1;have W:=yZ (prog:=X.prog) (w:=X.w) (A:=X.A.in1.in1) (I.ok.hd hc) s.heap.objs.size p (zM B) g.toArray;have W':=yZ (prog:=X.prog) (w:=X.w) (A:=X.A.in1) (I.ok.hd hc) s.heap.objs.size p (zM B) g.toArray;have M:l.objs.size∉[s.heap.objs.size,p]:=by
  intro z;rcases zL.mp z with z | z
  ·omega
  ·exact jJ _ (Nat.lt_trans B (zK.mp z▸hI))
 have hS:(l.push { cls:=.type "list",data:=.seq ([]:List Value).toArray }).get? l.objs.size=some (seqObj "list" #[] 0):=zQ _ rfl;refine zA ⟨plainId_quiet w6 _,codeAny_builtin WT ?_⟩
 rw[QE w6 _];show wpAny _ _ (seqItems? (.ref l.objs.size) >>= _) _ _ _;refine zn (vo hS rfl ?_)
 show wpAny _ _ (tryCatch (pyNext (.ref s.heap.objs.size)) _ >>= _) _ _ _;refine zn (wpAny_tryCatch (W'.item 0 { s with heap:=l.push { cls:=.type "list",data:=.seq ([]:List Value).toArray } } _ _ (by rw[zX];omega) ⟨ae.at fun o e=>zO _ e,a8.push _⟩ fun v h' tk pv av kk=>?_))
 have nw:l.objs.size∉[s.heap.objs.size]:=fun z=>M (by simp at z;omega)
 have a0:=kk _ _ nw hS;show wpAny _ _ (updateSeq l.objs.size (fun _=>#[v,v]) >>= _) _ _ _
 refine zn (wpAny_updateSeq a0 rfl ?_)
 rw[nm];have ag:∀b o,b≠l.objs.size->h'.get? b=some o->(h'.update l.objs.size (Obj.mapSeq fun _=>#[v,v])).get? b=some o:=fun b o Y e=>(vL _ _ (qc Y)).trans e
 have all:∀b o,s.heap.get? b=some o->b≠s.heap.objs.size/\b≠l.objs.size:=fun b o e=>⟨zM (zD e),zM (Nat.lt_trans (zD e) hI)⟩
 have j0:∀b o,s.heap.get? b=some o->(h'.update l.objs.size (Obj.mapSeq fun _=>#[v,v])).get? b=some o:=fun b o e=>
  ag b o (all b o e).2 (kk b o (fun z=>(all b o e).1 (zK.mp z)) (zO _ (k1 b o e)))
 refine zA ⟨plainId_quiet w6 _,zbn (S:=l.objs.size) W' (fun i j=>ltW (ps.getD i (0,[])) (ps.getD j (0,[]))) (fun h=>∀b o,s.heap.get? b=some o->h.get? b=some o) (fun h h2 a b c o e=>b c o (fun z=>(all c o e).1 (zK.mp z)) (all c o e).2 (a c o e)) ?_ M (g.length-1) 0 _ v _ (by rw[zX];omega) (W'.frame _ _ _ av fun b bf o e=>ag b o (fun z=>M (by rw[<- z];exact bf)) e) j0 pv (wf _ a0 rfl) fun v' h2 aw p2 k2=>?_⟩
 ·intro i j vi vj s2 Q2 E2 O hi hj ac
  have ei:g[i]? =some vi:=by simpa using hi
  have ej:g[j]? =some vj:=by simpa using hj
  obtain⟨T,D,rfl,fi,oi,ni,ti,U,a1,a2,a3,aq,ao,xi,a4,a5,a6,a7⟩:=tup i vi ei;obtain⟨T',G,rfl,fj,oj,nj,tj,U',b1,Y,b3,ar,ap,xj,b4,b5,b6,b7⟩:=tup j vj ej;rw[qz,fi,qz,fj] at ac;refine Vg am (O _ _ a1) a2 a3 (O _ _ b1) Y b3 ?_ ac
  show Q6 X.prog X.w X.A.in1.in1 s2 [.int D.1 ti,.ref U] [.int G.1 tj,.ref U'] (ltW D G);by_cases L:D.1=G.1
  ·refine .eq (fun Q E q=>eq_int _ _ _ _ (by rw[zW L];exact q)) ?_
   have kU:IsTupleKey (zN X.prog X.w) s2.heap (D.2.map Sum.inl) U:=⟨aq,xi,ao,O _ _ a4,a5,a6,wC (by rw[jT];exact a7)⟩
   have af:IsTupleKey (zN X.prog X.w) s2.heap (G.2.map Sum.inl) U':=⟨ar,xj,ap,O _ _ b4,b5,b6,wC (by rw[jT];exact b7)⟩
   have an:∀{x y:List Int},x.map (Sum.inl (β:=Str))=y.map Sum.inl->x=y:=fun {x y} z=>by
    have:=congrArg (List.map fun k:Int ⊕ Str=>k.elim id fun _=>0) z
    simpa [jT,Function.comp_def] using this
   by_cases J:D.2=G.2
   ·rw[show ltW D G=false by unfold ltW;rw[zq L,zq J]]
    exact .eq (fun Q E q=>wpAny_eqBool_tuple N kU af (by rw[zW (by rw[J])];exact q)) .nil
   ·rw[show ltW D G=ltN D.2 G.2 by unfold ltW;rw[zq L,zo J]]
    exact .ne (fun Q E q=>wpAny_eqBool_tuple N kU af (by rw[jb fun z=>J (an z)];exact q)) fun Q E q=>Vg N (O _ _ a4) a5 a6 (O _ _ b4) b5 b6 (VW a7 b7) q
  ·rw[show ltW D G=decide (D.1<G.1) by unfold ltW;rw[zo L]]
   exact .ne (fun Q E q=>eq_int _ _ _ _ (by rw[jb L];exact q)) fun Q E q=>zae _ _ _ _ q
 ·rw[zX] at p2
  have J:g[Qj ps]? =some v':=by
   have:g.length=ps.length:=by omega
   unfold Qj;rw[<- this];simpa using p2
  have hm:=Xj a9;have e3:zs[Qj ps]? =some (zs[Qj ps]'(by omega)):=qo _
  obtain⟨v2,e4,e5⟩:=rv.get e3;rw[J] at e4;cases e4;refine⟨_,H,I.kept (h':=h2) (t':=aw) (fun b o e=>k2 b o (fun z=>(all b o e).1 (zK.mp z)) (all b o e).2 (j0 b o e)),e5,q _ e3⟩
end
end L2
namespace L2
open PySem PySem.Spec PyProof.Rows PySem.W
section
variable{X:Cx}
def zh7(r:V->List V->Hp->VK->Prop)(to:TE):TE:=fun σ H Q=>to σ H fun x c=>∃d,x=.ref d/\IsD c d/\r x [] c Q
theorem zcF{o:Expr}{to:TE}{c:Str}{g l:Pos}{id:String}{r:V->List V->Hp->VK->Prop}(B:Slot "dict" c id)(D:typeOf (.builtin id)=pure (.type "method_descriptor"))(N:MtM X id r)(O:PE X o to)
  (w:attributeBase o c X.env (eval o X.env)=eval o X.env:=by rfl) (A:(g.endLine==l.line)=true:=by rfl):PE X (.Call (.Attribute o c g) [] [] l) (zh7 r to):=by
 intro t s σ H Q I h;refine wpAny_Call_method0_late w A (thn (O t s σ H _ I h) fun v Y ⟨x,G,E,U,d,e,M,T⟩=>?_)
 subst e;cases U;obtain⟨J,L⟩:=WI E M;exact⟨"dict",id,X4,B,D,J,L.1,QV rfl (PySem.evalArgs_none (N t Y σ G (.ref d) [] _ [] Q E rfl .nil T))⟩
inductive yL(g:List V)(H:Hp)(Q:VK):Prop
 | mk (a:Addr) (c:List (Key×V)) (_:g=[.ref a]) (_:Rd H a (.dK c)) (_:∀p,H p=none->Q (.ref p) (upd H p (.dK c))):yL g H Q
theorem WM:CallR X (.type "dict") (yL):=by
 intro c s σ H D B Q I r h;obtain⟨a,t,rfl,hx,q⟩:=h;obtain⟨u,rfl,w⟩:=ua r;cases(show u=Value.ref a from w)
 exact zds I hx fun p A l g=>⟨.ref p,_,g,rfl,q p l⟩
inductive ZE(P:Program)(w:World)(g:List V)(H:Hp)(Q:VK):Prop
 | mk (a:Addr) (c:List Key) (_:g=[.ref a]) (_:H a=some (Jb P w a c)) (_:Q (.int c.length) H):ZE P w g H Q
theorem zbH:CallR X (.builtin "len") (ZE X.prog X.w):=by
 intro w s σ H xs us Q I r h;obtain⟨a,l,rfl,hx,q⟩:=h;obtain⟨u,rfl,M⟩:=ua r;cases(show u=Value.ref a from M)
 obtain⟨⟨o,D,c,U,t,g,A,⟨_,G,J,L⟩,_,E,B,_⟩,_,_⟩:=(show ObjOk X.prog X.w H s.heap a (Jb X.prog X.w a l) from I.hok a _ hx)
 have ln:c.size=l.length:=by
  have N:=L.length;have O:=J.length_eq;have T:c.toList.length=c.size:=j8;omega
 have Y:scanBound=4096:=rfl;refine call_len_set D g A B (by omega) ⟨.int l.length,H,I.kept (fun b o e=>e),⟨_,by rw[ln]⟩,q⟩
end
end L2
namespace L2
open PySem PySem.Spec PyProof.Rows
theorem zeD{K:W.Frag}{k1 k2:Bool}{A B:Addr}{xs ys:List V}{g:TG}{Y:TT}{wi:TI}{O:TG}{w:TT}{U:TE}{D:St}{n:Nat}{R:List V->Hp->Prop}{H:Hp}(Pv:Nat->List V->Hp->Prop)(h0:Pv 0 [] H)
  (h1:∀i c H,Pv i c H->SqK K k1 H A xs/\SqK K k2 H B ys)
  (hs:∀i x y c H T,xs[i]? =some x->ys[i]? =some y->Pv i c H->H T=none->g (.ref T) D (upd H T (.tup [x,y])) fun s I=>s.drop n=D.drop n/\Y s I fun b t=>
   if b=true then tIn wi O w U c (Pv (i+1)) s t else Pv (i+1) c t)
  (hd:∀c H,Pv (min xs.length ys.length) c H->c.length<=sizeLine/\R c H) :
  ∃W:Nat->Nat->List V->Hp->Prop,(∃m,W 0 m [] H)/\∀i m c l,W i m c l ->
   ((Itz K k1 k2 A B).stop i l/\c.length<=sizeLine/\R c l) \/
   ((Itz K k1 k2 A B).go i l/\∃N:List V->Hp->Prop,(∀c E,N c E->∃Q,Q<m/\W (i+1) Q c E)/\∀x G,(Itz K k1 k2 A B).yld i l x G->g x D G fun s I=>s.drop n=D.drop n/\Y s I fun b t=>
    if b=true then tIn wi O w U c N s t else N c t):=by
 refine⟨fun i m c l=>m=min xs.length ys.length-i/\i<=min xs.length ys.length/\Pv i c l,⟨_,rfl,qk _,h0⟩,?_⟩
 rintro i m c l ⟨rfl,hi,p⟩;obtain⟨L,M⟩:=h1 i c l p;by_cases J:i<min xs.length ys.length
 ·have l1:i<xs.length:=by omega
  have l2:i<ys.length:=by omega
  refine .inr ⟨⟨xs,ys,xs[i],ys[i],L,M,by simp[l1],by simp[l2]⟩,Pv (i+1),fun a0 E p'=>⟨_,by omega,rfl,J,p'⟩,fun x G y=>?_⟩
  obtain⟨T,u,v,e1,hT,e2,y1,y2⟩:=y;subst e1 e2;exact hs i u v c l T (y1 xs L) (y2 ys M) p hT
 ·have e:i=min xs.length ys.length:=by omega
  subst e;obtain⟨z1,z2⟩:=hd c l p;exact .inl ⟨⟨xs,ys,L,M,by omega⟩,z1,z2⟩
theorem zgs{K:W.Frag}{k1 k2:Bool}{w A:Addr}{xs ys:List V}{g:TG}{Y:TT}{U:TE}{B:St}{N:List V->Hp->Prop}{us:List V}{H:Hp}(Pv:Nat->List V->Hp->Prop)(h0:Pv 0 us H)
  (h1:∀i c H,Pv i c H->SqK K k1 H w xs/\SqK K k2 H A ys)
  (hs:∀i x y c H T,xs[i]? =some x->ys[i]? =some y->Pv i c H->H T=none->g (.ref T) B (upd H T (.tup [x,y])) fun s G=>Sub B s/\Y s G fun b t=>
   if b=true then U s t fun v I=>c.length<sizeLine/\Pv (i+1) (c++[v]) I else Pv (i+1) c t)
  (hd:∀c H,Pv (min xs.length ys.length) c H->N c H) :
  ∃W:Nat->Nat->List V->Hp->Prop,(∃m,W 0 m us H)/\∀i m c l,W i m c l ->
   ((Itz K k1 k2 w A).stop i l/\N c l) \/
   ((Itz K k1 k2 w A).go i l/\∃J:List V->Hp->Prop,(∀c D,J c D->∃Q,Q<m/\W (i+1) Q c D)/\∀x E,(Itz K k1 k2 w A).yld i l x E->g x B E fun s G=>Sub B s/\Y s G fun b t=>
    if b=true then U s t fun y I=>c.length<sizeLine/\J (c++[y]) I else J c t):=by
 refine⟨fun i m c l=>m=min xs.length ys.length-i/\i<=min xs.length ys.length/\Pv i c l,⟨_,rfl,qk _,h0⟩,?_⟩
 rintro i m c l ⟨rfl,hi,p⟩;obtain⟨M,O⟩:=h1 i c l p;by_cases L:i<min xs.length ys.length
 ·have l1:i<xs.length:=by omega
  have l2:i<ys.length:=by omega
  refine .inr ⟨⟨xs,ys,xs[i],ys[i],M,O,by simp[l1],by simp[l2]⟩,Pv (i+1),fun a0 D p'=>⟨_,by omega,rfl,L,p'⟩,fun x E y=>?_⟩
  obtain⟨T,u,v,e1,hT,e2,y1,y2⟩:=y;subst e1 e2;exact hs i u v c l T (y1 xs M) (y2 ys O) p hT
 ·have e:i=min xs.length ys.length:=by omega
  subst e;exact .inl ⟨⟨xs,ys,M,O,by omega⟩,hd c l p⟩
section
variable{X:Cx}
theorem zeg{K:W.Frag}(h:X.K=K){l m:Expr}{t:TA}{p s G:Pos}{c:List Expr}{E:Nat}(A:Gl X "zip")(B:X.mg "zip" = none)(w:PA X [l,m] t)(D:starEach [l,m] X.env=[(false,eval l X.env),(false,eval m X.env)]:=by rfl)(g:starEach [m] X.env=[(false,eval m X.env)]:=by rfl) :
  PI X (.Tuple c E G) (.Call (.Name "zip" p) [l,m] [] s) (zhI K t):=by rw[<- h];exact wR A B w D g
inductive Zx(K:W.Frag)(g:List V)(H:Hp)(Q:VK):Prop
 | mk (p:Addr) (c:List Int) (_:g=[.ref p]) (_:SqL K H p (c.map V.int)) (_:(∀z∈c,-1000000000000<=z/\z<=1000000000000)) (_:c.length<=100000) (_:Q (.int c.sum) H):Zx K g H Q
theorem JI(hc:X.calm=true):CallR X (.builtin "sum") (Zx X.K):=by
 intro a0 s σ H xs us Q I r h;obtain⟨p,c,rfl,hq,Y,hn,q⟩:=h;obtain⟨u,rfl,ru⟩:=vG r;cases(show u=_ from ru)
 obtain⟨g,rv,pl,_⟩:=I.list hq;have E:=pl.isList;have G:p≠s.heap.objs.size:=by
  obtain⟨o,e,_⟩:=E;exact zM (zD e)
 have D:g.length=c.length:=by have:=rv.length;rw[zr] at this;omega
 have J:∀j,j<=c.length-> -(1000000000000*(j:Int))<=(c.take j).sum/\(c.take j).sum<=1000000000000*(j:Int):=by
  intro j;induction j with
  | zero=>intro _;simp
  | succ j ih=>
   intro U;have:=ih (by omega)
   have e:c.take (j+1)=c.take j++[c[j]'(by omega)]:=by rw[QZ]
   have b:=Y (c[j]'(by omega)) (jM _)
   rw[e,QL];simp only[wj,List.sum_nil];constructor
   ·omega
   ·omega
 refine call_sum_walk (wpAny_pyIter_list E ?_)
 refine⟨s.heap.objs.size,_,_,_,_,_,fun i=>c.getD i 0,rfl,yZ (prog:=X.prog) (w:=X.w) (A:=X.A.in1) (I.ok.hd hc) _ p G g.toArray,⟨⟨_,zQ _ rfl,rfl,rfl⟩,E.push _⟩,fun b hb=>?_,fun i v hP=>?_,fun j U=>?_,fun h' tk t' hk=>?_⟩
 ·have L:(s.heap.push { cls:=.type "list_iterator",data:=.fields #[.ref p,.int 0 0] }).objs.size=s.heap.objs.size+1:=qS ..
  show b<(s.heap.push _).objs.size;rw[L];rcases zL.mp hb with z | z
  ·rw[z];exact j9 _
  ·rw[zK.mp z]
   obtain⟨o,e,_⟩:=E;exact jQ (zD e)
 ·have N:g[i]? =some v:=by simpa using hP
  have T:i<c.length:=by have h1:=(zT.mp N).1;omega
  obtain⟨u',O,M⟩:=rv.get (i:=i) (x:=.int c[i]) (by simp[T])
  rw[N] at O;cases O
  obtain⟨t,e⟩:=M;exact⟨t,by rw[e];simp[T]⟩
 ·have B:j<c.length:=by simp only[zX] at U;omega
  have a1:=Y c[j] (jM B);have a2:=J (j+1) (by omega)
  have l:(2:Int)^63=9223372036854775808:=by decide
  refine⟨?_,?_⟩
  ·show InLong (c.getD j 0)
   rw[show c.getD j 0=c[j] by simp[B]]
   unfold InLong;rw[l];omega
  ·rw[preSum_getD]
   unfold InLong;rw[l];have:((j+1:Nat):Int)<=100000:=by omega
   omega
 ·have k:∀b o,s.heap.get? b=some o->h'.get? b=some o:=fun b o e=>hk b o (by simp;exact zM (zD e)) (zO _ e)
  refine⟨.int c.sum,H,I.kept k,⟨t',?_⟩,q⟩
  rw[preSum_getD];have:c.take g.toArray.size=c:=by rw[zX,D,j7]
  rw[this]
end
section
variable{g:Program}{w:World}{K:Type}[DecidableEq K]{knd:KeyKind g w K}{A:Around}{E:Value->Shared->Prop}{s:Shared}
theorem WL{l:Addr}{t:Array Value}{n:Nat}{sl:Array (Option Value)}{keys:List K}{Q:Value->Shared->Prop}(hh:A.handled=none)(Y:s.heap.get? l=some { cls:=.type "list",dict:=none,data:=.seq t n,slots:=sl })(H:keys.length=t.size)(hb:t.size+1<scanBound)
  (L:∀(j:Nat) (u:Value),t[j]? =some u->∃k,keys[j]? =some k/\knd.is k u=true/\u.scannable=true)
  (h:∀D T,SetX knd (Qm w) D s.heap.objs.size (jY [] keys)->(∀c o,s.heap.get? c=some o->D.get? c=some o)->Q (.ref s.heap.objs.size) { s with heap:=D,toks:=T }) :
  wpAny (model g w) A (call (.type "set") [.ref l]) Q E s:=by
 refine Yr (Q1:=fun u s1=>u=.ref s.heap.objs.size/\s1={ s with heap:=s.heap.push (xG w) }) XH (F.typeCall_set_1 (.ref l)) (VL (.ref l) ⟨rfl,rfl⟩) fun u s1 e=>?_
 obtain⟨eu,es⟩:=e;subst eu es;have U:(s.heap.push (xG w)).get? s.heap.objs.size=some (xG w):=zQ _ rfl;have J:Shared.TypeIs { s with heap:=s.heap.push (xG w) } (.ref s.heap.objs.size) "set" :=⟨_,U,rfl⟩;have B:=zO (xG w) Y;refine⟨J,codeAny_call_builtin XH.init.plain F.entry_set_init (check_set_init_1 J ?_)⟩
 have m1:=F.sub_list_set;have m2:=F.sub_list_frozenset;have m3:(Value.type "list" == Value.type "dict")=false:=by decide
 have G:l<s.heap.objs.size:=zD Y;unfold xG at U J B;unfold Builtin.«set.__init__» noKeywords Builtin.Frozenset.updateFrom xG;generalize I:pyIter=PI;wp_walk
 subst I;refine wpAny_pyIter_list ⟨_,B,rfl,n,rfl⟩ (zn (wpAny_runValue ?_))
 have M:A.in1.in1.in1.handled=none:=by simp[hh]
 have O:(s.heap.push (xG w)).objs.size=s.heap.objs.size+1:=qS ..;have N:∀c o,s.heap.get? c=some o->c<s.heap.objs.size:=fun c o e=>zD e
 refine Ys (knd:=knd) (b:=Qm w) (A:=A.in1.in1) (S:=s.heap.objs.size) (it:=(s.heap.push (xG w)).objs.size) (l:=l) (items:=t) (keys:=keys) M (by rw[O];exact zM (jQ G)) (zM G) (by rw[O];exact jI (j9 _)) H L t.size
  ⟨(s.heap.push (xG w)).push { cls:=.type "list_iterator",data:=.fields #[.ref l,.int 0 0] },s.gens,s.drawn,s.toks,s.os⟩ 0 [] rfl (qk _) ⟨_,zQ _ rfl,rfl,rfl⟩ ⟨_,zO _ B,rfl,n,rfl⟩ ((VA s.heap).at fun o e=>zO _ e) (by rw[QN];omega) fun D T sx kp=>?_
 refine zA (zA ⟨rfl,h D T (by simpa using sx) fun c o e=>?_⟩)
 have:=N c o e;exact kp c o (by rw[O];exact zM (jQ this)) (zM this) (zO _ (zO _ e))
end
section
variable{X:Cx}
inductive Zz(K:W.Frag)(P:Program)(w:World)(g:List V)(H:Hp)(Q:VK):Prop
 | mk (a:Addr) (c:List Key) (_:g=[.ref a]) (_:SqL K H a (c.map kV)) (_:c.length<=4000) (_:∀p,H p=none->Q (.ref p) (upd H p (Jb P w p (jY [] c)))):Zz K P w g H Q
theorem zbD(T:X.A.handled=none):CallR X (.type "set") (Zz X.K X.prog X.w):=by
 intro E s σ H xs us Q I r h;obtain⟨a,D,rfl,hx,hl,q⟩:=h;obtain⟨u,rfl,ru⟩:=ua r;cases(show u=Value.ref a from ru)
 obtain⟨Y,c,⟨o,n,O,J,L,M⟩,zz⟩:=I.list hx;obtain⟨oc,od,g,os⟩:=o;cases(show oc=_ from J)
 cases(show od=_ from L)
 cases(show g=_ from M)
 have ln:=c.length;rw[zr] at ln;have U:H s.heap.objs.size=none:=I.hok.fresh (zC _);have sb:scanBound=4096:=rfl;refine WL (knd:=zN X.prog X.w) (keys:=D) T O (by simp[ln]) (by simp;omega) (fun j u e=>?_) fun h' tk G k=>?_
 ·rw[List.getElem?_toArray] at e
  obtain⟨x,w,l⟩:=Vals.at c e;rw[zZ] at w;obtain⟨B,N,rfl⟩:=jd.mp w;refine⟨B,N,xm l,?_⟩
  cases B with
  | inl i=>obtain⟨t,rfl⟩:=l;rfl
  | inr i=>obtain⟨t,rfl⟩:=l;rfl
 ·refine⟨.ref s.heap.objs.size,_,I.laid (a:=s.heap.objs.size) (o:=Jb X.prog X.w s.heap.objs.size (jY [] D)) (t':=tk) k (zC _) ⟨G,?_,fun h1 h2 x e=>x.at e⟩,rfl,q _ U⟩
  obtain⟨o,e,_⟩:=G;exact⟨o,e⟩
end
end L2
namespace L2
open PySem PySem.Spec PyProof.Rows PySem.W
section
variable{c:Program}{w:World}{A:Around}{R:Result->Shared->Prop}{I S:Addr}{g l:List Addr}{n:Nat}{P:Nat->Value->Prop}{St:Nat->Heap->Prop}
end
section
variable{X:Cx}
end
end L2
namespace L2
open PySem PySem.Spec PyProof.Rows
section
variable{X:Cx}
end
end L2
namespace L2
open PySem PySem.Spec PyProof.Rows PySem.W
section
variable{X:Cx}
end
end L2
namespace L2
open PySem PySem.Spec PyProof.Rows
section
variable{X:Cx}
end
section
variable{c:Program}{w:World}{A:Around}{E:Value->Shared->Prop}{s:Shared}
end
section
variable{X:Cx}
end
section
variable{c:Program}{w:World}{A:Around}{E:Value->Shared->Prop}{R:Result->Shared->Prop}{s:Shared}
variable{K:Type}[DecidableEq K]{g:KeyKind c w K}
end
section
variable{X:Cx}{l B c:Expr}{s:List Expr}{scope:Scope}{t:Pos}{D:TI}{g:TG}{A:TT}{w:TE}
end
section
variable{X:Cx}{x y:Str}{w A E:Pos}{t:Nat}{g c:Expr}{l:List Expr}{scope:Scope}{s:Pos}{G:TI}{D:TT}{B:TE}
end
section
variable{X:Cx}
end
end L2
namespace L2
structure Pot(c:Nat->Nat->Int)(r m:Nat)(f:Nat->Nat)(u v:Nat->Int):Prop where
 inj:∀x,x<r->∀y,y<r->f x=f y->x=y
 rng:∀x,x<r->f x<m
 feas:∀x,x<r->∀j,j<m->u x+v j<=c x j
 tight:∀x,x<r->u x+v (f x)=c x (f x)
 neg:∀j,j<m->v j<=0
 free:∀j,j<m->(∀x,x<r->f x≠j)->v j=0
theorem Pot.zero(c:Nat->Nat->Int)(m:Nat)(f:Nat->Nat):Pot c 0 m f (fun _=>0) (fun _=>0):=
 ⟨fun x h=>absurd h (jL x),fun x h=>absurd h (jL x),fun x h=>absurd h (jL x),fun x h=>absurd h (jL x),fun _ _=>xy _,fun _ _ _=>rfl⟩
theorem Pot.step{c:Nat->Nat->Int}{r m:Nat}{f:Nat->Nat}{u v:Nat->Int}(P:Pot c r m f u v){x b:Nat}(hx:x<r)(hb:b<m):v b-v (f x)<=c x b-c x (f x):=by
 have g:=P.feas x hx b hb;have l:=P.tight x hx;omega
inductive Wg(c:Nat->Nat->Int)(r m:Nat)(f:Nat->Nat)(g T:Nat->Int):List Nat->Nat->Int->Prop
 | one {j:Nat}:j<m->T j<=g j->Wg c r m f g T [j] j (g j)
 | step {p:List Nat} {x b:Nat} {t:Int}:Wg c r m f g T p (f x) t->x<r->b<m->b∉p->T b<=t+c x b-c x (f x)->Wg c r m f g T (p++[b]) b (t+c x b-c x (f x))
section
variable{c:Nat->Nat->Int}{r m:Nat}{f:Nat->Nat}{w T:Nat->Int}
theorem Wg.mono{s:Nat->Int}(h:∀j,s j<=T j):∀{p:List Nat} {j:Nat} {t:Int},Wg c r m f w T p j t->Wg c r m f w s p j t
 | _,_,_,.one A l=>.one A (vD (h _) l)
 | _,_,_,.step g hx hb B l=>.step (g.mono h) hx hb B (vD (h _) l)
theorem Wg.nodup:∀{p:List Nat} {j:Nat} {t:Int},Wg c r m f w T p j t->p.Nodup
 | _,_,_,.one _ _=>xW.mpr ⟨(fun h=>nomatch h),yF⟩
 | _,_,_,.step g _ _ s _=>by
  rw[Zu];refine⟨g.nodup,xW.mpr ⟨(fun h=>nomatch h),yF⟩,fun a l b hb=>fun e=>?_⟩
  rw[zK.mp hb] at e;exact s (e▸l)
theorem Wg.rng:∀{p:List Nat} {j:Nat} {t:Int},Wg c r m f w T p j t->(∀x∈p,x<m)/\j∈p
 | _,_,_,.one l _=>⟨fun x hx=>by rw[zK.mp hx];exact l,by simp⟩
 | _,_,_,.step g _ hb _ _=>⟨fun x hx=>(qJ.mp hx).elim (g.rng.1 x) fun z=>by rw[zK.mp z];exact hb,by simp⟩
theorem Wg.le:∀{p:List Nat} {j:Nat} {t:Int},Wg c r m f w T p j t->T j<=t
 | _,_,_,.one _ h=>h
 | _,_,_,.step _ _ _ _ h=>h
theorem Wg.mem{u v:Nat->Int}(P:Pot c r m f u v):∀{p:List Nat} {j:Nat} {t:Int},Wg c r m f w T p j t->∀y∈p,∃ty,T y<=ty/\ty-v y<=t-v j
 | _,_,_,.one B h,y,hy=>by
  rw[zK.mp hy];exact⟨_,h,xy _⟩
 | _,_,_,.step (x:=x) (b:=b) (t:=t) g hx hb D h,y,hy=>by
  have s:=P.step hx hb;rcases qJ.mp hy with z | z
  ·obtain⟨ty,l,A⟩:=Wg.mem P g y z
   exact⟨ty,l,by omega⟩
  ·rw[zK.mp z]
   exact⟨_,h,xy _⟩
theorem Wg.low{u v:Nat->Int}(P:Pot c r m f u v)(l:∀j,j<m->v j<=w j):∀{p:List Nat} {j:Nat} {t:Int},Wg c r m f w T p j t->v j<=t
 | _,_,_,.one A _=>l _ A
 | _,_,_,.step (x:=x) (b:=b) (t:=t) g hx hb _ _=>by
  have s:=P.step hx hb;have:=Wg.low P l g;omega
theorem Wg.relax{u v:Nat->Int}(P:Pot c r m f u v){p:List Nat}{x b:Nat}{t:Int}(g:Wg c r m f w T p (f x) t)(hx:x<r)(hb:b<m)(D:t+c x b-c x (f x)<T b):b∉p:=fun l=>by
 obtain⟨ty,A,B⟩:=Wg.mem P g b l;have s:=P.step hx hb;omega
def zdT(c:Nat->Nat->Int)(r m:Nat)(f:Nat->Nat)(T:Nat->Int):Prop:=∀x,x<r->∀b,b<m->T b<=T (f x)+c x b-c x (f x)
inductive Ch(c:Nat->Nat->Int)(r m:Nat)(f:Nat->Nat)(w T:Nat->Int):List Nat->Nat->Prop
 | one {j:Nat}:j<m->T j=w j->Ch c r m f w T [j] j
 | step {p:List Nat} {x b:Nat}:Ch c r m f w T p (f x)->x<r->b<m->b∉p->T b=T (f x)+c x b-c x (f x)->Ch c r m f w T (p++[b]) b
theorem Wg.ch(S:zdT c r m f T):∀{p:List Nat} {j:Nat} {t:Int},Wg c r m f w T p j t->t=T j->Ch c r m f w T p j
 | _,_,_,.one B h,e=>.one B e.symm
 | _,_,_,.step (x:=x) (b:=b) (t:=t) g hx hb D h,e=>by
  have s:=S x hx b hb;have l:=g.le;have A:t=T (f x):=by omega
  exact .step (g.ch S A) hx hb D (by omega)
theorem Ch.rng:∀{p:List Nat} {j:Nat},Ch c r m f w T p j->(∀x∈p,x<m)/\j∈p/\p≠[]
 | _,_,.one l _=>⟨fun x hx=>by rw[zK.mp hx];exact l,by simp,by simp⟩
 | _,_,.step g _ hb _ _=>⟨fun x hx=>(qJ.mp hx).elim (g.rng.1 x) fun z=>by rw[zK.mp z];exact hb,by simp,by simp⟩
theorem Ch.nodup:∀{p:List Nat} {j:Nat},Ch c r m f w T p j->p.Nodup
 | _,_,.one _ _=>xW.mpr ⟨(fun h=>nomatch h),yF⟩
 | _,_,.step g _ _ s _=>by
  rw[Zu];refine⟨g.nodup,xW.mpr ⟨(fun h=>nomatch h),yF⟩,fun a l b hb=>fun e=>?_⟩
  rw[zK.mp hb] at e;exact s (e▸l)
theorem Ch.last:∀{p:List Nat} {j:Nat},Ch c r m f w T p j->p.getLast? =some j
 | _,_,.one _ _=>rfl
 | _,_,.step _ _ _ _ _=>by rw[List.getLast?_concat]
theorem Ch.head:∀{p:List Nat} {j:Nat},Ch c r m f w T p j->∃s,p.head? =some s/\s<m/\T s=w s
 | _,_,.one A h=>⟨_,rfl,A,h⟩
 | _,_,.step g _ _ _ _=>by
  obtain⟨s,l,t⟩:=g.head;refine⟨s,?_,t⟩
  rw[List.head?_append,l]
  rfl
theorem Ch.next:∀{p:List Nat} {j:Nat},Ch c r m f w T p j->∀(i a b:Nat),p[i]? =some a->p[i+1]? =some b->∃x,x<r/\f x=a/\b<m/\T b=T a+c x b-c x a
 | _,_,.one _ _,i,a,b,s,l=>by simp at l
 | _,_,.step (p:=p) (x:=x) (b:=B) g hx hb H h,i,a,b,s,l=>by
  by_cases G:i+1<p.length
  ·rw[jR (by omega)] at s
   rw[jR G] at l;exact g.next i a b s l
  ·have t:=(zT.mp l).1
   rw[zY] at t;have D:i+1=p.length:=by simp at t;omega
   rw[D,jB (zC _),x6] at l;have E:B=b:=by simpa using l
   subst E;rw[jR (by omega)] at s
   have A:=g.last;rw[zdB,show p.length-1=i by omega] at A
   rw[A] at s;cases s;exact⟨x,hx,rfl,hb,h⟩
theorem Ch.grow{u v:Nat->Int}(P:Pot c r m f u v):∀{p:List Nat} {j:Nat},Ch c r m f w T p j->∀a∈p,T a-v a<=T j-v j
 | _,_,.one _ _,a,l=>by rw[zK.mp l];exact xy _
 | _,_,.step (x:=x) (b:=b) g hx hb t h,a,l=>by
  have s:=P.step hx hb;rcases qJ.mp l with z | z
  ·have:=g.grow P a z
   omega
  ·rw[zK.mp z];exact xy _
end
def nxt(p:List Nat)(a:Nat):Option Nat:=p[p.idxOf a+1]?
def jx(f:Nat->Nat)(r:Nat)(p:List Nat):Nat->Nat:=fun y=>if y=r then p.headD 0 else if f y∈p then(nxt p (f y)).getD 0 else f y
section
variable{c:Nat->Nat->Int}{r m:Nat}{f:Nat->Nat}{T:Nat->Int}{u v:Nat->Int}
theorem yT{p:List Nat}{a:Nat}(h:a∈p):p[p.idxOf a]? =some a:=by
 rw[qo (X5.mpr h)];exact congrArg some (List.getElem_idxOf _)
theorem xh{p:List Nat}{j:Nat}(C:Ch c r m f (c r) T p j)(B:∀x,x<r->f x≠j){y:Nat}(hy:y<r)(g:f y∈p):∃b,p[p.idxOf (f y)+1]? =some b/\jx f r p y=b:=by
 have A:=X5.mpr g;have l:=yT g;have s:=C.last;rw[zdB] at s;have t:p.idxOf (f y)+1<p.length:=by
  refine Nat.lt_of_le_of_ne A fun e=>?_
  have w:p.idxOf (f y)=p.length-1:=by omega
  rw[w,s] at l;exact B y hy (qU l).symm
 refine⟨_,qo t,?_⟩
 unfold jx nxt;rw[zo (by omega),zq g,qo t]
 rfl
theorem Pot.augment{p:List Nat}{j:Nat}(P:Pot c r m f u v)(S:zdT c r m f T)(h0:∀b,b<m->T b<=c r b)(C:Ch c r m f (c r) T p j)(E:∀x,x<r->f x≠j)(jm:j<m)(I:∀b,b<m->(∀x,x<r->f x≠b)->T j<=T b) :
  Pot c (r+1) m (jx f r p) (fun x=>if x=r then T j else u x+(T j-min (T (f x)-v (f x)) (T j))) (fun b=>v b+min (T b-v b) (T j)-T j):=by
 have vj:v j=0:=P.free j jm E;have A:=fun a ha=>C.grow P a ha
 have nd:=C.nodup;obtain⟨s,M,sm,Ts⟩:=C.head;have L:jx f r p r=s:=by
  unfold jx;rw[zq rfl];cases p with
  | nil=>cases M
  | cons x p=>cases M;rfl
 have sp:s∈p:=List.mem_of_head? M;have l:∀y,y<r->f y∉p->jx f r p y=f y:=fun y hy hp=>by
  unfold jx;rw[zo (by omega),zo hp]
 have N:∀i,p[i]? =some s->i=0:=fun i J=>by
  have h0:p[0]? =some s:=by rw[<- List.head?_eq_getElem?];exact M
  have l1:=(zT.mp J);have l2:=(zT.mp h0);exact(yc nd).mp (l1.2.trans l2.2.symm)
 have G:∀i k b,p[i]? =some b->p[k]? =some b->i=k:=fun i k b J hk=>by
  have l1:=(zT.mp J);have l2:=(zT.mp hk);exact(yc nd).mp (l1.2.trans l2.2.symm)
 refine⟨?_,?_,?_,?_,?_,?_⟩
 ·-- no a3 U
  have a2:∀x,x<r->∀y,y<r->jx f r p x=jx f r p y->x=y:=fun x hx y hy e=>by
   by_cases t:f x∈p
   ·obtain⟨b,hb,H⟩:=xh C E hx t
    by_cases B:f y∈p
    ·obtain⟨Y,g,w⟩:=xh C E hy B
     rw[H,w] at e;subst e;have:=G _ _ _ hb g;have e2:p.idxOf (f x)=p.idxOf (f y):=by omega
     have e3:=yT t;rw[e2,yT B] at e3;exact P.inj x hx y hy (qU e3).symm
    ·rw[H,l y hy B] at e
     exact absurd (e▸jc hb) B
   ·by_cases B:f y∈p
    ·obtain⟨Y,g,w⟩:=xh C E hy B
     rw[w,l x hx t] at e;exact absurd (e▸jc g) t
    ·rw[l x hx t,l y hy B] at e
     exact P.inj x hx y hy e
  have kr:∀y,y<r->jx f r p y≠s:=fun y hy e=>by
   by_cases B:f y∈p
   ·obtain⟨Y,g,w⟩:=xh C E hy B
    rw[w] at e;subst e;have:=N _ g;omega
   ·rw[l y hy B] at e
    exact B (e▸sp)
  intro x hx y hy e;by_cases D:x=r
  ·by_cases yr:y=r
   ·omega
   ·rw[D,L] at e
    exact absurd e.symm (kr y (by omega))
  ·by_cases yr:y=r
   ·rw[yr,L] at e
    exact absurd e (kr x (by omega))
   ·exact a2 x (by omega) y (by omega) e
 ·intro x hx
  by_cases D:x=r
  ·rw[D,L];exact sm
  ·by_cases t:f x∈p
   ·obtain⟨b,hb,H⟩:=xh C E (show x<r by omega) t
    rw[H];exact C.rng.1 b (jc hb)
   ·rw[l x (by omega) t]
    exact P.rng x (by omega)
 ·intro x hx b hb
  by_cases D:x=r
  ·subst D
   simp only[if_true];have:=h0 b hb;omega
  ·simp only[zo D]
   have h1:=P.feas x (by omega) b hb
   have h2:=P.tight x (by omega)
   have h3:=S x (by omega) b hb
   omega
 ·intro x hx
  by_cases D:x=r
  ·subst D
   rw[L];simp only[if_true];have:=A s sp;omega
  ·simp only[zo D]
   have h2:=P.tight x (by omega)
   by_cases t:f x∈p
   ·obtain⟨b,hb,H⟩:=xh C E (show x<r by omega) t
    rw[H];obtain⟨x',a1,O,_,e3⟩:=C.next _ _ _ (yT t) hb
    have ex:=P.inj x' a1 x (by omega) O
    subst ex;have g1:=A _ t;have g2:=A _ (jc hb);omega
   ·rw[l x (by omega) t]
    omega
 ·intro b hb
  have:=P.neg b hb;show v b+min (T b-v b) (T j)-T j<=0;omega
 ·intro b hb hf
  show v b+min (T b-v b) (T j)-T j=0;have bp:b∉p:=fun hp=>by
   obtain⟨i,J,e⟩:=W5 hp;have Q:p[i]? =some b:=by rw[<- e];exact qo J
   cases i with
   | zero=>
    refine hf r (j9 _) ?_
    rw[L];rw[<- List.head?_eq_getElem?,M] at Q
    exact qU Q
   | succ i=>
    have a0:i<p.length:=by omega
    have ea:p[i]? =some p[i]:=qo a0;obtain⟨x,hx,O,_⟩:=C.next i _ _ ea Q
    have t:f x∈p:=by rw[O];exact jc ea
    obtain⟨Y,g,w⟩:=xh C E hx t;have:p.idxOf (f x)=i:=G _ _ _ (yT t) (by rw[O];exact ea)
    rw[this,Q] at g;cases g;exact hf x (by omega) w
  have nf:∀x,x<r->f x≠b:=fun x hx e=>by
   refine hf x (by omega) ?_
   rw[l x hx (by rw[e];exact bp)]
   exact e
  have h1:=P.free b hb nf;have h2:=I b hb nf;omega
end
def qe(n:Nat)(g:Nat->Int):Int:=((List.range n).map g).sum
theorem qC(n:Nat)(g:Nat->Int):qe (n+1) g=qe n g+g n:=by
 unfold qe;rw[j6,zV,QL];simp
theorem yh{g h:Nat->Int}:∀(n:Nat),(∀x,x<n->g x<=h x)->qe n g<=qe n h
 | 0,_=>xy _
 | n+1,H=>by
  have:=yh n fun x hx=>H x (by omega)
  have:=H n (by omega)
  rw[qC,qC];omega
theorem xg{g h:Nat->Int}(n:Nat)(H:∀x,x<n->g x=h x):qe n g=qe n h:=WQ (yh n fun x hx=>QG (H x hx)) (yh n fun x hx=>QG (H x hx).symm)
theorem ZX(g h:Nat->Int):∀n,qe n (fun x=>g x+h x)=qe n g+qe n h
 | 0=>rfl
 | n+1=>by
  have:=ZX g h n;rw[qC,qC,qC];omega
theorem Vk{m:Nat}(v:Nat->Int){a:Nat}(g:a<m):qe m v=v a+qe m (fun j=>if j=a then 0 else v j):=by
 induction m with
 | zero=>omega
 | succ m c=>
  rw[qC,qC];by_cases e:a=m
  ·subst e
   have:qe a v=qe a (fun j=>if j=a then 0 else v j):=xg a fun x hx=>by rw[zo (by omega)]
   rw[zq rfl];omega
  ·have:=c (by omega)
   rw[zo (fun z:m=a=>e z.symm)]
   omega
theorem Vj{m:Nat}:∀{r:Nat} {g:Nat->Nat} {v:Nat->Int},(∀x,x<r->g x<m)->(∀x,x<r->∀y,y<r->g x=g y->x=y)->(∀j,j<m->v j<=0)->qe m v<=qe r fun x=>v (g x)
 | 0,g,v,_,_,c=>by
  have:qe m v<=qe m fun _=>0:=yh m c
  have z:∀n,qe n (fun _=>0)=0:=fun n=>by
   induction n with
   | zero=>rfl
   | succ n l=>rw[qC,l];rfl
  rw[z m] at this;exact this
 | r+1,g,v,t,s,c=>by
  have l:=Vj (r:=r) (g:=g) (v:=fun j=>if j=g r then 0 else v j) (fun x hx=>t x (by omega)) (fun x hx y hy=>s x (by omega) y (by omega)) fun j w=>by
   show(if j=g r then 0 else v j)<=0
   split
   ·exact xy _
   ·exact c j w
  have e:qe r (fun x=>(fun j=>if j=g r then(0:Int) else v j) (g x))=qe r fun x=>v (g x):=xg r fun x hx=>by
   show(if g x=g r then(0:Int) else v (g x))=v (g x)
   rw[zo fun z=>by have:=s x (by omega) r (by omega) z;omega]
  rw[e] at l;rw[qC,Vk v (t r (by omega))]
  omega
section
variable{c:Nat->Nat->Int}{r m:Nat}{f:Nat->Nat}{u v:Nat->Int}
theorem Pot.weak(P:Pot c r m f u v){g:Nat->Nat}(l:∀x,x<r->g x<m)(t:∀x,x<r->∀y,y<r->g x=g y->x=y):qe r u+qe m v<=qe r fun x=>c x (g x):=by
 have s:qe r (fun x=>u x+v (g x))<=qe r fun x=>c x (g x):=yh r fun x hx=>P.feas x hx (g x) (l x hx)
 rw[ZX] at s;have w:=Vj l t P.neg;omega
theorem Vi{m:Nat}:∀{r:Nat} {g:Nat->Nat} {v:Nat->Int},(∀x,x<r->g x<m)->(∀x,x<r->∀y,y<r->g x=g y->x=y)->(∀j,j<m->(∀x,x<r->g x≠j)->v j=0)->(qe r fun x=>v (g x))=qe m v
 | 0,g,v,_,_,s=>by
  have e:qe m v=qe m fun _=>0:=xg m fun j l=>s j l fun x hx=>absurd hx (jL x)
  have z:∀n,qe n (fun _=>0)=0:=fun n=>by
   induction n with
   | zero=>rfl
   | succ n t=>rw[qC,t];rfl
  rw[e,z m];rfl
 | r+1,g,v,A,w,s=>by
  have t:=Vi (r:=r) (g:=g) (v:=fun j=>if j=g r then 0 else v j) (fun x hx=>A x (by omega)) (fun x hx y hy=>w x (by omega) y (by omega)) fun j l B=>by
   show(if j=g r then(0:Int) else v j)=0
   split
   ·rfl
   ·rename_i ne
    refine s j l fun x hx e=>?_
    by_cases z:x=r
    ·subst z;exact ne e.symm
    ·exact B x (by omega) e
  have e:qe r (fun x=>(fun j=>if j=g r then(0:Int) else v j) (g x))=qe r fun x=>v (g x):=xg r fun x hx=>by
   show(if g x=g r then(0:Int) else v (g x))=v (g x)
   rw[zo fun z=>by have:=w x (by omega) r (by omega) z;omega]
  rw[e] at t;rw[qC,Vk v (A r (by omega))]
  omega
theorem Pot.sum(P:Pot c r m f u v):(qe r fun x=>c x (f x))=qe r u+qe m v:=by
 have e:(qe r fun x=>c x (f x))=qe r fun x=>u x+v (f x):=xg r fun x hx=>(P.tight x hx).symm
 rw[e,ZX,Vi P.rng P.inj P.free]
theorem Pot.least(P:Pot c r m f u v){g:Nat->Nat}(s:∀x,x<r->g x<m)(l:∀x,x<r->∀y,y<r->g x=g y->x=y):(qe r fun x=>c x (f x))<=qe r fun x=>c x (g x):=by
 rw[P.sum];exact P.weak s l
end
end L2
namespace L2
def tot(c:List (Int×List Nat))(j:Nat):Int:=(c.getD j (0,[])).1
def way(c:List (Int×List Nat))(j:Nat):List Nat:=(c.getD j (0,[])).2
def jt(c:Nat->Nat->Int)(k x:Nat)(st:List (Int×List Nat)×Bool)(b:Nat):List (Int×List Nat)×Bool:=
 if tot st.1 k+c x b-c x k<tot st.1 b then(st.1.set b (tot st.1 k+c x b-c x k,way st.1 k++[b]),true) else st
def xa(c:Nat->Nat->Int)(k x n:Nat)(st:List (Int×List Nat)×Bool):List (Int×List Nat)×Bool:=(List.range n).foldl (jt c k x) st
theorem va(c:Nat->Nat->Int)(k x n:Nat)(st:List (Int×List Nat)×Bool):xa c k x (n+1) st=jt c k x (xa c k x n st) n:=by
 unfold xa;rw[j6,List.foldl_append];rfl
def qT(c:Nat->Nat->Int)(m:Nat)(g:List (Nat×Nat))(st:List (Int×List Nat)×Bool):List (Int×List Nat)×Bool:=g.foldl (fun st h=>xa c h.1 h.2 m st) st
theorem WB(c:Nat->Nat->Int)(m:Nat)(g:List (Nat×Nat))(h:Nat×Nat)(st:List (Int×List Nat)×Bool):qT c m (g++[h]) st=xa c h.1 h.2 m (qT c m g st):=by
 unfold qT;rw[List.foldl_append];rfl
theorem Qc(c:Nat->Nat->Int)(m:Nat)(g:List (Nat×Nat))(st:List (Int×List Nat)×Bool){i:Nat}{h:Nat×Nat}(e:g[i]? =some h):qT c m (g.take (i+1)) st=xa c h.1 h.2 m (qT c m (g.take i) st):=by
 rw[WU,e,WY];exact WB c m _ h st
inductive Settle(c:Nat->Nat->Int)(m:Nat)(l:List (Nat×Nat)):List (Int×List Nat)->List (Int×List Nat)->Prop
 | stop {g}:(qT c m l (g,false)).2=false->Settle c m l g (qT c m l (g,false)).1
 | go {g s}:(qT c m l (g,false)).2=true->Settle c m l (qT c m l (g,false)).1 s->Settle c m l g s
theorem Xe{c:Nat->Nat->Int}{k x b:Nat}{st:List (Int×List Nat)×Bool}(h:(jt c k x st b).2=false):jt c k x st b=st/\tot st.1 b<=tot st.1 k+c x b-c x k:=by
 unfold jt at h ⊢;by_cases z:tot st.1 k+c x b-c x k<tot st.1 b
 ·rw[zq z] at h;cases h
 ·rw[zo z];exact⟨rfl,by omega⟩
theorem Z3{c:Nat->Nat->Int}{k x:Nat}{st:List (Int×List Nat)×Bool}:∀{n:Nat},(xa c k x n st).2=false->xa c k x n st=st/\∀b,b<n->tot st.1 b<=tot st.1 k+c x b-c x k
 | 0,_=>⟨rfl,fun b h=>absurd h (jL b)⟩
 | n+1,h=>by
  rw[va] at h ⊢;obtain⟨s,g⟩:=Xe h;rw[s] at h ⊢;obtain⟨l,t⟩:=Z3 h;rw[l] at g;refine⟨l,fun b hb=>?_⟩
  rcases XG b n with z | z
  ·exact t b z
  ·rw[show b=n by omega];exact g
theorem Zi{c:Nat->Nat->Int}{m:Nat}{st:List (Int×List Nat)×Bool}:∀{l:List (Nat×Nat)},(qT c m l st).2=false->qT c m l st=st/\∀h∈l,∀b,b<m->tot st.1 b<=tot st.1 h.1+c h.2 b-c h.2 h.1:=by
 intro l;induction l generalizing st with
 | nil=>intro _;exact⟨rfl,fun h D=>nomatch D⟩
 | cons h l E=>
  intro e;have e:(qT c m l (xa c h.1 h.2 m st)).2=false:=e;obtain⟨s,t⟩:=E e;rw[s] at e;obtain⟨w,A⟩:=Z3 e;rw[w] at s t;refine⟨show qT c m l (xa c h.1 h.2 m st)=st from by rw[w];exact s,fun g B b hb=>?_⟩
  rcases zL.mp B with z | z
  ·rw[z];exact A b hb
  ·exact t g z b hb
def WgA(c:Nat->Nat->Int)(r m:Nat)(f:Nat->Nat)(l:Nat->Int)(g:List (Int×List Nat)):Prop:=g.length=m/\∀j,j<m->Wg c r m f l (tot g) (way g j) j (tot g j)
theorem ZM{c:List (Int×List Nat)}{b:Nat}{q:Int×List Nat}(hb:b<c.length)(j:Nat):tot (c.set b q) j=if j=b then q.1 else tot c j:=by
 unfold tot;rw[qz,qz];by_cases e:j=b
 ·subst e;rw[JR hb,zq rfl];rfl
 ·rw[JP (qc e),zo e]
theorem Yn{c:List (Int×List Nat)}{b:Nat}{q:Int×List Nat}(hb:b<c.length)(j:Nat):way (c.set b q) j=if j=b then q.2 else way c j:=by
 unfold way;rw[qz,qz];by_cases e:j=b
 ·subst e;rw[JR hb,zq rfl];rfl
 ·rw[JP (qc e),zo e]
def mea(m:Nat)(v:Nat->Int)(c:List (Int×List Nat)):Nat:=((List.range m).map fun j=>(tot c j-v j).toNat).sum
theorem ZW{g h:Nat->Nat}:∀{l:List Nat},(∀x∈l,g x<=h x)->(l.map g).sum<=(l.map h).sum
 | [],_=>zC _
 | a::l,H=>by
  have:=ZW (l:=l) fun x hx=>H x (z9 _ hx)
  have:=H a (by simp)
  simp only[jz,wj];omega
theorem ZV{g h:Nat->Nat}:∀{l:List Nat},(∀x∈l,g x<=h x)->(∃x∈l,g x<h x)->(l.map g).sum<(l.map h).sum
 | [],_,⟨x,hx,_⟩=>nomatch hx
 | a::l,H,⟨x,hx,c⟩=>by
  have:=H a (by simp)
  simp only[jz,wj];rcases zL.mp hx with z | z
  ·subst z
   have:=ZW (l:=l) fun x hx=>H x (z9 _ hx)
   omega
  ·have:=ZV (l:=l) (fun x hx=>H x (z9 _ hx)) ⟨x,z,c⟩
   omega
section
variable{c:Nat->Nat->Int}{r m:Nat}{f:Nat->Nat}{l:Nat->Int}{u v:Nat->Int}
theorem zbb(P:Pot c r m f u v)(J:∀j,j<m->v j<=l j){x b:Nat}{st:List (Int×List Nat)×Bool}(g:WgA c r m f l st.1)(hx:x<r)(hb:b<m) :
  WgA c r m f l (jt c (f x) x st b).1/\mea m v (jt c (f x) x st b).1<=mea m v st.1/\((jt c (f x) x st b).2=true->st.2=true\/mea m v (jt c (f x) x st b).1<mea m v st.1):=by
 unfold jt;by_cases z:tot st.1 (f x)+c x b-c x (f x)<tot st.1 b
 ·rw[zq z]
  have s:b<st.1.length:=by rw[g.1];exact hb
  have B:∀j,tot (st.1.set b (tot st.1 (f x)+c x b-c x (f x),way st.1 (f x)++[b])) j<=tot st.1 j:=fun j=>by
   rw[ZM s];by_cases e:j=b
   ·rw[zq e,e];exact Int.le_of_lt z
   ·rw[zo e];exact xy _
  have A:=g.2 (f x) (P.rng x hx);have M:=Wg.low P J A;have N:=P.step hx hb;have w:tot (st.1.set b (tot st.1 (f x)+c x b-c x (f x),way st.1 (f x)++[b])) b=tot st.1 (f x)+c x b-c x (f x):=by rw[ZM s,zq rfl]
  have D:mea m v (st.1.set b (tot st.1 (f x)+c x b-c x (f x),way st.1 (f x)++[b]))<mea m v st.1:=by
   refine ZV (fun j _=>?_) ⟨b,qu.mpr hb,?_⟩
   ·have:=B j
    show(tot _ j-v j).toNat<=(tot st.1 j-v j).toNat;omega
   ·show(tot _ b-v b).toNat<(tot st.1 b-v b).toNat
    rw[w];omega
  refine⟨⟨by rw[Zr];exact g.1,fun j L=>?_⟩,vI D,fun _=>.inr D⟩
  by_cases e:j=b
  ·subst e
   have I:way (st.1.set j (tot st.1 (f x)+c x j-c x (f x),way st.1 (f x)++[j])) j=way st.1 (f x)++[j]:=by rw[Yn s,zq rfl]
   rw[I];have H:∀{t:Int},t=tot st.1 (f x)+c x j-c x (f x)->Wg c r m f l (tot (st.1.set j (tot st.1 (f x)+c x j-c x (f x),way st.1 (f x)++[j]))) (way st.1 (f x)++[j]) j t:=fun e=>by
    rw[e];exact Wg.step (A.mono B) hx hb (A.relax P hx hb z) (QG w)
   exact H w
  ·have E:tot (st.1.set b (tot st.1 (f x)+c x b-c x (f x),way st.1 (f x)++[b])) j=tot st.1 j:=by rw[ZM s,zo e]
   have G:way (st.1.set b (tot st.1 (f x)+c x b-c x (f x),way st.1 (f x)++[b])) j=way st.1 j:=by rw[Yn s,zo e]
   show Wg c r m f l _ (way _ j) j (tot _ j);rw[G];have:=(g.2 j L).mono B;rw[<- E] at this;exact this
 ·rw[zo z]
  exact⟨g,zC _,fun h=>.inl h⟩
theorem Xb(P:Pot c r m f u v)(s:∀j,j<m->v j<=l j){x:Nat}{st:List (Int×List Nat)×Bool}(g:WgA c r m f l st.1)(hx:x<r):∀{n:Nat},n<=m ->
  WgA c r m f l (xa c (f x) x n st).1/\mea m v (xa c (f x) x n st).1<=mea m v st.1/\((xa c (f x) x n st).2=true->st.2=true\/mea m v (xa c (f x) x n st).1<mea m v st.1)
 | 0,_=>⟨g,zC _,fun h=>.inl h⟩
 | n+1,G=>by
  obtain⟨D,t,A⟩:=Xb P s g hx (n:=n) (by omega)
  obtain⟨E,w,B⟩:=zbb P s D hx (b:=n) (by omega)
  rw[va];refine⟨E,jU w t,fun h=>?_⟩
  rcases B h with z | z
  ·rcases A z with y | y
   ·exact .inl y
   ·exact .inr (Zd w y)
  ·exact .inr (jr z t)
theorem yp(P:Pot c r m f u v)(A:∀j,j<m->v j<=l j):∀{hs:List (Nat×Nat)} {st:List (Int×List Nat)×Bool},(∀h∈hs,h.2<r/\h.1=f h.2)->WgA c r m f l st.1 ->
  WgA c r m f l (qT c m hs st).1/\mea m v (qT c m hs st).1<=mea m v st.1/\((qT c m hs st).2=true->st.2=true\/mea m v (qT c m hs st).1<mea m v st.1)
 | [],st,_,g=>⟨g,zC _,fun h=>.inl h⟩
 | h::hs,st,H,g=>by
  obtain⟨hx,e⟩:=H h (by simp)
  obtain⟨w,s,t⟩:=Xb P A g hx (n:=m) (zC _);rw[<- e] at w s t;obtain⟨E,B,D⟩:=yp P A (hs:=hs) (fun h G=>H h (z9 _ G)) w
  show WgA c r m f l (qT c m hs (xa c h.1 h.2 m st)).1/\mea m v (qT c m hs (xa c h.1 h.2 m st)).1<=mea m v st.1/\((qT c m hs (xa c h.1 h.2 m st)).2=true->st.2=true\/mea m v (qT c m hs (xa c h.1 h.2 m st)).1<mea m v st.1);refine⟨E,jU B s,fun q=>?_⟩
  rcases D q with z | z
  ·rcases t z with y | y
   ·exact .inl y
   ·exact .inr (Zd B y)
  ·exact .inr (jr z s)
theorem Settle.ok(P:Pot c r m f u v)(G:∀j,j<m->v j<=l j){A:List (Nat×Nat)}{t w:List (Int×List Nat)}(s:Settle c m A t w)(H:∀h∈A,h.2<r/\h.1=f h.2)(B:∀x,x<r->(f x,x)∈A) :
  WgA c r m f l t->WgA c r m f l w/\zdT c r m f (tot w):=by
 induction s with
 | @stop t e=>
  intro g;obtain⟨D,E⟩:=Zi e;rw[D];exact⟨g,fun x hx b hb=>E (f x,x) (B x hx) b hb⟩
 | @go t w e s I=>
  intro g;exact I (yp P G H (st:=(t,false)) g).1
theorem WgA.first(c:Nat->Nat->Int)(r m:Nat)(f:Nat->Nat)(l:Nat->Int):WgA c r m f l ((List.range m).map fun j=>(l j,[j])):=by
 have e:∀j,j<m->((List.range m).map fun j=>(l j,[j])).getD j (0,[])=(l j,[j]):=fun j g=>by
  rw[qz,zZ,jX g];rfl
 refine⟨by rw[zr,zS],fun j g=>?_⟩
 have s:tot ((List.range m).map fun j=>(l j,[j])) j=l j:=by unfold tot;rw[e j g]
 have t:way ((List.range m).map fun j=>(l j,[j])) j=[j]:=by unfold way;rw[e j g]
 rw[t];have:Wg c r m f l (tot ((List.range m).map fun j=>(l j,[j]))) [j] j (l j):=.one g (QG s)
 rw[<- s] at this;exact this
def ub:=@WgA.first
theorem zbc{k x b:Nat}{st:List (Int×List Nat)×Bool}(hb:b<st.1.length)(j:Nat):tot (jt c k x st b).1 j<=tot st.1 j:=by
 unfold jt;by_cases z:tot st.1 k+c x b-c x k<tot st.1 b
 ·rw[zq z]
  show tot (st.1.set b _) j<=_;rw[ZM hb];by_cases e:j=b
  ·rw[zq e,e];exact Int.le_of_lt z
  ·rw[zo e];exact xy _
 ·rw[zo z];exact xy _
theorem Wy{k x b:Nat}{st:List (Int×List Nat)×Bool}:(jt c k x st b).1.length=st.1.length:=by
 unfold jt;by_cases z:tot st.1 k+c x b-c x k<tot st.1 b
 ·rw[zq z];exact Zr
 ·rw[zo z]
theorem yn{k x:Nat}{st:List (Int×List Nat)×Bool}:∀{n:Nat},(xa c k x n st).1.length=st.1.length
 | 0=>rfl
 | n+1=>by rw[va,Wy];exact yn
theorem YV{k x:Nat}{st:List (Int×List Nat)×Bool}(j:Nat):∀{n:Nat},n<=st.1.length->tot (xa c k x n st).1 j<=tot st.1 j
 | 0,_=>xy _
 | n+1,g=>by
  rw[va];exact vD (zbc (by rw[yn];exact g) j) (YV j (by omega))
theorem Qd(j:Nat):∀{hs:List (Nat×Nat)} {st:List (Int×List Nat)×Bool},m<=st.1.length->tot (qT c m hs st).1 j<=tot st.1 j/\(qT c m hs st).1.length=st.1.length
 | [],_,_=>⟨xy _,rfl⟩
 | h::hs,st,g=>by
  obtain⟨a,b⟩:=Qd j (hs:=hs) (st:=xa c h.1 h.2 m st) (by rw[yn];exact g)
  exact⟨vD a (YV j g),b.trans yn⟩
theorem Settle.le{A:List (Nat×Nat)}{g w:List (Int×List Nat)}(s:Settle c m A g w)(j:Nat):m<=g.length->tot w j<=tot g j:=by
 induction s with
 | @stop g e=>intro t;exact(Qd j (st:=(g,false)) t).1
 | @go g w e s B=>
  intro t;obtain⟨a,b⟩:=Qd (c:=c) (m:=m) j (hs:=A) (st:=(g,false)) t;exact vD (B (by rw[b];exact t)) a
end
end L2
namespace L2
def look(c:List (Nat×Nat))(k:Nat):Option Nat:=(c.find? fun h=>decide (h.1=k)).map (·.2)
def ZI(c:List (Nat×Nat))(k x:Nat):List (Nat×Nat):=if(c.any fun h=>decide (h.1=k))=true then c.map fun h=>if h.1=k then(h.1,x) else h else c++[(k,x)]
theorem VV(k:Nat):∀c:List (Nat×Nat),(c.any fun h=>decide (h.1=k))=(look c k).isSome
 | []=>rfl
 | h::c=>by
  have:=VV k c;by_cases e:h.1=k
  ·simp[look,e]
  ·simp only[look,vJ,wY,e,decide_false,QH] at this ⊢
   exact this
theorem VU(k x j:Nat):∀t:List (Nat×Nat),look (t.map fun h=>if h.1=k then(h.1,x) else h) j=if j=k then(look t j).map (fun _=>x) else look t j
 | []=>by by_cases e:j=k<;>simp[look,e]
 | h::t=>by
  have B:=VU k x j t;have s:∀(g:Nat×Nat) (A:List (Nat×Nat)),look (g::A) j=if g.1=j then some g.2 else look A j:=fun g A=>by
   by_cases e:g.1=j<;>simp[look,e]
  rw[jz,s,s,B];by_cases l:h.1=k
  ·rw[zq l]
   by_cases c:j=k
   ·have w:h.1=j:=l.trans c.symm
    simp[c,l]
   ·have w:¬h.1=j:=fun z=>c (z.symm.trans l)
    simp[c,w]
  ·rw[zo l]
   by_cases c:j=k
   ·have w:¬h.1=j:=fun z=>l (z.trans c)
    simp[c,l]
   ·simp[c]
theorem zc4(c:List (Nat×Nat))(k x j:Nat):look (ZI c k x) j=if j=k then some x else look c j:=by
 have g:=VV k c;unfold ZI;by_cases h:(c.any fun h=>decide (h.1=k))=true
 ·rw[zq h,VU]
  rw[h] at g;by_cases e:j=k
  ·rw[zq e,zq e,e]
   obtain⟨y,hy⟩:=Option.isSome_iff_exists.mp g.symm;rw[hy];rfl
  ·rw[zo e,zo e]
 ·rw[zo h]
  have g:(look c k).isSome=false:=by rw[<- g];exact Bool.eq_false_iff.mpr h
  unfold look;rw[List.find?_append]
  by_cases e:j=k
  ·rw[zq e]
   subst e;have n:c.find? (fun h=>decide (h.1=j))=none:=by
    unfold look at g;cases q:c.find? (fun h=>decide (h.1=j)) with
    | none=>rfl
    | some y=>rw[q] at g;cases g
   rw[n];simp
  ·rw[zo e]
   cases q:c.find? (fun h=>decide (h.1=j)) with
   | none=>simp[qc e]
   | some y=>simp
theorem zda(c:List (Nat×Nat))(k x:Nat):(c.map (·.1)).Nodup->((ZI c k x).map (·.1)).Nodup:=by
 intro l;unfold ZI;by_cases h:(c.any fun h=>decide (h.1=k))=true
 ·rw[zq h,jT]
  have:((fun h:Nat×Nat=>h.1)∘fun h:Nat×Nat=>if h.1=k then(h.1,x) else h)=fun h=>h.1:=by
   funext g
   show(if g.1=k then(g.1,x) else g).1=g.1
   by_cases e:g.1=k
   ·rw[zq e]
   ·rw[zo e]
  rw[this];exact l
 ·rw[zo h,zV,Zu]
  refine⟨l,by simp,fun a s b hb e=>h ?_⟩
  obtain⟨g,t,rfl⟩:=jg.mp s;have:b=k:=by simpa using hb
  exact QP.mpr ⟨g,t,zW (e.trans this)⟩
theorem VT{c:List (Nat×Nat)}(g:(c.map (·.1)).Nodup){k x:Nat}:look c k=some x↔(k,x)∈c:=by
 induction c with
 | nil=>simp[look]
 | cons h c l=>
  have s:look (h::c) k=if h.1=k then some h.2 else look c k:=by
   by_cases e:h.1=k<;>simp[look,e]
  rw[jz,xW] at g;rw[s,zL];by_cases e:h.1=k
  ·rw[zq e]
   constructor
   ·intro q
    cases q;exact .inl (by rw[<- e])
   ·intro q
    rcases q with q | q
    ·rw[<- q]
    ·exact absurd (jg.mpr ⟨(k,x),q,e.symm⟩) g.1
  ·rw[zo e,l g.2]
   exact⟨fun q=>.inr q,fun q=>q.elim (fun z=>absurd (by rw[<- z]) e) id⟩
def Hold(c:List (Nat×Nat))(r:Nat)(f:Nat->Nat):Prop:=(c.map (·.1)).Nodup/\∀k x,look c k=some x↔x<r/\f x=k
theorem Hold.nil(f:Nat->Nat):Hold [] 0 f:=⟨yF,fun k x=>⟨(fun h=>nomatch h),fun h=>absurd h.1 (jL x)⟩⟩
theorem Hold.mem{c:List (Nat×Nat)}{r:Nat}{f:Nat->Nat}(h:Hold c r f):(∀g∈c,g.2<r/\g.1=f g.2)/\∀x,x<r->(f x,x)∈c:=by
 obtain⟨s,l⟩:=h;refine⟨fun g t=>?_,fun x hx=>(VT s).mp ((l (f x) x).mpr ⟨hx,rfl⟩)⟩
 obtain⟨a,b⟩:=(l g.1 g.2).mp ((VT s).mpr t);exact⟨a,b.symm⟩
theorem Hold.free{c:List (Nat×Nat)}{r:Nat}{f:Nat->Nat}(h:Hold c r f){j:Nat}:look c j=none↔∀x,x<r->f x≠j:=by
 constructor
 ·intro e x hx z
  rw[(h.2 j x).mpr ⟨hx,z⟩] at e;cases e
 ·intro e
  cases q:look c j with
  | none=>rfl
  | some x=>exact absurd ((h.2 j x).mp q).2 (e x ((h.2 j x).mp q).1)
def cmN(c:List (Nat×Nat))(r:Nat)(p:List Nat)(i:Nat):Nat:=if i=0 then r else(look c (p.getD (i-1) 0)).getD 0
def mdN(c:List (Nat×Nat))(r:Nat)(p:List Nat):Nat->List (Nat×Nat)
 | 0=>c
 | i+1=>ZI (mdN c r p i) (p.getD i 0) (cmN c r p i)
theorem VP{c:List (Nat×Nat)}(g:(c.map (·.1)).Nodup)(r:Nat)(p:List Nat):∀i,((mdN c r p i).map (·.1)).Nodup
 | 0=>g
 | i+1=>zda _ _ _ (VP g r p i)
theorem VO(c:List (Nat×Nat))(r:Nat){p:List Nat}(l:p.Nodup)(k:Nat):∀i,i<=p.length->look (mdN c r p i) k=if k∈p.take i then some (cmN c r p (p.idxOf k)) else look c k
 | 0,_=>by simp[mdN]
 | i+1,w=>by
  have t:=VO c r l k i (by omega)
  have g:p[i]? =some (p[i]'(by omega)):=qo _
  have s:p.getD i 0=p[i]'(by omega):=by rw[qz,g];rfl
  show look (ZI (mdN c r p i) (p.getD i 0) (cmN c r p i)) k=_;rw[zc4,t,s,WU,g,WY];by_cases e:k=p[i]'(by omega)
  ·rw[zq e,zq (qJ.mpr (.inr (zK.mpr e)))]
   have:p.idxOf k=i:=by rw[e];exact l.idxOf_getElem i (by omega)
   rw[this]
  ·rw[zo e]
   by_cases z:k∈p.take i
   ·rw[zq z,zq (qJ.mpr (.inl z))]
   ·rw[zo z,zo fun y=>(qJ.mp y).elim z fun y=>e (zK.mp y)]
section
variable{c:Nat->Nat->Int}{r m:Nat}{f:Nat->Nat}{T:Nat->Int}
theorem Hold.move{w:List (Nat×Nat)}(h:Hold w r f){p:List Nat}{j:Nat}(C:Ch c r m f (c r) T p j)(O:∀x,x<r->f x≠j):Hold (mdN w r p p.length) (r+1) (jx f r p):=by
 have E:=C.nodup;have H:=C.rng.2.2;refine⟨VP h.1 r p _,fun k x=>?_⟩
 rw[VO w r E k _ (zC _),j7];have G:0<p.length:=W6.mpr H;have hd:p.headD 0=p[0]'G:=by cases p with | nil=>exact absurd rfl H | cons a l=>rfl
 have U:jx f r p r=p[0]'G:=by unfold jx;rw[zq rfl,hd]
 have i0:p.idxOf (p[0]'G)=0:=E.idxOf_getElem 0 G;have M:∀i (D:i+1<p.length),∃s,s<r/\f s=p[i]'(by omega)/\look w (p[i]'(by omega))=some s/\jx f r p s=p[i+1]'D:=fun i D=>by
  obtain⟨s,J,I,L,_⟩:=C.next i _ _ (qo (by omega)) (qo D)
  refine⟨s,J,I,(h.2 _ s).mpr ⟨J,I⟩,?_⟩
  unfold jx nxt;rw[zo (by omega),I,zq (jM _),E.idxOf_getElem i (by omega),qo D]
  rfl
 by_cases A:k∈p
 ·rw[zq A]
  obtain⟨i,D,N⟩:=W5 A;have ix:p.idxOf k=i:=by rw[<- N];exact E.idxOf_getElem i D
  rw[ix];cases i with
  | zero=>
   have c0:cmN w r p 0=r:=zq rfl;rw[c0];constructor
   ·intro q
    cases q;exact⟨j9 _,by rw[U,<- N]⟩
   ·rintro⟨hx,q⟩
    by_cases e:x=r
    ·rw[e]
    ·have hx:x<r:=by omega
     by_cases g:f x∈p
     ·obtain⟨b,B,t⟩:=xh C O hx g
      rw[q] at t;subst t;have Q:=(zT.mp B).1;have:p.idxOf k=p.idxOf (f x)+1:=by
       rw[<- (zT.mp B).2];exact E.idxOf_getElem _ Q
      omega
     ·have:jx f r p x=f x:=by unfold jx;rw[zo e,zo g]
      rw[this] at q;exact absurd (q▸A) g
  | succ i=>
   obtain⟨s,J,I,L,a4⟩:=M i D;have c1:cmN w r p (i+1)=s:=by
    unfold cmN;rw[zo (Nat.succ_ne_zero i),Nat.add_sub_cancel,qz,qo (by omega)]
    show(look w (p[i]'(by omega))).getD 0=s
    rw[L];rfl
   rw[c1];constructor
   ·intro q
    cases q;exact⟨by omega,by rw[a4,N]⟩
   ·rintro⟨hx,q⟩
    by_cases e:x=r
    ·subst e
     rw[U] at q;have:=congrArg p.idxOf q;rw[i0,ix] at this;omega
    ·have hx:x<r:=by omega
     by_cases g:f x∈p
     ·obtain⟨b,B,t⟩:=xh C O hx g
      rw[q] at t;subst t;have Q:=(zT.mp B).1;have e3:p.idxOf k=p.idxOf (f x)+1:=by
       rw[<- (zT.mp B).2];exact E.idxOf_getElem _ Q
      have e4:p.idxOf (f x)=i:=by omega
      have e5:f x=p[i]'(by omega):=by
       have:=yT g;rw[e4,qo (by omega)] at this
       exact(qU this).symm
      have Y:look w (f x)=some x:=(h.2 _ x).mpr ⟨hx,rfl⟩;rw[e5,L] at Y;exact Y
     ·have:jx f r p x=f x:=by unfold jx;rw[zo e,zo g]
      rw[this] at q;exact absurd (q▸A) g
 ·rw[zo A,h.2 k x]
  constructor
  ·rintro⟨hx,rfl⟩
   exact⟨by omega,by unfold jx;rw[zo (by omega),zo A]⟩
  ·rintro⟨hx,q⟩
   by_cases e:x=r
   ·subst e
    rw[U] at q;exact absurd (q▸jM G) A
   ·have hx:x<r:=by omega
    by_cases g:f x∈p
    ·obtain⟨b,B,t⟩:=xh C O hx g
     rw[q] at t;subst t;exact absurd (jc B) A
    ·have:jx f r p x=f x:=by unfold jx;rw[zo e,zo g]
     rw[this] at q;exact⟨hx,q⟩
end
end L2
namespace L2
theorem wA{α:Type}[DecidableEq α]:∀{l k:List α},l.Nodup->(∀x∈l,x∈k)->l.length<=k.length
 | [],_,_,_=>qk _
 | a::l,k,c,h=>by
  rw[xW] at c;have g:=h a (by simp)
  have:=wA (l:=l) (k:=k.erase a) c.2 fun x hx=>by
   have ne:x≠a:=fun e=>c.1 (e▸hx)
   exact(List.mem_erase_of_ne ne).mpr (h x (z9 _ hx))
  rw[List.length_erase_of_mem g] at this;have:=List.length_pos_of_mem g;simp only[jP];omega
section
variable{c:Nat->Nat->Int}{r m:Nat}{f:Nat->Nat}{u v:Nat->Int}
theorem V4(f:Nat->Nat)(h:r<m):∃j,j<m/\∀x,x<r->f x≠j:=by
 by_cases z:∃j,j<m/\∀x,x<r->f x≠j
 ·exact z
 ·have:(List.range m).length<=((List.range r).map f).length:=wA QO fun j g=>by
   have g:=qu.mp g;by_cases y:∃x,x<r/\f x=j
   ·obtain⟨x,hx,e⟩:=y
    exact jg.mpr ⟨x,qu.mpr hx,e⟩
   ·exact absurd ⟨j,g,fun x hx e=>y ⟨x,hx,e⟩⟩ z
  rw[zS,zr,zS] at this;omega
theorem Pot.more(P:Pot c r m f u v)(hc:∀j,j<m->0<=c r j){w:List (Nat×Nat)}(h:Hold w r f){l:List (Int×List Nat)}(s:Settle c m w ((List.range m).map fun j=>(c r j,[j])) l){j:Nat}(E:j<m)(A:look w j=none)
  (t:∀b,b<m->look w b=none->tot l j<=tot l b):∃B L M,Pot c (r+1) m B L M/\Hold (mdN w r (way l j) (way l j).length) (r+1) B/\Ch c r m f (c r) (tot l) (way l j) j:=by
 obtain⟨I,J⟩:=h.mem;have H:∀j,j<m->v j<=c r j:=fun j A=>vD (P.neg j A) (hc j A)
 obtain⟨g,st⟩:=s.ok P H I J (ub c r m f (c r));have C:=(g.2 j E).ch st rfl;have D:=h.free.mp A;refine⟨_,_,_,P.augment st (fun b hb=>?_) C D E fun b hb G=>t b hb (h.free.mpr G),h.move C D,C⟩
 have:=s.le b (by rw[zr,zS];exact zC _)
 refine vD this (QG ?_)
 unfold tot;rw[qz,zZ,jX hb];rfl
end
def Zk(g:Nat->Nat)(n:Nat):Nat:=((List.range n).map fun x=>2^g x).sum
theorem Qk(g:Nat->Nat)(n:Nat):Zk g (n+1)=Zk g n+2^g n:=by
 unfold Zk;rw[j6,zV,QL];simp
theorem zeQ{M a:Nat}(h:M/2^a % 2=0)(k:Nat):(M+2^a)/2^k % 2=if k=a then 1 else M/2^k % 2:=by
 have g:0<2^a:=Nat.two_pow_pos a;by_cases e:k=a
 ·subst e
  rw[zq rfl,Nat.add_div_right _ g];omega
 ·rw[zo e]
  rcases XG k a with z | z
  ·have c:2^a=2^k*(2*2^(a-k-1)):=by
    rw[<- Nat.pow_succ',<- Nat.pow_add];congr 1
    omega
   rw[c,Nat.add_mul_div_left _ _ (Nat.two_pow_pos k)];omega
  ·have c:2^k=2^a*(2*2^(k-a-1)):=by
    rw[<- Nat.pow_succ',<- Nat.pow_add];congr 1
    omega
   rw[c,<- X0,<- X0,Nat.add_div_right _ g,<- X0,<- X0];have:(M/2^a).succ/2=M/2^a/2:=by omega
   rw[this]
theorem VR{g:Nat->Nat}:∀{n:Nat},(∀x,x<n->∀y,y<n->g x=g y->x=y)->∀k,((∃x,x<n/\g x=k)->Zk g n/2^k % 2=1)/\((∀x,x<n->g x≠k)->Zk g n/2^k % 2=0)
 | 0,_,k=>⟨fun ⟨x,hx,_⟩=>absurd hx (jL x),fun _=>by simp[Zk]⟩
 | n+1,c,k=>by
  have l:=VR (g:=g) (n:=n) fun x hx y hy=>c x (by omega) y (by omega)
  have s:=(l (g n)).2 fun x hx e=>by
   have:=c x (by omega) n (by omega) e
   omega
  rw[Qk,zeQ s k];refine⟨fun ⟨x,hx,e⟩=>?_,fun h=>?_⟩
  ·by_cases z:k=g n
   ·rw[zq z]
   ·rw[zo z]
    refine(l k).1 ⟨x,?_,e⟩
    have:x≠n:=fun y=>z (by rw[<- e,y])
    omega
  ·rw[zo fun z=>h n (by omega) z.symm]
   exact(l k).2 fun x hx=>h x (by omega)
def SndM(c:Nat->Nat->Int)(m n M:Nat)(t:Int):Prop:=∃g:Nat->Nat,(∀x,x<n->g x<m)/\(∀x,x<n->∀y,y<n->g x=g y->x=y)/\M=Zk g n/\t=qe n fun x=>c x (g x)
theorem SndM.zero(c:Nat->Nat->Int)(m:Nat):SndM c m 0 0 0:=⟨fun _=>0,fun x h=>absurd h (jL x),fun x h=>absurd h (jL x),rfl,rfl⟩
theorem SndM.next{c:Nat->Nat->Int}{m n M k:Nat}{t:Int}(s:SndM c m n M t)(hk:k<m)(hb:M/2^k % 2=0):SndM c m (n+1) (M+2^k) (t+c n k):=by
 obtain⟨g,B,l,rfl,rfl⟩:=s;have A:∀x,x<n->g x≠k:=fun x hx e=>by
  have:=(VR l k).1 ⟨x,hx,e⟩;omega
 have D:∀x,x<n->(if x=n then k else g x)=g x:=fun x hx=>zo (by omega)
 refine⟨fun x=>if x=n then k else g x,fun x hx=>?_,fun x hx y hy e=>?_,?_,?_⟩
 ·by_cases z:x=n
  ·simp only[z,if_true];exact hk
  ·simp only[z,if_false];exact B x (by omega)
 ·by_cases z:x=n
  ·by_cases w:y=n
   ·omega
   ·simp only[z,w,if_true,if_false] at e
    exact absurd e.symm (A y (by omega))
  ·by_cases w:y=n
   ·simp only[z,w,if_true,if_false] at e
    exact absurd e (A x (by omega))
   ·simp only[z,w,if_false] at e
    exact l x (by omega) y (by omega) e
 ·rw[Qk]
  simp only[if_true];congr 1
  unfold Zk;congr 1
  refine QC fun x hx=>?_
  have hx:=qu.mp hx;show 2^g x=2^(if x=n then k else g x)
  rw[D x hx]
 ·rw[qC]
  simp only[if_true];congr 1
  exact xg n fun x hx=>by rw[zo (by omega)]
end L2
namespace L2
open PySem PySem.Spec PyProof.Rows
def BoxAt(H:Hp)(b:Addr)(n:Int):Prop:=∃l c g:Int,H b=some (.lst [.int l,.int c,.int g])/\0<=l/\0<=c/\c<2147483648/\0<=g/\g<=n
def SameB(b:Addr)(H g:Hp):Prop:=∀c o,H c=some o->c≠b->g c=some o
theorem Zp{i j:Int}(s:0<=i)(l:i<18446744073709551616):CMul i j:=by
 have c:(-(2^64):Int)= -18446744073709551616:=by decide
 have g:((2^64):Int)=18446744073709551616:=by decide
 refine .inl ⟨?_,?_⟩
 ·rw[c];omega
 ·rw[g];exact l
theorem zfr{a m j:Int}(h:0<m)(c:m<18446744073709551616):CMul (a % m) j:=Zp (yG _ (by omega)) (Int.lt_trans (yI _ h) c)
section
variable{P:Program}{w:World}{K:W.Frag}{I:Str->Option Value}{G:Heap}
inductive Vn(l:List V)(H:Hp)(Q:VK):Prop
 | mk (b:Addr) (c n:Int) (_:l=[.ref b,.int c]) (_:BoxAt H b n) (_:n<1099511627776) (_:0<c) (_:c<1073741824) (_:∀(r:Int) g,0<=r->r<c->BoxAt g b (n+1)->SameB b H g->Q (.int r) g):Vn  l H Q
def xY:Sp:=fun c H Q _=>Vn  c H Q
theorem u0{N P:List Str}{S:Scope}(a:S.kind=.function:=by rfl)(b:S.isCoroutine=false:=by rfl)(c:S.isGenerator=false:=by rfl)(d:N.Nodup:=by decide +kernel)(e:N.take P.length=P:=by rfl)(f:∀x∈P,S.names.lookup x=some .local∨S.names.lookup x=some .cell:=by decide +kernel)(g:∀y∈S.names,y.2≠.free:=by decide +kernel):zG N P S:=⟨a,b,c,d,e,f,g⟩
theorem zci:zG ["_law_box_here","_law_size","_law_found","_law_step","_law_once","_law_twice"] ["_law_box_here","_law_size"] (zx (topL 26)):=u0
theorem zen{f:Addr}{fd:FuncData}(F:Fun K "_law_take" "_law_take" (topL 26) f fd)(B:Blt I):FnOk P w K I G CX0 1 f fd ["_law_box_here","_law_size"] xY:=by
 have M:=zci.nd;refine F.ok zci (fun vs H Q E h=>?_) (fun a0 A Y s H vs Q E hr h=>?_)
 ·obtain⟨b,D,n,rfl,_⟩:=h
  rfl
 ·obtain⟨b,D,n,rfl,⟨N,J,L,hb,p0,p1,t,p2,a1⟩,hn,l,U,k⟩:=h
  refine⟨_,(zi (jF (qw zcM (zJ z6 (pv 0) zj (fun _ _=>rfl)) zj (qb _))
   (zi (xJ (zv Wh rfl B.divmod Wk (zd (zJ z6 (pv 0) zj (fun _ _=>rfl)) (zd (pv 1) ze))) (ju rfl (zI (Z9 (pv 0) zj vS) (zI (zH (i:=2) M rfl (Or.inl rfl)) qP))))
    (zu (zE (pv 2))))
   qB)
   (zi (xJ (zF qd (zJ z6 (pv 0) zj (fun _ _=>rfl)) zj) (Z9 (pv 0) zj vS))
   (zi (zB (i:=3) M rfl (Or.inl rfl) (zF qd zj (zF xp (zJ z6 (pv 0) zj (fun _ _=>rfl)) (zJ z6 (pv 0) zj (fun _ _=>rfl)))))
   (zi (zB (i:=4) M rfl (Or.inl rfl) (zF xq (zF xp (zF qd (zJ z6 (pv 0) zj (fun _ _=>rfl)) (zF xp zj (zJ z6 (pv 0) zj (fun _ _=>rfl)))) (pv 3)) zj))
   (zi (zB (i:=5) M rfl (Or.inl rfl) (zF xq (zF qd (zF xp (pv 4) (zF qd (zF xq (pv 4) zj) zj)) (zJ z6 (pv 0) zj (fun _ _=>rfl))) zj))
   (zu (zE (zF xq (zF zaa (zF xq (zF xp (pv 5) (zF qd (zF xq (pv 5) zj) zj)) zj) zj) (pv 1))))))))),?_⟩
  refine⟨_,rfl,b,_,_,_,rfl,rfl,u4 hb,rfl,_,_,rfl,rfl,_,rfl,?_⟩
  refine jE (fun c=>?_) (fun c=>?_)
  ·refine⟨_,rfl,b,_,_,_,rfl,rfl,u4 hb,rfl,_,rfl,_,_,rfl,⟨l,U⟩,fun p hp=>?_⟩
   have O:b≠p:=zp hb hp;refine⟨p,_,rfl,u5 zg,rfl,_,_,rfl,_,rfl,b,_,_,_,rfl,rfl,(by rw[zw O];exact hb),rfl,_,_,rfl,rfl,_,rfl,?_⟩
   refine k _ _ (yG _ (by omega)) (yI _ l) ⟨_,J,L,zg,Int.ediv_nonneg p0 (by omega),p1,t,p2,by omega⟩ fun d o e T=>?_
   rw[zw T,zw (zp e hp)];exact e
  ·refine⟨_,rfl,b,_,_,_,rfl,rfl,u4 hb,rfl,_,_,rfl,rfl,_,rfl,b,_,_,_,rfl,rfl,hb,rfl,?_⟩
   have g:upd H b (.lst [.int N,.int J,.int (L+1)]) b=some (.lst [.int N,.int J,.int (L+1)]):=zg;refine⟨_,rfl,b,_,_,_,rfl,rfl,u4 g,rfl,_,rfl,b,_,_,_,rfl,rfl,u4 g,rfl,_,_,rfl,rfl,Zp (by omega) (by omega),_,_,rfl,rfl,?_⟩
   refine⟨_,rfl,b,_,_,_,rfl,rfl,u4 g,rfl,_,rfl,b,_,_,_,rfl,rfl,u4 g,rfl,_,_,rfl,rfl,Zp (by omega) (by omega),_,_,rfl,rfl,_,rfl,_,_,rfl,rfl,Zp (by omega) (by omega),_,_,rfl,rfl,(by show(0:Int)<_;decide),?_⟩
   refine⟨_,rfl,_,rfl,_,_,rfl,rfl,(by show(0:Int)<_;decide),_,_,rfl,rfl,_,_,rfl,rfl,zfr (by decide) (by decide),_,rfl,b,_,_,_,rfl,rfl,u4 g,rfl,_,_,rfl,rfl,_,_,rfl,rfl,(by show(0:Int)<_;decide),?_⟩
   refine⟨_,rfl,_,rfl,_,_,rfl,rfl,(by show(0:Int)<_;decide),_,_,rfl,rfl,_,_,rfl,rfl,zfr (by decide) (by decide),_,_,rfl,rfl,(by show(0:Int)<_;decide),_,_,rfl,rfl,⟨by decide,by decide⟩,_,rfl,_,_,rfl,rfl,l,?_⟩
   refine k _ _ (yG _ (by omega)) (yI _ l) ⟨N,J,L+1,g,p0,p1,t,by omega,by omega⟩ fun d o e T=>?_
   rw[zw T];exact e
inductive YK(K:W.Frag)(c:List V)(H:Hp)(Q:VK):Prop
 | mk (a:Addr) (g:List Int) (j:Nat) (_:c=[.ref a,.int j]) (_:SqL K H a (g.map V.int)) (_:j<=100) (_:∀p o,H p=none->BoxAt (upd H p o) p 0->Q (.ref p) (upd H p o)):YK K c H Q
def ze7(K:W.Frag):Sp:=fun c H Q _=>YK K c H Q
theorem zfj:zG ["_law_script","_law_k","_law_cell"] ["_law_script","_law_k"] (zx (topL 25)):=u0
theorem zau{c:Int}{j:Nat}(g:j<=100):CMul (yd c) (if decide (10^18<=yd c)=true then 1 else 0):=by
 refine .inr ?_
 split
 ·exact⟨by decide,by decide⟩
 ·exact⟨by decide,by decide⟩
theorem zdy{c:Int}:0<=yd c*(if decide (10^18<=yd c)=true then 1 else 0):=by
 have h:0<=yd c:=by unfold yd;split<;>omega
 split
 ·rw[Int.mul_one];exact h
 ·rw[Int.mul_zero];exact xy 0
theorem zgg{f:Addr}{D:FuncData}(F:Fun K "_law_box" "_law_box" (topL 25) f D)(B:Blt I):FnOk P w K I G CX0 1 f D ["_law_script","_law_k"] (ze7 K):=by
 have O:=zfj.nd;refine F.ok zfj (fun T H Q E h=>?_) (fun M A t s H T Q E U h=>?_)
 ·obtain⟨a,g,j,rfl,_⟩:=h
  rfl
 ·obtain⟨a,g,j,rfl,J,L,k⟩:=h
  refine⟨_,(zi (zB (i:=2) O rfl (Or.inl rfl) (vc (qw Y9 (pv 1) (zv zy rfl B.len boot_len (zd (pv 0) ze)) (qb _)) (zJ z6 (pv 0) (pv 1) (fun _ _=>rfl)) zj))
   (zu (zE (qI (zd (zF xp (zv vm rfl B.abs vn (zd (pv 2) ze)) (qM JK rfl B.int yC (zd (qQ zhk (zv vm rfl B.abs vn (zd (pv 2) ze)) (zF zcL zj zj) (qb _)) ze))) (zd (zF xq (zF xp (zF qd (zF qd (zF xq (pv 2) zj) (zF xp zj (pv 1))) zj) zj) zj) (zd zj ze))))))),?_⟩
  refine⟨_,rfl,_,rfl,a,_,rfl,.inl J,_,_,rfl,rfl,_,rfl,?_⟩
  refine jE (fun c=>?_) (fun c=>?_)
  ·have N:j<g.length:=by
    have:=jA c;rw[zr] at this;omega
   refine⟨_,rfl,_,rfl,a,_,_,.int g[j],rfl,rfl,J,qy (by simp[N]),?_⟩
   generalize g[j]=z;refine⟨_,rfl,_,rfl,_,rfl,_,rfl,_,_,rfl,rfl,⟨by decide,by decide,by decide⟩,_,_,rfl,rfl,.inr ⟨_,rfl,_,_,rfl,rfl,zau L,_,rfl,_,_,rfl,rfl,(by show(0:Int)<_;decide),_,rfl,_,_,rfl,rfl,Zp (by decide) (by decide),_,_,rfl,rfl,_,_,rfl,rfl,_,_,rfl,rfl,?_,_,_,rfl,rfl,(by show(0:Int)<_;decide),(by rw[sizeLine_eq];exact(by decide:3<=16777216)),fun p l=>k p _ l ⟨_,_,_,zg,?_,?_,?_,by decide,by decide⟩⟩⟩
   ·refine Zp ?_ ?_
    ·have:=yG z (show(2147483629:Int)≠0 by decide)
     omega
    ·have:=yI z (show(0:Int)<2147483629 by decide)
     omega
   ·exact zdy
   ·exact yG _ (by decide)
   ·exact Int.lt_trans (yI _ (by decide)) (by decide)
  ·refine⟨_,rfl,_,rfl,_,rfl,_,rfl,_,_,rfl,rfl,⟨by decide,by decide,by decide⟩,_,_,rfl,rfl,.inr ⟨_,rfl,_,_,rfl,rfl,zau L,_,rfl,_,_,rfl,rfl,(by show(0:Int)<_;decide),_,rfl,_,_,rfl,rfl,Zp (by decide) (by decide),_,_,rfl,rfl,_,_,rfl,rfl,_,_,rfl,rfl,?_,_,_,rfl,rfl,(by show(0:Int)<_;decide),(by rw[sizeLine_eq];exact(by decide:3<=16777216)),fun p l=>k p _ l ⟨_,_,_,zg,?_,?_,?_,by decide,by decide⟩⟩⟩
   ·refine Zp ?_ ?_
    ·have:=yG 0 (show(2147483629:Int)≠0 by decide)
     omega
    ·have:=yI 0 (show(0:Int)<2147483629 by decide)
     omega
   ·exact zdy
   ·exact yG _ (by decide)
   ·exact Int.lt_trans (yI _ (by decide)) (by decide)
theorem zdt{c:List V}{lo g:Option Int}{x:V}(h:x∈jS c lo g):x∈c:=List.mem_of_mem_drop (QS h)
theorem zal{n j:Nat}(h:j<n):ixN n (j:Int)=some j:=by
 unfold ixN;rw[zq (by omega),zq (by omega)];simp
theorem zdu(c:List Int)(lo g:Option Int):∃l:List Int,jS (c.map V.int) lo g=l.map V.int:=by
 refine⟨(c.drop (HT.sIx c.length 0 lo)).take (HT.sIx c.length c.length g-HT.sIx c.length 0 lo),?_⟩
 unfold jS;rw[zr,XI,List.map_drop]
theorem zeL(c:List Int)(z:Nat):(jS (c.map V.int) none (some (z:Int))).length=min z c.length:=by
 unfold jS;rw[HT.sIx_nat,HT.sIx_none,jO,yb,zr];omega
theorem zeM(c:List Int)(z:Nat)(g:Option Int):(jS (c.map V.int) (some (z:Int)) g).length<=c.length-min z c.length:=by
 unfold jS;rw[HT.sIx_nat,jO,yb,zr];omega
inductive Vr(K:W.Frag)(s:List V)(H:Hp)(Q:VK):Prop
 | mk (a:Addr) (l:List Int) (z:Nat) (_:s=[.ref a,.int z]) (_:SqL K H a (l.map V.int)) (_:l.length<=63) (_:1<=z) (_:z<=63) (_:∀(p:Addr) (g:List Int) c,Same H c->SqL K c p (g.map V.int)->g.length<=z->Q (.ref p) c):Vr K s H Q
def zcb(K:W.Frag):Sp:=fun c H Q _=>Vr K c H Q
theorem zcl:zG ["_law_script","_law_size","_law_cells","_law_k","_law_cell"] ["_law_script","_law_size"] (zx (topL 27)):=u0
def zaQ(a:_)(z:Nat)(p:_)(H:_)(q:_)(l:List Int):=fun(i:Nat) (σ:St) (c:Hp)=>(Ex3 fun(g:List Int) (s t:Option V)=>An5 (σ=[some (.ref a),some (.int z),some (.ref p),s,t]) (Same H c) (c p=some (.lst (g.map V.int))) (c q=some (.lst (jS (l.map V.int) (some (z:Int)) (some 63)))) (g.length=min z l.length):Prop)
theorem zeq{f:Addr}{fd:FuncData}(F:Fun K "_law_folded" "_law_folded" (topL 27) f fd)(B:Blt I):FnOk P w K I G CX0 1 f fd ["_law_script","_law_size"] (zcb K):=by
 have nd:=zcl.nd;refine F.ok zcl (fun vs H Q E h=>?_) (fun a6 A a4 s H vs Q E hr h=>?_)
 ·obtain⟨a,g,z,rfl,_⟩:=h
  rfl
 ·obtain⟨a,g,z,rfl,hS,a5,a8,a9,k⟩:=h
  refine⟨_,(zi (zB (i:=2) nd rfl (Or.inl rfl) (qM yB rfl B.list jk (zd (xK wu (pv 0) wv (xV (pv 1))) ze)))
   (zi (qW jK rfl (ww rfl B.enumerate (zd (xK wu (pv 0) (xV (pv 1)) (xV zj)) ze)) (ju rfl (zI (zH (i:=3) nd rfl (Or.inl rfl)) (zI (zH (i:=4) nd rfl (Or.inl rfl)) qP)))
   (zu (xJ (zF qd (zJ z6 (pv 2) (zF xq (pv 3) (pv 1)) (fun _ _=>rfl)) (zF xp (pv 4) (zF qd (pv 3) zj))) (Z9 (pv 2) (zF xq (pv 3) (pv 1)) vS))))
   (zu (zE (pv 2))))),?_⟩
  refine⟨_,rfl,_,rfl,_,rfl,a,_,rfl,hS,fun l hl=>⟨l,_,rfl,.inl (u4 zg),fun p hp=>?_⟩⟩
  have s1:Same H (upd (upd H l (.lst (jS (g.map V.int) none (some (z:Int))))) p (.lst (jS (g.map V.int) none (some (z:Int))))):=(zf hl).trans (zf hp);generalize a0:upd (upd H l (.lst (jS (g.map V.int) none (some (z:Int))))) p (.lst (jS (g.map V.int) none (some (z:Int))))=H1 at s1;have N:H1 p=some (.lst (jS (g.map V.int) none (some (z:Int)))):=by rw[<- a0];exact zg
  have np:H p=none:=(zf hl).free hp;refine⟨_,rfl,_,rfl,_,rfl,_,rfl,a,_,rfl,s1.seq hS,fun q hq=>⟨q,rfl,⟨_,u4 zg⟩,?_⟩⟩
  have Y:p≠q:=zp N hq;obtain⟨a1,D⟩:=zdu g none (some (z:Int));have lo:=zeL g z;have hi:=zeM g z (some 63);refine V6 (K:=K) (a:=q) (xs:=jS (g.map V.int) (some (z:Int)) (some 63)) (zaQ a z p H q g)
   ⟨a1,none,none,rfl,s1.trans (zf hq),by rw[zw Y,N,D],zg,by rw[<- lo,D,zr]⟩ (fun i σ H2 _ ⟨_,_,_,_,_,_,h,_⟩=>u4 h) ?_ ?_
  ·rintro i x σ H2 T hx ⟨L,v3,v4,rfl,sm,t,J,M⟩ hT
   have a7:i<(jS (g.map V.int) (some (z:Int)) (some 63)).length:=(zT.mp hx).1;obtain⟨c,rfl⟩:∃c,x=V.int c:=by
    have:=zdt (jc hx);obtain⟨c,_,e⟩:=jg.mp this;exact⟨c,e.symm⟩
   have hj:i % z<L.length:=by
    have:=Nat.mod_lt i (show 0<z by omega)
    omega
   have a2:p≠T:=zp t hT;have a3:q≠T:=zp J hT;have O:upd H2 T (.tup [.int i,.int c]) p=some (.lst (L.map V.int)):=by rw[zw a2];exact t
   have em:((i % z:Nat):Int)=(i:Int) % (z:Int):=Int.natCast_emod i z;have U:(0:Int)<(z:Int):=by omega
   refine⟨T,_,rfl,u5 zg,rfl,_,_,rfl,_,_,rfl,rfl,?_⟩
   refine⟨_,rfl,_,rfl,_,rfl,_,_,rfl,rfl,U,p,_,_,.int L[i % z],rfl,rfl,u4 O,(by rw[<- em];exact qy (by simp[hj])),?_⟩
   refine⟨_,rfl,_,rfl,_,_,rfl,rfl,_,_,rfl,rfl,.inr ⟨?_,?_⟩,_,_,rfl,rfl,?_⟩
   ·have e1:(-(2^64):Int)= -18446744073709551616:=by decide
    rw[e1];omega
   ·have e2:((2^64):Int)=18446744073709551616:=by decide
    rw[e2];omega
   refine⟨_,rfl,_,rfl,_,rfl,_,_,rfl,rfl,U,p,_,_,i % z,rfl,rfl,O,(by rw[<- em,zr];exact zal hj),?_⟩
   refine⟨L.set (i % z) (L[i % z]+c*((i:Int)+2)),_,_,rfl,fun d o e=>?_,by rw[zg,List.map_set],?_,by rw[Zr];exact M⟩
   ·rw[zw (zp e np),zw (zp (sm d o e) hT)]
    exact sm d o e
   ·rw[zw (qc Y),zw a3]
    exact J
  ·rintro σ H2 ⟨L,v3,v4,rfl,sm,t,J,M⟩
   exact⟨_,rfl,k p L H2 sm (u4 t) (by omega)⟩
theorem Wr:[V.ty "list",V.ty "tuple"].length<=sizeLine:=by rw[sizeLine_eq];exact(by decide:2<=16777216)
def spS(K:W.Frag):Nat->Sp
 | 0=>fun _ _ _ _=>False
 | n+1=>fun g H Q _=>∃d f v,g=[f,v]/\Rep K H d f/\Rep K H d v/\Dat.ok n d/\∀c,Same H c->Q (.bl true) c
theorem zck:zG ["_law_found","_law_due"] ["_law_found","_law_due"] (zx (topL 28)):=u0
theorem zac{f:Addr}{fd:FuncData}(F:Fun K "_law_same" "_law_same" (topL 28) f fd)(B:Blt I)(hm:I "_law_same" = some (.ref f))(hb:Binds K fd ["_law_found","_law_due"] []) :
  ∀n:Nat,FnOk P w K I G CX0 n f fd ["_law_found","_law_due"] (spS K n)
 | 0=>⟨fun _ _ _ _ h=>h.elim,fun _ _ _ _ _ _ _ _ _ _ _ _ _ h=>h.elim⟩
 | n+1=>by
  have a2:Dfn P w K I G "_law_same" n ["_law_found","_law_due"] (spS K n):=⟨f,fd,zac F B hm hb n,hm,F.kp,hb⟩;have nd:=zck.nd;refine F.ok zck (fun vs H Q E h=>?_) (fun a6 A a5 s H vs Q E hr h=>?_)
  ·obtain⟨d,g,v,rfl,_⟩:=h
   rfl
  ·obtain⟨d,g,v,rfl,rg,rv,ok,k⟩:=h
   refine⟨_,(zi (jF (jD (zv JJ rfl B.isinstance boot_isinstance (zd (pv 1) (zd (qG (zd (qR (v:=.ty "list") rfl B.list jk rfl) (zd (qR (v:=.ty "tuple") rfl B.tuple jw rfl) ze))) ze))))
   (zi (jF (PW.pt (Jx (xI (jD (zv JJ rfl B.isinstance boot_isinstance (zd (pv 0) (zd (qG (zd (qR (v:=.ty "list") rfl B.list jk rfl) (zd (qR (v:=.ty "tuple") rfl B.tuple jw rfl) ze))) ze))))) (yP (qw Y8 (zv qY rfl B.isinstance boot_isinstance (zd (pv 0) (zd (qR (v:=.ty "list") rfl B.list jk rfl) ze))) (zv qY rfl B.isinstance boot_isinstance (zd (pv 1) (zd (qR (v:=.ty "list") rfl B.list jk rfl) ze))) (qb _)))))
    (zu (zE xM))
    qB)
    (zu (zE (vy (qQ xk (zv zy rfl B.len boot_len (zd (pv 0) ze)) (zv zy rfl B.len boot_len (zd (pv 1) ze)) (qb _)) (wS (zv (xE rfl) rfl B.all boot_all (zd (xL [] [] rfl rfl (by kernel_rfl) (wR rfl B.zip (zd (pv 0) (zd (pv 1) ze))) (fun _ _ _ _=>qh) (fun _ _ _ _=>(zm a2 (hr.mono (by omega)) rfl (zd (pv 0) (zd (pv 1) ze))))) ze)))))))
   qB)
   (zi (jF (PW.pt (Jx (qw zf3 (pv 1) zfW (qb _)) (yP (jD (zv qY rfl B.isinstance boot_isinstance (zd (pv 1) (zd (qR (v:=.ty "str") rfl B.str Qw rfl) ze)))))))
   (zu (zE (vy (qQ xk (pv 0) (pv 1) (qb _)) (wS (qQ xk (zv qY rfl B.isinstance boot_isinstance (zd (pv 0) (zd (qR (v:=.ty "str") rfl B.str Qw rfl) ze))) (zv qY rfl B.isinstance boot_isinstance (zd (pv 1) (zd (qR (v:=.ty "str") rfl B.str Qw rfl) ze))) (qb _))))))
   qB)
   (zu (zE (vy (zv qY rfl B.isinstance boot_isinstance (zd (pv 0) (zd (qR (v:=.ty "int") rfl B.int yC rfl) ze))) (vy (qQ xk (zv qY rfl B.isinstance boot_isinstance (zd (pv 0) (zd (qR (v:=.ty "bool") rfl B.bool yW rfl) ze))) (zv qY rfl B.isinstance boot_isinstance (zd (pv 1) (zd (qR (v:=.ty "bool") rfl B.bool yW rfl) ze))) (qb _)) (wS (qQ xk (pv 0) (pv 1) (qb _))))))))),?_⟩
   refine⟨_,rfl,Wr,fun p hp=>⟨v,d.tyN,p,["list","tuple"],rfl,(rv.same (zf hp)).ty,zg,(by decide),_,rfl,?_⟩⟩
   have s1:Same H (upd H p (.tup [V.ty "list",V.ty "tuple"])):=zf hp;have J:=rg.same s1;have t:=rv.same s1;generalize upd H p (.tup [V.ty "list",V.ty "tuple"])=H1 at s1 J t;cases d with
   | non=>
    cases(show g=_ from rg);cases(show v=_ from rv)
    refine ifF rfl ⟨_,rfl,rfl,_,rfl,ifT (by simp) (ifT rfl ?_)⟩
    refine⟨_,rfl,_,rfl,rfl,_,rfl,ifT (by simp) ⟨_,rfl,_, "NoneType", "str",rfl,J.ty,(by decide),_,rfl,_, "NoneType", "str",rfl,t.ty,(by decide),rfl,?_⟩⟩
    have:=k H1 s1;simpa using this
   | str x=>
    cases(show g=_ from rg);cases(show v=_ from rv)
    refine ifF rfl ⟨_,rfl,rfl,_,rfl,ifF (by simp) ⟨_,rfl,_, "str", "str",rfl,t.ty,(by decide),_,rfl,ifT (by decide) ?_⟩⟩
    refine⟨_,rfl,_,rfl,rfl,_,rfl,ifT (by simp) ⟨_,rfl,_, "str", "str",rfl,J.ty,(by decide),_,rfl,_, "str", "str",rfl,t.ty,(by decide),rfl,?_⟩⟩
    have:=k H1 s1;simpa using this
   | bl b=>
    cases(show g=_ from rg);cases(show v=_ from rv)
    refine ifF rfl ⟨_,rfl,rfl,_,rfl,ifF (by simp) ⟨_,rfl,_, "bool", "str",rfl,t.ty,(by decide),_,rfl,ifF (by decide) ?_⟩⟩
    refine⟨_,rfl,_, "bool", "int",rfl,J.ty,(by decide),_,rfl,ifT (by decide) ⟨_,rfl,_, "bool", "bool",rfl,J.ty,(by decide),_,rfl,_, "bool", "bool",rfl,t.ty,(by decide),rfl,_,rfl,ifT (by simp) ⟨_,rfl,_,rfl,rfl,?_⟩⟩⟩
    have:=k H1 s1;simpa using this
   | int b=>
    cases(show g=_ from rg);cases(show v=_ from rv)
    refine ifF rfl ⟨_,rfl,rfl,_,rfl,ifF (by simp) ⟨_,rfl,_, "int", "str",rfl,t.ty,(by decide),_,rfl,ifF (by decide) ?_⟩⟩
    refine⟨_,rfl,_, "int", "int",rfl,J.ty,(by decide),_,rfl,ifT (by decide) ⟨_,rfl,_, "int", "bool",rfl,J.ty,(by decide),_,rfl,_, "int", "bool",rfl,t.ty,(by decide),rfl,_,rfl,ifT (by simp) ⟨_,rfl,_,rfl,rfl,?_⟩⟩⟩
    have:=k H1 s1;simpa using this
   | lst ds=>
    obtain⟨a,L,rfl,hx,rx⟩:=J;obtain⟨b,M,rfl,hy,ry⟩:=t;cases n with
    | zero=>exact(show False from ok).elim
    | succ n=>
     obtain⟨a4,U⟩:ds.length<=1000000/\∀d∈ds,Dat.ok n d:=ok;have lx:=rx.len;have ly:=ry.len;have a3:=bG1000000;refine ifT rfl ?_
     refine⟨_,rfl,Wr,fun p2 Y=>⟨.ref a, "list",p2,["list","tuple"],rfl,(.inl ⟨rfl,L,(zf Y).seq hx⟩),zg,(by decide),_,rfl,ifF rfl ?_⟩⟩
     have N:Same H1 (upd H1 p2 (.tup [V.ty "list",V.ty "tuple"])):=zf Y;have c:=N.seq hx;have l:=N.seq hy;have a0:=rx.same N;have a1:=ry.same N;have s3:=s1.trans N;generalize upd H1 p2 (.tup [V.ty "list",V.ty "tuple"])=H2 at N s3 c l a0 a1;refine⟨_,rfl,.ref a, "list", "list",rfl,(.inl ⟨rfl,L,c⟩),(by decide),_,rfl,.ref b, "list", "list",rfl,(.inl ⟨rfl,M,l⟩),(by decide),rfl,_,rfl,ifF (by decide) ?_⟩
     refine⟨_,rfl,a,L,rfl,(.inl c),_,rfl,b,M,rfl,(.inl l),rfl,_,rfl,ifT (by simp[lx,ly]) ?_⟩
     refine⟨_,rfl,_,rfl,true,true,a,b,rfl,⟨L,c⟩,⟨M,l⟩,?_⟩
     refine yS (K:=K) (k1:=true) (k2:=true) (xs:=L) (ys:=M) (fun i zs H3=>zs=List.replicate i (V.bl true)/\Same H2 H3) ⟨rfl,u6 _⟩ (fun i zs H3 ⟨_,O⟩=>⟨O.seq c,O.seq l⟩) ?_ ?_
     ·rintro i x y zs H3 T e1 e2 ⟨rfl,O⟩ hT
      have hi:i<ds.length:=by have:=(zT.mp e1).1;omega
      obtain⟨d1,q1,r1⟩:=a0.get e1;obtain⟨d2,q2,r2⟩:=a1.get e2;rw[q1] at q2;cases q2
      have s4:=O.trans (zf (o:=.tup [x,y]) hT);refine⟨T,_,rfl,u5 zg,rfl,_,_,rfl,_,_,rfl,rfl,rfl,?_⟩
      refine⟨_,rfl,_,rfl,d1,x,y,rfl,r1.same s4,r2.same s4,U d1 (jc q1),fun H5 s5=>⟨?_,?_,s4.trans s5⟩⟩
      ·rw[wL];omega
      ·rw[XY]
     ·rintro zs H3 ⟨rfl,O⟩
      refine⟨by rw[wL];omega,fun D hD=>⟨D,List.replicate (min L.length M.length) true,rfl,?_,?_⟩⟩
      ·refine u4 ?_
       rw[zg,XV]
      ·have:=k _ (s3.trans (O.trans (zf (o:=.lst (List.replicate (min L.length M.length) (V.bl true))) hD)))
       simpa using this
   | tup ds=>
    obtain⟨a,L,rfl,hx,rx⟩:=J;obtain⟨b,M,rfl,hy,ry⟩:=t;cases n with
    | zero=>exact(show False from ok).elim
    | succ n=>
     obtain⟨a4,U⟩:ds.length<=1000000/\∀d∈ds,Dat.ok n d:=ok;have lx:=rx.len;have ly:=ry.len;have a3:=bG1000000;refine ifT rfl ?_
     refine⟨_,rfl,Wr,fun p2 Y=>⟨.ref a, "tuple",p2,["list","tuple"],rfl,(.inr ⟨rfl,L,(zf Y).sqT hx⟩),zg,(by decide),_,rfl,ifF rfl ?_⟩⟩
     have N:Same H1 (upd H1 p2 (.tup [V.ty "list",V.ty "tuple"])):=zf Y;have c:=N.sqT hx;have l:=N.sqT hy;have a0:=rx.same N;have a1:=ry.same N;have s3:=s1.trans N;generalize upd H1 p2 (.tup [V.ty "list",V.ty "tuple"])=H2 at N s3 c l a0 a1;refine⟨_,rfl,.ref a, "tuple", "list",rfl,(.inr ⟨rfl,L,c⟩),(by decide),_,rfl,.ref b, "tuple", "list",rfl,(.inr ⟨rfl,M,l⟩),(by decide),rfl,_,rfl,ifF (by decide) ?_⟩
     refine⟨_,rfl,a,L,rfl,(.inr c),_,rfl,b,M,rfl,(.inr l),rfl,_,rfl,ifT (by simp[lx,ly]) ?_⟩
     refine⟨_,rfl,_,rfl,false,false,a,b,rfl,⟨L,c⟩,⟨M,l⟩,?_⟩
     refine yS (K:=K) (k1:=false) (k2:=false) (xs:=L) (ys:=M) (fun i zs H3=>zs=List.replicate i (V.bl true)/\Same H2 H3) ⟨rfl,u6 _⟩ (fun i zs H3 ⟨_,O⟩=>⟨O.sqT c,O.sqT l⟩) ?_ ?_
     ·rintro i x y zs H3 T e1 e2 ⟨rfl,O⟩ hT
      have hi:i<ds.length:=by have:=(zT.mp e1).1;omega
      obtain⟨d1,q1,r1⟩:=a0.get e1;obtain⟨d2,q2,r2⟩:=a1.get e2;rw[q1] at q2;cases q2
      have s4:=O.trans (zf (o:=.tup [x,y]) hT);refine⟨T,_,rfl,u5 zg,rfl,_,_,rfl,_,_,rfl,rfl,rfl,?_⟩
      refine⟨_,rfl,_,rfl,d1,x,y,rfl,r1.same s4,r2.same s4,U d1 (jc q1),fun H5 s5=>⟨?_,?_,s4.trans s5⟩⟩
      ·rw[wL];omega
      ·rw[XY]
     ·rintro zs H3 ⟨rfl,O⟩
      refine⟨by rw[wL];omega,fun D hD=>⟨D,List.replicate (min L.length M.length) true,rfl,?_,?_⟩⟩
      ·refine u4 ?_
       rw[zg,XV]
      ·have:=k _ (s3.trans (O.trans (zf (o:=.lst (List.replicate (min L.length M.length) (V.bl true))) hD)))
       simpa using this
theorem le0:([]:List V).length<=sizeLine:=qk _
theorem le2{x y:V}:[x,y].length<=sizeLine:=by rw[sizeLine_eq];exact(by decide:2<=16777216)
theorem SameB.refl(b:Addr)(H:Hp):SameB b H H:=fun _ _ e _=>e
def u7:=@SameB.refl
theorem SameB.trans{b:Addr}{H g l:Hp}(a:SameB b H g)(c:SameB b g l):SameB b H l:=fun d o e s=>c d o (a d o e s) s
theorem SameB.of{b:Addr}{H c:Hp}(a:Same H c):SameB b H c:=fun d o e _=>a d o e
theorem SameB.new{b p:Addr}{o:HO}{H c:Hp}(a:SameB b H c)(h:c p=none):SameB b H (upd c p o):=a.trans (.of (zf h))
theorem BoxAt.new{b p:Addr}{o:HO}{H:Hp}{n:Int}(a:BoxAt H b n)(h:H p=none):BoxAt (upd H p o) b n:=by
 obtain⟨c,g,l,e,r⟩:=a;exact⟨c,g,l,by rw[zw (zp e h)];exact e,r⟩
theorem BoxAt.same{b:Addr}{H c:Hp}{n:Int}(a:BoxAt H b n)(s:Same H c):BoxAt c b n:=by
 obtain⟨g,l,t,e,r⟩:=a;exact⟨g,l,t,s _ _ e,r⟩
theorem BoxAt.ne{b t:Addr}{H:Hp}{n:Int}{o:HO}(a:BoxAt H b n)(h:H t=some o)(c:∀x y z,o≠.lst [x,y,z]):t≠b:=by
 obtain⟨g,l,s,e,r⟩:=a;exact zad h e (c _ _ _)
theorem BoxAt.some{b:Addr}{H:Hp}{n:Int}(a:BoxAt H b n):∃o,H b=.some o:=let ⟨_,_,_,e,_⟩:=a;⟨_,e⟩
theorem BoxAt.mono{b:Addr}{H:Hp}{n m:Int}(a:BoxAt H b n)(h:n<=m):BoxAt H b m:=by
 obtain⟨c,g,l,e,s,t,A,B,D⟩:=a;exact⟨c,g,l,e,s,t,A,B,by omega⟩
theorem le1{x:V}:[x].length<=sizeLine:=by rw[sizeLine_eq];exact(by decide:1<=16777216)
theorem le3{x y z:V}:[x,y,z].length<=sizeLine:=by rw[sizeLine_eq];exact(by decide:3<=16777216)
theorem le4{x y z u:V}:[x,y,z,u].length<=sizeLine:=by rw[sizeLine_eq];exact(by decide:4<=16777216)
theorem leN{c:List V}(h:c.length<=1000):c.length<=sizeLine:=by rw[sizeLine_eq];omega
theorem Xy{α:Type}{xs:List α}{i:Int}(h:0<=i)(g:i<xs.length):∃v,atI xs i=some v/\xs[i.toNat]? =some v:=by
 have c:i.toNat<xs.length:=by omega
 refine⟨xs[i.toNat],?_,by simp[c]⟩
 have:=qy (xs:=xs) (j:=i.toNat) (v:=xs[i.toNat]) (by simp[c])
 rwa[show((i.toNat:Nat):Int)=i by omega] at this
theorem SameB.put{b m:Addr}{H g:Hp}{o:HO}(s:SameB b H g)(h:H m=none):SameB b H (upd g m o):=fun c u e hc=>by
 rw[zw (zp e h)];exact s c u e hc
theorem SameB.none{b m:Addr}{H c:Hp}(s:SameB b H c)(h:c m=none)(g:m≠b):H m=none:=by
 cases q:H m with
 | none=>rfl
 | some o=>have:=s m o q g;rw[h] at this;cases this
def vB(x:Str):Prop:=(x.cps.toList.map VS).all id=true
theorem zgm{r:Int}(l:0<=r)(s:r<26):∃c,atI zg7.cps.toList r=some c/\VS c=true:=by
 rw[zc5];obtain⟨c,e,g⟩:=Xy (xs:=List.range' 97 26) l (by rw[List.length_range'];omega)
 have t:=List.mem_range'_1.mp (jc g);refine⟨c,e,?_⟩
 unfold VS;rw[zW (by omega),zW (by omega)]
 rfl
theorem zc3{c:Nat}{y:Str}(h:VS c=true)(hy:vB y):vB ((⟨#[c]⟩:Str)++y):=by
 unfold vB at hy ⊢;show((#[c]++y.cps).toList.map VS).all id=true;rw[Array.toList_append,zV,List.all_append,hy,Bool.and_true];show(VS c&&true)=true;rw[h];rfl
theorem zc7{c:Nat}{y:Str}:((⟨#[c]⟩:Str)++y).length=y.length+1:=by
 show(#[c]++y.cps).size=y.cps.size+1;rw[Array.size_append];show 1+_=_;omega
theorem BoxAt.nne{b p:Addr}{H:Hp}{n:Int}(a:BoxAt H b n)(h:H p=none):p≠b:=by
 obtain⟨o,e⟩:=a.some;exact(zp e h).symm
theorem BoxAt.other{b l:Addr}{H:Hp}{n:Int}{o:HO}(a:BoxAt H b n)(h:l≠b):BoxAt (upd H l o) b n:=by
 obtain⟨c,g,s,e,r⟩:=a;exact⟨c,g,s,by rw[zw (qc h)];exact e,r⟩
def Nm(x:Str):Prop:=x.length<=8/\∀c∈x.cps.toList,c<1000000
theorem zhz{x:Str}(h:x.length<=8)(l:vB x):Nm x:=⟨h,fun c hc=>by
 unfold vB at l;have:=jN.mp l (VS c) (jg.mpr ⟨c,hc,rfl⟩);unfold VS at this;simp at this;omega⟩
theorem Jo:∀(c:List Str),(c.map V.str).all xw=true
 | []=>rfl
 | n::c=>by
  show(true&&(c.map V.str).all xw)=true;rw[Jo c];rfl
inductive Jq(l:List V)(H:Hp)(Q:VK):Prop
 | mk (g c:Int) (_:l=[.int g,.int c]) (_:0<=g) (_:1<=c) (_:c<=8) (_:∀y:Str,(y.length:Int)=c->vB y->Q (.str y) H):Jq  l H Q
def Yx:Sp:=fun c H Q _=>Jq  c H Q
theorem YL:zG ["_law_number","_law_size","_law_word","_law_k"] ["_law_number","_law_size"] (zx (topL 29)):=u0
def zaP(g:_)(H:_):=fun(i:Nat) (σ:St) (l:Hp)=>(Ex3 fun(c:Int) (y:Str) (s:Option V)=>An5 (σ=[some (.int c),some (.int g),some (.str y),s]) (0<=c) (y.length=i) (vB y) (l=H):Prop)
theorem zcN{f:Addr}{N:FuncData}(F:Fun K "_law_spelled" "_law_spelled" (topL 29) f N)(B:Blt I):FnOk P w K I G CX0 1 f N ["_law_number","_law_size"] Yx:=by
 have J:=YL.nd;refine F.ok YL (fun vs H Q E h=>?_) (fun a0 A M s H vs Q E hr h=>?_)
 ·obtain⟨D,l,rfl,_⟩:=h
  rfl
 ·obtain⟨D,l,rfl,n0,s0,s1,k⟩:=h
  have O:=bG100000;have t:=bGe;refine⟨_,(zi (zB (i:=2) J rfl (Or.inl rfl) zcA)
   (zi (qW jK rfl (qv rfl B.range (zd (pv 1) ze)) (zH (i:=3) J rfl (Or.inl rfl))
   (zi (zB (i:=2) J rfl (Or.inl rfl) (zF WD (zJ zgr zcA (zF xq (pv 0) zj) (fun _ _=>rfl)) (pv 2)))
    (zu (zB (i:=0) J rfl (Or.inl rfl) (zF zaa (pv 0) zj)))))
   (zu (zE (pv 2))))),?_⟩
  refine⟨_,rfl,_,rfl,(by rw[t];omega),(by rw[t];omega),?_⟩
  refine ji (zaP l H) ⟨D,_,_,rfl,n0,rfl,rfl,rfl⟩ ?_ ?_
  ·rintro i σ Y hi ⟨g,y,v3,rfl,U,T,L,rfl⟩
   obtain⟨c,hc,lc⟩:=zgm (r:=g % 26) (yG _ (by decide)) (yI _ (by decide))
   refine⟨_,rfl,_,_,rfl,rfl,(by show(0:Int)<26;decide),_,_,c,rfl,rfl,(by rw[sizeLine_eq];decide),hc,_,rfl,_,_,rfl,rfl,?_,?_⟩
   ·show 1+y.length<=sizeLine
    omega
   ·exact⟨_,rfl,_,_,rfl,rfl,⟨by decide,by decide⟩,_,_,_,rfl,Int.ediv_nonneg U (by decide),by rw[zc7,T],zc3 lc L,rfl⟩
  ·rintro σ Y ⟨g,y,v3,rfl,U,T,L,rfl⟩
   exact⟨_,rfl,k y (by omega) L⟩
inductive YF(l:List V)(H:Hp)(Q:VK):Prop
 | mk (b t:Addr) (n:Int) (g:List Str) (_:l=[.ref b,.ref t]) (_:BoxAt H b n) (_:n<1099511000000) (_:t≠b) (_:H t=some (.lst (g.map V.str))) (_:g.length<=1000) (_:∀(y:Str) c,SameB b H c->BoxAt c b (n+12)->1<=y.length->y.length<=8->vB y->Q (.str y) c):YF  l H Q
def ze4:Sp:=fun c H Q _=>YF  c H Q
theorem zfd:zG ["_law_box_here","_law_taken","_law_size","_law_number","_law_k","_law_word","_law_turn"] ["_law_box_here","_law_taken"] (zx (topL 30)):=u0
theorem zfT{r:Int}(c:0<=r)(g:r<4):∃z:Int,atI [V.int 3,V.int 3,V.int 3,V.int 8] r=some (.int z)/\3<=z/\z<=8:=by
 have hc:r=0\/r=1\/r=2\/r=3:=by omega
 rcases hc with rfl | rfl | rfl | rfl
 ·exact⟨3,rfl,by decide,by decide⟩
 ·exact⟨3,rfl,by decide,by decide⟩
 ·exact⟨3,rfl,by decide,by decide⟩
 ·exact⟨8,rfl,by decide,by decide⟩
def zaO(b:_)(t:_)(l:_)(H:_)(n:_):=fun(i:Nat) (σ:St) (g:Hp)=>(Ex2 fun(c:Int) (s:Option V)=>An4 (σ=[some (.ref b),some (.ref t),some (.int (1+l)),some (.int c),s,none,none]) (0<=c) (SameB b H g) (BoxAt g b (n+2+i)):Prop)
def zaN(b:_)(t:_)(s:_)(c:_)(g:_):=fun(i:Nat) (σ:St) (l:Hp)=>(Ex3 fun(A B:Option V) (y:Str)=>An5 (σ=[some (.ref b),some (.ref t),some (.int (1+s)),some (.int c),A,some (.str y),B]) (1<=y.length) (y.length<=8) (vB y) (l=g):Prop)
theorem zga{f:Addr}{fd:FuncData}(F:Fun K "_law_name" "_law_name" (topL 30) f fd)(B:Blt I)(D:Dfn P w K I G "_law_take" 1 ["_law_box_here","_law_size"] xY)(g:Dfn P w K I G "_law_spelled" 1 ["_law_number","_law_size"] Yx):FnOk P w K I G CX0 2 f fd ["_law_box_here","_law_taken"] ze4:=by
 have L:=zfd.nd;refine F.ok zfd (fun vs H Q E h=>?_) (fun a7 A a6 s H vs Q E O h=>?_)
 ·obtain⟨b,t,n,Y,rfl,_⟩:=h
  rfl
 ·obtain⟨b,t,n,Y,rfl,B0,hn,a5,ht,a8,k⟩:=h
  have J:=bGe;refine⟨_,(zi (zB (i:=2) L rfl (Or.inl rfl) (zF qd zj (zm D O.m rfl (zd (pv 0) (zd (zJ z6 (qI (zd zj (zd zj (zd zj (zd zj ze))))) (zm D O.m rfl (zd (pv 0) (zd zj ze))) (fun _ _=>rfl)) ze)))))
   (zi (zB (i:=3) L rfl (Or.inl rfl) zj)
   (zi (qW jK rfl (qv rfl B.range (zd (pv 2) ze)) (zH (i:=4) L rfl (Or.inl rfl))
   (zu (zB (i:=3) L rfl (Or.inl rfl) (zF qd (zF xp (pv 3) zj) (zm D O.m rfl (zd (pv 0) (zd zj ze)))))))
   (zi (zB (i:=5) L rfl (Or.inl rfl) (zm g O.m rfl (zd (pv 3) (zd (pv 2) ze))))
   (zi (qW jK rfl (qv rfl B.range (zd (zF qd (zv zy rfl B.len boot_len (zd (pv 1) ze)) zj) ze)) (zH (i:=6) L rfl (Or.inl rfl))
   (zu (jF (qw JA (pv 5) (pv 1) (by with_unfolding_all rfl))
    (zu (zB (i:=5) L rfl (Or.inl rfl) (zm g O.m rfl (zd (zF qd (pv 3) (pv 6)) (zd zj ze)))))
    qB)))
   (zu (zE (pv 5)))))))),?_⟩
  refine⟨_,rfl,le4,fun l hl=>⟨_,rfl,b,4,n,rfl,B0.new hl,by omega,by decide,by decide,fun r H1 r0 r1 B1 S1=>?_⟩⟩
  have L1:=S1 l _ (zg (H:=H)) ((B0.new hl).ne (zg (H:=H) (o:=.lst [.int 3,.int 3,.int 3,.int 8])) (by intro x y z e;cases e))
  have a2:=((u7 b H).new (o:=.lst [.int 3,.int 3,.int 3,.int 8]) hl).trans S1;obtain⟨z,ez,z0,z1⟩:=zfT r0 r1;refine⟨l,_,_,_,rfl,rfl,u4 L1,ez,b,z,n+1,rfl,B1,by omega,by omega,by omega,fun r2 H2 a0 a1 B2 S2=>⟨_,_,rfl,rfl,?_⟩⟩
  have a3:=a2.trans S2;refine⟨_,rfl,_,rfl,(by rw[J];omega),(by rw[J];omega),?_⟩
  refine ji (zaO b t r2 H n) ⟨0,_,rfl,by decide,a3,B2.mono (by omega)⟩ ?_ ?_
  ·rintro i σ H4 hi ⟨M,v4,rfl,m0,U,B4⟩
   refine⟨_,rfl,_,_,rfl,rfl,.inr ⟨by decide,by decide⟩,_,rfl,b,26,_,rfl,B4,by omega,by decide,by decide,fun r3 H5 c0 c1 B5 S5=>⟨_,_,rfl,rfl,_,_,rfl,?_,U.trans S5,B5.mono (by omega)⟩⟩
   omega
  ·rintro σ H4 ⟨M,v4,rfl,m0,U,B4⟩
   refine⟨_,rfl,_,rfl,M,1+r2,rfl,m0,by omega,by omega,fun y ly N=>?_⟩
   have T:=U t _ ht a5;have el:(Y.map V.str).length=Y.length:=zr ..;refine⟨_,rfl,t,_,rfl,.inl (u4 T),_,_,rfl,rfl,_,rfl,(by rw[J,el];omega),(by rw[J,el];omega),?_⟩
   refine ji (zaN b t r2 M H4) ⟨_,_,y,rfl,by omega,by omega,N,rfl⟩ ?_ ?_
   ·rintro i σ H5 hi ⟨v4,v6,y,rfl,y0,y1,N,rfl⟩
    refine⟨_,rfl,_,rfl,t,_,rfl,.inl (u4 T),rfl,Jo Y,_,rfl,jE (fun c=>?_) (fun c=>⟨_,_,y,rfl,y0,y1,N,rfl⟩)⟩
    exact⟨_,rfl,_,rfl,_,_,rfl,rfl,_,8,rfl,by omega,by decide,by decide,fun y' a9 a4=>⟨_,_,y',rfl,by omega,by omega,a4,rfl⟩⟩
   ·rintro σ H5 ⟨v4,v6,y,rfl,y0,y1,N,rfl⟩
    exact⟨_,rfl,k y _ U (B4.mono (by omega)) y0 y1 N⟩
def Row(H:Hp)(l:Addr)(c:List Str):Prop:=H l=some (.lst (c.map V.str))/\∀x∈c,Nm x
theorem Row.same{H c:Hp}{l:Addr}{g:List Str}(r:Row H l g)(s:Same H c):Row c l g:=⟨s _ _ r.1,r.2⟩
theorem Row.draw{H c:Hp}{b l:Addr}{g:List Str}(r:Row H l g)(s:SameB b H c)(h:l≠b):Row c l g:=⟨s _ _ r.1 h,r.2⟩
inductive Jt(s:List V)(H:Hp)(Q:VK):Prop
 | mk (b:Addr) (m n:Int) (_:s=[.ref b,.int m]) (_:BoxAt H b n) (_:n<1000000) (_:0<=m) (_:m<=12) (_:∀(l:Addr) (g:List Str) c,SameB b H c->BoxAt c b (n+150)->l≠b->H l=none->Row c l g->(g.length:Int)=m->Q (.ref l) c):Jt  s H Q
def YE:Sp:=fun c H Q _=>Jt  c H Q
theorem YO:zG ["_law_box_here","_law_many","_law_found","_law_k"] ["_law_box_here","_law_many"] (zx (topL 31)):=u0
def zaM(b:_)(m:_)(l:_)(H:_)(n:_):=fun(i:Nat) (σ:St) (c:Hp)=>(Ex2 fun(g:List Str) (s:Option V)=>An5 (σ=[some (.ref b),some (.int m),some (.ref l),s]) (SameB b H c) (BoxAt c b (n+12*i)) (Row c l g) (g.length=i):Prop)
theorem zcQ{f:Addr}{fd:FuncData}(F:Fun K "_law_names" "_law_names" (topL 31) f fd)(B:Blt I)(c:Dfn P w K I G "_law_name" 2 ["_law_box_here","_law_taken"] ze4):FnOk P w K I G CX0 3 f fd ["_law_box_here","_law_many"] YE:=by
 have nd:=YO.nd;refine F.ok YO (fun vs H Q E h=>?_) (fun a1 A O s H vs Q E hr h=>?_)
 ·obtain⟨b,m,n,rfl,_⟩:=h
  rfl
 ·obtain⟨b,m,n,rfl,T,hn,m0,m1,k⟩:=h
  have a0:=bG100000;have D:=bGe;refine⟨_,(zi (zB (i:=2) nd rfl (Or.inl rfl) (qI ze))
   (zi (qW jK rfl (qv rfl B.range (zd (pv 1) ze)) (zH (i:=3) nd rfl (Or.inl rfl))
   (zu (vw (Qb QF QY QX vd (pv 2) (zd (zm c hr.m rfl (zd (pv 0) (zd (pv 2) ze))) ze)))))
   (zu (zE (pv 2))))),?_⟩
  refine⟨le0,fun l J=>?_⟩
  have nl:=T.nne J;refine⟨_,rfl,_,rfl,(by rw[D];omega),(by rw[D];omega),?_⟩
  refine ji (zaM b m l H n) ⟨[],_,rfl,(u7 b H).new J,(T.new J).mono (by omega),⟨zg,fun x h=>nomatch h⟩,rfl⟩ ?_ ?_
  ·rintro i σ U hi ⟨L,v3,rfl,N,M,t,g⟩
   refine⟨_,rfl,.inl ⟨rfl,_,u4 t.1⟩,_,rfl,_,rfl,b,l,_,L,rfl,M,by omega,nl,t.1,by omega,fun y H5 Y B5 y0 y1 al=>⟨l,_,_,rfl,rfl,(t.draw Y nl).1,by rw[zr,g];omega,?_⟩⟩
   refine⟨L++[y],_,rfl,(N.trans Y).put J,(B5.other nl).mono (by omega),⟨by rw[zg,zV];rfl,fun x hx=>?_⟩,by rw[zY,g];rfl⟩
   rcases qJ.mp hx with q | q
   ·exact t.2 x q
   ·rw[zK.mp q];exact zhz y1 al
  ·rintro σ U ⟨L,v3,rfl,N,M,t,g⟩
   exact⟨_,rfl,k l L U N (M.mono (by omega)) nl J t (by omega)⟩
def PlA(H:Hp)(a:Addr):Prop:=∃x y:Int,H a=some (.tup [.int x,.int y])/\0<=x/\x<=1000/\0<=y/\y<=1000
theorem PlA.imp{H c:Hp}{a:Addr}(h:PlA H a)(f:∀o,H a=some o->c a=some o):PlA c a:=let ⟨x,y,e,r⟩:=h;⟨x,y,f _ e,r⟩
theorem PlA.draw{H c:Hp}{a b:Addr}{n:Int}(h:PlA H a)(B:BoxAt H b n)(s:SameB b H c):PlA c a:=by
 obtain⟨x,y,e,r⟩:=h;obtain⟨l,t,A,g,_⟩:=B;exact⟨x,y,s a _ e (zad e g (by intro z;cases z)),r⟩
inductive Js(K:W.Frag)(g:List V)(H:Hp)(Q:VK):Prop
 | mk (b t:Addr) (n:Int) (as:List Addr) (_:g=[.ref b,.ref t]) (_:BoxAt H b n) (_:n<1099511627000) (_:t≠b) (_:H t=some (.lst (as.map V.ref))) (_:as.length<=1000) (_:(∀a∈as,PlA H a)) (_:∀(p:Addr) c,SameB b H c->BoxAt c b (n+3)->H p=none->PlA c p->Q (.ref p) c):Js K g H Q
def yj(K:W.Frag):Sp:=fun c H Q _=>Js K c H Q
theorem YN:zG ["_law_box_here","_law_taken","_law_most","_law_x","_law_y","_law_turn"] ["_law_box_here","_law_taken"] (zx (topL 32)):=u0
def zaL(b:_)(t:_)(y:_)(H:_)(n:_):=fun(i:Nat) (σ:St) (c:Hp)=>(Ex3 fun(g l:Option V) (x:Int)=>An5 (σ=[some (.ref b),some (.ref t),g,some (.int x),some (.int y),l]) (0<=x) (x<=1000) (SameB b H c) (BoxAt c b (n+1+1+1)):Prop)
theorem zcP{f:Addr}{fd:FuncData}(F:Fun K "_law_place" "_law_place" (topL 32) f fd)(B:Blt I)(g:Dfn P w K I G "_law_take" 1 ["_law_box_here","_law_size"] xY):FnOk P w K I G CX0 2 f fd ["_law_box_here","_law_taken"] (yj K):=by
 have Y:=YN.nd;refine F.ok YN (fun vs H Q E h=>?_) (fun a3 A a2 s H vs Q E U h=>?_)
 ·obtain⟨b,t,n,as,rfl,_⟩:=h
  rfl
 ·obtain⟨b,t,n,as,rfl,B0,hn,T,ht,a4,pa,k⟩:=h
  have O:=U.units;have N:=bGe;have el:(as.map V.ref).length=as.length:=zr ..;refine⟨_,(zi (zB (i:=2) Y rfl (Or.inl rfl) (vc (qw xk (zm g U.m rfl (zd (pv 0) (zd zj ze))) zj (qb _)) zj zj))
   (zi (Wz (i:=3) (j:=4) rfl Y rfl rfl (by decide) rfl rfl (zd (zm g U.m rfl (zd (pv 0) (zd (pv 2) ze))) (zd (zm g U.m rfl (zd (pv 0) (zd (pv 2) ze))) ze)) (by rfl))
   (zi (qW jK rfl (qv rfl B.range (zd (zF qd (zv zy rfl B.len boot_len (zd (pv 1) ze)) zj) ze)) (zH (i:=5) Y rfl (Or.inl rfl))
   (zu (jF (qw (zek O) (qG (zd (pv 3) (zd (pv 4) ze))) (pv 1) (by with_unfolding_all rfl))
    (zu (zB (i:=3) Y rfl (Or.inl rfl) (zF xq (zF qd (pv 3) zj) zj)))
    qB)))
   (zu (zE (qG (zd (pv 3) (zd (pv 4) ze)))))))),?_⟩
  refine⟨_,rfl,b,4,n,rfl,B0,by omega,by decide,by decide,fun r H1 r0 r1 B1 S1=>⟨rfl,_,rfl,jE (fun c=>?_) (fun c=>?_)⟩⟩
  all_goals
   refine⟨_,rfl,_,rfl,b,_,n+1,rfl,B1,by omega,by decide,by decide,fun x H2 x0 x1 B2 S2=>⟨_,rfl,_,rfl,b,_,n+1+1,rfl,B2,by omega,by decide,by decide,fun y H3 y0 y1 B3 S3=>⟨_,_,rfl,?_⟩⟩⟩
   have S4:=S1.trans (S2.trans S3);have a1:=S4 t _ ht T;refine⟨_,rfl,t,_,rfl,.inl (u4 a1),_,_,rfl,rfl,_,rfl,(by rw[N,el];omega),(by rw[N,el];omega),?_⟩
   refine ji (zaL b t y H n) ⟨_,none,x,rfl,x0,by omega,S4,B3⟩ ?_ ?_
   ·rintro i σ H4 _ ⟨v2,v5,x,rfl,J,L,D,M⟩
    refine⟨_,rfl,_,rfl,le2,fun p l=>⟨_,rfl,p,t,_,_,rfl,rfl,u5 zg,rfl,u4 ((D.new l) t _ ht T),fun v hv=>?_,fun q=>⟨_,rfl,jE (fun d=>?_) (fun d=>?_)⟩⟩⟩
    ·obtain⟨c,hc,rfl⟩:=jg.mp hv
     obtain⟨cx,cy,a0,_⟩:=(pa c hc).draw B0 (D.new (o:=.tup [.int x,.int y]) l);exact⟨c,_,rfl,u5 a0,rfl⟩
    ·exact⟨_,rfl,_,_,rfl,rfl,_,_,rfl,rfl,(by show(0:Int)<1001;decide),_,_,_,rfl,yG _ (by decide),by have:=yI (x+1) (by decide:(0:Int)<1001);omega,D.new l,M.new l⟩
    ·exact⟨_,_,x,rfl,J,L,D.new l,M.new l⟩
   ·rintro σ H4 ⟨v2,v5,x,rfl,J,L,D,M⟩
    have B6:BoxAt H4 b (n+3):=by
     have e:n+3=n+1+1+1:=by omega
     rw[e];exact M
    exact⟨_,rfl,_,rfl,le2,fun p l=>k p _ (D.new l) (B6.new l) (D.none l (M.nne l)) ⟨x,y,zg,J,L,y0,by omega⟩⟩
inductive ZY(g:List V)(H:Hp)(Q:VK):Prop
 | mk (b:Addr) (m n:Int) (_:g=[.ref b,.int m]) (_:BoxAt H b n) (_:n<1000000) (_:0<=m) (_:m<=100) (_:∀(l:Addr) (as:List Addr) c,SameB b H c->BoxAt c b (n+400)->l≠b->H l=none->c l=some (.lst (as.map V.ref))->(∀a∈as,PlA c a)->(as.length:Int)=m->Q (.ref l) c):ZY  g H Q
def Vp:Sp:=fun c H Q _=>ZY  c H Q
theorem VB:zG ["_law_box_here","_law_many","_law_found","_law_k"] ["_law_box_here","_law_many"] (zx (topL 33)):=u0
def zaK(b:_)(m:_)(l:_)(H:_)(n:_):=fun(i:Nat) (σ:St) (c:Hp)=>(Ex2 fun(as:List Addr) (g:Option V)=>An6 (σ=[some (.ref b),some (.int m),some (.ref l),g]) (SameB b H c) (BoxAt c b (n+3*i)) (c l=some (.lst (as.map V.ref))) ((∀a∈as,PlA c a)) (as.length=i):Prop)
theorem zbg{f:Addr}{fd:FuncData}(F:Fun K "_law_places" "_law_places" (topL 33) f fd)(B:Blt I)(c:Dfn P w K I G "_law_place" 2 ["_law_box_here","_law_taken"] (yj K)):FnOk P w K I G CX0 3 f fd ["_law_box_here","_law_many"] Vp:=by
 have nd:=VB.nd;refine F.ok VB (fun vs H Q E h=>?_) (fun a1 A U s H vs Q E hr h=>?_)
 ·obtain⟨b,m,n,rfl,_⟩:=h
  rfl
 ·obtain⟨b,m,n,rfl,Y,hn,m0,m1,k⟩:=h
  have a0:=bG100000;have J:=bGe;refine⟨_,(zi (zB (i:=2) nd rfl (Or.inl rfl) (qI ze))
   (zi (qW jK rfl (qv rfl B.range (zd (pv 1) ze)) (zH (i:=3) nd rfl (Or.inl rfl))
   (zu (vw (Qb QF QY QX vd (pv 2) (zd (zm c hr.m rfl (zd (pv 0) (zd (pv 2) ze))) ze)))))
   (zu (zE (pv 2))))),?_⟩
  refine⟨le0,fun l L=>?_⟩
  have nl:=Y.nne L;refine⟨_,rfl,_,rfl,(by rw[J];omega),(by rw[J];omega),?_⟩
  refine ji (zaK b m l H n) ⟨[],_,rfl,(u7 b H).new L,(Y.new L).mono (by omega),zg,(fun x h=>nomatch h),rfl⟩ ?_ ?_
  ·rintro i σ H4 hi ⟨as,v3,rfl,T,M,D,N,t⟩
   refine⟨_,rfl,.inl ⟨rfl,_,u4 D⟩,_,rfl,_,rfl,b,l,_,as,rfl,M,by omega,nl,D,by omega,N,fun p H5 O B5 pN pp=>⟨l,_,_,rfl,rfl,O l _ D nl,by rw[zr,t];omega,?_⟩⟩
   have L5:=O l _ D nl;have g:∀{a:Addr},PlA H5 a->PlA (upd H5 l (.lst (as.map V.ref++[.ref p]))) a:=fun {a} h=>by
    obtain⟨x,y,e,r⟩:=h;exact⟨x,y,by rw[zw (zad e L5 (by intro z;cases z))];exact e,r⟩
   refine⟨as++[p],_,rfl,(T.trans O).put L,(B5.other nl).mono (by omega),by rw[zg,zV];rfl,fun a ha=>?_,by rw[zY,t];rfl⟩
   rcases qJ.mp ha with q | q
   ·exact g ((N a q).draw M O)
   ·rw[zK.mp q];exact g pp
  ·rintro σ H4 ⟨as,v3,rfl,T,M,D,N,t⟩
   exact⟨_,rfl,k l as H4 T (M.mono (by omega)) nl L D N (by omega)⟩
inductive Vo(K:W.Frag)(s:List V)(H:Hp)(Q:VK):Prop
 | mk (b a:Addr) (n:Int) (g:List V) (_:s=[.ref b,.ref a]) (_:BoxAt H b n) (_:n<1000000) (_:a≠b) (_:H a=some (.lst g)) (_:g.length<=1000) (_:∀(l:Addr) (t:List V) c,SameB b H c->BoxAt c b (n+g.length)->l≠b->H l=none->c l=some (.lst t)->t.Perm g->Q (.ref l) c):Vo K s H Q
def J3(K:W.Frag):Sp:=fun c H Q _=>Vo K c H Q
theorem zcj:zG ["_law_box_here","_law_some","_law_found","_law_one"] ["_law_box_here","_law_some"] (zx (topL 34)):=u0
def zaJ(b:_)(a:_)(l:_)(H:_)(n:_)(g:List V):=fun(i:Nat) (σ:St) (c:Hp)=>(Ex2 fun(s:List V) (t:Option V)=>An6 (σ=[some (.ref b),some (.ref a),some (.ref l),t]) (SameB b H c) (BoxAt c b (n+i)) (c a=some (.lst g)) (c l=some (.lst s)) (s.Perm (g.take i)):Prop)
theorem zeo{f:Addr}{fd:FuncData}(F:Fun K "_law_shuffled" "_law_shuffled" (topL 34) f fd)(B:Blt I)(c:Dfn P w K I G "_law_take" 1 ["_law_box_here","_law_size"] xY):FnOk P w K I G CX0 2 f fd ["_law_box_here","_law_some"] (J3 K):=by
 have nd:=zcj.nd;refine F.ok zcj (fun vs H Q E h=>?_) (fun a4 A a2 s H vs Q E hr h=>?_)
 ·obtain⟨b,a,n,t,rfl,_⟩:=h
  rfl
 ·obtain⟨b,a,n,t,rfl,B0,hn,a0,Y,a5,k⟩:=h
  have a3:=bG100000;have U:=bGe;refine⟨_,(zi (zB (i:=2) nd rfl (Or.inl rfl) (qI ze))
   (zi (qW jK rfl (qV (pv 1)) (zH (i:=3) nd rfl (Or.inl rfl))
   (zu (vw (Qb QF PySem.F.slot_list_insert PySem.F.type_list_insert zbl (pv 2) (zd (zm c hr.m rfl (zd (pv 0) (zd (zF qd (zv zy rfl B.len boot_len (zd (pv 2) ze)) zj) ze))) (zd (pv 3) ze))))))
   (zu (zE (pv 2))))),?_⟩
  refine⟨le0,fun l g=>?_⟩
  have nl:=B0.nne g;have a1:a≠l:=zp Y g;refine⟨_,rfl,a,rfl,⟨_,u4 ((zf g) _ _ Y)⟩,yw (K:=K) (a:=a) (xs:=t) (zaJ b a l H n t)
   ⟨[],_,rfl,(u7 b H).new g,(B0.new g).mono (by omega),(zf g) _ _ Y,zg,.nil⟩ (fun i σ N _ ⟨_,_,_,_,_,h,_,_⟩=>u4 h) ?_ ?_⟩
  ·rintro i x σ N hx ⟨L,v3,rfl,O,M,A4,D,J⟩
   have hi:=(zT.mp hx).1;have yl:L.length=i:=by rw[J.length_eq,jO];omega
   refine⟨_,rfl,.inl ⟨rfl,_,u4 D⟩,_,rfl,_,rfl,l,_,rfl,.inl (u4 D),_,_,rfl,rfl,b,_,_,rfl,M,by omega,by omega,by omega,fun q H5 q0 q1 B5 T=>⟨_,rfl,?_⟩⟩
   refine⟨l,L,q,x,rfl,rfl,T l _ D nl,q0,by rw[U];omega,by omega,?_⟩
   refine⟨_,_,rfl,(O.trans T).put g,(B5.other nl).mono (by omega),by rw[zw a1];exact T a _ A4 a0,zg,?_⟩
   have e1:t.take (i+1)=t.take i++[x]:=by
    obtain⟨h1,h2⟩:=zT.mp hx;rw[<- h2,QZ]
   rw[e1];refine List.perm_middle.trans ?_
   rw[List.take_append_drop];exact((List.Perm.cons x J).trans (List.perm_append_singleton x _).symm)
  ·rintro σ N ⟨L,v3,rfl,O,M,A4,D,J⟩
   rw[j7] at J;exact⟨_,rfl,k l L N O M nl g D J⟩
end
def SameT(H c:Hp):Prop:=∀a u,H a=some u->(∀g,u≠.lst g)->c a=some u
theorem SameT.refl(H:Hp):SameT H H:=fun _ _ e _=>e
theorem SameT.trans{H g l:Hp}(a:SameT H g)(b:SameT g l):SameT H l:=fun c u e h=>b c u (a c u e h) h
theorem SameT.of{H c:Hp}(s:Same H c):SameT H c:=fun a u e _=>s a u e
theorem SameT.draw{H c:Hp}{b:Addr}{n:Int}(B:BoxAt H b n)(s:SameB b H c):SameT H c:=fun a u e h=>by
 obtain⟨l,t,w,g,_⟩:=B;exact s a u e (fun z=>by rw[z,g] at e;cases e;exact h _ rfl)
def u9:=@SameT.draw
theorem SameT.put{H:Hp}{l:Addr}{c g:List V}(h:H l=some (.lst c)):SameT H (upd H l (.lst g)):=fun a u e hu=>by
 rw[zw (fun z=>by rw[z,h] at e;cases e;exact hu _ rfl)];exact e
mutual
def Dat.imm:Dat->Bool
 | .lst _=>false
 | .tup c=>Dat.imms c
 | _=>true
def Dat.imms:List Dat->Bool
 | []=>true
 | d::c=>d.imm&&Dat.imms c
end
section
variable{P:Program}{w:World}{K:W.Frag}{I:Str->Option Value}{G:Heap}
theorem SqT.keep{H c:Hp}{a:Addr}{g:List V}(q:SqT K H a g)(s:SameT H c):SqT K c a g:=by
 rcases q with(q | ⟨o,q⟩) | q
 ·exact .inl (.inl (s a _ q (fun z h=>nomatch h)))
 ·exact .inl (.inr ⟨o,s a _ q (fun z h=>nomatch h)⟩)
 ·exact .inr q
mutual
theorem Rep.keep{H c:Hp}(s:SameT H c):∀{d:Dat} {v:V},d.imm=true->Rep K H d v->Rep K c d v
 | .non,_,_,h=>h
 | .bl _,_,_,h=>h
 | .int _,_,_,h=>h
 | .str _,_,_,h=>h
 | .lst _,_,i,_=>by cases i
 | .tup ds,_,i,h=>by
  obtain⟨a,g,e,q,r⟩:=h;exact⟨a,g,e,q.keep s,Reps.keep s (ds:=ds) i r⟩
theorem Reps.keep{H g:Hp}(s:SameT H g):∀{ds:List Dat} {l:List V},Dat.imms ds=true->Reps K H ds l->Reps K g ds l
 | [],_,_,h=>h
 | d::ds,_,i,h=>by
  obtain⟨x,r,e,t,A⟩:=h;have c:(d.imm&&Dat.imms ds)=true:=i;rw[qE] at c;exact⟨x,r,e,Rep.keep s c.1 t,Reps.keep s c.2 A⟩
end
theorem Reps.snoc{H:Hp}{d:Dat}{v:V}(h:Rep K H d v):∀{c:List Dat} {g:List V},Reps K H c g->Reps K H (c++[d]) (g++[v])
 | [],_,e=>by rw[show _=_ from e];exact⟨v,[],rfl,h,rfl⟩
 | _::_,_,e=>by
  obtain⟨x,r,l,s,t⟩:=e;subst l;exact⟨x,r++[v],rfl,s,Reps.snoc h t⟩
theorem jZ{α β:Type}{f:α->β}{M L:List β}(h:M.Perm L):∀{g:List α},L=g.map f->∃t:List α,t.Perm g/\M=t.map f:=by
 induction h with
 | nil=>
  intro g e;have:g=[]:=by simpa using e.symm
  exact⟨[],by rw[this],rfl⟩
 | @cons x Y l2 p O=>
  intro g e;cases g with
  | nil=>simp at e
  | cons a as=>
   rw[jz] at e;injection e with A s;obtain⟨t,E,H⟩:=O s;exact⟨a::t,E.cons a,by rw[jz,<- H,<- A]⟩
 | swap x y l=>
  intro g e;cases g with
  | nil=>simp at e
  | cons a as=>
   cases as with
   | nil=>simp at e
   | cons c J=>
    rw[jz,jz] at e;injection e with A s;injection s with s N;exact⟨c::a::J,.swap a c J,by rw[jz,jz,<- A,<- s,<- N]⟩
 | trans p q B D=>
  intro g e;obtain⟨t,E,H⟩:=D e;obtain⟨U,Q,T⟩:=B H;exact⟨U,Q.trans E,T⟩
def Jz(p:Nat×Nat):Dat:=.tup [.int p.1,.int p.2]
def ZS(as:List (Nat×Nat)):Dat:=.tup (as.map Jz)
theorem xB:∀(as:List (Nat×Nat)),Dat.imms (as.map Jz)=true
 | []=>rfl
 | p::as=>by
  show(Dat.imm (Jz p)&&Dat.imms (as.map Jz))=true;rw[xB as];rfl
def zdV(c:List Nat)(as:List (Nat×Nat)):Prop:=∀p∈as,∃k l:Nat,k<l/\c[k]? =some p.1/\c[l]? =some p.2
theorem Reps.take{H:Hp}:∀(n:Nat) {c:List Dat} {g:List V},Reps K H c g->Reps K H (c.take n) (g.take n)
 | 0,_,_,_=>rfl
 | n+1,[],_,h=>by rw[show _=_ from h];exact rfl
 | n+1,d::c,_,h=>by
  obtain⟨x,r,e,l,s⟩:=h;subst e;exact⟨x,r.take n,rfl,l,Reps.take n s⟩
theorem Reps.app{H:Hp}:∀{c l:List Dat} {s t:List V},Reps K H c s->Reps K H l t->Reps K H (c++l) (s++t)
 | [],_,_,_,h,g=>by rw[show _=_ from h];exact g
 | d::c,_,_,_,h,g=>by
  obtain⟨x,r,e,A,B⟩:=h;subst e;exact⟨x,r++_,rfl,A,Reps.app B g⟩
inductive ZZ(K:W.Frag)(l:List V)(H:Hp)(Q:VK):Prop
 | mk (b:Addr) (m n:Int) (_:l=[.ref b,.int m]) (_:BoxAt H b n) (_:n<1000000) (_:0<=m) (_:m<=100) (_:∀(p:Addr) (as:List (Nat×Nat)) (c:List Nat) g,SameB b H g->BoxAt g b (n+800)->Rep K g (ZS as) (.ref p)->c.Perm (List.range m.toNat)->zdV c as->as.length<=300->Q (.ref p) g):ZZ K l H Q
def Vu(K:W.Frag):Sp:=fun c H Q _=>ZZ K c H Q
theorem VC:zG ["_law_box_here","_law_many","_law_order","_law_found","_law_turn","_law_k"] ["_law_box_here","_law_many"] (zx (topL 36)):=u0
theorem zhh{m r:Int}(h:0<=r)(c:r<4)(l:2<=m)(g:m<=100):∃z:Int,atI [V.int 1,V.int 4,V.int 13,V.int (2*m)] r=some (.int z)/\1<=z/\z<=200:=by
 have hc:r=0\/r=1\/r=2\/r=3:=by omega
 rcases hc with rfl | rfl | rfl | rfl
 ·exact⟨1,rfl,by omega,by omega⟩
 ·exact⟨4,rfl,by omega,by omega⟩
 ·exact⟨13,rfl,by omega,by omega⟩
 ·exact⟨2*m,rfl,by omega,by omega⟩
theorem zcK{ord:List Nat}{i:Int}(h:0<=i)(l:i<ord.length):∃x:Nat,atI (ord.map fun i:Nat=>V.int (i:Int)) i=some (.int (x:Int))/\ord[i.toNat]? =some x:=by
 obtain⟨v,g,c⟩:=Xy (xs:=ord.map fun i:Nat=>V.int (i:Int)) h (by rw[zr];exact l)
 rw[zZ] at c;obtain⟨x,hx,rfl⟩:=jd.mp c;exact⟨x,g,hx⟩
def zaI(b:_)(m:_)(o:_)(R:_)(H:_)(n:_)(g:_)(K:_):=fun(i:Nat) (σ:St) (c:Hp)=>(Ex4 fun(as:List (Nat×Nat)) (l:List V) (s t:Option V)=>An8 (σ=[some (.ref b),some (.int m),some (.ref o),some (.ref R),s,t]) (SameB b H c) (BoxAt c b (n+110+2*i)) (c o=some (.lst (g.map fun i:Nat=>V.int (i:Int)))) (c R=some (.lst l)) (Reps K c (as.map Jz) l) (zdV g as) (as.length=i):Prop)
theorem zbh{f:Addr}{fd:FuncData}(F:Fun K "_law_aheads" "_law_aheads" (topL 36) f fd)(B:Blt I)(g:Dfn P w K I G "_law_take" 1 ["_law_box_here","_law_size"] xY)(l:Dfn P w K I G "_law_shuffled" 2 ["_law_box_here","_law_some"] (J3 K)):FnOk P w K I G CX0 3 f fd ["_law_box_here","_law_many"] (Vu K):=by
 have nd:=VC.nd;refine F.ok VC (fun vs H Q E h=>?_) (fun ae A a8 s H vs Q E hr h=>?_)
 ·obtain⟨b,m,n,rfl,_⟩:=h
  rfl
 ·obtain⟨b,m,n,rfl,B0,hn,m0,m1,k⟩:=h
  have ac:=bG100000;have a3:=bGe;refine⟨_,(zi (Wz (i:=2) (j:=3) rfl nd rfl rfl (by decide) rfl rfl (zd (zm l hr.m rfl (zd (pv 0) (zd (yo rfl rfl B.list rfl B.range jk (zd (pv 1) ze)) ze))) (zd (qI ze) ze)) (by rfl))
   (zi (jF (qw Y9 (pv 1) zj (qb _))
   (zu (zE (qG ze)))
   qB)
   (zi (qW jK rfl (qv rfl B.range (zd (zm g hr.m rfl (zd (pv 0) (zd (zJ z6 (qI (zd zj (zd zj (zd zj (zd (zF xp zj (pv 1)) ze))))) (zm g hr.m rfl (zd (pv 0) (zd zj ze))) (fun _ _=>rfl)) ze))) ze)) (zH (i:=4) nd rfl (Or.inl rfl))
   (zi (zB (i:=5) nd rfl (Or.inl rfl) (zm g hr.m rfl (zd (pv 0) (zd (zF xo (pv 1) zj) ze))))
    (zu (vw (Qb QF QY QX vd (pv 3) (zd (qG (zd (zJ z6 (pv 2) (pv 5) (fun _ _=>rfl)) (zd (zJ z6 (pv 2) (zF qd (zF qd (pv 5) zj) (zm g hr.m rfl (zd (pv 0) (zd (zF xo (zF xo (pv 1) zj) (pv 5)) ze)))) (fun _ _=>rfl)) ze))) ze))))))
   (zu (zE (qM jH rfl B.tuple jw (zd (zF Xh (pv 3) (xK wu (pv 3) wv (xV (qM JK rfl B.int yC (zd (qQ xk (zm g hr.m rfl (zd (pv 0) (zd zj ze))) zj (qb _)) ze))))) ze))))))),?_⟩
  refine⟨_,rfl,_,rfl,m,rfl,m0,by omega,fun l0 h0=>?_⟩
  have O:((List.range m.toNat).map fun i:Nat=>V.int (i:Int)).length=m.toNat:=by rw[zr,zS]
  refine⟨b,l0,n,_,rfl,B0.new h0,by omega,B0.nne h0,zg,by rw[O];omega,fun o ys H1 S1 B1 no oN ho pm=>⟨le0,fun R hR=>⟨_,_,rfl,?_⟩⟩⟩
  obtain⟨D,op,rfl⟩:=jZ pm rfl;have ol:D.length=m.toNat:=by rw[op.length_eq,zS]
  rw[O] at B1;have U:=B1.nne hR;have oR:o≠R:=zp ho hR;have a2:=((u7 b H).new h0).trans S1;have RH:H R=none:=a2.none hR U;have S2:=a2.new (o:=.lst []) hR;have B2:=B1.new (o:=.lst []) hR;have O2:=(zf (o:=.lst []) hR) _ _ ho;have R2:upd H1 R (.lst []) R=some (.lst []):=zg;generalize upd H1 R (.lst [])=H2 at S2 B2 O2 R2;refine⟨_,rfl,_,_,rfl,rfl,_,rfl,jE (fun c=>?_) (fun c=>?_)⟩
  ·exact⟨le0,fun p hp=>k p [] D _ (S2.new hp) ((B2.new hp).mono (by omega)) ⟨p,[],rfl,u5 zg,rfl⟩ op (fun p h=>nomatch h) (qk _)⟩
  have m2:2<=m:=by
   have:¬m<2:=fun z=>c (zW z)
   omega
  refine⟨_,rfl,_,rfl,_,_,rfl,rfl,.inl ⟨by decide,by decide⟩,le4,fun l1 h1=>⟨_,rfl,b,4,_,rfl,B2.new h1,by omega,by decide,by decide,fun r H3 r0 r1 B3 S3=>?_⟩⟩
  have L3:=S3 l1 _ zg (B2.nne h1);obtain⟨z,ez,z0,z1⟩:=zhh r0 r1 m2 m1;refine⟨l1,_,_,_,rfl,rfl,u4 L3,ez,b,z,_,rfl,B3,by omega,by omega,by omega,fun cnt H4 c0 c1 B4 S4=>⟨_,rfl,(by rw[a3];omega),(by rw[a3];omega),?_⟩⟩
  have U4:=((u7 b H2).new h1).trans (S3.trans S4);have a5:=S2.trans U4;have O4:=U4 _ _ O2 no;have R4:=U4 _ _ R2 U;clear S2 B2 O2 R2 S3 S4 U4 L3 h1 B3;refine ji (zaI b m o R H n D K)
   ⟨[],[],_,_,rfl,a5,B4.mono (by omega),O4,R4,rfl,(fun p h=>nomatch h),rfl⟩ ?_ ?_
  ·rintro i σ H5 hi ⟨as,J,v4,v5,rfl,S5,B5,O5,R5,rp,bo,Y⟩
   have xl:J.length=i:=by rw[rp.len,zr,Y]
   refine⟨_,rfl,_,rfl,_,_,rfl,rfl,b,_,_,rfl,B5,by omega,by omega,by omega,fun kk H6 k0 k1 B6 L=>?_⟩
   have O6:=L _ _ O5 no;obtain⟨x1,a6,a9⟩:=zcK (ord:=D) k0 (by omega)
   refine⟨_,rfl,.inl ⟨rfl,_,u4 (L _ _ R5 U)⟩,_,rfl,_,rfl,o,_,_,_,rfl,rfl,u4 O6,a6,?_⟩
   refine⟨_,rfl,_,rfl,_,_,rfl,rfl,_,rfl,_,rfl,_,_,rfl,rfl,_,rfl,_,_,rfl,rfl,b,_,_,rfl,B6,by omega,by omega,by omega,fun q H7 q0 q1 B7 S7=>⟨_,_,rfl,rfl,?_⟩⟩
   have O7:=S7 _ _ O6 no;have R7:=S7 _ _ (L _ _ R5 U) U;obtain⟨x2,a7,aa⟩:=zcK (ord:=D) (i:=kk+1+q) (by omega) (by omega)
   refine⟨o,_,_,_,rfl,rfl,u4 O7,a7,le2,fun T N=>⟨R,J,.ref T,rfl,rfl,(zf N) _ _ R7,by omega,?_⟩⟩
   have R8:=(zf (o:=.tup [.int (x1:Int),.int (x2:Int)]) N) _ _ R7;have st:SameT H5 (upd (upd H7 T (.tup [.int (x1:Int),.int (x2:Int)])) R (.lst (J++[.ref T]))):=((u9 B5 (L.trans S7)).trans (.of (zf N))).trans (.put R8);refine⟨as++[(x1,x2)],_,_,_,rfl,(((S5.trans L).trans S7).new N).put RH,((B7.new N).other U).mono (by omega),by rw[zw oR];exact(zf N) _ _ O7,zg,?_,fun pq a1=>?_,by rw[zY,Y];rfl⟩
   ·rw[zV]
    refine Reps.snoc ?_ (Reps.keep st (xB as) rp)
    refine⟨T,_,rfl,u5 ?_,_,_,rfl,rfl,_,_,rfl,rfl,rfl⟩
    rw[zw (fun zz=>by rw[zz,R7] at N;cases N)]
    exact zg
   ·rcases qJ.mp a1 with w1 | w1
    ·exact bo pq w1
    ·rw[zK.mp w1]
     exact⟨kk.toNat,(kk+1+q).toNat,by omega,a9,aa⟩
  ·rintro σ H5 ⟨as,J,v4,v5,rfl,S5,B5,O5,R5,rp,bo,Y⟩
   have xl:J.length=as.length:=by rw[rp.len,zr]
   refine⟨_,rfl,_,rfl,_,rfl,b,4,_,rfl,B5,by omega,by decide,by decide,fun r9 H6 af ag B6 L=>⟨rfl,.inr ⟨_,rfl,_,rfl,R,J,rfl,u4 (L _ _ R5 U),fun s1 M=>?_⟩⟩⟩
   have R6:=L _ _ R5 U;obtain⟨t,et⟩:∃t:Nat,jS J none (some (if decide (V.int r9=V.int 0)=true then(1:Int) else 0))=J.take t/\t<=1:=by
    unfold jS;by_cases hd:decide (V.int r9=V.int 0)=true
    ·rw[zq hd,show(some (1:Int))=some ((1:Nat):Int) from rfl,HT.sIx_nat,HT.sIx_none]
     refine⟨min 1 J.length,by simp,by omega⟩
    ·rw[zo hd,show(some (0:Int))=some ((0:Nat):Int) from rfl,HT.sIx_nat,HT.sIx_none]
     refine⟨0,by simp,by omega⟩
   rw[et.1];have st:SameT H5 H6:=.draw B5 L;have ab:=Reps.keep st (xB as) rp;have tl:(J.take t).length<=1:=by rw[jO];omega
   refine⟨R,s1,_,_,rfl,rfl,(zf M) _ _ R6,zg,by omega,fun c1 a0=>⟨c1,_,rfl,.inl ⟨u4 zg,fun p hp=>?_⟩⟩⟩
   have sm:=((zf (o:=.lst (J.take t)) M).trans (zf (o:=.lst (J++J.take t)) a0)).trans (zf (o:=.tup (J++J.take t)) hp);refine k p (as++as.take t) D _ ((((S5.trans L).new M).new a0).new hp) ((((B6.new M).new a0).new hp).mono (by omega)) ⟨p,_,rfl,u5 zg,?_⟩ op (fun pq a1=>?_) (by rw[zY,jO];omega)
   ·have a4:=Reps.keep (SameT.of sm) (xB as) ab
    have rt:=Reps.take t a4;rw[<- XI] at rt;have:=Reps.app a4 rt;rw[<- zV] at this;exact this
   ·rcases qJ.mp a1 with w1 | w1
    ·exact bo pq w1
    ·exact bo pq (QS w1)
structure wq where
 k:Str
 x:Int
 y:Int
structure zdU where
 k:Str
 x:Int
 y:Int
 m:Int
def xt(p:wq):Dat:=.tup [.str p.k,.tup [.int p.x,.int p.y]]
def yy(p:zdU):Dat:=.tup [.str p.k,.tup [.int p.x,.int p.y],.int p.m]
theorem vh:∀(as:List zdU),Dat.imms (as.map yy)=true
 | []=>rfl
 | p::as=>by
  show(Dat.imm (yy p)&&Dat.imms (as.map yy))=true;rw[vh as];rfl
theorem xf:∀(as:List wq),Dat.imms (as.map xt)=true
 | []=>rfl
 | p::as=>by
  show(Dat.imm (xt p)&&Dat.imms (as.map xt))=true;rw[xf as];rfl
def inP(x y:Int):Prop:=0<=x/\x<=1000/\0<=y/\y<=1000
inductive Vs(K:W.Frag)(B:List V)(H:Hp)(Q:VK):Prop
 | mk (b t ps:Addr) (D:Bool) (n:Int) (c:List Str) (g:List wq) (_:B=[.ref b,.ref t,.ref ps,.bl D]) (_:BoxAt H b n) (_:n<900000) (_:t≠b) (_:Row H t c) (_:1<=c.length) (_:c.length<=12) (_:Rep K H (.tup (g.map xt)) (.ref ps)) (_:g.length<=100) (_:∀(p:Addr) (s:List zdU) (A:List Str) l,SameB b H l->BoxAt l b (n+400)->Rep K l (.tup (s.map yy)) (.ref p)->(s.map (·.k)).Perm (c++A)->(∀e∈A,e∈c)->s.length<=40->(∀f∈s,Nm f.k/\inP f.x f.y/\0<=f.m/\f.m<=400)->Q (.ref p) l):Vs K B H Q
def zcc(K:W.Frag):Sp:=fun c H Q _=>Vs K c H Q
theorem zcm:zG ["_law_box_here","_law_kinds_here","_law_parts","_law_plenty","_law_great","_law_more","_law_some","_law_found","_law_kind","_law_need","_law_many"] ["_law_box_here","_law_kinds_here","_law_parts","_law_plenty"] (zx (topL 35)):=u0
theorem zbY{ns:List Str}{i:Int}(h:0<=i)(l:i<ns.length):∃x,atI (ns.map V.str) i=some (.str x)/\x∈ns:=by
 obtain⟨v,g,c⟩:=Xy (xs:=ns.map V.str) h (by rw[zr];exact l)
 rw[zZ] at c;obtain⟨x,hx,rfl⟩:=jd.mp c;exact⟨x,g,jc hx⟩
theorem zhg{a c r:Int}(h:0<=r)(A:r<3)(g:0<=a)(l:a<=400)(s:0<=c)(t:c<=400):∃z:Int,atI [V.int a,V.int c,V.int 400] r=some (.int z)/\0<=z/\z<=400:=by
 have hc:r=0\/r=1\/r=2:=by omega
 rcases hc with rfl | rfl | rfl
 ·exact⟨a,rfl,g,l⟩
 ·exact⟨c,rfl,s,t⟩
 ·exact⟨400,rfl,by omega,by omega⟩
def zaH(b:_)(l:_)(ps:_)(s:_)(r:_)(H:_)(n:_):=fun(t:St) (g:Hp)=>(Ex1 fun(c:Int)=>An5 (t=[some (.ref b),some (.ref l),some (.ref ps),some (.bl s),some (.bl (decide (V.int r=V.int 0))),some (.int c),none,none,none,none,none]) (0<=c) (c<=20) (SameB b H g) (BoxAt g b (n+2)):Prop)
theorem zer{f:Addr}{fd:FuncData}(F:Fun K "_law_feeders" "_law_feeders" (topL 35) f fd)(B:Blt I)(J:Dfn P w K I G "_law_take" 1 ["_law_box_here","_law_size"] xY)(O:Dfn P w K I G "_law_shuffled" 2 ["_law_box_here","_law_some"] (J3 K))(a2:Dfn P w K I G "_law_place" 2 ["_law_box_here","_law_taken"] (yj K)):FnOk P w K I G CX0 3 f fd ["_law_box_here","_law_kinds_here","_law_parts","_law_plenty"] (zcc K):=by
 have nd:=zcm.nd;refine F.ok zcm (fun vs H Q E h=>?_) (fun b0 A av s H vs Q E hr h=>?_)
 ·obtain⟨b,ks,ps,pl,n,t,N,rfl,_⟩:=h
  rfl
 ·obtain⟨b,ks,ps,pl,n,t,N,rfl,B0,hn,nk,Rk,k0,k1,hp,lp,k⟩:=h
  have az:=bG100000;have al:=bGe;have ek:(t.map V.str).length=t.length:=zr ..;refine⟨_,(zi (zB (i:=4) nd rfl (Or.inl rfl) (qQ xk (zm J hr.m rfl (zd (pv 0) (zd zj ze))) zj (qb _)))
   (zi (Xf (zB (i:=5) nd rfl (Or.inl rfl) (zm J hr.m rfl (zd (pv 0) (zd (vc (jD (pv 4)) (zF xo zj (zv zy rfl B.len boot_len (zd (pv 1) ze))) zj) ze)))))
   (zi (zB (i:=6) nd rfl (Or.inl rfl) (zF Xh (pv 1) (je ["_law_kinds_here","_law_box_here"] [1,0] rfl rfl (by kernel_rfl) (qv rfl B.range (zd (pv 5) ze)) (fun _ _ _ _=>qh) (fun _ _ _ _=>(zJ (jG (K:=K) rfl) (pv 1) (zm J hr.m rfl (zd (pv 2) (zd (zv (wJ (K:=K) rfl) rfl B.len boot_len (zd (pv 1) ze)) ze))) (fun _ _=>rfl))))))
   (zi (zB (i:=7) nd rfl (Or.inl rfl) (qI ze))
   (zi (qW jK rfl (qV (zm O hr.m rfl (zd (pv 0) (zd (pv 6) ze)))) (zH (i:=8) nd rfl (Or.inr rfl))
   (zi (zB (i:=9) nd rfl (Or.inl rfl) (zv zy rfl B.len boot_len (zd (je ["_law_kind"] [8] rfl rfl (by kernel_rfl) (vT (pv 2)) (fun _ _ _ _=>(Qa (qw xk (zJ (wB (K:=K) rfl) (pv 0) zj (fun _ _=>rfl)) (pv 1) (qb _)))) (fun _ _ _ _=>(pv 0))) ze)))
    (zi (Xf (zB (i:=10) nd rfl (Or.inl rfl) (vc (jD (pv 3)) (zJ z6 (qI (zd (pv 9) (zd (zF qd (pv 9) (zm J hr.m rfl (zd (pv 0) (zd zj ze)))) (zd zj ze)))) (zm J hr.m rfl (zd (pv 0) (zd zj ze))) (fun _ _=>rfl)) (zm J hr.m rfl (zd (pv 0) (zd zj ze))))))
    (zu (vw (Qb QF QY QX vd (pv 7) (zd (qG (zd (pv 8) (zd (zm a2 hr.m rfl (zd (pv 0) (zd (qI ze) ze))) (zd (pv 10) ze)))) ze)))))))
   (zu (zE (qM jH rfl B.tuple jw (zd (pv 7) ze))))))))),?_⟩
  refine⟨_,rfl,b,8,n,rfl,B0,by omega,by decide,by decide,fun r H1 r0 r1 B1 S1=>⟨rfl,?_⟩⟩
  have ah:=Rk.draw S1 nk;refine⟨zaH b ks ps pl r H n,?_,?_⟩
  ·refine⟨_,rfl,_,rfl,_,rfl,jE (fun c=>?_) (fun c=>?_)⟩
   ·exact⟨_,rfl,ks,_,rfl,.inl (u4 ah.1),_,_,rfl,rfl,b,_,_,rfl,B1,by omega,by omega,by omega,fun U H2 a0 a1 B2 S2=>⟨_,rfl,a0,by omega,S1.trans S2,B2.mono (by omega)⟩⟩
   ·exact⟨b,4,_,rfl,B1,by omega,by decide,by decide,fun U H2 a0 a1 B2 S2=>⟨_,rfl,a0,by omega,S1.trans S2,B2.mono (by omega)⟩⟩
  rintro σ' H2 ⟨U,rfl,b6,b7,S2,B2⟩;clear S1 B1 ah;have a5:=Rk.draw S2 nk;refine⟨_,rfl,_,rfl,_,rfl,(by rw[al];omega),(by rw[al];omega),vf (fun j Y H3=>Ex1 fun(M:List Str)=>An5 (Y=M.map V.str) (M.length=j) ((∀x∈M,x∈t)) (SameB b H2 H3) (BoxAt H3 b (n+2+j))) ⟨[],rfl,rfl,(fun x h=>nomatch h),u7 _ _,B2.mono (by omega)⟩ ?_ ?_⟩
  ·rintro j Y H3 hj ⟨M,rfl,el,ee,S3,B3⟩
   refine⟨rfl,⟨_,rfl,_,rfl,_,rfl,ks,_,rfl,.inl (u4 (a5.draw S3 nk).1),b,_,_,rfl,B3,by omega,by omega,by omega,fun q H4 q0 q1 B4 S4=>?_⟩⟩
   obtain⟨y,ey,my⟩:=zbY (ns:=t) q0 (by omega)
   refine⟨ks,_,_,_,rfl,rfl,u4 (a5.draw (S3.trans S4) nk).1,ey,by rw[zr,el];omega,M++[y],by rw[zV];rfl,by rw[zY,el];rfl,fun x hx=>?_,S3.trans S4,B4.mono (by omega)⟩
   rcases qJ.mp hx with pq | pq
   ·exact ee x pq
   ·rw[zK.mp pq];exact my
  rintro Y H3 ⟨M,rfl,el,ee,S3,B3⟩;refine⟨by rw[zr,el];omega,fun D hD=>?_⟩
  have aj:=(S2.trans S3).new (o:=.lst (M.map V.str)) hD;have ai:=(a5.draw S3 nk).same (zf (o:=.lst (M.map V.str)) hD);refine⟨ks,D,_,_,rfl,rfl,ai.1,zg,by rw[ek,zr,el];omega,fun sm hs=>?_⟩
  have B4:=(B3.new (o:=.lst (M.map V.str)) hD).new (o:=.lst (t.map V.str++M.map V.str)) hs;have S4:=aj.new (o:=.lst (t.map V.str++M.map V.str)) hs;have ns:=(B3.new (o:=.lst (M.map V.str)) hD).nne hs;have M4:upd (upd H3 D (.lst (M.map V.str))) sm (.lst (t.map V.str++M.map V.str)) sm=some (.lst ((t++M).map V.str)):=by rw[zg,zV]
  generalize upd (upd H3 D (.lst (M.map V.str))) sm (.lst (t.map V.str++M.map V.str))=H4 at B4 S4 M4;clear S2 S3 aj a5 ai B2 B3 hD hs;refine⟨le0,fun R hR=>?_⟩
  have nR:=B4.nne hR;have RH:H R=none:=S4.none hR nR;have a6:((t++M).map V.str).length<=32:=by rw[zr,zY,el];omega
  refine⟨_,rfl,_,rfl,b,sm,_,_,rfl,B4.new hR,by omega,ns,(zf hR) _ _ M4,by omega,fun l ys H5 S5 B5 nl lN hl pm=>?_⟩
  obtain⟨sh,ac,rfl⟩:=jZ pm rfl;have ap:=(S4.new (o:=.lst []) hR).trans S5;have R5:H5 R=some (.lst []):=S5 _ _ zg nR;have lR:l≠R:=fun z=>by rw[z,zg] at lN;cases lN
  have bb:sh.length<=32:=by rw[ac.length_eq];rw[zr] at a6;exact a6
  have ay:∀x∈sh,Nm x:=fun x hx=>by
   rcases qJ.mp (ac.mem_iff.mp hx) with q | q
   ·exact Rk.2 x q
   ·exact Rk.2 x (ee x q)
  clear pm M4 S4 S5 B4 hR;refine⟨l,rfl,⟨_,u4 hl⟩,yw (K:=K) (a:=l) (xs:=sh.map V.str) (fun i σ H6=>Ex6 fun(fs:List zdU) (xs:List V) (v6 v8 v9 ae:Option V)=>An8 (σ=[some (.ref b),some (.ref ks),some (.ref ps),some (.bl pl),some (.bl (decide (V.int r=V.int 0))),some (.int U),v6,some (.ref R),v8,v9,ae]) (SameB b H H6) (BoxAt H6 b (n+60+6*i)) (H6 l=some (.lst (sh.map V.str))) (H6 R=some (.lst xs)) (Reps K H6 (fs.map yy) xs) (fs.map (·.k)=sh.take i) (∀f∈fs,Nm f.k/\inP f.x f.y/\0<=f.m/\f.m<=400))
   ⟨[],[],_,_,_,_,rfl,ap,B5.mono (by omega),hl,R5,rfl,rfl,(fun f h=>nomatch h)⟩ (fun i σ H6 _ ⟨_,_,_,_,_,_,_,_,_,h,_,_,_,_⟩=>u4 h) ?_ ?_⟩
  ·rintro i x σ H6 hx ⟨fs,xs,v6,v8,v9,ae,rfl,S6,B6,L6,R6,rp,fk,fa⟩
   rw[zZ] at hx;obtain⟨kd,aa,rfl⟩:=jd.mp hx;have hi:=(zT.mp aa).1;have fl:fs.length=i:=by
    have:=congrArg List.length fk;rw[zr,jO] at this;omega
   have xl:xs.length=i:=by rw[rp.len,zr,fl]
   have au:=Rep.keep (d:=.tup (N.map xt)) (u9 B0 S6) (xf N) hp;obtain⟨_,an,ep,hq,am⟩:=au;cases ep;have b8:an.length=N.length:=by rw[am.len,zr]
   refine⟨_,rfl,ps,rfl,⟨_,hq⟩,Qn (K:=K) (a:=ps) (xs:=an) (fun j Y H7=>Y.length<=j/\Same H6 H7) ⟨zC _,u6 _⟩ (fun j Y H7 ⟨_,s7⟩=>s7.sqT hq) ?_ ?_⟩
   ·rintro j v Y H7 hv ⟨zl,s7⟩
    have hj:=(zT.mp hv).1;obtain⟨d,hd,rd⟩:=am.get hv;rw[zZ] at hd;obtain⟨pt,_,rfl⟩:=jd.mp hd;obtain⟨c,b5,rfl,hc,u1,ba,e1,e2,e3⟩:=rd;subst e1;cases(show u1=.str pt.k from e2)
    refine⟨rfl,⟨_,rfl,c,_,_,.str pt.k,rfl,rfl,s7.sqT hc,qy (j:=0) rfl,_,rfl,rfl,_,rfl,jE (fun dd=>⟨_,rfl,by omega,by rw[zY];simp;omega,s7⟩) (fun dd=>⟨by omega,s7⟩)⟩⟩
   rintro Y H7 ⟨zl,s7⟩;refine⟨by omega,fun D2 aq=>⟨D2,Y,rfl,.inl (u4 zg),?_⟩⟩
   have s8:=s7.trans (zf (o:=.lst Y) aq);have B8:=B6.same s8;generalize upd H7 D2 (.lst Y)=H8 at s8 B8;refine⟨fun σ' H'=>Ex1 fun(L:Int)=>An5 (σ'=[some (.ref b),some (.ref ks),some (.ref ps),some (.bl pl),some (.bl (decide (V.int r=V.int 0))),some (.int U),v6,some (.ref R),some (.str kd),some (.int (Y.length:Int)),some (.int L)]) (0<=L) (L<=400) (SameB b H8 H') (BoxAt H' b (n+60+6*i+2)),?_,?_⟩
   ·refine⟨_,rfl,_,rfl,jE (fun c=>?_) (fun c=>?_)⟩
    ·refine⟨_,rfl,_,rfl,_,rfl,b,9,_,rfl,B8,by omega,by decide,by decide,fun q9 H9 a0 a1 B9 S9=>⟨_,_,rfl,rfl,le3,fun l3 h3=>⟨_,rfl,b,3,_,rfl,B9.new h3,by omega,by decide,by decide,fun q3 af c0 c1 a7 a3=>?_⟩⟩⟩
     have ao:=a3 l3 _ zg (B9.nne h3);obtain⟨z,ez,z0,z1⟩:=zhg (a:=(Y.length:Int)) (c:=(Y.length:Int)+q9) c0 c1 (by omega) (by omega) (by omega) (by omega)
     exact⟨l3,_,_,_,rfl,rfl,u4 ao,ez,z,rfl,z0,z1,(S9.new h3).trans a3,a7.mono (by omega)⟩
    ·exact⟨_,rfl,b,4,_,rfl,B8,by omega,by decide,by decide,fun q9 H9 a0 a1 B9 S9=>⟨q9,rfl,a0,by omega,S9,B9.mono (by omega)⟩⟩
   rintro σ' H9 ⟨L,rfl,y0,y1,S9,B9⟩;have ak:=(SameB.of (b:=b) s8).trans S9;have R9:=ak _ _ R6 nR;refine⟨_,rfl,.inl ⟨rfl,_,u4 R9⟩,_,rfl,_,rfl,le0,fun e he=>⟨b,e,_,[],rfl,B9.new he,by omega,B9.nne he,zg,qk _,(fun a h=>nomatch h),fun pp af a3 a7 b9 pa=>⟨_,rfl,le3,fun T hT=>?_⟩⟩⟩
   obtain⟨px,py,a4,b1,b2,b3,b4⟩:=pa;have a8:=a3 _ _ ((zf he) _ _ R9) nR;have ag:=(zf (o:=.tup [.str kd,.ref pp,.int L]) hT) _ _ a8;refine⟨R,xs,.ref T,rfl,rfl,ag,by omega,?_⟩
   have a9:=(ak.new he).trans (a3.new (o:=.tup [.str kd,.ref pp,.int L]) hT);have st:SameT H6 (upd (upd af T (.tup [.str kd,.ref pp,.int L])) R (.lst (xs++[.ref T]))):=(u9 B6 a9).trans (.put ag);have TR:T≠R:=fun z=>by rw[z,a8] at hT;cases hT
   have aw:pp≠R:=fun z=>by rw[z,a8] at a4;cases a4
   have ax:pp≠T:=fun z=>by rw[z,hT] at a4;cases a4
   refine⟨fs++[⟨kd,px,py,L⟩],_,_,_,_,_,rfl,(S6.trans a9).put RH,((a7.new hT).other nR).mono (by omega),by rw[zw lR];exact a9 _ _ L6 nl,zg,?_,?_,fun g ar=>?_⟩
   ·rw[zV]
    refine Reps.snoc ?_ (Reps.keep st (vh fs) rp)
    refine⟨T,_,rfl,u5 (by rw[zw TR];exact zg),_,_,rfl,rfl,_,_,rfl,⟨pp,_,rfl,u5 (by rw[zw aw,zw ax];exact a4),_,_,rfl,rfl,_,_,rfl,rfl,rfl⟩,_,_,rfl,rfl,rfl⟩
   ·rw[zV,fk]
    obtain⟨h1,h2⟩:=zT.mp aa;rw[<- QZ h1,h2];rfl
   ·rcases qJ.mp ar with q | q
    ·exact fa g q
    ·rw[zK.mp q]
     exact⟨ay kd (jc aa),⟨b1,b2,b3,b4⟩,y0,y1⟩
  ·rintro σ H6 ⟨fs,xs,v6,v8,v9,ae,rfl,S6,B6,L6,R6,rp,fk,fa⟩
   rw[zr,j7] at fk;have fl:fs.length<=32:=by
    have:=congrArg List.length fk;rw[zr] at this;omega
   refine⟨_,rfl,R,xs,rfl,.inl ⟨u4 R6,fun p ab=>?_⟩⟩
   refine k p fs M _ (S6.new ab) ((B6.new ab).mono (by rw[zr] at *;omega)) ⟨p,_,rfl,u5 zg,Reps.keep (SameT.of (zf ab)) (vh fs) rp⟩ (by rw[fk];exact ac) ee (by omega) fa
structure Job where
 gx:Int
 gy:Int
 hd:Int
 fs:List zdU
 ps:List wq
 as:List (Nat×Nat)
def Xk(J:Job):Dat:=.tup [.tup [.int J.gx,.int J.gy],.int J.hd,.tup (J.fs.map yy),.tup (J.ps.map xt),ZS J.as]
theorem zdc(J:Job):(Xk J).imm=true:=by
 show(true&&(true&&(Dat.imms (J.fs.map yy)&&(Dat.imms (J.ps.map xt)&&(Dat.imms (J.as.map Jz)&&true)))))=true;rw[vh,xf,xB];rfl
structure Q7(J:Job)(ord:List Nat):Prop where
 gate:inP J.gx J.gy
 hd0:1<=J.hd
 hd1:J.hd<=4
 fl:J.fs.length<=40
 fa:∀f∈J.fs,Nm f.k/\inP f.x f.y/\0<=f.m/\f.m<=400
 pl:J.ps.length<=60
 pa:∀p∈J.ps,Nm p.k/\inP p.x p.y/\∃f∈J.fs,f.k=p.k
 op:ord.Perm (List.range J.ps.length)
 bo:zdV ord J.as
 al:J.as.length<=300
 f0:1<=J.fs.length
theorem zef{r:Int}(c:0<=r)(g:r<4):∃z:Int,atI [V.int 3,V.int 3,V.int 3,V.int 12] r=some (.int z)/\3<=z/\z<=12:=by
 have hc:r=0\/r=1\/r=2\/r=3:=by omega
 rcases hc with rfl | rfl | rfl | rfl
 ·exact⟨3,rfl,by decide,by decide⟩
 ·exact⟨3,rfl,by decide,by decide⟩
 ·exact⟨3,rfl,by decide,by decide⟩
 ·exact⟨12,rfl,by decide,by decide⟩
inductive YJ(K:W.Frag)(t:List V)(H:Hp)(Q:VK):Prop
 | mk (b:Addr) (g c n:Int) (A:Bool) (_:t=[.ref b,.int g,.int c,.bl A]) (_:BoxAt H b n) (_:n<500000) (_:0<=g) (_:g<=60) (_:0<=c) (_:c<=60) (_:∀(p:Addr) (J:Job) (s:List Nat) l,SameB b H l->BoxAt l b (n+3000)->Rep K l (Xk J) (.ref p)->Q7 J s->Q (.ref p) l):YJ K t H Q
def ze6(K:W.Frag):Sp:=fun c H Q _=>YJ K c H Q
theorem zfh:zG ["_law_box_here","_law_few","_law_most","_law_plenty","_law_many","_law_kinds_here","_law_parts","_law_feeders_here"] ["_law_box_here","_law_few","_law_most","_law_plenty"] (zx (topL 37)):=u0
def zaG(b:_)(g:_)(c:_)(s:_)(H:_)(n:_):=fun(t:St) (l:Hp)=>(Ex1 fun(m:Int)=>An5 (t=[some (.ref b),some (.int g),some (.int c),some (.bl s),some (.int m),none,none,none]) (0<=m) (m<=60) (SameB b H l) (BoxAt l b (n+2)):Prop)
theorem zge{f:Addr}{fd:FuncData}(F:Fun K "_law_job" "_law_job" (topL 37) f fd)(B:Blt I)(g:Dfn P w K I G "_law_take" 1 ["_law_box_here","_law_size"] xY)(Y:Dfn P w K I G "_law_names" 3 ["_law_box_here","_law_many"] YE)(a2:Dfn P w K I G "_law_place" 2 ["_law_box_here","_law_taken"] (yj K))(O:Dfn P w K I G "_law_places" 3 ["_law_box_here","_law_many"] Vp)
  (M:Dfn P w K I G "_law_feeders" 3 ["_law_box_here","_law_kinds_here","_law_parts","_law_plenty"] (zcc K)) (N:Dfn P w K I G "_law_aheads" 3 ["_law_box_here","_law_many"] (Vu K)):FnOk P w K I G CX0 4 f fd ["_law_box_here","_law_few","_law_most","_law_plenty"] (ze6 K):=by
 have nd:=zfh.nd;refine F.ok zfh (fun vs H Q E h=>?_) (fun b7 A ay s H vs Q E hr h=>?_)
 ·obtain⟨b,ag,a6,n,pl,rfl,_⟩:=h
  rfl
 ·obtain⟨b,ag,a6,n,pl,rfl,B0,hn,f0,f1,b8,b9,k⟩:=h
  have b5:=bG100000;refine⟨_,(zi (Xf (zB (i:=4) nd rfl (Or.inl rfl) (zm g hr.m rfl (zd (pv 0) (zd (zF qd (vc (qw zcM (zm g hr.m rfl (zd (pv 0) (zd zj ze))) zj (qb _)) (pv 1) (pv 2)) zj) ze)))))
   (zi (zB (i:=5) nd rfl (Or.inr rfl) (zm Y hr.m rfl (zd (pv 0) (zd (zF qd zj (zm g hr.m rfl (zd (pv 0) (zd (zJ z6 (qI (zd zj (zd zj (zd zj (zd zj ze))))) (zm g hr.m rfl (zd (pv 0) (zd zj ze))) (fun _ _=>rfl)) ze)))) ze))))
   (zi (zB (i:=6) nd rfl (Or.inl rfl) (qM jH rfl B.tuple jw (zd (je ["_law_kinds_here","_law_box_here"] [5,0] rfl rfl (by kernel_rfl) (qV (zm O hr.m rfl (zd (pv 0) (zd (pv 4) ze)))) (fun _ _ _ _=>qh) (fun _ _ _ _=>(qG (zd (zJ (jG (K:=K) rfl) (pv 1) (zm g hr.m rfl (zd (pv 2) (zd (zv (wJ (K:=K) rfl) rfl B.len boot_len (zd (pv 1) ze)) ze))) (fun _ _=>rfl)) (zd (pv 0) ze))))) ze)))
   (zi (zB (i:=7) nd rfl (Or.inl rfl) (zm M hr.m rfl (zd (pv 0) (zd (pv 5) (zd (pv 6) (zd (pv 3) ze))))))
   (zu (zE (qG (pa5 (zm a2 hr.m rfl (zd (pv 0) (zd (qI ze) ze))) (zF qd zj (zm g hr.m rfl (zd (pv 0) (zd zj ze)))) (pv 7) (pv 6) (zm N hr.m rfl (zd (pv 0) (zd (pv 4) ze))))))))))),?_⟩
  refine⟨zaG b ag a6 pl H n,?_,?_⟩
  ·refine⟨_,rfl,_,rfl,b,8,n,rfl,B0,by omega,by decide,by decide,fun r H1 r0 r1 B1 S1=>⟨_,_,rfl,rfl,_,rfl,jE (fun c=>⟨_,rfl,_,_,rfl,rfl,?_⟩) (fun c=>⟨_,rfl,_,_,rfl,rfl,?_⟩)⟩⟩
   ·exact⟨b,_,_,rfl,B1,by omega,by omega,by omega,fun m H2 a0 a1 B2 S2=>⟨m,rfl,a0,by omega,S1.trans S2,B2.mono (by omega)⟩⟩
   ·exact⟨b,_,_,rfl,B1,by omega,by omega,by omega,fun m H2 a0 a1 B2 S2=>⟨m,rfl,a0,by omega,S1.trans S2,B2.mono (by omega)⟩⟩
  rintro σ' H2 ⟨m,rfl,m0,m1,S2,B2⟩;refine⟨_,rfl,_,rfl,le4,fun l1 h1=>⟨_,rfl,b,4,_,rfl,B2.new h1,by omega,by decide,by decide,fun r H3 r0 r1 B3 S3=>?_⟩⟩
  have L3:=S3 l1 _ zg (B2.nne h1);obtain⟨z,ez,z0,z1⟩:=zef r0 r1;refine⟨l1,_,_,_,rfl,rfl,u4 L3,ez,b,z,_,rfl,B3,by omega,by omega,by omega,fun q H4 q0 q1 B4 S4=>⟨_,_,rfl,rfl,b,1+q,_,rfl,B4,by omega,by omega,by omega,fun ks J H5 S5 B5 nk kN Rk kl=>?_⟩⟩
  have af:=(((S2.new h1).trans S3).trans S4).trans S5;have ek:(J.map V.str).length=J.length:=zr ..;clear S2 S3 S4 S5 B2 B3 B4 L3 h1;refine⟨_,rfl,_,rfl,b,m,_,rfl,B5,by omega,m0,by omega,fun l as H6 S6 B6 nl lN hl pa al=>?_⟩
  have a5:=Rk.draw S6 nk;refine⟨l,rfl,⟨_,u4 hl⟩,jq (K:=K) (a:=l) (xs:=as.map V.ref) (fun j U H7=>Ex1 fun(L:List wq)=>An5 (Reps K H7 (L.map xt) U) (L.length=j) ((∀q∈L,q.k∈J/\inP q.x q.y)) (SameB b H6 H7) (BoxAt H7 b (n+700+j))) ⟨[],rfl,rfl,(fun x h=>nomatch h),u7 _ _,B6.mono (by omega)⟩ (fun j U H7 ⟨_,_,_,_,s7,_⟩=>u4 (s7 _ _ hl nl)) ?_ ?_⟩
  ·rintro j x U H7 hx ⟨L,rq,ql,qa,S7,B7⟩
   rw[zZ] at hx;obtain⟨a,ha,rfl⟩:=jd.mp hx;have hj:=(zT.mp ha).1;have zl:U.length=j:=by rw[rq.len,zr,ql]
   refine⟨rfl,⟨_,rfl,_,rfl,_,rfl,ks,_,rfl,.inl (u4 (a5.draw S7 nk).1),b,_,_,rfl,B7,by omega,by omega,by omega,fun q H8 c0 c1 B8 S8=>?_⟩⟩
   obtain⟨y,ey,my⟩:=zbY (ns:=J) c0 (by omega)
   obtain⟨px,py,ax,b1,b2,b3,b4⟩:=(pa a (jc ha)).draw B6 (S7.trans S8);refine⟨ks,_,_,_,rfl,rfl,u4 (a5.draw (S7.trans S8) nk).1,ey,_,rfl,le2,fun T hT=>⟨by omega,L++[⟨y,px,py⟩],?_,by rw[zY,ql];rfl,fun q hq=>?_,(S7.trans S8).new hT,(B8.new hT).mono (by omega)⟩⟩
   ·rw[zV]
    have rT:Rep K (upd H8 T (.tup [.str y,.ref a])) (xt ⟨y,px,py⟩) (.ref T):=⟨T,_,rfl,u5 zg,_,_,rfl,rfl,_,_,rfl,⟨a,_,rfl,u5 ((zf hT) _ _ ax),_,_,rfl,rfl,_,_,rfl,rfl,rfl⟩,rfl⟩;exact Reps.snoc rT (Reps.keep ((u9 B7 S8).trans (.of (zf hT))) (xf L) rq)
   ·rcases qJ.mp hq with w1 | w1
    ·exact qa q w1
    ·rw[zK.mp w1];exact⟨my,b1,b2,b3,b4⟩
  rintro U H7 ⟨L,rq,ql,qa,S7,B7⟩;rw[zr] at ql;have B7:BoxAt H7 b (n+800):=B7.mono (by rw[zr];omega)
  have zl:U.length=as.length:=by rw[rq.len,zr,ql]
  refine⟨by omega,fun D hD=>⟨D,U,rfl,.inl ⟨u4 zg,fun ps ah=>?_⟩⟩⟩
  have sm:=(zf (o:=.lst U) hD).trans (zf (o:=.tup U) ah);have S8:=(af.trans S6).trans (S7.trans (SameB.of (b:=b) sm));have B8:=B7.same sm;have a9:=(a5.draw S7 nk).same sm;have P8:Rep K (upd (upd H7 D (.lst U)) ps (.tup U)) (.tup (L.map xt)) (.ref ps):=⟨ps,_,rfl,u5 zg,Reps.keep (.of sm) (xf L) rq⟩;generalize upd (upd H7 D (.lst U)) ps (.tup U)=H8 at sm S8 B8 a9 P8;clear af S6 S7 B5 B6 B7 Rk a5 rq hD ah pa hl;refine⟨_,rfl,_,rfl,_,rfl,_,rfl,b,ks,ps,pl,_,J,L,rfl,B8,by omega,nk,a9,by omega,by omega,P8,by omega,fun fp fs es H9 S9 B9 F9 a3 ee fl fa=>?_⟩
  have P9:=Rep.keep (d:=.tup (L.map xt)) (u9 B8 S9) (xf L) P8;refine⟨_,rfl,le0,fun t ht=>⟨b,t,_,[],rfl,B9.new ht,by omega,B9.nne ht,zg,qk _,(fun a h=>nomatch h),fun gp aq ae a7 gN ga=>?_⟩⟩
  obtain⟨gx,gy,av,g1,g2,g3,g4⟩:=ga;refine⟨_,rfl,b,4,_,rfl,a7,by omega,by decide,by decide,fun hd b6 d0 d1 a8 aa=>⟨_,_,rfl,rfl,_,rfl,_,rfl,_,rfl,_,rfl,b,m,_,rfl,a8,by omega,m0,by omega,fun ap ac ai a4 ab am aj op bo au=>⟨leN (by show 5<=1000;decide),fun p hp=>?_⟩⟩⟩
  have t9:SameT H9 a4:=((SameT.of (zf ht)).trans (.draw (B9.new ht) ae)).trans ((u9 a7 aa).trans (.draw a8 ab));have b0:SameT aq a4:=(u9 a7 aa).trans (.draw a8 ab);have up:Same a4 (upd a4 p (.tup [.ref gp,.int (1+hd),.ref fp,.ref ps,.ref ap])):=zf hp;have an:=Rep.keep (d:=.tup (fs.map yy)) (t9.trans (.of up)) (vh fs) F9;have ar:=Rep.keep (d:=.tup (L.map xt)) (t9.trans (.of up)) (xf L) P9;have ak:=Rep.keep (d:=ZS ac) (.of up) (xB ac) aj;have ao:=(b0.trans (.of up)) gp _ av (fun xs h=>nomatch h)
  have az:L.length=m.toNat:=by omega
  have fk:∀kd∈J,∃f∈fs,f.k=kd:=fun kd aw=>by
   have:=a3.mem_iff.mpr (we es aw);obtain⟨f,hf,e⟩:=jg.mp this;exact⟨f,hf,e⟩
  refine k p ⟨gx,gy,1+hd,fs,L,ac⟩ ai _ (((S8.trans S9).trans ((SameB.of (zf ht)).trans ae)).trans ((aa.trans ab).new hp)) ((am.new hp).mono (by omega)) ?_ ?_
  ·exact⟨p,_,rfl,u5 zg,_,_,rfl,⟨gp,_,rfl,u5 ao,_,_,rfl,rfl,_,_,rfl,rfl,rfl⟩,_,_,rfl,rfl,_,_,rfl,an,_,_,rfl,ar,_,_,rfl,ak,rfl⟩
  ·refine⟨⟨g1,g2,g3,g4⟩,by show 1<=1+hd;omega,by show 1+hd<=4;omega,fl,fa,by show L.length<=60;omega,fun q hq=>?_,by show ai.Perm (List.range L.length);rw[az];exact op,bo,au,?_⟩
   ·obtain⟨hk,hi⟩:=qa q hq
    exact⟨a9.2 q.k hk,hi,fk q.k hk⟩
   ·have:=a3.length_eq
    rw[zr,zY] at this;show 1<=fs.length;omega
theorem jn{α:Type}{l:List α}{i:Nat}{x:α}(h:l[i]? =some x):l.take (i+1)=l.take i++[x]:=by
 obtain⟨g,c⟩:=zT.mp h;rw[<- c,QZ]
theorem Same.none{H c:Hp}{t:Addr}(s:Same H c)(h:c t=Option.none):H t=Option.none:=s.free h
def wU(os:List Nat):List V:=os.map fun i:Nat=>V.int (i:Int)
theorem zcY(os:List Nat):(wU os).length=os.length:=zr ..
theorem zbj(os:List Nat)(n:Nat):wU (os++[n])=wU os++[.int (n:Int)]:=by
 unfold wU;rw[zV];rfl
def dkC(c g:List Str):List (Key×V):=g.map fun k=>(Sum.inr k,V.int (c.count k))
theorem zeI(g c:List Str):(dkC g c).length=c.length:=zr _
theorem ZQ(g:List Str)(k:Str):∀c:List Str,vP (dkC g c) (Sum.inr k)=if k∈c then some (.int (g.count k)) else none
 | []=>by rw[zo (by simp)];rfl
 | m::c=>by
  by_cases h:m=k
  ·subst h
   rw[zq (by simp)]
   exact vQ rfl
  ·have e:vP (dkC g (m::c)) (Sum.inr k)=vP (dkC g c) (Sum.inr k):=vR (fun z=>h (XC z))
   rw[e,ZQ g k c];have:k∈m::c↔k∈c:=⟨fun z=>(zL.mp z).resolve_left fun y=>h y.symm,z9 _⟩
   by_cases l:k∈c
   ·rw[zq l,zq (this.mpr l)]
   ·rw[zo l,zo fun z=>l (this.mp z)]
theorem zeJ{c l:List Str}{k:Str}(h:k∈c->k∈l):(vP (dkC c l) (Sum.inr k)).getD (.int 0)=.int (c.count k):=by
 rw[ZQ];by_cases g:k∈l
 ·rw[zq g];rfl
 ·rw[zo g,zdN fun z=>g (h z)];rfl
def X7(c:List Str)(k:Str):List Str:=if k∈c then c else c++[k]
theorem zdP{c:List Str}{k j:Str}:j∈X7 c k↔j∈c\/j=k:=by
 unfold X7;by_cases h:k∈c
 ·rw[zq h]
  exact⟨.inl,fun z=>z.elim id fun e=>e▸h⟩
 ·rw[zo h,qJ,zK]
theorem zeS{g:List Str}{k:Str}(h:g.Nodup):(X7 g k).Nodup:=by
 unfold X7;by_cases c:k∈g
 ·rw[zq c];exact h
 ·rw[zo c]
  refine Zu.mpr ⟨h,by simp,fun a l b hb e=>?_⟩
  rw[zK.mp hb] at e;exact c (e▸l)
theorem zdQ(c:List Str)(k:Str):(X7 c k).length<=c.length+1:=by
 unfold X7;split
 ·omega
 ·rw[zY];exact zC _
theorem zeH{c s:List Str}(k:Str):xZ (dkC c s) (Sum.inr k) (.int ((c.count k:Int)+1))=dkC (c++[k]) (X7 s k):=by
 unfold X7;have t:((c++[k]).count k:Int)=(c.count k:Int)+1:=by rw[List.count_append];simp
 have A:∀j,j≠k->(c++[k]).count j=c.count j:=fun j g=>by rw[List.count_append,zdN (l:=[k]) (by simpa using g)];rfl
 by_cases h:k∈s
 ·rw[zq h]
  unfold xZ;rw[zq (by rw[yf,ZQ,zq h];rfl)]
  unfold dkC;rw[jT];refine QC fun j _=>?_
  show(if(Sum.inr j:Key)=Sum.inr k then((Sum.inr j:Key),V.int ((c.count k:Int)+1)) else(Sum.inr j,V.int (c.count j)))=_
  by_cases e:j=k
  ·subst e
   rw[zq rfl,t]
  ·rw[zo fun z=>e (XC z),A j e]
 ·rw[zo h,zcu _ (by rw[ZQ,zo h])]
  unfold dkC;rw[zV];congr 1
  ·refine QC fun j g=>?_
   rw[A j fun e=>h (e▸g)]
  ·show [((Sum.inr k:Key),V.int ((c.count k:Int)+1))]=[((Sum.inr k:Key),V.int ((c++[k]).count k))]
   rw[t]
def Wtd(H:Hp)(l c:List Str)(g:List V):Prop:=g.length=c.length/\∀(j:Nat) (k:Str),c[j]? =some k->∃T,g[j]? =some (.ref T)/\H T=some (.tup [.str k,.int (l.count k)])
theorem Wtd.same{H c:Hp}{g l:List Str}{t:List V}(h:Wtd H g l t)(s:Same H c):Wtd c g l t:=⟨h.1,fun j k e=>let ⟨T,a,b⟩:=h.2 j k e;⟨T,a,s _ _ b⟩⟩
def qx(J:Job):List Str:=J.ps.map wq.k
theorem yQ{H:Hp}{p:wq}{x:V}(h:Rep K H (xt p) x):∃a c,x=.ref a/\SqT K H a [.str p.k,.ref c]:=by
 obtain⟨a,M,rfl,q,E,L,g,A,N,D,l,B,t⟩:=h;subst g l;cases(show D=[] from t)
 cases(show E=_ from A)
 obtain⟨c,O,rfl,J,s⟩:=B;exact⟨a,c,rfl,q⟩
theorem vg{H:Hp}{J:Job}{A:Addr}(h:Rep K H (Xk J) (.ref A)):∃(g c ps as:Addr) (t pv:List V),SqT K H A [.ref g,.int J.hd,.ref c,.ref ps,.ref as]/\Rep K H (.tup [.int J.gx,.int J.gy]) (.ref g)/\SqT K H c t/\Reps K H (J.fs.map yy) t/\SqT K H ps pv/\Reps K H (J.ps.map xt) pv/\Rep K H (ZS J.as) (.ref as):=by
 obtain⟨a,xs,e,q,x0,r0,E,h0,x1,r1,L,h1,x2,r2,M,h2,x3,r3,N,h3,x4,r4,O,h4,Q⟩:=h;cases e;subst E L M N O;have l:r4=[]:=Q;subst l;have s:x1=.int J.hd:=h1;subst s;obtain⟨g,gx,rfl,gq⟩:=h0;obtain⟨c,Y,rfl,T,U⟩:=h2;obtain⟨ps,px,rfl,pq,pr⟩:=h3;obtain⟨as,D,rfl,B⟩:=h4;exact⟨g,c,ps,as,Y,px,q,⟨g,gx,rfl,gq⟩,T,U,pq,pr,⟨as,D,rfl,B⟩⟩
inductive Vm(K:W.Frag)(t:List V)(H:Hp)(Q:VK):Prop
 | mk (s:Addr) (J:Job) (_:t=[.ref s]) (_:Rep K H (Xk J) (.ref s)) (_:J.ps.length<=60) (_:∀(l:Addr) (c:List Str) (A:List V) g,H l=none->Same H g->g l=some (.lst A)->(c.Pairwise fun a b=>ltS a b=true)->(∀j,j∈c↔j∈qx J)->c.Nodup->c.length<=60->Wtd g (qx J) c A->Q (.ref l) g):Vm K t H Q
def Ww(K:W.Frag):Sp:=fun c H Q _=>Vm K c H Q
theorem zch:zG ["job","counts","part"] ["job"] (zx (topL 7)):=u0
theorem zaU{c g:List Str}{ps:List (Str×Int)}(h:ps.Perm (g.map fun k=>(k,(c.count k:Int)))):∃l:List Str,l.Perm g/\ps=l.map fun k=>(k,(c.count k:Int)):=jZ h rfl
def zaF(l:_)(d:_)(H:_)(J:_):=fun(i:Nat) (σ:St) (g:Hp)=>(Ex2 fun(s:Option V) (c:List Str)=>An6 (σ=[some (.ref l),some (.ref d),s]) (Same H g) (g d=some (.dK (dkC ((qx J).take i) c))) (c.Nodup) ((∀j,j∈c↔j∈(qx J).take i)) (c.length<=i):Prop)
theorem zem{f:Addr}{fd:FuncData}(F:Fun K "wanted_of" "wanted_of" (topL 7) f fd)(B:Blt I):FnOk P w K I G CX0 1 f fd ["job"] (Ww K):=by
 have nd:=zch.nd;refine F.ok zch (fun vs H Q E h=>?_) (fun a4 A a0 s H vs Q E hr h=>?_)
 ·obtain⟨jp,J,rfl,_⟩:=h
  rfl
 ·obtain⟨jp,J,rfl,rj,pl,k⟩:=h
  have N:=V0 hr;have a3:=bG100000;obtain⟨g,fs,ps,as,fv,a2,qj,_,qf,rf,qp,rp,_⟩:=vg rj;have lp:=rp.len;rw[zr] at lp;refine⟨_,(zi (zB (i:=1) nd rfl (Or.inl rfl) VE)
   (zi (qW jK rfl (vT (zJ qr (pv 0) zj (fun _ _=>rfl))) (zH (i:=2) nd rfl (Or.inl rfl))
   (zu (Y2 N (pv 1) (zJ qr (pv 2) zj (fun _ _=>rfl)) (zF qd (zcC N (pv 1) (zJ qr (pv 2) zj (fun _ _=>rfl)) zj ⟨rfl,rfl,rfl,rfl⟩) zj) rfl)))
   (zu (zE (zv (Jg hr.hd) rfl B.sorted vZ (zd (zf1 X4 QW Yd zc0 (pv 1)) ze)))))),?_⟩
  refine fun d hd=>⟨_,rfl,jp,_,_,_,rfl,rfl,(zf hd).sqT qj,rfl,ps,rfl,⟨_,(zf hd).sqT qp⟩,Xr (K:=K) (a:=ps) (xs:=a2) (zaF jp d H J)
   ⟨_,[],rfl,zf hd,zg,by simp,fun j=>by simp,qk _⟩ (fun i σ U _ ⟨_,_,_,L,_,_,_,_⟩=>L.sqT qp) ?_ ?_⟩
  ·rintro i x σ U hx ⟨v2,ms,rfl,L,t,mn,O,ml⟩
   obtain⟨dd,Y,r1⟩:=(rp.same L).get hx;rw[zZ] at Y;obtain⟨pa,M,rfl⟩:=jd.mp Y;have hi:=(zT.mp M).1;obtain⟨a,c,rfl,qa⟩:=yQ r1;have ek:(qx J)[i]? =some pa.k:=by unfold qx;rw[zZ,M];rfl
   refine⟨_,rfl,d,rfl,.inl ⟨_,.inl t⟩,_,rfl,a,_,_,_,rfl,rfl,qa,rfl,_,DGet.k (k:=Sum.inr pa.k) t,?_⟩
   rw[zeJ fun z=>(O _).mpr z]
   refine⟨_,_,rfl,rfl,_,rfl,_,rfl,a,_,_,_,rfl,rfl,qa,rfl,d,_,rfl,DPut.k (k:=Sum.inr pa.k) t (by rw[zeI];omega),?_⟩
   rw[zeH];refine⟨_,X7 ms pa.k,rfl,fun c o z=>by rw[zw (zp z hd)];exact L _ _ z,by rw[zg,jn ek],zeS mn,fun j=>?_,jU (zdQ _ _) (by omega)⟩
   rw[zdP,O j,jn ek,qJ,zK]
  ·rintro σ U ⟨v2,ms,rfl,L,t,mn,O,ml⟩
   have lk:(qx J).length=J.ps.length:=zr _;rw[lp,<- lk,j7] at t O;refine⟨_,rfl,.inr (.inr (.inl ⟨rfl,.inl ⟨_,t⟩⟩)),d,_,rfl,rfl,t,fun p hp=>?_⟩
   have D2:=(zf (o:=xT p d) hp) _ _ t;have V2:upd U p (xT p d) p=some (xT p d):=zg;have s2:=L.trans (zf (o:=xT p d) hp);generalize upd U p (xT p d)=H2 at D2 V2 s2;refine⟨p,d,ms.map fun k=>(k,((qx J).count k:Int)),rfl,V2,by rw[jT];exact D2,by rw[jT];show(ms.map id).Nodup;rw[List.map_id];exact mn,by rw[zr];omega,fun l qs zs H3 s3 hl L3 pm pw zl zt=>?_⟩
   obtain⟨D,np,rfl⟩:=zaU pm;rw[jT] at pw;have a1:D.Pairwise fun a b=>ltS a b=true:=by
    have e:D.map ((fun x:Str×Int=>x.1)∘fun k=>(k,((qx J).count k:Int)))=D:=by
     show D.map id=D;rw[List.map_id]
    rwa[e] at pw
   refine k l D zs H3 (s2.none hl) (s2.trans s3) L3 a1 (fun j=>(np.mem_iff).trans (O j)) (np.nodup_iff.mpr mn) (by have:=np.length_eq;omega) ⟨by rw[zl,zr],fun j kk e=>?_⟩
   obtain⟨T,Y,e2,e3⟩:=zt j (kk,((qx J).count kk:Int)) (by rw[zZ,e];rfl)
   exact⟨T,Y,e3⟩
def xS(c l g s:Int):Int:=if yd (l-s)>yd (c-g) then yd (l-s) else yd (c-g)
theorem zdR(a:Int):0<=yd a:=by unfold yd;split<;>omega
theorem zbP(c l g s:Int):0<=xS c l g s:=by
 unfold xS;have:=zdR (l-s);have:=zdR (c-g);split<;>assumption
theorem zft(c l g s t:Int):xS c l g s<=t↔yd (c-g)<=t/\yd (l-s)<=t:=by
 unfold xS;split<;>omega
theorem zbQ{g s l t:Int}(a:0<=g)(b:g<=1000)(c:0<=s)(d:s<=1000)(A:0<=l)(B:l<=1000)(D:0<=t)(E:t<=1000):xS g s l t<=1000:=by
 rw[zft];unfold yd;constructor<;>split<;>omega
def inB(p:Int×Int):Prop:=0<=p.1/\p.1<=1000/\0<=p.2/\p.2<=1000
def wG:List (Int×Int)->List Int
 | p::q::r=>xS p.1 p.2 q.1 q.2::wG (q::r)
 | _=>[]
theorem ye:∀ps:List (Int×Int),(wG ps).length=ps.length-1
 | []=>rfl
 | [_]=>rfl
 | p::q::r=>by
  have:=ye (q::r);show(wG (q::r)).length+1=_;rw[this];simp
theorem X9:∀{ps:List (Int×Int)} {i:Nat} {p q:Int×Int},ps[i]? =some p->ps[i+1]? =some q->(wG ps)[i]? =some (xS p.1 p.2 q.1 q.2)
 | [],_,_,_,h,_=>by simp at h
 | [_],i,_,_,_,h=>by simp at h
 | a::b::r,0,p,q,c,g=>by simp at c g;subst c;subst g;rfl
 | a::b::r,i+1,p,q,c,g=>X9 (ps:=b::r) (i:=i) (by simpa using c) (by simpa using g)
theorem Ym:∀{ps:List (Int×Int)},(∀p∈ps,inB p)->∀z∈wG ps,0<=z/\z<=1000
 | [],_,z,h=>by cases h
 | [_],_,z,h=>by cases h
 | a::b::r,hb,z,h=>by
  rcases zL.mp h with e | h
  ·have c:=hb a (by simp)
   have g:=hb b (by simp)
   rw[e];exact⟨zbP _ _ _ _,zbQ c.1 c.2.1 c.2.2.1 c.2.2.2 g.1 g.2.1 g.2.2.1 g.2.2.2⟩
  ·exact Ym (ps:=b::r) (fun p l=>hb p (z9 _ l)) z h
def plD(p:Int×Int):Dat:=.tup [.int p.1,.int p.2]
theorem zbX:∀{l:List Int} {m:Int},(∀z∈l,0<=z/\z<=m)->0<=l.sum/\l.sum<=m*(l.length:Int)
 | [],m,_=>by simp
 | a::l,m,h=>by
  have g:=h a (by simp)
  have s:=zbX (l:=l) (m:=m) fun z c=>h z (z9 _ c)
  rw[wj,jP];have:m*((l.length+1:Nat):Int)=m*(l.length:Int)+m:=by rw[Int.natCast_add,Int.mul_add];simp
  omega
theorem ZO{H:Hp}{p:Int×Int}{x:V}(h:Rep K H (plD p) x):∃a,x=.ref a/\SqT K H a [.int p.1,.int p.2]:=by
 obtain⟨D,M,rfl,c,E,L,l,A,J,g,s,B,t⟩:=h;subst l s;cases(show g=[] from t)
 cases(show E=_ from A)
 cases(show J=_ from B)
 exact⟨D,rfl,c⟩
theorem zfS{H:Hp}{a:Addr}{x y:Int}(h:SqT K H a [.int x,.int y]):Rep K H (plD (x,y)) (.ref a):=⟨a,_,rfl,h,_,_,rfl,rfl,_,_,rfl,rfl,rfl⟩
inductive Yt(K:W.Frag)(c:List V)(H:Hp)(Q:VK):Prop
 | mk (u v:V) (p q:Int×Int) (_:c=[u,v]) (_:Rep K H (plD p) u) (_:Rep K H (plD q) v) (_:Q (.int (xS p.1 p.2 q.1 q.2)) H):Yt K c H Q
def Yu(K:W.Frag):Sp:=fun c H Q _=>Yt K c H Q
theorem zgV:zG ["one","other"] ["one","other"] (zx (topL 3)):=u0
theorem zf4{f:Addr}{t:FuncData}(F:Fun K "way_between" "way_between" (topL 3) f t)(B:Blt I):FnOk P w K I G CX0 1 f t ["one","other"] (Yu K):=by
 refine F.ok zgV (fun L H Q E h=>?_) (fun J A l s H L Q E M h=>?_)
 ·obtain⟨u,v,p,q,rfl,_⟩:=h
  rfl
 ·obtain⟨u,v,p,q,rfl,c,g,k⟩:=h
  obtain⟨a,rfl,D⟩:=ZO c;obtain⟨b,rfl,hb⟩:=ZO g;refine⟨_,(zu (zE (zv (yV rfl) rfl B.max Qy (zd (zv vm rfl B.abs vn (zd (zF xo (zJ qr (pv 0) zj (fun _ _=>rfl)) (zJ qr (pv 1) zj (fun _ _=>rfl))) ze)) (zd (zv vm rfl B.abs vn (zd (zF xo (zJ qr (pv 0) zj (fun _ _=>rfl)) (zJ qr (pv 1) zj (fun _ _=>rfl))) ze)) ze))))),?_⟩
  refine⟨_,rfl,a,_,_,_,rfl,rfl,D,rfl,_,rfl,b,_,_,_,rfl,rfl,hb,rfl,_,_,rfl,rfl,_,rfl,_,rfl,a,_,_,_,rfl,rfl,D,rfl,_,rfl,b,_,_,_,rfl,rfl,hb,rfl,_,_,rfl,rfl,_,rfl,_,_,rfl,k⟩
theorem zfI:zG ["_law_one","_law_other"] ["_law_one","_law_other"] (zx (topL 38)):=u0
theorem zep{f:Addr}{t:FuncData}(F:Fun K "_law_way" "_law_way" (topL 38) f t)(B:Blt I):FnOk P w K I G CX0 1 f t ["_law_one","_law_other"] (Yu K):=by
 refine F.ok zfI (fun L H Q E h=>?_) (fun J A l s H L Q E M h=>?_)
 ·obtain⟨u,v,p,q,rfl,_⟩:=h
  rfl
 ·obtain⟨u,v,p,q,rfl,c,g,k⟩:=h
  obtain⟨a,rfl,D⟩:=ZO c;obtain⟨b,rfl,hb⟩:=ZO g;refine⟨_,(zu (zE (zv (yV rfl) rfl B.max Qy (zd (zv vm rfl B.abs vn (zd (zF xo (zJ qr (pv 0) zj (fun _ _=>rfl)) (zJ qr (pv 1) zj (fun _ _=>rfl))) ze)) (zd (zv vm rfl B.abs vn (zd (zF xo (zJ qr (pv 0) zj (fun _ _=>rfl)) (zJ qr (pv 1) zj (fun _ _=>rfl))) ze)) ze))))),?_⟩
  refine⟨_,rfl,a,_,_,_,rfl,rfl,D,rfl,_,rfl,b,_,_,_,rfl,rfl,hb,rfl,_,_,rfl,rfl,_,rfl,_,rfl,a,_,_,_,rfl,rfl,D,rfl,_,rfl,b,_,_,_,rfl,rfl,hb,rfl,_,_,rfl,rfl,_,rfl,_,_,rfl,k⟩
theorem zby(c:List V):jS c (some 1) none=c.drop 1:=by
 unfold jS;rw[show(some (1:Int))=some ((1:Nat):Int) from rfl,HT.sIx_nat,HT.sIx_none]
 cases c with
 | nil=>rfl
 | cons x r=>
  have:min 1 (x::r).length=1:=by simp only[jP];omega
  rw[this];simp
inductive YG(K:W.Frag)(g:List V)(H:Hp)(Q:VK):Prop
 | mk (a:Addr) (l:List V) (ps:List (Int×Int)) (_:g=[.ref a]) (_:SqL K H a l) (_:Reps K H (ps.map plD) l) (_:(∀p∈ps,inB p)) (_:ps.length<=1000) (_:∀c,Same H c->Q (.int (wG ps).sum) c):YG K g H Q
def ze5(K:W.Frag):Sp:=fun c H Q _=>YG K c H Q
theorem zfe:zG ["places"] ["places"] (zx (topL 4)):=u0
theorem zgc{f:Addr}{fd:FuncData}(F:Fun K "length_of" "length_of" (topL 4) f fd)(B:Blt I)(c:Dfn P w K I G "way_between" 1 ["one","other"] (Yu K)):FnOk P w K I G CX0 2 f fd ["places"] (ze5 K):=by
 have nd:=zfe.nd;refine F.ok zfe (fun vs H Q E h=>?_) (fun a3 A a1 s H vs Q E hr h=>?_)
 ·obtain⟨a,g,ps,rfl,_⟩:=h
  rfl
 ·obtain⟨a,g,ps,rfl,hx,hp,hb,hl,k⟩:=h
  have a2:=bG100000;have a0:=hp.len;rw[zr] at a0;refine⟨_,(zu (zE (zv (vk rfl) rfl B.sum boot_sum (zd (xL [] [] rfl rfl (by kernel_rfl) (wR rfl B.zip (zd (pv 0) (zd (xK wu (pv 0) (xV zj) wv) ze))) (fun _ _ _ _=>qh) (fun _ _ _ _=>(zm c hr.m rfl (zd (pv 0) (zd (pv 1) ze))))) ze)))),?_⟩
  refine⟨_,rfl,_,rfl,1,rfl,a,g,rfl,hx,fun t ht=>?_⟩
  have O:Same H (upd H t (.lst (jS g (some 1) none))):=zf ht;have J:upd H t (.lst (jS g (some 1) none)) t=some (.lst (g.drop 1)):=by rw[zg,zby]
  have L:=O.seq hx;have l:=hp.same O;generalize upd H t (.lst (jS g (some 1) none))=H1 at O J L l;refine⟨true,true,a,t,rfl,⟨g,L⟩,⟨_,u4 J⟩,?_⟩
  refine yS (K:=K) (k1:=true) (k2:=true) (xs:=g) (ys:=g.drop 1) (fun i U N=>U=((wG ps).take i).map V.int/\Same H1 N) ⟨rfl,u6 _⟩ (fun i U N ⟨_,M⟩=>⟨M.seq L,M.seq (u4 J)⟩) ?_ ?_
  ·rintro i x y U N T e1 e2 ⟨rfl,M⟩ hT
   have Y:g[i+1]? =some y:=by rw[XW] at e2;rw[Nat.add_comm];exact e2
   have s4:=M.trans (zf (o:=.tup [x,y]) hT);obtain⟨d1,q1,r1⟩:=(l.same s4).get e1;obtain⟨d2,q2,r2⟩:=(l.same s4).get Y;rw[zZ] at q1 q2;obtain⟨p,w1,rfl⟩:=jd.mp q1;obtain⟨q,w2,rfl⟩:=jd.mp q2;refine⟨T,_,rfl,u5 zg,rfl,_,_,rfl,_,_,rfl,rfl,rfl,?_⟩
   refine⟨_,rfl,_,rfl,x,y,p,q,rfl,r1,r2,?_,?_,s4⟩
   ·have:=ye ps
    rw[zr,jO];omega
   ·rw[jn (X9 w1 w2),zV];rfl
  ·rintro U N ⟨rfl,M⟩
   have hm:min g.length (g.drop 1).length=(wG ps).length:=by rw[ye,yb];omega
   refine⟨by rw[zr,jO];omega,fun D hD=>⟨D,wG ps,rfl,?_,fun z hz=>?_,by rw[ye];omega,k _ ((O.trans M).trans (zf hD))⟩⟩
   ·refine u4 ?_
    rw[zg,hm,j7]
   ·have:=Ym hb z hz
    omega
def Vh(g p q:Int×Int):Int:=xS g.1 g.2 p.1 p.2+xS p.1 p.2 q.1 q.2+xS q.1 q.2 g.1 g.2
def jy(J:Job):Int×Int:=(J.gx,J.gy)
def vH(g p:Int×Int)(c:Str)(ps:List wq):List Int:=(ps.filter fun q=>decide (q.k=c)).map fun q=>Vh g p (q.x,q.y)
def vX(J:Job)(c:Str)(p:Int×Int):Int:=(vH (jy J) p c J.ps).sum
theorem JF{g p:Int×Int}{c:Str}{ps:List wq}{q:wq}(h:q.k=c):vH g p c (ps++[q])=vH g p c ps++[Vh g p (q.x,q.y)]:=by
 unfold vH;rw[XU,List.filter_cons_of_pos (by exact zW h),zV]
 rfl
theorem JG{g p:Int×Int}{c:Str}{ps:List wq}{q:wq}(h:q.k≠c):vH g p c (ps++[q])=vH g p c ps:=by
 unfold vH;rw[XU,List.filter_cons_of_neg (by simpa using h),List.filter_nil,QM]
theorem yU(g p:Int×Int)(c:Str)(ps:List wq):(vH g p c ps).length<=ps.length:=by
 unfold vH;rw[zr];exact QT _ _
theorem zd0(g p q:Int×Int):(wG [g,p,q,g]).sum=Vh g p q:=by
 show xS g.1 g.2 p.1 p.2+(xS p.1 p.2 q.1 q.2+(xS q.1 q.2 g.1 g.2+0))=_;unfold Vh;omega
theorem JW{p q:Int×Int}(c:inB p)(hq:inB q):0<=xS p.1 p.2 q.1 q.2/\xS p.1 p.2 q.1 q.2<=1000:=⟨zbP _ _ _ _,zbQ c.1 c.2.1 c.2.2.1 c.2.2.2 hq.1 hq.2.1 hq.2.2.1 hq.2.2.2⟩
theorem zfv{g p q:Int×Int}(l:inB g)(s:inB p)(hq:inB q):0<=Vh g p q/\Vh g p q<=3000:=by
 have a:=JW l s;have b:=JW s hq;have c:=JW hq l;unfold Vh;omega
theorem Wb{J:Job}{c:List Nat}(g:Q7 J c){p:Int×Int}(l:inB p){kd:Str}{ps:List wq}(s:∀q∈ps,q∈J.ps):∀z∈vH (jy J) p kd ps,0<=z/\z<=3000:=fun z t=>by
 obtain⟨q,hq,rfl⟩:=jg.mp t;exact zfv g.gate l (g.pa q (s q (Zs.mp hq).1)).2.1
def Rows(l H:Hp)(c:List (List Int))(g:List V):Prop:=g.length=c.length/\∀(j:Nat) (r:List Int),c[j]? =some r->∃a,g[j]? =some (.ref a)/\l a=none/\H a=some (.lst (r.map V.int))
theorem Rows.nil{c H:Hp}:Rows c H [] []:=⟨rfl,fun j k e=>by simp at e⟩
theorem Rows.same{l H g:Hp}{t:List (List Int)}{A:List V}(h:Rows l H t A)(s:Same H g):Rows l g t A:=⟨h.1,fun j k e=>let ⟨T,a,b,c⟩:=h.2 j k e;⟨T,a,b,s _ _ c⟩⟩
theorem Rows.snoc{g H:Hp}{c:List (List Int)}{t:List V}{r:List Int}{T:Addr}(h:Rows g H c t)(n:g T=none)(e:H T=some (.lst (r.map V.int))):Rows g H (c++[r]) (t++[.ref T]):=by
 refine⟨by rw[zY,zY,h.1];rfl,fun j q hq=>?_⟩
 by_cases l:j<c.length
 ·rw[jR l] at hq
  obtain⟨U,A,B⟩:=h.2 j q hq;exact⟨U,by rw[jR (by rw[h.1];exact l)];exact A,B⟩
 ·have s:=(zT.mp hq).1
  rw[zY] at s;have D:j=c.length:=by simp at s;omega
  subst D;rw[jB (zC _),x6] at hq;have:r=q:=by simpa using hq
  subst this;exact⟨T,by rw[<- h.1,jB (zC _),x6];rfl,n,e⟩
theorem Y6{H:Hp}{p:wq}{x:V}(h:Rep K H (xt p) x):∃a c,x=.ref a/\SqT K H a [.str p.k,.ref c]/\Rep K H (plD (p.x,p.y)) (.ref c):=by
 obtain⟨a,N,rfl,q,J,M,g,A,O,E,l,B,t⟩:=h;subst g l;cases(show E=[] from t)
 cases(show J=_ from A)
 obtain⟨c,L,rfl,D,s⟩:=B;exact⟨a,c,rfl,q,c,L,rfl,D,s⟩
inductive Vt(K:W.Frag)(t:List V)(H:Hp)(Q:VK):Prop
 | mk (l:Addr) (J:Job) (c:List Nat) (s:Str) (u:V) (p:Int×Int) (_:t=[.ref l,.str s,u]) (_:Rep K H (Xk J) (.ref l)) (_:Q7 J c) (_:Rep K H (plD p) u) (_:inB p) (_:∀g,Same H g->Q (.int (vX J s p)) g):Vt K t H Q
def J7(K:W.Frag):Sp:=fun c H Q _=>Vt K c H Q
theorem zcn:zG ["job","kind","slot"] ["job","kind","slot"] (zx (topL 21)):=u0
theorem zes{f:Addr}{fd:FuncData}(F:Fun K "slot_cost" "slot_cost" (topL 21) f fd)(B:Blt I)(t:Dfn P w K I G "length_of" 2 ["places"] (ze5 K)):FnOk P w K I G CX0 3 f fd ["job","kind","slot"] (J7 K):=by
 have nd:=zcn.nd;refine F.ok zcn (fun vs H Q E h=>?_) (fun a6 A a2 s H vs Q E hr h=>?_)
 ·obtain⟨Y,J,a1,kd,u,p,rfl,_⟩:=h
  rfl
 ·obtain⟨Y,J,a1,kd,u,p,rfl,rj,U,a4,bp,k⟩:=h
  have a5:=bG100000;have pl:=U.pl;obtain⟨g,fs,ps,as,fv,a3,qj,rg,qf,rf,qp,rp,_⟩:=vg rj;have lp:=rp.len;rw[zr] at lp;refine⟨_,(zu (zE (zv (vk rfl) rfl B.sum boot_sum (zd (xL ["slot","job","kind"] [2,0,1] rfl rfl (by kernel_rfl) (vT (zJ qr (pv 0) zj (fun _ _=>rfl))) (fun _ _ _ _=>(Qa (qw xk (pv 0) (pv 4) (qb _)))) (fun _ _ _ _=>(zm t hr.m rfl (zd (qI (zd (zJ (wB (K:=K) rfl) (pv 3) zj (fun _ _=>rfl)) (zd (pv 2) (zd (pv 1) (zd (zJ (wB (K:=K) rfl) (pv 3) zj (fun _ _=>rfl)) ze))))) ze)))) ze)))),?_⟩
  refine⟨_,rfl,Y,_,_,_,rfl,rfl,qj,rfl,ps,rfl,⟨_,qp⟩,Qn (K:=K) (a:=ps) (xs:=a3) (fun i zs N=>zs=(vH (jy J) p kd (J.ps.take i)).map V.int/\Same H N) ⟨rfl,u6 _⟩ (fun i zs N ⟨_,M⟩=>M.sqT qp) ?_ ?_⟩
  ·rintro i x zs N hx ⟨rfl,M⟩
   obtain⟨dd,e1,r1⟩:=(rp.same M).get hx;rw[zZ] at e1;obtain⟨O,L,rfl⟩:=jd.mp e1;have hi:=(zT.mp L).1;obtain⟨a,c,rfl,qa,rc⟩:=Y6 r1;have cl:=yU (jy J) p kd (J.ps.take i);rw[jO] at cl;refine⟨a,_,rfl,qa,rfl,_,_,rfl,_,_,rfl,rfl,rfl,?_⟩
   refine⟨_,rfl,_,rfl,rfl,_,rfl,jE (fun z=>?_) (fun z=>⟨?_,M⟩)⟩
   ·refine⟨_,rfl,Y,_,_,_,rfl,rfl,M.sqT qj,rfl,_,rfl,_,rfl,_,rfl,Y,_,_,_,rfl,rfl,M.sqT qj,rfl,le4,fun l hl=>?_⟩
    have s4:=M.trans (zf (o:=.lst [.ref g,u,.ref c,.ref g]) hl);have T:Rep K (upd N l (.lst [.ref g,u,.ref c,.ref g])) (plD (jy J)) (.ref g):=rg.same s4;refine⟨l,_,[jy J,p,(O.x,O.y),jy J],rfl,u4 zg,⟨_,_,rfl,T,_,_,rfl,a4.same s4,_,_,rfl,rc.same (zf hl),_,_,rfl,T,rfl⟩,fun q hq=>?_,(by show 4<=1000;decide),fun H5 s5=>⟨?_,?_,s4.trans s5⟩⟩
    ·have hg:inB (jy J):=U.gate
     have a0:inB (O.x,O.y):=(U.pa O (jc L)).2.1;rcases zL.mp hq with rfl | hq
     ·exact hg
     rcases zL.mp hq with rfl | hq
     ·exact bp
     rcases zL.mp hq with rfl | hq
     ·exact a0
     rcases zL.mp hq with rfl | hq
     ·exact hg
     cases hq
    ·rw[zr];omega
    ·rw[jn L,JF (V.str.inj (jA z)),zV,zd0]
     rfl
   ·rw[jn L,JG fun e=>z (zW (by rw[e]))]
  ·rintro zs N ⟨rfl,M⟩
   rw[lp,j7];have cl:=yU (jy J) p kd J.ps;refine⟨by rw[zr];omega,fun D hD=>⟨D,_,rfl,u4 zg,fun z hz=>?_,by omega,k _ (M.trans (zf hD))⟩⟩
   have:=Wb U bp (fun q hq=>hq) z hz
   omega
def zd9(J:Job)(g:List (Int×Int))(c:Str):List Int:=g.map (vX J c)
inductive Jv(K:W.Frag)(E:List V)(H:Hp)(Q:VK):Prop
 | mk (A B:Addr) (J:Job) (t:List Nat) (s:List (Int×Int)) (D:List V) (_:E=[.ref A,.ref B]) (_:Rep K H (Xk J) (.ref A)) (_:Q7 J t) (_:H B=some (.lst D)) (_:Reps K H (s.map plD) D) (_:(∀q∈s,inB q)) (_:s.length<=100) (_:∀(l:Addr) (g:List Str) (L:List V) c,H l=none->Same H c->c l=some (.lst L)->(g.Pairwise fun a b=>ltS a b=true)->(∀j,j∈g↔j∈qx J)->g.length<=60->Rows H c (g.map (zd9 J s)) L->Q (.ref l) c):Jv K E H Q
def J6(K:W.Frag):Sp:=fun c H Q _=>Jv K c H Q
theorem YS:zG ["job","slots"] ["job","slots"] (zx (topL 22)):=u0
theorem zcT{f:Addr}{fd:FuncData}(F:Fun K "slot_costs" "slot_costs" (topL 22) f fd)(B:Blt I)(c:Dfn P w K I G "slot_cost" 3 ["job","kind","slot"] (J7 K))(g:Dfn P w K I G "wanted_of" 1 ["job"] (Ww K)):FnOk P w K I G CX0 4 f fd ["job","slots"] (J6 K):=by
 have nd:=YS.nd;refine F.ok YS (fun vs H Q E h=>?_) (fun a2 A a0 s H vs Q E hr h=>?_)
 ·obtain⟨jp,sl,J,Y,qs,sv,rfl,_⟩:=h
  rfl
 ·obtain⟨jp,sl,J,Y,qs,sv,rfl,rj,jo,hs,rs,hb,ql,k⟩:=h
  have a1:=bG100000;have lv:=rs.len;rw[zr] at lv;refine⟨_,(zu (zE (zeh ["job","slots"] [0,1] rfl rfl (by kernel_rfl) (by kernel_rfl) (qV (zm g hr.m rfl (zd (pv 0) ze))) (fun _ _ _ _=>qh) (fun _ _ _ _=>(je ["job","kind"] [2,0] rfl rfl (by kernel_rfl) (Z8 (K:=K) rfl (pv 3)) (fun _ _ _ _=>qh) (fun _ _ _ _=>(zm c hr.m rfl (zd (pv 1) (zd (pv 2) (zd (pv 0) ze)))))))))),?_⟩
  refine⟨_,rfl,jp,J,rfl,rj,jo.pl,fun l U wz H1 hl s1 L1 up mm mn ml wt=>?_⟩
  refine⟨l,rfl,⟨_,u4 L1⟩,jq (K:=K) (a:=l) (xs:=wz) (fun i zs O=>Rows H O ((U.take i).map (zd9 J qs)) zs/\Same H1 O) ⟨Rows.nil,u6 _⟩ (fun i zs O ⟨_,L⟩=>u4 (L _ _ L1)) ?_ ?_⟩
  ·rintro i x zs O hx ⟨t,L⟩
   have hi:i<U.length:=by rw[<- wt.1];exact(zT.mp hx).1
   have em:U[i]? =some U[i]:=qo _;generalize U[i]=kd at em;obtain⟨T,e1,e2⟩:=(wt.same L).2 i kd em;rw[hx] at e1;cases e1;have t2:=s1.trans L;refine⟨T,_,rfl,u5 e2,rfl,_,_,rfl,_,_,rfl,rfl,rfl,?_⟩
   refine⟨_,rfl,sl,rfl,⟨_,u4 (t2 _ _ hs)⟩,jq (K:=K) (a:=sl) (xs:=sv) (fun j ys H3=>ys=((qs.take j).map (vX J kd)).map V.int/\Same O H3) ⟨rfl,u6 _⟩ (fun j ys H3 ⟨_,M⟩=>u4 (M _ _ (t2 _ _ hs))) ?_ ?_⟩
   ·rintro j y ys H3 hy ⟨rfl,M⟩
    have t3:=t2.trans M;obtain⟨dd,q1,r1⟩:=(rs.same t3).get hy;rw[zZ] at q1;obtain⟨q,eq,rfl⟩:=jd.mp q1;have hj:=(zT.mp eq).1;refine⟨rfl,_,rfl,_,rfl,_,rfl,jp,J,Y,kd,y,q,rfl,rj.same t3,jo,r1,hb q (jc eq),fun H4 s4=>⟨?_,?_,M.trans s4⟩⟩
    ·rw[zr,zr,jO];omega
    ·rw[jn eq,zV,zV]
     rfl
   ·rintro ys H3 ⟨rfl,M⟩
    rw[lv,j7];refine⟨by rw[zr,zr];omega,fun D N=>⟨?_,?_,L.trans (M.trans (zf N))⟩⟩
    ·rw[t.1,zr,jO];omega
    ·rw[jn em,zV]
     exact(t.same (M.trans (zf N))).snoc (t2.none (M.none N)) zg
  ·rintro zs O ⟨t,L⟩
   rw[wt.1,j7] at t;refine⟨by rw[t.1,zr];omega,fun D N=>k D U zs _ ((s1.trans L).none N) ((s1.trans L).trans (zf N)) zg up mm ml (t.same (zf N))⟩
inductive Ju(K:W.Frag)(t:List V)(H:Hp)(Q:VK):Prop
 | mk (s:Addr) (J:Job) (_:t=[.ref s]) (_:Rep K H (Xk J) (.ref s)) (_:J.ps.length<=60) (_:∀(l:Addr) (c:List Str) g,H l=none->Same H g->g l=some (.lst (c.map V.str))->(c.Pairwise fun a b=>ltS a b=true)->(∀j,j∈c↔j∈qx J)->c.length<=60->Q (.ref l) g):Ju K t H Q
def YI(K:W.Frag):Sp:=fun c H Q _=>Ju K c H Q
theorem zcX:∀{xs ys:List Str},xs.Nodup->(∀x∈xs,x∈ys)->xs.length<=ys.length
 | [],_,_,_=>qk _
 | x::xs,ys,l,h=>by
  obtain⟨c,g⟩:=xW.mp l;have hx:=h x (by simp)
  have:=zcX (xs:=xs) (ys:=ys.erase x) g fun y hy=>(List.mem_erase_of_ne (fun z:y=x=>c (z▸hy))).mpr (h y (z9 _ hy))
  rw[List.length_erase_of_mem hx] at this;have p:=List.length_pos_of_mem hx;rw[jP];omega
theorem YR:zG ["_law_job_here"] ["_law_job_here"] (zx (topL 45)):=u0
theorem zcS{f:Addr}{fd:FuncData}(F:Fun K "_law_kinds" "_law_kinds" (topL 45) f fd)(B:Blt I):FnOk P w K I G CX0 1 f fd ["_law_job_here"] (YI K):=by
 have nd:=YR.nd;refine F.ok YR (fun vs H Q E h=>?_) (fun a2 A U s H vs Q E hr h=>?_)
 ·obtain⟨jp,J,rfl,_⟩:=h
  rfl
 ·obtain⟨jp,J,rfl,rj,pl,k⟩:=h
  have a1:=bG100000;obtain⟨g,fs,ps,as,fv,Y,qj,rg,qf,rf,qp,rp,ra⟩:=vg rj;have lp:=rp.len;rw[zr] at lp;have lk:(qx J).length=J.ps.length:=zr _;refine⟨_,(zu (zE (zv (Jf hr.hd) rfl B.sorted vZ (zd (qM (zbE hr.hd) rfl B.set Wi (zd (je [] [] rfl rfl (by kernel_rfl) (vT (zJ qr (pv 0) zj (fun _ _=>rfl))) (fun _ _ _ _=>qh) (fun _ _ _ _=>(zJ (wB (K:=K) rfl) (pv 0) zj (fun _ _=>rfl)))) ze)) ze)))),?_⟩
  refine⟨_,rfl,jp,_,_,_,rfl,rfl,qj,rfl,ps,rfl,⟨_,qp⟩,Qn (K:=K) (a:=ps) (xs:=Y) (fun i N t=>N=((qx J).take i).map V.str/\Same H t) ⟨rfl,u6 _⟩ (fun i N t ⟨_,l⟩=>l.sqT qp) ?_ ?_⟩
  ·rintro i x N t hx ⟨rfl,l⟩
   obtain⟨dd,e1,r1⟩:=(rp.same l).get hx;rw[zZ] at e1;obtain⟨pa,D,rfl⟩:=jd.mp e1;have hi:=(zT.mp D).1;obtain⟨a,c,rfl,qa⟩:=yQ r1;have ek:(qx J)[i]? =some pa.k:=by unfold qx;rw[zZ,D];rfl
   refine⟨rfl,_,rfl,a,_,_,_,rfl,rfl,qa,rfl,?_,?_,l⟩
   ·rw[zr,jO];omega
   ·rw[jn ek,zV]
    rfl
  rintro N t ⟨rfl,l⟩;rw[lp,<- lk,j7];refine⟨by rw[zr];omega,fun T O=>?_⟩
  have K1:upd t T (.lst ((qx J).map V.str)) T=some (.lst (((qx J).map Sum.inr:List Key).map kV)):=by
   rw[zg,jT];rfl
  refine⟨T,_,rfl,K1,by rw[zr];omega,fun sp M=>⟨sp,qx J,rfl,zg,by omega,fun so ms L a0 mn mm=>?_⟩⟩
  have s2:=l.trans (zf (o:=.lst ((qx J).map V.str)) O);have s3:=s2.trans ((zf M).trans (zf (o:=.lst (ms.map V.str)) L));exact k so ms _ (s2.none ((zf M).none L)) s3 zg (Wx a0 mn) mm (by have:=zcX mn fun x hx=>(mm x).mp hx;omega)
theorem YQ:zG ["_law_job_here","_law_kind","_law_slot","_law_total","_law_part"] ["_law_job_here","_law_kind","_law_slot"] (zx (topL 39)):=u0
def zaE(l:_)(c:_)(u:_)(J:_)(p:_)(H:_):=fun(i:Nat) (σ:St) (g:Hp)=>(Ex1 fun(s:Option V)=>An2 (σ=[some (.ref l),some (.str c),some u,some (.int (vH (jy J) p c (J.ps.take i)).sum),s]) (g=H):Prop)
theorem zcR{f:Addr}{fd:FuncData}(F:Fun K "_law_cost" "_law_cost" (topL 39) f fd)(B:Blt I)(l:Dfn P w K I G "_law_way" 1 ["_law_one","_law_other"] (Yu K)):FnOk P w K I G CX0 2 f fd ["_law_job_here","_law_kind","_law_slot"] (J7 K):=by
 have T:=YQ.nd;refine F.ok YQ (fun vs H Q E h=>?_) (fun a1 A Y s H vs Q E O h=>?_)
 ·obtain⟨M,J,U,kd,u,p,rfl,_⟩:=h
  rfl
 ·obtain⟨M,J,U,kd,u,p,rfl,rj,jo,N,bp,k⟩:=h
  obtain⟨g,fs,ps,as,fv,a0,qj,rg,qf,rf,qp,rp,_⟩:=vg rj;have lp:=rp.len;rw[zr] at lp;refine⟨_,(zi (zB (i:=3) T rfl (Or.inl rfl) zj)
   (zi (qW jK rfl (vT (zJ qr (pv 0) zj (fun _ _=>rfl))) (zH (i:=4) T rfl (Or.inl rfl))
   (zu (jF (qw xk (zJ qr (pv 4) zj (fun _ _=>rfl)) (pv 1) (qb _))
    (zu (zB (i:=3) T rfl (Or.inl rfl) (zF qd (zF qd (zF qd (pv 3) (zm l O.m rfl (zd (zJ qr (pv 0) zj (fun _ _=>rfl)) (zd (pv 2) ze)))) (zm l O.m rfl (zd (pv 2) (zd (zJ qr (pv 4) zj (fun _ _=>rfl)) ze)))) (zm l O.m rfl (zd (zJ qr (pv 4) zj (fun _ _=>rfl)) (zd (zJ qr (pv 0) zj (fun _ _=>rfl)) ze))))))
    qB)))
   (zu (zE (pv 3))))),?_⟩
  refine⟨_,rfl,M,_,_,_,rfl,rfl,qj,rfl,ps,rfl,⟨_,qp⟩,Xr (K:=K) (a:=ps) (xs:=a0) (zaE M kd u J p H) ⟨_,rfl,rfl⟩ (fun i σ H3 _ ⟨_,_,e⟩=>e▸qp) ?_ ?_⟩
  ·rintro i x σ H3 hx ⟨v4,rfl,rfl⟩
   obtain⟨dd,e1,r1⟩:=rp.get hx;rw[zZ] at e1;obtain⟨D,L,rfl⟩:=jd.mp e1;obtain⟨a,c,rfl,qa,rc⟩:=Y6 r1;refine⟨_,rfl,a,_,_,_,rfl,rfl,qa,rfl,_,rfl,rfl,_,rfl,jE (fun z=>?_) (fun z=>?_)⟩
   ·refine⟨_,rfl,_,rfl,M,_,_,_,rfl,rfl,qj,rfl,_,rfl,.ref g,u,jy J,p,rfl,rg,N,_,_,rfl,rfl,_,rfl,_,rfl,a,_,_,_,rfl,rfl,qa,rfl,u,.ref c,p,(D.x,D.y),rfl,N,rc,_,_,rfl,rfl,_,rfl,a,_,_,_,rfl,rfl,qa,rfl,_,rfl,M,_,_,_,rfl,rfl,qj,rfl,.ref c,.ref g,(D.x,D.y),jy J,rfl,rc,rg,_,_,rfl,rfl,?_⟩
    refine⟨some (.ref a),?_,rfl⟩
    rw[jn L,JF (V.str.inj (jA z)),QL];have e:∀t:Int,t+xS (jy J).1 (jy J).2 p.1 p.2+xS p.1 p.2 D.x D.y+xS D.x D.y (jy J).1 (jy J).2=t+[Vh (jy J) p (D.x,D.y)].sum:=fun t=>by
     show _=t+(xS (jy J).1 (jy J).2 p.1 p.2+xS p.1 p.2 D.x D.y+xS D.x D.y (jy J).1 (jy J).2+0);omega
    rw[<- e];rfl
   ·refine⟨some (.ref a),?_,rfl⟩
    rw[jn L,JG fun e=>z (zW (by rw[e]))]
    rfl
  ·rintro σ H3 ⟨v4,rfl,rfl⟩
   rw[lp,j7];exact⟨_,rfl,k _ (u6 _)⟩
theorem zdd(i:Nat):ixN (i+1) (-1)=some i:=by
 unfold ixN;simp;omega
inductive Jr(g:List V)(H:Hp)(Q:VK):Prop
 | mk (b:Addr) (m n:Int) (_:g=[.ref b,.int m]) (_:BoxAt H b n) (_:n<1000000) (_:0<=m) (_:m<=100) (_:∀(l:Addr) (as:List Addr) c,SameB b H c->BoxAt c b (n+100)->l≠b->H l=none->c l=some (.lst (as.map V.ref))->as.length<=12->(m<=12->m<=as.length)->(∀a∈as,PlA c a)->Q (.ref l) c):Jr  g H Q
def Yy:Sp:=fun c H Q _=>Jr  c H Q
theorem YM:zG ["_law_box_here","_law_many","_law_found","_law_k"] ["_law_box_here","_law_many"] (zx (topL 46)):=u0
def zaD(b:_)(m:_)(l:_)(H:_)(n:_):=fun(i:Nat) (σ:St) (c:Hp)=>(Ex2 fun(as:List Addr) (g:Option V)=>An6 (σ=[some (.ref b),some (.int m),some (.ref l),g]) (SameB b H c) (BoxAt c b (n+1+5*i)) (c l=some (.lst (as.map V.ref))) (as.length=i) (∀a∈as,PlA c a):Prop)
theorem zcO{f:Addr}{fd:FuncData}(F:Fun K "_law_slots" "_law_slots" (topL 46) f fd)(B:Blt I)(g:Dfn P w K I G "_law_take" 1 ["_law_box_here","_law_size"] xY)(t:Dfn P w K I G "_law_place" 2 ["_law_box_here","_law_taken"] (yj K)):FnOk P w K I G CX0 3 f fd ["_law_box_here","_law_many"] Yy:=by
 have nd:=YM.nd;refine F.ok YM (fun vs H Q E h=>?_) (fun a7 A a4 s H vs Q E hr h=>?_)
 ·obtain⟨b,m,n,rfl,_⟩:=h
  rfl
 ·obtain⟨b,m,n,rfl,B0,hn,m0,m1,k⟩:=h
  have a6:=bG100000;have a0:=bGe;refine⟨_,(zi (zB (i:=2) nd rfl (Or.inl rfl) (qI ze))
   (zi (qW jK rfl (qv rfl B.range (zd (zv (zbG rfl) rfl B.min Wj (zd zj (zd (zF qd (pv 1) (zm g hr.m rfl (zd (pv 0) (zd zj ze)))) ze))) ze)) (zH (i:=3) nd rfl (Or.inl rfl))
   (zi (vw (Qb QF QY QX vd (pv 2) (zd (zm t hr.m rfl (zd (pv 0) (zd (qI ze) ze))) ze)))
    (zu (jF (qw xk (zm g hr.m rfl (zd (pv 0) (zd zj ze))) zj (qb _))
    (zu (xJ (zJ z6 (pv 2) (zm g hr.m rfl (zd (pv 0) (zd (zv zy rfl B.len boot_len (zd (pv 2) ze)) ze))) (fun _ _=>rfl)) (Z9 (pv 2) (zhi zfu zj) vS)))
    qB))))
   (zu (zE (pv 2))))),?_⟩
  refine⟨le0,fun l U=>?_⟩
  have S1:=(u7 b H).new (o:=.lst []) U;have B1:=B0.new (o:=.lst []) U;have nl:=B0.nne U;have L1:upd H l (.lst []) l=some (.lst []):=zg;generalize upd H l (.lst [])=H1 at S1 B1 L1;refine⟨_,rfl,_,rfl,b,4,n,rfl,B1,by omega,by decide,by decide,fun r H2 r0 r1 B2 S2=>⟨_,_,rfl,rfl,_,_,rfl,_,rfl,?_,?_,?_⟩⟩
  ·rw[a0];split<;>omega
  ·rw[a0];split<;>omega
  have hN:(if(12:Int)>m+r then m+r else 12).toNat<=12:=by split<;>omega
  refine ji (zaD b m l H n)
   ⟨[],_,rfl,S1.trans S2,B2.mono (by omega),S2 _ _ L1 nl,rfl,fun a h=>nomatch h⟩ ?_ ?_
  ·rintro i σ H3 hi ⟨as,v3,rfl,S3,Y,L3,al,pa⟩
   refine⟨_,rfl,.inl ⟨rfl,_,u4 L3⟩,_,rfl,le0,fun e he=>?_⟩
   have ne:=Y.nne he;refine⟨b,e,_,[],rfl,Y.new he,by omega,ne,zg,qk _,(fun a h=>nomatch h),fun p N S4 B4 pN pP=>?_⟩
   have O:=((u7 b H3).new (o:=.lst (([]:List Addr).map V.ref)) he).trans S4;have L4:=O _ _ L3 nl;have pl:p≠l:=fun z=>by
    obtain⟨x,y,M,_⟩:=pP;rw[z,L4] at M;cases M
   have a5:∀a∈as,PlA N a:=fun a L=>(pa a L).draw Y O
   refine⟨l,_,_,rfl,rfl,L4,by rw[zr];omega,?_⟩
   have a3:∀a,PlA N a->a≠l:=fun a h z=>by
    obtain⟨x,y,M,_⟩:=h;rw[z,L4] at M;cases M
   have S5:SameB b H (upd N l (.lst (as.map V.ref++[.ref p]))):=(S3.trans O).put U;have B5:=B4.other (o:=.lst (as.map V.ref++[.ref p])) nl;have L5:upd N l (.lst (as.map V.ref++[.ref p])) l=some (.lst ((as++[p]).map V.ref)):=by rw[zg,zV];rfl
   have pa5:∀a∈as++[p],PlA (upd N l (.lst (as.map V.ref++[.ref p]))) a:=fun a L=>by
    have h4:PlA N a:=by
     rcases qJ.mp L with z | z
     ·exact a5 a z
     ·rw[zK.mp z];exact pP
    exact h4.imp fun o ho=>by rw[zw (a3 a h4)];exact ho
   generalize upd N l (.lst (as.map V.ref++[.ref p]))=H5 at S5 B5 L5 pa5;have D:(as++[p]).length=i+1:=by rw[zY,al];rfl
   generalize as++[p]=J at L5 pa5 D;refine⟨_,rfl,b,5,_,rfl,B5,by omega,by decide,by decide,fun r5 H6 a8 a9 B6 T=>⟨rfl,_,rfl,jE (fun c=>?_) (fun c=>?_)⟩⟩
   ·have L6:=T _ _ L5 nl
    refine⟨_,rfl,_,rfl,_,rfl,l,_,rfl,.inl (u4 L6),b,_,_,rfl,B6,by omega,by rw[zr];omega,by rw[zr];omega,fun q H7 q0 q1 B7 S7=>?_⟩
    have L7:=S7 _ _ L6 nl;obtain⟨v,ev,hv⟩:=Xy (xs:=J.map V.ref) q0 q1;rw[zZ] at hv;obtain⟨a,L,rfl⟩:=jd.mp hv;refine⟨l,_,_,_,rfl,rfl,u4 L7,ev,_,rfl,1,rfl,l,_,_,i,rfl,rfl,L7,by rw[zr,D];exact zdd i,?_⟩
    have pa7:∀a∈J,PlA H7 a:=fun a L=>((pa5 a L).draw B5 T).draw B6 S7
    have a2:∀a,PlA H7 a->a≠l:=fun a h z=>by
     obtain⟨x,y,M,_⟩:=h;rw[z,L7] at M;cases M
    refine⟨J.set i a,_,rfl,((S5.trans T).trans S7).put U,(B7.other nl).mono (by omega),by rw[zg,List.map_set],by rw[Zr];exact D,fun c hc=>?_⟩
    have a1:PlA H7 c:=by
     rcases List.mem_or_eq_of_mem_set hc with z | z
     ·exact pa7 c z
     ·rw[z];exact pa7 a (jc L)
    exact a1.imp fun o ho=>by rw[zw (a2 c a1)];exact ho
   ·exact⟨J,_,rfl,S5.trans T,B6.mono (by omega),T _ _ L5 nl,D,fun a L=>(pa5 a L).draw B5 T⟩
  ·rintro σ H3 ⟨as,v3,rfl,S3,Y,L3,al,pa⟩
   exact⟨_,rfl,k l as H3 S3 (Y.mono (by omega)) nl U L3 (by omega) (fun z=>by rw[al];split at al<;>split<;>omega) pa⟩
def hsV(c:List (Nat×Nat)):List (Key×V):=c.map fun h=>(Sum.inl (h.1:Int),.int (h.2:Int))
def enW(q:Int×List Nat):Int×List Int:=(q.1,q.2.map fun(n:Nat)=>(n:Int))
def CsAt(H:Hp)(a:Addr)(c:Nat->Nat->Int)(n m:Nat):Prop:=∃g,H a=some (.lst g)/\g.length=n/\∀x,x<n->∃A,g[x]? =some (.ref A)/\H A=some (.lst ((List.range m).map fun j=>V.int (c x j)))
theorem CsAt.same{H g:Hp}{a:Addr}{c:Nat->Nat->Int}{n m:Nat}(h:CsAt H a c n m)(s:Same H g):CsAt g a c n m:=by
 obtain⟨J,B,D,E⟩:=h;exact⟨J,s _ _ B,D,fun x hx=>let ⟨A,l,t⟩:=E x hx;⟨A,l,s _ _ t⟩⟩
theorem zbO{H:Hp}{g:List V}{c:List (Int×List Nat)}(h:WkR H g (c.map enW)){k:Nat}(hk:k<c.length):∃T U,g[k]? =some (.ref T)/\H T=some (.tup [.int (tot c k),.ref U])/\H U=some (.tup ((way c k).map fun(n:Nat)=>V.int (n:Int))):=by
 have e:c[k]? =some (c[k]'hk):=qo _;obtain⟨T,U,l,s,t⟩:=h.2 k (enW (c[k]'hk)) (by rw[zZ,e];rfl)
 have d:c.getD k (0,[])=c[k]'hk:=by rw[qz,e];rfl
 refine⟨T,U,l,?_,?_⟩
 ·unfold tot;rw[d];exact s
 ·unfold way;rw[d,t]
  show some (HO.tup (((c[k]'hk).2.map fun(n:Nat)=>(n:Int)).map V.int))=_
  rw[jT];rfl
theorem Yo{c:Nat->Nat->Int}{r m:Nat}{f:Nat->Nat}{A:Nat->Int}{l:List (Int×List Nat)}(g:WgA c r m f A l){k:Nat}(hk:k<m):way l k≠[]/\(way l k).length<=m:=by
 have w:=g.2 k hk;obtain⟨s,t⟩:=w.rng;refine⟨WW t,?_⟩
 have:=wA (k:=List.range m) w.nodup fun x hx=>qu.mpr (s x hx)
 rwa[zS] at this
theorem WkR.tups{H g:Hp}{t:List V}{ps:List (Int×List Int)}(h:WkR H t ps)(s:∀b l,H b=some (.tup l)->g b=some (.tup l)):WkR g t ps:=⟨h.1,fun j k e=>let ⟨T,U,a,b,c⟩:=h.2 j k e;⟨T,U,a,s _ _ b,s _ _ c⟩⟩
inductive YB(D:List V)(H:Hp)(Q:VK):Prop
 | mk (a d E:Addr) (o:Obj) (J:List V) (c:Nat->Nat->Int) (n m r:Nat) (f:Nat->Nat) (u v B:Nat->Int) (t:List (Nat×Nat)) (s:List (Int×List Nat)) (_:D=[.ref a,.ref d,.ref E]) (_:CsAt H a c n m) (_:H d=some (.frz o (.dK (hsV t)))) (_:H E=some (.lst J)) (_:WkR H J (s.map enW)) (_:Pot c r m f u v) (_:r<=n) (_:Hold t r f) (_:(∀j,j<m->v j<=B j)) (_:WgA c r m f B s) (_:m<=64) (_:∀A p g l,Settle c m t s A->Same H l->H p=none->l p=some (.lst g)->WkR l g (A.map enW)->Q (.ref p) l):YB  D H Q
def zb3:Sp:=fun c H Q _=>YB  c H Q
theorem zfb:zG ["costs","holders","walks","best","changing","column","row","other","cost","total"] ["costs","holders","walks"] (zx (topL 10)):=u0
def zaC(a:_)(d:_)(L:_)(p:_)(c:_)(m:_)(s:List (Nat×Nat))(l:_)(H:_):=fun(i:Nat) (σ:St) (g:Hp)=>(Ex6 fun(t:List V) (A B D E J:Option V)=>An4 (σ=[some (.ref a),some (.ref d),some (.ref L),some (.ref p),some (.bl (qT c m (s.take i) (l,false)).2),A,B,D,E,J]) (Same H g) (g p=some (.lst t)) (WkR g t ((qT c m (s.take i) (l,false)).1.map enW)):Prop)
def zaB(a:_)(d:_)(D:_)(p:_)(c:_)(l:Nat)(x:Nat)(st:_)(H:_):=fun(j:Nat) (σ:St) (g:Hp)=>(Ex4 fun(s:List V) (t A B:Option V)=>An4 (σ=[some (.ref a),some (.ref d),some (.ref D),some (.ref p),some (.bl (xa c l x j st).2),some (.int (l:Int)),some (.int (x:Int)),t,A,B]) (Same H g) (g p=some (.lst s)) (WkR g s ((xa c l x j st).1.map enW)):Prop)
theorem zf8{f:Addr}{fd:FuncData}(F:Fun K "settled" "settled" (topL 10) f fd)(B:Blt I):FnOk P w K I G CX0 1 f fd ["costs","holders","walks"] zb3:=by
 have nd:=zfb.nd;refine F.ok zfb (fun vs H Q E h=>?_) (fun be A bb s H vs Q E hr h=>?_)
 ·obtain⟨a,d,wa,o,zs,c,n,m,r,f,u,v,t0,D,bs,rfl,_⟩:=h
  rfl
 ·obtain⟨a,d,wa,o,zs,c,n,m,r,f,u,v,t0,D,bs,rfl,ak,hd,b6,wk,a5,bg,am,af,wg,hm,k⟩:=h
  have bh:=V0 hr;refine⟨_,(zi (zB (i:=3) nd rfl (Or.inl rfl) (qM yB rfl B.list jk (zd (pv 2) ze)))
   (zi (zB (i:=4) nd rfl (Or.inl rfl) xM)
   (zi (zcv jK (jD (pv 4))
   (zi (zB (i:=4) nd rfl (Or.inl rfl) xM)
    (zu (qW jK rfl (Y5 (zcF QW Yd JD (pv 1))) (ju rfl (zI (zH (i:=5) nd rfl (Or.inl rfl)) (zI (zH (i:=6) nd rfl (Or.inl rfl)) qP)))
    (zu (qW jK rfl (ww rfl B.enumerate (zd (zJ z6 (pv 0) (pv 6) (fun _ _=>rfl)) ze)) (ju rfl (zI (zH (i:=7) nd rfl (Or.inl rfl)) (zI (zH (i:=8) nd rfl (Or.inl rfl)) qP)))
     (zi (zB (i:=9) nd rfl (Or.inl rfl) (zF xo (zF qd (zJ qr (zJ z6 (pv 3) (pv 5) (fun _ _=>rfl)) zj (fun _ _=>rfl)) (pv 8)) (zJ z6 (zJ z6 (pv 0) (pv 6) (fun _ _=>rfl)) (pv 5) (fun _ _=>rfl))))
      (zu (jF (qw Y9 (pv 9) (zJ qr (zJ z6 (pv 3) (pv 7) (fun _ _=>rfl)) zj (fun _ _=>rfl)) (qb _))
      (zi (xJ (qG (zd (pv 9) (zd (zF zab (zJ qr (zJ z6 (pv 3) (pv 5) (fun _ _=>rfl)) zj (fun _ _=>rfl)) (qG (zd (pv 7) ze))) ze))) (Z9 (pv 3) (pv 7) vS))
       (zu (zB (i:=4) nd rfl (Or.inl rfl) xM)))
      qB)))))))))
   (zu (zE (pv 3)))))),?_⟩
  refine⟨_,rfl,wa,_,rfl,.inl (u4 b6),fun p hp=>?_⟩
  have W0:WkR (upd H p (.lst zs)) zs (bs.map enW):=wk.same (zf hp);obtain⟨aa,bf⟩:=am.mem;refine⟨fun z σ H2=>∃(b:Bool) (L:List (Int×List Nat)) (ys:List V) (v5 v6 v7 v8 v9:Option V),z=2*mea m v L+(if b=true then 1 else 0)/\σ=[some (.ref a),some (.ref d),some (.ref wa),some (.ref p),some (.bl b),v5,v6,v7,v8,v9]/\Same H H2/\H2 p=some (.lst ys)/\WkR H2 ys (L.map enW)/\WgA c r m f t0 L /\
   (b=true->∀es,Settle c m D L es->Settle c m D bs es)/\(b=false->Settle c m D bs L),⟨_,true,bs,zs,_,_,_,_,_,rfl,rfl,zf hp,zg,W0,wg,fun _ _ s=>s,fun z=>nomatch z⟩,?_⟩
  rintro z σ H2 ⟨b,L,ys,v5,v6,v7,v8,v9,rfl,rfl,sm,ab,av,ah,ht,hf⟩;refine⟨_,rfl,_,rfl,?_⟩
  cases b with
  | false=>exact Eq.mpr (zo qF) ⟨_,rfl,k L p ys H2 (hf rfl) sm hp ab av⟩
  | true=>
   refine Eq.mpr (zq rfl) ⟨_,fun _ _ q=>q,?_⟩
   refine⟨_,rfl,d,rfl,.inl ⟨_,.inr ⟨o,sm _ _ hd⟩⟩,d,o,hsV D,rfl,rfl,sm _ _ hd,fun q hq=>⟨q,d,o,hsV D,rfl,zg,?_,?_⟩⟩
   ·rw[zw (zp (sm _ _ hd) hq)];exact sm _ _ hd
   have bd:=ak.same sm;have bc:Same H (upd H2 q (xT q d)):=sm.trans (zf hq);have ba:p≠q:=zp ab hq;refine zdk (d:=d) (o:=o) (kvs:=hsV D) (zaC a d wa p c m D L H)
    ⟨ys,_,_,_,_,_,rfl,bc,by rw[zw ba];exact ab,av.same (zf hq)⟩ (fun i σ H3 _ ⟨_,_,_,_,_,_,_,s3,_,_⟩=>s3 _ _ hd) ?_ ?_
   ·rintro i b8 ar σ H3 T hx ⟨a6,v5,v6,v7,v8,v9,rfl,s3,N,M⟩ hT
    obtain⟨⟨g,x⟩,hh,e⟩:∃h,D[i]? =some h/\(Sum.inl (h.1:Int),V.int (h.2:Int))=(b8,ar):=by
     unfold hsV at hx;rw[zZ] at hx;obtain⟨h,a1,a2⟩:=jd.mp hx;exact⟨h,a1,a2⟩
    cases e;obtain⟨a4,a3⟩:=aa _ (jc hh);have a4:x<r:=a4;have a3:g=f x:=a3;have au:=yp a5 af (hs:=D.take i) (st:=(L,false)) (fun h hh=>aa h (QS hh)) ah
    generalize ae:qT c m (D.take i) (L,false)=st at M au;obtain⟨zc,ap,bi,b7⟩:=ak;obtain⟨A,aq,hA⟩:=b7 x (by omega)
    have lm:((List.range m).map fun j=>V.int (c x j)).length=m:=by rw[zr,zS]
    have aj:∀b,b<m->((List.range m).map fun j=>V.int (c x j))[b]? =some (.int (c x b)):=fun b hb=>by
     rw[zZ,jX hb];rfl
    have al:g<m:=by rw[a3];exact a5.rng x a4
    have ag:=s3.trans (zf (o:=.tup [kV (Sum.inl (g:Int)),V.int (x:Int)]) hT);have b9:p≠T:=zp N hT;refine⟨T,_,rfl,u5 zg,rfl,_,_,rfl,_,_,rfl,rfl,?_⟩
    refine⟨_,rfl,_,rfl,a,_,_,.ref A,rfl,rfl,u4 (ag _ _ ap),qy aq,A,rfl,⟨_,u4 (ag _ _ hA)⟩,?_⟩
    refine V6 (K:=K) (a:=A) (xs:=(List.range m).map fun j=>V.int (c x j)) (zaB a d wa p c g x st H)
     ⟨a6,_,_,_,by rw[<- ae];rfl,ag,by rw[zw b9];exact N,M.same (zf hT)⟩ (fun j σ H4 _ ⟨_,_,_,_,_,s4,_,_⟩=>u4 (s4 _ _ hA)) ?_ ?_
    ·rintro j ar σ H4 T4 hj ⟨a0,v7,v8,v9,rfl,s4,ac,J⟩ az
     have a9:j<m:=by have:=(zT.mp hj).1;rw[lm] at this;exact this
     rw[aj j a9] at hj;cases hj;have ai:WgA c r m f t0 (xa c g x j st).1:=by rw[a3];exact(Xb a5 af au.1 a4 (vI a9)).1
     have er:xa c g x (j+1) st=jt c g x (xa c g x j st) j:=va c g x j st;generalize xa c g x j st=t at J ai er;have ll:=ai.1;obtain⟨U,U',b1,b2,b3⟩:=zbO J (k:=g) (by omega)
     obtain⟨O,O',c1,c2,c3⟩:=zbO J (k:=j) (by omega)
     obtain⟨w1,w2⟩:=Yo ai al;have l:Same H4 (upd H4 T4 (.tup [.int (j:Int),.int (c x j)])):=zf az;generalize ax:upd H4 T4 (.tup [.int (j:Int),.int (c x j)])=H5 at l;have b0:H5 T4=some (.tup [.int (j:Int),.int (c x j)]):=by rw[<- ax];exact zg
     have Y:=l _ _ ac;have sz:sizeLine=16777216:=sizeLine_eq;refine⟨T4,_,rfl,u5 b0,rfl,_,_,rfl,_,_,rfl,rfl,?_⟩
     refine⟨_,rfl,_,rfl,p,_,_,.ref U,rfl,rfl,u4 Y,qy b1,U,_,_,_,rfl,rfl,u5 (l _ _ b2),rfl,_,rfl,_,_,rfl,rfl,_,rfl,_,rfl,a,_,_,.ref A,rfl,rfl,u4 (l _ _ (s4 _ _ ap)),qy aq,_,rfl,A,_,_,.int (c x g),rfl,rfl,u4 (l _ _ (s4 _ _ hA)),qy (aj g al),_,_,rfl,rfl,?_⟩
     refine⟨_,rfl,_,rfl,_,rfl,p,_,_,.ref O,rfl,rfl,u4 Y,qy c1,O,_,_,_,rfl,rfl,u5 (l _ _ c2),rfl,_,_,rfl,rfl,_,rfl,?_⟩
     refine jE (fun cc=>?_) (fun cc=>?_)
     ·have cc:tot t.1 g+c x j-c x g<tot t.1 j:=jA cc
      refine⟨_,rfl,_,rfl,_,rfl,p,_,_,.ref U,rfl,rfl,u4 Y,qy b1,U,_,_,.ref U',rfl,rfl,u5 (l _ _ b2),rfl,_,rfl,(by show 1<=_;omega),fun q1 b4=>?_⟩
      have s5:Same H5 (upd H5 q1 (.tup [.int (j:Int)])):=zf b4;refine⟨U',q1,_,_,rfl,rfl,u5 (s5 _ _ (l _ _ b3)),u5 zg,by simpa using w1,(by rw[zr];show _+1<=_;omega),(fun z=>nomatch z),fun _ q2 b5=>?_⟩
      have s6:=s5.trans (zf (o:=.tup (((way t.1 g).map fun(n:Nat)=>V.int (n:Int))++[.int (j:Int)])) b5)
      generalize ay:upd (upd H5 q1 (.tup [.int (j:Int)])) q2 (.tup (((way t.1 g).map fun(n:Nat)=>V.int (n:Int))++[.int (j:Int)]))=H6 at s6
      have aw:H6 q2=some (.tup (((way t.1 g).map fun(n:Nat)=>V.int (n:Int))++[.int (j:Int)])):=by rw[<- ay];exact zg
      refine⟨(by show 2<=_;omega),fun q3 ao=>?_⟩
      have s7:=s6.trans (zf (o:=.tup [.int (tot t.1 g+c x j-c x g),.ref q2]) ao);have a7:upd H6 q3 (.tup [.int (tot t.1 g+c x j-c x g),.ref q2]) q2=some (.tup (((way t.1 g).map fun(n:Nat)=>V.int (n:Int))++[.int (j:Int)])):=zf ao _ _ aw
      have a8:upd H6 q3 (.tup [.int (tot t.1 g+c x j-c x g),.ref q2]) q3=some (.tup [.int (tot t.1 g+c x j-c x g),.ref q2]):=zg;generalize upd H6 q3 (.tup [.int (tot t.1 g+c x j-c x g),.ref q2])=H7 at s7 a7 a8;have an:=s7 _ _ Y;have yl:a0.length=m:=by rw[J.1,zr];exact ll
      refine⟨_,rfl,_,rfl,p,_,_,j,rfl,rfl,an,(by rw[yl];exact zal a9),?_⟩
      have e1:jt c g x t j=(t.1.set j (tot t.1 g+c x j-c x g,way t.1 g++[j]),true):=zq cc;have np:∀b ys,H7 b=some (.tup ys)->b≠p:=fun b ys e z=>by rw[z,an] at e;cases e
      refine⟨a0.set j (.ref q3),some (.int (j:Int)),some (.int (c x j)),some (.int (tot t.1 g+c x j-c x g)),by rw[er,e1];rfl,fun b u e=>?_,zg,?_⟩
      ·rw[zw (zp e hp)]
       exact s7 _ _ (l _ _ (s4 _ _ e))
      ·rw[er,e1]
       show WkR _ _ ((t.1.set j (tot t.1 g+c x j-c x g,way t.1 g++[j])).map enW);rw[List.map_set];refine WkR.set (T:=q3) (U:=q2) (J.tups fun b ys e=>?_) ?_ ?_
       ·have e7:=s7 _ _ (l _ _ e)
        rw[zw (np b ys e7)];exact e7
       ·rw[zw (np _ _ a8)];exact a8
       ·rw[zw (np _ _ a7),a7]
        show _=some (HO.tup (((way t.1 g++[j]).map fun(n:Nat)=>(n:Int)).map V.int))
        rw[jT,zV];rfl
     ·have cc:¬tot t.1 g+c x j-c x g<tot t.1 j:=fun z=>cc (zW z)
      have e1:jt c g x t j=t:=zo cc;exact⟨a0,some (.int (j:Int)),some (.int (c x j)),some (.int (tot t.1 g+c x j-c x g)),by rw[er,e1];rfl,s4.trans l,Y,by rw[er,e1];exact J.same l⟩
    ·rintro σ H4 ⟨a0,v7,v8,v9,rfl,s4,ac,J⟩
     rw[lm] at J ⊢;refine⟨a0,some (.int (g:Int)),some (.int (x:Int)),v7,v8,v9,?_,s4,ac,?_⟩
     ·rw[Qc c m D (L,false) hh,ae]
     ·rw[Qc c m D (L,false) hh,ae];exact J
   ·rintro σ H3 ⟨a6,v5,v6,v7,v8,v9,rfl,s3,N,M⟩
    rw[show(hsV D).length=D.length from zr _,j7] at M ⊢
    obtain⟨g1,g2,g3⟩:=yp a5 af (hs:=D) (st:=(L,false)) aa ah;cases e:(qT c m D (L,false)).2 with
    | true=>
     have lt:mea m v (qT c m D (L,false)).1<mea m v L:=(g3 e).elim (fun z=>nomatch z) id
     exact⟨_,by rw[zq rfl];omega,true,_,a6,_,_,_,_,_,rfl,rfl,s3,N,M,g1,fun _ es s=>ht rfl es (.go e s),fun z=>nomatch z⟩
    | false=>
     have ep:=(Zi e).1;exact⟨2*mea m v L,by rw[zq rfl];omega,false,L,a6,_,_,_,_,_,by rw[zo qF];rfl,rfl,s3,N,by rw[ep] at M;exact M,ah,(fun z=>nomatch z),fun _=>by
      have:=Settle.stop e;rw[ep] at this;exact ht rfl _ this⟩
def frees(c:List (Nat×Nat))(m:Nat):List Nat:=(List.range m).filter fun j=>(look c j).isNone
def wQ(g:List (Int×List Nat))(c:List (Nat×Nat))(m:Nat):Nat:=(frees c m).getD (Qj ((frees c m).map fun j=>enW (g.getD j (0,[])))) 0
def qX(c:Nat->Nat->Int)(r m:Nat):List (Int×List Nat):=(List.range m).map fun j=>(c r j,[j])
def HW(c:Nat->Nat->Int)(m r:Nat)(l s:List (Nat×Nat)):Prop:=∃g,Settle c m l (qX c r m) g/\s=mdN l r (way g (wQ g l m)) (way g (wQ g l m)).length
theorem wx{c:List (Nat×Nat)}{m j:Nat}:j∈frees c m↔j<m/\look c j=none:=by
 unfold frees;rw[Zs,qu,Option.isNone_iff_eq_none]
theorem Y3{es:List (Int×List Nat)}{c:List (Nat×Nat)}{m:Nat}(ne:frees c m≠[]):(wQ es c m<m/\look c (wQ es c m)=none)/\∀b,b<m->look c b=none->tot es (wQ es c m)<=tot es b:=by
 have t:((frees c m).map fun j=>enW (es.getD j (0,[])))≠[]:=fun z=>ne (List.map_eq_nil_iff.mp z)
 have s:=Xj t;rw[zr] at s;have A:wQ es c m=(frees c m)[Qj ((frees c m).map fun j=>enW (es.getD j (0,[])))]'s:=by
  unfold wQ;rw[qz,qo s];rfl
 have l:∀i (g:i<(frees c m).length),(((frees c m).map fun j=>enW (es.getD j (0,[]))).getD i (0,[])).1=tot es ((frees c m)[i]'g):=fun i g=>by
  rw[qz,zZ,qo g];rfl
 refine⟨by rw[A];exact wx.mp (jM s),fun b hb B=>?_⟩
 obtain⟨i,g,e⟩:=W5 (wx.mpr ⟨hb,B⟩);have:=zew (ps:=(frees c m).map fun j=>enW (es.getD j (0,[]))) (j:=i) (by rw[zr];exact g)
 rw[l _ s,l i g,e,<- A] at this;exact this
theorem HW.more{c:Nat->Nat->Int}{m r:Nat}{t g:List (Nat×Nat)}{f:Nat->Nat}{u v:Nat->Int}(w:HW c m r t g)(P:Pot c r m f u v)(h:Hold t r f)(hc:∀j,j<m->0<=c r j)(E:r<m):∃l A B,Pot c (r+1) m l A B/\Hold g (r+1) l:=by
 obtain⟨D,s,rfl⟩:=w;obtain⟨j,J,H⟩:=V4 f E;have ne:frees t m≠[]:=WW (wx.mpr ⟨J,h.free.mpr H⟩);obtain⟨⟨L,M⟩,N⟩:=Y3 (es:=D) ne;obtain⟨l,A,B,a,b,_⟩:=P.more hc h s L M N;exact⟨l,A,B,a,b⟩
theorem Yq(c:List (Nat×Nat))(k:Nat):vP (hsV c) (Sum.inl (k:Int))=(look c k).map fun(x:Nat)=>V.int (x:Int):=by
 induction c with
 | nil=>rfl
 | cons h c g=>
  have s:look (h::c) k=if h.1=k then some h.2 else look c k:=by
   by_cases e:h.1=k<;>simp[look,e]
  by_cases e:h.1=k
  ·rw[s,zq e]
   exact vQ (r:=hsV c) (show(Sum.inl (h.1:Int):Key)=Sum.inl (k:Int) by rw[e])
  ·rw[s,zo e,<- g]
   exact vR (r:=hsV c) fun z=>e (by have:=wX z;omega)
theorem Zn(c:Nat->Nat->Int)(r i:Nat):qX c r (i+1)=qX c r i++[(c r i,[i])]:=by
 unfold qX;rw[j6,zV];rfl
theorem WJ(c:List (Nat×Nat))(i:Nat):frees c (i+1)=frees c i++if look c i=none then [i] else []:=by
 unfold frees;rw[j6,XU];by_cases e:look c i=none
 ·rw[zq e];simp[e]
 ·rw[zo e]
  obtain⟨x,hx⟩:=Option.ne_none_iff_exists'.mp e;simp[hx]
theorem zed(c:List (Nat×Nat))(k x:Nat):xZ (hsV c) (Sum.inl (k:Int)) (.int (x:Int))=hsV (ZI c k x):=by
 have g:((hsV c).any fun l=>decide (l.1=Sum.inl (k:Int)))=c.any fun h=>decide (h.1=k):=by
  unfold hsV;rw[List.any_map];congr 1
  funext h
  show decide ((Sum.inl (h.1:Int):Key)=Sum.inl (k:Int))=decide (h.1=k);exact wK.mpr ⟨fun z=>by have:=wX z;omega,fun z=>by rw[z]⟩
 unfold xZ ZI;rw[g];by_cases e:(c.any fun h=>decide (h.1=k))=true
 ·rw[zq e,zq e]
  unfold hsV;rw[jT,jT];refine QC fun h _=>?_
  show(if(Sum.inl (h.1:Int):Key)=Sum.inl (k:Int) then((Sum.inl (h.1:Int):Key),V.int (x:Int)) else(Sum.inl (h.1:Int),V.int (h.2:Int)))=(Sum.inl (((if h.1=k then(h.1,x) else h).1:Nat):Int),V.int (((if h.1=k then(h.1,x) else h).2:Nat):Int))
  by_cases z:h.1=k
  ·rw[zq (by rw[z]),zq z]
  ·rw[zo fun y=>z (by have:=wX y;omega),zo z]
 ·rw[zo e,zo e]
  unfold hsV;rw[zV];rfl
theorem zeA(c:List (Nat×Nat))(k x:Nat):(ZI c k x).length<=c.length+1:=by
 unfold ZI;by_cases e:(c.any fun h=>decide (h.1=k))=true
 ·rw[zq e,zr];omega
 ·rw[zo e,zY];exact zC _
theorem zc6(c:List (Nat×Nat))(r:Nat)(p:List Nat):∀i,(mdN c r p i).length<=c.length+i
 | 0=>zC _
 | i+1=>by
  have:=zc6 c r p i;have:=zeA (mdN c r p i) (p.getD i 0) (cmN c r p i);show(ZI _ _ _).length<=_;omega
theorem Hold.len{c:List (Nat×Nat)}{r m:Nat}{f:Nat->Nat}(h:Hold c r f)(s:∀x,x<r->f x<m):c.length<=m:=by
 obtain⟨a,b⟩:=h.mem;have:=wA (k:=List.range m) h.1 fun k hk=>by
  obtain⟨g,l,rfl⟩:=jg.mp hk;obtain⟨t,A⟩:=a g l;exact qu.mpr (by rw[A];exact s _ t)
 rwa[zr,zS] at this
inductive zca(t:List V)(H:Hp)(Q:VK):Prop
 | mk (a d:Addr) (o:Obj) (c:Nat->Nat->Int) (n m r:Nat) (f:Nat->Nat) (u v:Nat->Int) (s:List (Nat×Nat)) (_:t=[.ref a,.ref d,.int (r:Int)]) (_:CsAt H a c n m) (_:H d=some (.frz o (.dK (hsV s)))) (_:Pot c r m f u v) (_:r<n) (_:n<=m) (_:m<=63) (_:Hold s r f) (_:(∀x,x<n->∀j,j<m->0<=c x j)) (_:∀g p A l,HW c m r s g->Same H l->H p=none->l p=some (.frz A (.dK (hsV g)))->Q (.ref p) l):zca  t H Q
def zgQ:Sp:=fun c H Q _=>zca  c H Q
theorem zg3:zG ["costs","holders","row","walks","total","columns","moved","comer","column"] ["costs","holders","row"] (zx (topL 11)):=u0
def zaA(a:_)(d:_)(r:Nat)(p:_)(A:List (Int×List Nat))(l:List (Nat×Nat))(m:_)(s:_)(B:_)(H:_)(c:_):=fun(i:Nat) (σ:St) (g:Hp)=>(Ex2 fun(t:V) (D:Option V)=>An5 (σ=[some (.ref a),some (.ref d),some (.int (r:Int)),some (.ref p),some (.int (enW (A.getD (wQ A l m) (0,[]))).1),some (.ref s),some (.ref B),some t,D]) (Same H g) (g s=some (.tup (c.map fun(n:Nat)=>V.int (n:Int)))) (g B=some (.dK (hsV (mdN l r c i)))) ((i<c.length->t=.int (cmN l r c i:Int))):Prop)
theorem zhv{f:Addr}{fd:FuncData}(F:Fun K "holders_with" "holders_with" (topL 11) f fd)(B:Blt I)(M:Dfn P w K I G "settled" 1 ["costs","holders","walks"] zb3):FnOk P w K I G CX0 2 f fd ["costs","holders","row"] zgQ:=by
 have nd:=zg3.nd;refine F.ok zg3 (fun vs H Q E h=>?_) (fun bd A b9 s H vs Q E hr h=>?_)
 ·obtain⟨a,d,o,c,n,m,r,f,u,v,t,rfl,_⟩:=h
  rfl
 ·obtain⟨a,d,o,c,n,m,r,f,u,v,t,rfl,ac,hd,Y,a4,be,hm,J,ab,k⟩:=h
  have a5:=V0 hr;have ai:=hr.units;refine⟨_,(zi (zB (i:=3) nd rfl (Or.inl rfl) (zm M hr.m rfl (zd (pv 0) (zd (pv 1) (zd (xL [] [] rfl rfl (by kernel_rfl) (ww rfl B.enumerate (zd (zJ z6 (pv 0) (pv 2) (fun _ _=>rfl)) ze)) (fun _ _ _ _=>qh) (fun _ _ _ _=>(qG (zd (pv 1) (zd (qG (zd (pv 0) ze)) ze))))) ze)))))
   (zi (xJ (zv (zbF rfl ai) rfl B.min Wj (zd (xL ["holders"] [1] rfl rfl (by kernel_rfl) (ww rfl B.enumerate (zd (pv 3) ze)) (fun _ _ _ _=>(Qa (zfO (zbe a5 (pv 0) (pv 2))))) (fun _ _ _ _=>(pv 1))) ze)) (ju rfl (zI (zH (i:=4) nd rfl (Or.inl rfl)) (zI (zH (i:=5) nd rfl (Or.inl rfl)) qP))))
   (zi (zB (i:=6) nd rfl (Or.inl rfl) (qM WM rfl B.dict zbJ (zd (pv 1) ze)))
   (zi (zB (i:=7) nd rfl (Or.inl rfl) (pv 2))
   (zi (qW jK rfl (vT (pv 5)) (zH (i:=8) nd rfl (Or.inl rfl))
   (zi (Y2 a5 (pv 6) (pv 8) (pv 7) rfl)
    (zu (zB (i:=7) nd rfl (Or.inl rfl) (zcD a5 (pv 1) (pv 8) ⟨rfl,rfl,rfl,rfl⟩)))))
   (zu (zE (zcB (pv 6))))))))),?_⟩
  obtain⟨zc,b0,bg,b4⟩:=id ac;obtain⟨A,b5,hA⟩:=b4 r a4;have lm:((List.range m).map fun j=>V.int (c r j)).length=m:=by rw[zr,zS]
  have sz:sizeLine=16777216:=sizeLine_eq;refine⟨_,rfl,_,rfl,_,rfl,_,rfl,a,_,_,.ref A,rfl,rfl,u4 b0,qy b5,A,rfl,⟨_,u4 hA⟩,yu (K:=K) (a:=A) (xs:=(List.range m).map fun j=>V.int (c r j)) (fun i L H1=>Same H H1/\WkR H1 L ((qX c r i).map enW)) ⟨u6 _,WkR.nil⟩ (fun i L H1 ⟨s1,_⟩=>u4 (s1 _ _ hA)) ?_ ?_⟩
  ·rintro i x L H1 T hx ⟨s1,w1⟩ hT
   have af:i<m:=by have:=(zT.mp hx).1;rw[lm] at this;exact this
   rw[zZ,jX af] at hx;cases hx;have sT:=s1.trans (zf (o:=.tup [.int (i:Int),.int (c r i)]) hT);have wT:=w1.same (zf (o:=.tup [.int (i:Int),.int (c r i)]) hT);refine⟨T,_,rfl,u5 zg,rfl,_,_,rfl,_,_,rfl,rfl,rfl,?_⟩
   generalize upd H1 T (.tup [.int (i:Int),.int (c r i)])=H2 at sT wT;refine⟨_,rfl,_,rfl,(by show 1<=_;omega),fun q1 ah=>⟨(by show 2<=_;omega),fun q2 a3=>⟨?_,?_,?_⟩⟩⟩
   ·have:=wT.1;rw[zr] at this;unfold qX at this;rw[zr,zS] at this;omega
   ·exact sT.trans ((zf ah).trans (zf a3))
   ·rw[Zn,zV]
    refine WkR.snoc (U:=q1) ((wT.same (zf ah)).same (zf a3)) zg ?_
    exact zf a3 _ _ zg
  ·rintro L H1 ⟨s1,w1⟩
   rw[lm] at w1;have zl:=w1.1;rw[zr] at zl;have fl:(qX c r m).length=m:=by unfold qX;rw[zr,zS]
   refine⟨by omega,fun wl am=>?_⟩
   have s2:=s1.trans (zf (o:=.lst L) am);have w2:=w1.same (zf (o:=.lst L) am);have al:upd H1 wl (.lst L) wl=some (.lst L):=zg;generalize upd H1 wl (.lst L)=H2 at s2 w2 al;have aj:∀j,j<m->v j<=c r j:=fun j hj=>vD (Y.neg j hj) (ab r a4 j hj)
   refine⟨a,d,wl,o,L,c,n,m,r,f,u,v,c r,t,qX c r m,rfl,ac.same s2,s2 _ _ hd,al,w2,Y,by omega,J,aj,ub c r m f (c r),by omega,fun D p ys H3 st s3 hp ag ao=>?_⟩
   have s3:=s2.trans s3;obtain⟨ax,ay⟩:=J.mem;obtain⟨g,ba⟩:=st.ok Y aj ax ay (ub c r m f (c r));have el:=g.1;have yl:=ao.1;rw[zr,el] at yl;refine⟨_,rfl,p,rfl,⟨_,u4 ag⟩,yu (K:=K) (a:=p) (xs:=ys) (fun i L H4=>Same H3 H4/\WkR H4 L ((frees t i).map fun j=>enW (D.getD j (0,[])))) ⟨u6 _,WkR.nil⟩ (fun i L H4 ⟨s4,_⟩=>u4 (s4 _ _ ag)) ?_ ?_⟩
   ·rintro i x L H4 T hx ⟨s4,w4⟩ hT
    have af:i<m:=by have:=(zT.mp hx).1;omega
    obtain⟨U,U',b1,b2,b3⟩:=ao.2 i (enW (D.getD i (0,[]))) (by
     rw[zZ,qz,qo (by omega)];rfl)
    rw[b1] at hx;cases hx;have sT:=s4.trans (zf (o:=.tup [.int (i:Int),.ref U]) hT);have wT:=w4.same (zf (o:=.tup [.int (i:Int),.ref U]) hT);have ar:(frees t i).length<=i:=by
     have:=QT (fun j=>(look t j).isNone) (List.range i)
     rw[zS] at this;exact this
    refine⟨T,_,rfl,u5 zg,rfl,_,_,rfl,_,_,rfl,rfl,rfl,?_⟩
    generalize upd H4 T (.tup [.int (i:Int),.ref U])=H5 at sT wT;refine⟨_,rfl,_,rfl,d,_,rfl,.inl ⟨hsV t,Sum.inl (i:Int),.inr ⟨o,sT _ _ (s3 _ _ hd)⟩,rfl,rfl⟩,_,rfl,?_⟩
    rw[Yq,WJ];refine jE (fun z=>⟨_,rfl,?_,sT,?_⟩) (fun z=>⟨sT,?_⟩)
    ·have:=wT.1;rw[zr] at this;omega
    ·have:look t i=none:=by
      cases q:look t i with
      | none=>rfl
      | some y=>rw[q] at z;cases z
     rw[zq this,zV];exact WkR.snoc (U:=U') wT (sT _ _ b2) (sT _ _ b3)
    ·have:¬look t i=none:=fun q=>z (by rw[q];rfl)
     rw[zo this,QM];exact wT
   ·rintro N H4 ⟨s4,w4⟩
    rw[yl] at w4;have z4:=w4.1;rw[zr] at z4;have ar:(frees t m).length<=m:=by
     have:=QT (fun j=>(look t j).isNone) (List.range m)
     rw[zS] at this;exact this
    obtain⟨j0,b7,b6⟩:=V4 f (show r<m by omega)
    have ne:frees t m≠[]:=WW (wx.mpr ⟨b7,J.free.mpr b6⟩);obtain⟨⟨p1,p2⟩,p3⟩:=Y3 (es:=D) ne;obtain⟨f',u',v',bc,az,ch⟩:=Y.more (fun j hj=>ab r a4 j hj) J st p1 p2 p3
    have an:((frees t m).map fun j=>enW (D.getD j (0,[])))≠[]:=fun z=>ne (List.map_eq_nil_iff.mp z)
    have lt:=Xj an;rw[zr] at lt;have aq:((frees t m).map fun j=>enW (D.getD j (0,[])))[Qj ((frees t m).map fun j=>enW (D.getD j (0,[])))]? =some (enW (D.getD (wQ D t m) (0,[]))):=by
     unfold wQ;rw[zZ,qz (l:=frees t m),qo lt];rfl
    obtain⟨TT,UU,t1,t2,t3⟩:=w4.2 _ _ aq;have ap:HW c m r t (mdN t r (way D (wQ D t m)) (way D (wQ D t m)).length):=⟨D,st,rfl⟩;have bb:H4 UU=some (.tup ((way D (wQ D t m)).map fun(n:Nat)=>V.int (n:Int))):=by
     rw[t3];show some (HO.tup (((way D (wQ D t m)).map fun(n:Nat)=>(n:Int)).map V.int))=_
     rw[jT];rfl
    refine⟨by omega,fun l hl=>?_⟩
    have s5:=s4.trans (zf (o:=.lst N) hl);have u2:=zf (o:=.lst N) hl _ _ t2;have u3:=zf (o:=.lst N) hl _ _ bb;have w5:=w4.same (zf (o:=.lst N) hl);refine⟨l,N,_,rfl,u4 zg,w5,an,fun vv ak=>?_⟩
    rw[t1] at ak;cases ak;generalize upd H4 l (.lst N)=H5 at s5 u2 u3;refine⟨TT,_,rfl,u5 u2,rfl,_,_,rfl,_,_,rfl,rfl,?_⟩
    have s6:=s3.trans s5;refine⟨_,rfl,d,hsV t,rfl,.inr ⟨o,s6 _ _ hd⟩,fun mp O=>?_⟩
    have bf:=J.len Y.rng;have cr:=ch.rng;have cn:=ch.nodup;have a9:=ch.next
    generalize way D (wQ D t m)=pp at ap u3 cr cn a9;have bh:pp.length<=m:=by
     have:=wA (k:=List.range m) cn fun x hx=>qu.mpr (cr.1 x hx)
     rwa[zS] at this
    have a7:H mp=none:=uc s6 O;have s7:=s6.trans (zf (o:=.dK (hsV t)) O);have b8:UU≠mp:=zp u3 O;refine⟨_,rfl,_,rfl,UU,rfl,⟨_,u5 (zf O _ _ u3)⟩,?_⟩
    refine Xr (K:=K) (a:=UU) (xs:=pp.map fun(n:Nat)=>V.int (n:Int)) (zaA a d r p D t m UU mp H pp)
     ⟨_,_,rfl,s7,zf O _ _ u3,zg,fun _=>rfl⟩ (fun i σ H7 _ ⟨_,_,_,_,h,_,_⟩=>u5 h) ?_ ?_
    ·rintro i x σ H7 hx ⟨cm,v8,rfl,a8,aa,a0,au⟩
     rw[zZ] at hx;obtain⟨y,hy,rfl⟩:=jd.mp hx;have hi:=(zT.mp hy).1;have ae:pp.getD i 0=y:=by rw[qz,hy];rfl
     cases au hi;have ml:=zc6 t r pp i;have aw:(hsV (mdN t r pp i)).length<sizeLine:=by unfold hsV;rw[zr];omega
     refine⟨_,rfl,_,rfl,_,rfl,mp,_,rfl,DPut.k (k:=Sum.inl (y:Int)) a0 aw,?_⟩
     have a6:∀b u,H b=some u->upd H7 mp (.dK (xZ (hsV (mdN t r pp i)) (Sum.inl (y:Int)) (.int (cmN t r pp i:Int)))) b=some u:=fun b u e=>by
      rw[zw (zp e a7)];exact a8 _ _ e
     refine⟨_,rfl,d,rfl,.inl ⟨_,.inr ⟨o,a6 _ _ hd⟩⟩,_,rfl,_,.inl ⟨hsV t,Sum.inl (y:Int),.inr ⟨o,a6 _ _ hd⟩,rfl,rfl⟩,?_⟩
     rw[Yq];refine⟨_,_,rfl,a6,by rw[zw b8];exact aa,?_,fun av=>?_⟩
     ·rw[zg,zed]
      show _=some (HO.dK (hsV (ZI (mdN t r pp i) (pp.getD i 0) (cmN t r pp i))));rw[ae]
     ·obtain⟨x',a1,a2,_,_⟩:=a9 i y _ hy (qo av)
      have lk:look t y=some x':=(J.2 y x').mpr ⟨a1,a2⟩;unfold cmN;rw[zo (Nat.succ_ne_zero i),Nat.add_sub_cancel,ae,lk];rfl
    ·rintro σ H7 ⟨cm,v8,rfl,a8,aa,a0,_⟩
     rw[zr] at a0;exact⟨_,rfl,mp,_,rfl,a0,fun o'=>k _ mp o' _ ap (fun b u e=>by rw[zw (zp e a7)];exact a8 _ _ e) a7 zg⟩
inductive AH(c:Nat->Nat->Int)(m:Nat):Nat->List (Nat×Nat)->Prop
 | zero:AH c m 0 []
 | succ {r:Nat} {l g:List (Nat×Nat)}:AH c m r l->HW c m r l g->AH c m (r+1) g
theorem AH.ok{c:Nat->Nat->Int}{m n:Nat}(l:n<=m)(hc:∀x,x<n->∀j,j<m->0<=c x j):∀{r:Nat} {g:List (Nat×Nat)},AH c m r g->r<=n->∃f u v,Pot c r m f u v/\Hold g r f
 | 0,_,.zero,_=>⟨fun _=>0,_,_,Pot.zero c m _,Hold.nil _⟩
 | r+1,_,.succ a w,h=>by
  obtain⟨f,u,v,P,H⟩:=AH.ok l hc a (by omega)
  exact w.more P H (hc r (by omega)) (by omega)
inductive zcf(s:List V)(H:Hp)(Q:VK):Prop
 | mk (a:Addr) (c:Nat->Nat->Int) (n m:Nat) (_:s=[.ref a]) (_:CsAt H a c n m) (_:n<=m) (_:m<=63) (_:(∀x,x<n->∀j,j<m->0<=c x j)) (_:∀l p t g,AH c m n l->Same H g->H p=none->g p=some (.frz t (.dK (hsV l)))->Q (.ref p) g):zcf  s H Q
def zfF:Sp:=fun c H Q _=>zcf  c H Q
theorem zg6:zG ["costs","holders","row"] ["costs"] (zx (topL 12)):=u0
def zaz(a:_)(c:_)(m:_)(H:_):=fun(i:Nat) (σ:St) (g:Hp)=>(Ex4 fun(l:List (Nat×Nat)) (q:Addr) (o:Obj) (s:Option V)=>An5 (σ=[some (.ref a),some (.ref q),s]) (AH c m i l) (Same H g) (H q=none) (g q=some (.frz o (.dK (hsV l)))):Prop)
theorem zhy{f:Addr}{fd:FuncData}(F:Fun K "all_holders" "all_holders" (topL 12) f fd)(B:Blt I)(g:Dfn P w K I G "holders_with" 2 ["costs","holders","row"] zgQ):FnOk P w K I G CX0 3 f fd ["costs"] zfF:=by
 have nd:=zg6.nd;refine F.ok zg6 (fun vs H Q E h=>?_) (fun a6 A a4 s H vs Q E hr h=>?_)
 ·obtain⟨a,c,n,m,rfl,_⟩:=h
  rfl
 ·obtain⟨a,c,n,m,rfl,J,L,hm,D,k⟩:=h
  refine⟨_,(zi (zB (i:=1) nd rfl (Or.inl rfl) (zcB VE))
   (zi (qW jK rfl (qv rfl B.range (zd (zv zy rfl B.len boot_len (zd (pv 0) ze)) ze)) (zH (i:=2) nd rfl (Or.inl rfl))
   (zu (zB (i:=1) nd rfl (Or.inl rfl) (zm g hr.m rfl (zd (pv 0) (zd (pv 1) (zd (pv 2) ze)))))))
   (zu (zE (pv 1))))),?_⟩
  obtain⟨zc,a3,N,a7⟩:=id J;have t:(2^62:Int)=4611686018427387904:=by decide
  refine fun p Y=>⟨p,_,rfl,zg,fun o=>?_⟩
  have s1:Same H (upd (upd H p (.dK [])) p (.frz o (.dK []))):=fun b u e=>by rw[zw (zp e Y),zw (zp e Y)];exact e
  have h1:upd (upd H p (.dK [])) p (.frz o (.dK [])) p=some (.frz o (.dK (hsV []))):=zg;generalize upd (upd H p (.dK [])) p (.frz o (.dK []))=H1 at s1 h1;refine⟨_,rfl,a,_,rfl,.inl (u4 (s1 _ _ a3)),_,rfl,by rw[t,N];omega,by rw[t,N];omega,?_⟩
  rw[show((zc.length:Nat):Int).toNat=n by omega]
  refine ji (n:=n) (zaz a c m H) ⟨[],p,o,_,rfl,.zero,s1,Y,h1⟩ ?_ ?_
  ·rintro i σ H2 U ⟨hs,q,o2,v2,rfl,T,O,hq,l⟩
   have U:i<n:=by omega
   obtain⟨f,u,v,a5,M⟩:=T.ok L D (vI U);refine⟨_,rfl,_,rfl,_,rfl,a,q,o2,c,n,m,i,f,u,v,hs,(by rw[XF];rfl),J.same O,l,a5,U,L,hm,M,D,fun a2 p' o' H3 hw s3 a0 a1=>?_⟩
   exact⟨a2,p',o',_,rfl,.succ T hw,O.trans s3,O.free a0,a1⟩
  ·rintro σ H2 ⟨hs,q,o2,v2,rfl,T,O,hq,l⟩
   exact⟨_,rfl,k hs q o2 H2 T O hq l⟩
theorem Y7:∀{l k:List (Int×Int)},l.Pairwise (fun a b=>ltP a b=true)->k.Pairwise (fun a b=>ltP a b=true)->(∀x,x∈l↔x∈k)->l=k
 | [],[],_,_,_=>rfl
 | [],b::k,_,_,h=>absurd ((h b).mpr (by simp)) (by simp)
 | a::l,[],_,_,h=>absurd ((h a).mp (by simp)) (by simp)
 | a::l,b::k,p,q,h=>by
  rw[Zb] at p q;have c:∀{x y:Int×Int},ltP x y=true->ltP y x=true->False:=fun g s=>by
   have:=zc2 g s;rw[ZP] at this;cases this
  have e:a=b:=by
   rcases zL.mp ((h a).mp (by simp)) with z | z
   ·exact z
   ·rcases zL.mp ((h b).mpr (by simp)) with y | y
    ·exact y.symm
    ·exact(c (q.1 a z) (p.1 b y)).elim
  subst e;have:l=k:=Y7 p.2 q.2 fun x=>⟨fun hx=>?_,fun hx=>?_⟩
  ·rw[this]
  ·rcases zL.mp ((h x).mp (z9 _ hx)) with z | z
   ·subst z
    have:=p.1 x hx;rw[ZP] at this;cases this
   ·exact z
  ·rcases zL.mp ((h x).mpr (z9 _ hx)) with z | z
   ·subst z
    have:=q.1 x hx;rw[ZP] at this;cases this
   ·exact z
def swp(h:Nat×Nat):Int×Int:=((h.2:Int),(h.1:Int))
theorem zd8{l:List (Nat×Nat)}{r:Nat}{f:Nat->Nat}(h:Hold l r f){c:List (Int×Int)}(D:c.Perm (l.map swp))(E:c.Pairwise fun a b=>ltP a b=true):c=(List.range r).map fun(x:Nat)=>((x:Int),(f x:Int)):=by
 obtain⟨s,t⟩:=h.mem;refine Y7 E ?_ fun q=>?_
 ·rw[vp]
  refine Yc.imp fun {x y} B=>zW (.inl ?_)
  show(x:Int)<(y:Int);omega
 ·rw[D.mem_iff,jg,jg]
  constructor
  ·rintro⟨g,A,rfl⟩
   obtain⟨a,b⟩:=s g A;refine⟨g.2,qu.mpr a,?_⟩
   unfold swp;rw[b]
  ·rintro⟨x,hx,rfl⟩
   exact⟨(f x,x),t x (qu.mp hx),rfl⟩
theorem za3{c:List (Nat×Nat)}{r:Nat}{f:Nat->Nat}(h:Hold c r f):(c.map swp).Nodup:=by
 have g:=h.1;rw[List.Nodup,vp] at g ⊢;refine g.imp fun {a b} ne e=>ne ?_
 have:=congrArg Prod.snd e;show a.1=b.1;have l:(a.1:Int)=(b.1:Int):=this;omega
inductive zcd(l:List V)(H:Hp)(Q:VK):Prop
 | mk (d:Addr) (o:Obj) (r m:Nat) (f:Nat->Nat) (g:List (Nat×Nat)) (_:l=[.ref d]) (_:H d=some (.frz o (.dK (hsV g)))) (_:Hold g r f) (_:(∀x,x<r->f x<m)) (_:m<=63) (_:∀p c,Same H c->H p=none->c p=some (.lst ((List.range r).map fun(x:Nat)=>V.int (f x:Int)))->Q (.ref p) c):zcd  l H Q
def zfD:Sp:=fun c H Q _=>zcd  c H Q
theorem zg4:zG ["holders"] ["holders"] (zx (topL 13)):=u0
theorem zhw{f:Addr}{fd:FuncData}(F:Fun K "columns_by" "columns_by" (topL 13) f fd)(B:Blt I):FnOk P w K I G CX0 1 f fd ["holders"] zfD:=by
 have nd:=zg4.nd;refine F.ok zg4 (fun vs H Q E h=>?_) (fun a5 A a3 s H vs Q E hr h=>?_)
 ·obtain⟨d,o,r,m,f,t,rfl,_⟩:=h
  rfl
 ·obtain⟨d,o,r,m,f,t,rfl,N,c,O,hm,k⟩:=h
  have sz:sizeLine=16777216:=sizeLine_eq;have a7:=c.len O;refine⟨_,(zu (zE (xL [] [] rfl rfl (by kernel_rfl) (qV (zv Xw rfl B.sorted vZ (zd (xL [] [] rfl rfl (by kernel_rfl) (Y5 (zcF QW Yd JD (pv 0))) (fun _ _ _ _=>qh) (fun _ _ _ _=>(qG (zd (pv 1) (zd (pv 0) ze))))) ze))) (fun _ _ _ _=>qh) (fun _ _ _ _=>(pv 1))))),?_⟩
  refine⟨_,rfl,d,rfl,.inl ⟨_,.inr ⟨o,N⟩⟩,d,o,hsV t,rfl,rfl,N,fun pv U=>⟨pv,d,o,hsV t,rfl,zg,by rw[zw (zp N U)];exact N,zeC (d:=d) (o:=o) (kvs:=hsV t) (fun i g L=>Same H L/\PrR L g ((t.take i).map swp)) ⟨zf U,PrR.nil⟩ (fun i g L ⟨s1,_⟩=>s1 _ _ N) ?_ ?_⟩⟩
  ·rintro i a0 a4 g L T hx ⟨s1,w1⟩ hT
   obtain⟨⟨kk,x⟩,hh,e⟩:∃h,t[i]? =some h/\(Sum.inl (h.1:Int),V.int (h.2:Int))=(a0,a4):=by
    unfold hsV at hx;rw[zZ] at hx;obtain⟨h,a1,a2⟩:=jd.mp hx;exact⟨h,a1,a2⟩
   cases e;have hi:=(zT.mp hh).1;refine⟨T,_,rfl,u5 zg,rfl,_,_,rfl,_,_,rfl,rfl,rfl,?_⟩
   refine⟨_,rfl,_,rfl,(by show 2<=_;omega),fun q hq=>⟨?_,s1.trans ((zf hT).trans (zf hq)),?_⟩⟩
   ·have:=w1.1;rw[zr,jO] at this;omega
   ·rw[WU,hh,WY,zV]
    exact PrR.snoc (q:=swp (kk,x)) ((w1.same (zf hT)).same (zf hq)) zg
  ·rintro g L ⟨s1,w1⟩
   rw[show(hsV t).length=t.length from zr _,j7] at w1
   have zl:=w1.1;rw[zr] at zl;refine⟨by omega,fun l hl=>⟨l,g,t.map swp,rfl,u4 zg,w1.same (zf hl),za3 c,by rw[zr];omega,fun Y qs M D pm pw pr=>?_⟩⟩
   have s2:=s1.trans (zf (o:=.lst g) hl);generalize upd L l (.lst g)=H2 at D pr s2;have eq:=zd8 c pm pw;subst eq;have s3:=s2.trans (zf (o:=.lst M) D);have J:=pr.same (zf (o:=.lst M) D);have h3:upd H2 Y (.lst M) Y=some (.lst M):=zg;generalize upd H2 Y (.lst M)=H3 at s3 J h3;have yl:=J.1;rw[zr,zS] at yl;have a6:r<=m:=by
    have:=wA (l:=(List.range r).map f) (k:=List.range m) (by
     rw[List.Nodup,vp];refine(QO (n:=r)).imp_of_mem fun {x y} hx hy ne e=>ne ?_
     have a1:=(c.2 (f x) x).mpr ⟨qu.mp hx,rfl⟩;have a2:=(c.2 (f x) y).mpr ⟨qu.mp hy,e.symm⟩;rw[a1] at a2;exact qU a2) fun j hj=>by
      obtain⟨x,hx,rfl⟩:=jg.mp hj;exact qu.mpr (O x (qu.mp hx))
    rwa[zr,zS,zS] at this
   refine⟨Y,rfl,⟨_,u4 h3⟩,jq (K:=K) (a:=Y) (xs:=M) (fun i g H4=>H4=H3/\g=(List.range i).map fun(x:Nat)=>V.int (f x:Int)) ⟨rfl,rfl⟩ (fun i g H4 ⟨e,_⟩=>by rw[e];exact u4 h3) ?_ ?_⟩
   ·rintro i x g H4 hx ⟨rfl,rfl⟩
    have hi:=(zT.mp hx).1;obtain⟨T,e1,e2⟩:=J.2 i ((i:Int),(f i:Int)) (by rw[zZ,jX (by omega)];rfl)
    rw[e1] at hx;cases hx;refine⟨T,_,rfl,u5 e2,rfl,_,_,rfl,_,_,rfl,rfl,rfl,_,rfl,?_,rfl,?_⟩
    ·rw[zr,zS];omega
    ·rw[j6,zV];rfl
   ·rintro g H4 ⟨rfl,rfl⟩
    rw[yl];exact⟨by rw[zr,zS];omega,fun q hq=>k q _ (s3.trans (zf hq)) (s3.free hq) zg⟩
inductive Yw(K:W.Frag)(s:List V)(H:Hp)(Q:VK):Prop
 | mk (a l:Addr) (c:Nat->Nat->Int) (n m:Nat) (f:Nat->Nat) (_:s=[.ref a,.ref l]) (_:CsAt H a c n m) (_:SqL K H l ((List.range n).map fun(x:Nat)=>V.int (f x:Int))) (_:(∀x,x<n->f x<m)) (_:n<=63) (_:(∀x,x<n->∀j,j<m->0<=c x j/\c x j<=1000000)) (_:∀g,Same H g->Q (.int (qe n fun x=>c x (f x))) g):Yw K s H Q
def Jp(K:W.Frag):Sp:=fun c H Q _=>Yw K c H Q
theorem ze8:zG ["costs","columns"] ["costs","columns"] (zx (topL 14)):=u0
theorem zf5{f:Addr}{fd:FuncData}(F:Fun K "sum_at" "sum_at" (topL 14) f fd)(B:Blt I):FnOk P w K I G CX0 1 f fd ["costs","columns"] (Jp K):=by
 have nd:=ze8.nd;refine F.ok ze8 (fun vs H Q E h=>?_) (fun a1 A a0 s H vs Q E hr h=>?_)
 ·obtain⟨a,l,c,n,m,f,rfl,_⟩:=h
  rfl
 ·obtain⟨a,l,c,n,m,f,rfl,M,hl,t,hn,hc,k⟩:=h
  have sz:sizeLine=16777216:=sizeLine_eq;refine⟨_,(zu (zE (zv (vk rfl) rfl B.sum boot_sum (zd (xL ["costs"] [0] rfl rfl (by kernel_rfl) (ww rfl B.enumerate (zd (pv 1) ze)) (fun _ _ _ _=>qh) (fun _ _ _ _=>(zJ (jG (K:=K) rfl) (zJ (jG (K:=K) rfl) (pv 2) (pv 0) (fun _ _=>rfl)) (pv 1) (fun _ _=>rfl)))) ze)))),?_⟩
  obtain⟨zc,O,a2,U⟩:=id M;refine⟨_,rfl,l,rfl,⟨_,hl⟩,yu (K:=K) (a:=l) (xs:=(List.range n).map fun(x:Nat)=>V.int (f x:Int)) (fun i L g=>Same H g/\L=((List.range i).map fun x=>c x (f x)).map V.int) ⟨u6 _,rfl⟩ (fun i L g ⟨D,_⟩=>D.seq hl) ?_ ?_⟩
  ·rintro i x L g T hx ⟨D,rfl⟩ hT
   have N:i<n:=by have:=(zT.mp hx).1;rw[zr,zS] at this;exact this
   rw[zZ,jX N] at hx;cases hx;obtain⟨A,Y,hA⟩:=U i N;have J:=D.trans (zf (o:=.tup [.int (i:Int),.int (f i:Int)]) hT);refine⟨T,_,rfl,u5 zg,rfl,_,_,rfl,_,_,rfl,rfl,rfl,?_⟩
   generalize upd g T (.tup [.int (i:Int),.int (f i:Int)])=H2 at J;refine⟨_,rfl,_,rfl,a,_,_,.ref A,rfl,rfl,u4 (J _ _ O),qy Y,_,rfl,A,_,_,.int (c i (f i)),rfl,rfl,u4 (J _ _ hA),qy (by rw[zZ,jX (t i N)];rfl),?_,J,?_⟩
   ·rw[zr,zr,zS];omega
   ·rw[j6,zV,zV];rfl
  ·rintro L g ⟨D,rfl⟩
   have ln:((List.range n).map fun(x:Nat)=>V.int (f x:Int)).length=n:=by rw[zr,zS]
   rw[ln];refine⟨by rw[zr,zr,zS];omega,fun q hq=>⟨q,_,rfl,u4 zg,fun z hz=>?_,by rw[zr,zS];omega,k _ (D.trans (zf hq))⟩⟩
   obtain⟨x,hx,rfl⟩:=jg.mp hz;have hx:=qu.mp hx;exact hc x hx _ (t x hx)
def zie(H:Hp)(p l:Addr)(c:Nat->Nat->Int)(n:Nat)(f:Nat->Nat):Prop:=H p=some (.tup [.int (qe n fun x=>c x (f x)),.ref l])/\H l=some (.lst ((List.range n).map fun(x:Nat)=>V.int (f x:Int)))
inductive zb9(t:List V)(H:Hp)(Q:VK):Prop
 | mk (a:Addr) (c:Nat->Nat->Int) (n m:Nat) (_:t=[.ref a]) (_:CsAt H a c n m) (_:n<=m) (_:m<=63) (_:(∀x,x<n->∀j,j<m->0<=c x j/\c x j<=1000000)) (_:∀s f u v p l g,AH c m n s->Hold s n f->Pot c n m f u v->Same H g->H p=none->H l=none->zie g p l c n f->Q (.ref p) g):zb9  t H Q
def zd5:Sp:=fun c H Q _=>zb9  c H Q
theorem zg2:zG ["costs","columns"] ["costs"] (zx (topL 15)):=u0
theorem zhu{f:Addr}{fd:FuncData}(F:Fun K "matched_slots" "matched_slots" (topL 15) f fd)(B:Blt I)(g:Dfn P w K I G "all_holders" 3 ["costs"] zfF)(t:Dfn P w K I G "columns_by" 1 ["holders"] zfD)
  (D:Dfn P w K I G "sum_at" 1 ["costs","columns"] (Jp K)):FnOk P w K I G CX0 4 f fd ["costs"] zd5:=by
 have nd:=zg2.nd;refine F.ok zg2 (fun vs H Q E h=>?_) (fun a2 A a1 s H vs Q E hr h=>?_)
 ·obtain⟨a,c,n,m,rfl,_⟩:=h
  rfl
 ·obtain⟨a,c,n,m,rfl,T,U,hm,hc,k⟩:=h
  have sz:sizeLine=16777216:=sizeLine_eq;refine⟨_,(zi (zB (i:=1) nd rfl (Or.inl rfl) (zm t hr.m rfl (zd (zm g hr.m rfl (zd (pv 0) ze)) ze)))
   (zu (zE (qG (zd (zm D hr.m rfl (zd (pv 0) (zd (pv 1) ze))) (zd (pv 1) ze)))))),?_⟩
  have O:∀x,x<n->∀j,j<m->0<=c x j:=fun x hx j hj=>(hc x hx j hj).1
  refine⟨_,rfl,a,c,n,m,rfl,T,U,hm,O,fun hs d o H1 ah s1 hd a0=>?_⟩
  obtain⟨f,u,v,M,J⟩:=ah.ok U O (zC _);refine⟨d,o,n,m,f,hs,rfl,a0,J,M.rng,hm,fun l H2 Y hl L=>?_⟩
  have Y:=s1.trans Y;refine⟨_,rfl,_,rfl,a,l,c,n,m,f,rfl,T.same Y,u4 L,M.rng,by omega,hc,fun H3 s3=>?_⟩
  refine⟨_,rfl,(by show 2<=_;omega),fun p hp=>?_⟩
  have N:=Y.trans s3;exact k hs f u v p l _ ah J M (fun b x e=>by rw[zw (zp (N _ _ e) hp)];exact N _ _ e) (uc N hp) (uc s1 hl) ⟨zg,by rw[zw (zp (s3 _ _ L) hp)];exact s3 _ _ L⟩
def jl:Dat->Bool
 | .int _=>true
 | _=>false
def VZ:Dat->Bool
 | .bl _=>true
 | _=>false
def iD:Dat->Int
 | .int i=>i
 | _=>0
def jv(k:Nat):Dat->Bool
 | .lst c=>decide (c.length=k)&&c.all jl
 | _=>false
def qZ:Dat->List Int
 | .lst c=>c.map iD
 | _=>[]
def JZ(k:Nat):Dat->Bool
 | .tup c=>decide (c.length=k)
 | _=>false
theorem zdY(d:Dat):jC d.tyN "int" = (jl d||VZ d):=by
 cases d with
 | non=>exact(by decide:jC "NoneType" "int" = false)
 | bl _=>exact(by decide:jC "bool" "int" = true)
 | int _=>exact(by decide:jC "int" "int" = true)
 | str _=>exact(by decide:jC "str" "int" = false)
 | lst _=>exact(by decide:jC "list" "int" = false)
 | tup _=>exact(by decide:jC "tuple" "int" = false)
theorem zbU(d:Dat):jC d.tyN "bool" = VZ d:=by
 cases d with
 | non=>exact(by decide:jC "NoneType" "bool" = false)
 | bl _=>exact(by decide:jC "bool" "bool" = true)
 | int _=>exact(by decide:jC "int" "bool" = false)
 | str _=>exact(by decide:jC "str" "bool" = false)
 | lst _=>exact(by decide:jC "list" "bool" = false)
 | tup _=>exact(by decide:jC "tuple" "bool" = false)
def zdf:Dat->Bool
 | .lst _=>true
 | _=>false
def zhG:Dat->Bool
 | .tup _=>true
 | _=>false
theorem Vf(d:Dat):jC d.tyN "list" = zdf d:=by
 cases d with
 | non=>exact(by decide:jC "NoneType" "list" = false)
 | bl _=>exact(by decide:jC "bool" "list" = false)
 | int _=>exact(by decide:jC "int" "list" = false)
 | str _=>exact(by decide:jC "str" "list" = false)
 | lst _=>exact(by decide:jC "list" "list" = true)
 | tup _=>exact(by decide:jC "tuple" "list" = false)
theorem zdX(d:Dat):jC d.tyN "tuple" = zhG d:=by
 cases d with
 | non=>exact(by decide:jC "NoneType" "tuple" = false)
 | bl _=>exact(by decide:jC "bool" "tuple" = false)
 | int _=>exact(by decide:jC "int" "tuple" = false)
 | str _=>exact(by decide:jC "str" "tuple" = false)
 | lst _=>exact(by decide:jC "list" "tuple" = false)
 | tup _=>exact(by decide:jC "tuple" "tuple" = true)
theorem zgi(d:Dat):(if(jl d||VZ d)=true then !VZ d else(jl d||VZ d))=jl d:=by cases d<;>rfl
theorem Xx:∀c:List Dat,c.length<=Dat.blks c
 | []=>qk _
 | d::c=>by
  have:=Xx c;show c.length+1<=d.blk+1+Dat.blks c;omega
theorem JB{c:List Dat}(h:c.all jl=true):c=(c.map iD).map Dat.int:=by
 induction c with
 | nil=>rfl
 | cons d c g=>
  rw[List.all_cons,qE] at h;rw[jz,jz,<- g h.2];cases d with
  | int i=>rfl
  | _=>cases h.1
theorem wP{K:W.Frag}{H:Hp}:∀{c:List Int} {g:List V},Reps K H (c.map Dat.int) g->g=c.map V.int
 | [],_,h=>h
 | u::c,_,⟨x,r,e,l,s⟩=>by
  rw[e,show x=V.int u from l,wP s]
  rfl
theorem yq{K:W.Frag}{H:Hp}{k:Nat}{d:Dat}{v:V}(h:jv k d=true)(r:Rep K H d v):∃a,v=.ref a/\SqL K H a ((qZ d).map V.int)/\(qZ d).length=k:=by
 cases d with
 | lst c=>
  obtain⟨l,s⟩:=(qE _ _).mp h;obtain⟨a,t,rfl,q,g⟩:=r;rw[JB s] at g;refine⟨a,rfl,?_,?_⟩
  ·show SqL K H a ((c.map iD).map V.int)
   rw[<- wP g];exact q
  ·show(c.map iD).length=k
   rw[zr];exact jA l
 | _=>cases h
inductive YD(K:W.Frag)(c:List V)(H:Hp)(Q:VK):Prop
 | mk (v:V) (d:Dat) (_:c=[v]) (_:Rep K H d v) (_:Q (.bl (jl d)) H):YD K c H Q
def zb8(K:W.Frag):Sp:=fun c H Q _=>YD K c H Q
theorem zfi:zG ["thing"] ["thing"] (zx (topL 1)):=u0
theorem zgf{f:Addr}{l:FuncData}(F:Fun K "is_number" "is_number" (topL 1) f l)(B:Blt I):FnOk P w K I G CX0 1 f l ["thing"] (zb8 K):=by
 have M:=zfi.nd;refine F.ok zfi (fun J H Q E h=>?_) (fun D A g s H J Q E L h=>?_)
 ·obtain⟨v,d,rfl,_⟩:=h
  rfl
 ·obtain⟨v,d,rfl,t,k⟩:=h
  refine⟨_,(zu (zE (vy (zv qY rfl B.isinstance boot_isinstance (zd (pv 0) (zd (qR (v:=.ty "int") rfl B.int yC rfl) ze))) (wS (zfV (zv qY rfl B.isinstance boot_isinstance (zd (pv 0) (zd (qR (v:=.ty "bool") rfl B.bool yW rfl) ze)))))))),?_⟩
  refine⟨_,rfl,v,d.tyN, "int",rfl,t.ty,(by decide),?_⟩
  rw[zdY];rw[<- zgi d] at k;refine⟨_,rfl,jE (fun c=>?_) (fun c=>?_)⟩
  ·rw[zq c] at k
   refine⟨_,rfl,v,d.tyN, "bool",rfl,t.ty,(by decide),?_⟩
   rw[zbU];exact⟨_,rfl,k⟩
  ·rw[zo c,(w9 _).mp c] at k
   exact k
inductive Vq(K:W.Frag)(g:List V)(H:Hp)(Q:VK):Prop
 | mk (v:V) (d:Dat) (n:Nat) (_:g=[v,.int (n:Int)]) (_:Rep K H d v) (_:d.blk<=1000000) (_:∀c,Same H c->Q (.bl (jv n d)) c):Vq K g H Q
def zb7(K:W.Frag):Sp:=fun c H Q _=>Vq K c H Q
theorem zfk:zG ["thing","many"] ["thing","many"] (zx (topL 17)):=u0
theorem zgh{f:Addr}{U:FuncData}(F:Fun K "are_numbers" "are_numbers" (topL 17) f U)(B:Blt I)(g:Dfn P w K I G "is_number" 1 ["thing"] (zb8 K)):FnOk P w K I G CX0 2 f U ["thing","many"] (zb7 K):=by
 have nd:=zfk.nd;refine F.ok zfk (fun vs H Q E h=>?_) (fun a0 A N s H vs Q E hr h=>?_)
 ·obtain⟨v,d,n,rfl,_⟩:=h
  rfl
 ·obtain⟨v,d,n,rfl,Y,hb,k⟩:=h
  have sz:sizeLine=16777216:=sizeLine_eq;refine⟨_,(zu (zE (vy (zv qY rfl B.isinstance boot_isinstance (zd (pv 0) (zd (qR (v:=.ty "list") rfl B.list jk rfl) ze))) (vy (qQ xk (zv zy rfl B.len boot_len (zd (pv 0) ze)) (pv 1) (qb _)) (wS (zv (xE rfl) rfl B.all boot_all (zd (je [] [] rfl rfl (by kernel_rfl) (qV (pv 0)) (fun _ _ _ _=>qh) (fun _ _ _ _=>(zm g hr.m rfl (zd (pv 0) ze)))) ze))))))),?_⟩
  refine⟨_,rfl,v,d.tyN, "list",rfl,Y.ty,(by decide),?_⟩
  rw[Vf];refine⟨_,rfl,jE (fun c=>?_) (fun c=>?_)⟩
  ·cases d with
   | lst l=>
    obtain⟨a,O,rfl,hq,rx⟩:=Y;have D:=rx.len;have lb:l.length<=1000000:=jU (Xx l) hb;refine⟨_,rfl,a,O,rfl,.inl hq,_,rfl,rfl,_,rfl,jE (fun c=>?_) (fun c=>?_)⟩
    ·have M:l.length=n:=by have:=jA c;cases this;omega
     refine⟨_,rfl,a,rfl,⟨_,hq⟩,jq (K:=K) (a:=a) (xs:=O) (fun i L J=>L=((l.take i).map jl).map V.bl/\Same H J) ⟨rfl,u6 _⟩ (fun i L J ⟨_,t⟩=>t.seq hq) ?_ ?_⟩
     ·rintro i x L J hx ⟨rfl,t⟩
      obtain⟨e,T,re⟩:=(rx.same t).get hx;have hi:i<l.length:=(zT.mp T).1;refine⟨rfl,_,rfl,x,e,rfl,re,?_,?_,t⟩
      ·rw[zr,zr,jO];omega
      ·rw[jn T,zV,zV];rfl
     ·rintro L J ⟨rfl,t⟩
      rw[D,j7];refine⟨by rw[zr,zr];omega,fun q hq=>⟨q,l.map jl,rfl,u4 zg,?_⟩⟩
      have:=k _ (t.trans (zf (o:=.lst ((l.map jl).map V.bl)) hq));rw[show jv n (.lst l)=(l.map jl).all id by
       show(decide (l.length=n)&&l.all jl)=_;rw[zW M,XE];rfl] at this
      exact this
    ·have M:¬l.length=n:=fun z=>c (zW (by rw[D,z]))
     have:=k _ (u6 _);rw[show jv n (.lst l)=false by
      show(decide (l.length=n)&&l.all jl)=_;rw[jb M];rfl] at this
     exact this
   | _=>cases c
  ·have:=k _ (u6 _)
   rw[show jv n d=false by cases d<;>first| rfl | exact absurd rfl c] at this
   exact this
inductive Yv(K:W.Frag)(c:List V)(H:Hp)(Q:VK):Prop
 | mk (v:V) (d:Dat) (n:Nat) (_:c=[v,.int (n:Int)]) (_:Rep K H d v) (_:Q (.bl (JZ n d)) H):Yv K c H Q
def ze0(K:W.Frag):Sp:=fun c H Q _=>Yv K c H Q
theorem zgX:zG ["thing","many"] ["thing","many"] (zx (topL 6)):=u0
theorem zhp{f:Addr}{D:FuncData}(F:Fun K "is_tuple_of" "is_tuple_of" (topL 6) f D)(B:Blt I):FnOk P w K I G CX0 1 f D ["thing","many"] (ze0 K):=by
 have U:=zgX.nd;refine F.ok zgX (fun O H Q E h=>?_) (fun M A l s H O Q E T h=>?_)
 ·obtain⟨v,d,n,rfl,_⟩:=h
  rfl
 ·obtain⟨v,d,n,rfl,J,k⟩:=h
  refine⟨_,(zu (zE (vy (zv qY rfl B.isinstance boot_isinstance (zd (pv 0) (zd (qR (v:=.ty "tuple") rfl B.tuple jw rfl) ze))) (wS (qQ xk (zv zy rfl B.len boot_len (zd (pv 0) ze)) (pv 1) (qb _)))))),?_⟩
  refine⟨_,rfl,v,d.tyN, "tuple",rfl,J.ty,(by decide),?_⟩
  rw[zdX];refine⟨_,rfl,jE (fun c=>?_) (fun c=>?_)⟩
  ·cases d with
   | tup t=>
    obtain⟨a,L,rfl,hq,N⟩:=J;have g:=N.len;refine⟨_,rfl,a,L,rfl,.inr hq,_,rfl,?_⟩
    rw[show JZ n (.tup t)=decide (V.int (L.length:Int)=V.int (n:Int)) by
     show decide (t.length=n)=_;rw[g];refine wK.mpr ⟨fun h=>by rw[h],fun h=>?_⟩
     cases h;rfl] at k
    exact⟨rfl,k⟩
   | _=>cases c
  ·rw[show JZ n d=false by cases d<;>first| rfl | exact absurd rfl c] at k
   exact k
inductive zb0(g:List V)(H:Hp)(Q:VK):Prop
 | mk (a:Addr) (c:Nat->Nat->Int) (n m:Nat) (_:g=[.ref a]) (_:CsAt H a c n m) (_:(n=0->m=0)) (_:Q (.int (m:Int)) H):zb0  g H Q
def zd4:Sp:=fun c H Q _=>zb0  c H Q
theorem zgU:zG ["costs"] ["costs"] (zx (topL 9)):=u0
theorem zhn{f:Addr}{J:FuncData}(F:Fun K "width_of" "width_of" (topL 9) f J)(B:Blt I):FnOk P w K I G CX0 1 f J ["costs"] zd4:=by
 have nd:=zgU.nd;refine F.ok zgU (fun Y H Q E h=>?_) (fun M A t s H Y Q E hr h=>?_)
 ·obtain⟨a,c,n,m,rfl,_⟩:=h
  rfl
 ·obtain⟨a,c,n,m,rfl,⟨g,l,L,U⟩,T,k⟩:=h
  refine⟨_,(zi (jF (xI (zee (pv 0)))
   (zu (zE zj))
   qB)
   (zu (zE (zv zy rfl B.len boot_len (zd (zJ z6 (pv 0) zj (fun _ _=>rfl)) ze))))),?_⟩
  cases n with
  | zero=>
   cases g with
   | cons z g=>cases L
   | nil=>
    rw[T rfl] at k;exact⟨_,rfl,a,[],rfl,u4 l,ifT rfl k⟩
  | succ n=>
   cases g with
   | nil=>cases L
   | cons z g=>
    obtain⟨D,N,O⟩:=U 0 (by omega)
    refine⟨_,rfl,a,_,rfl,u4 l,ifF rfl ⟨_,rfl,a,_,_,.ref D,rfl,rfl,u4 l,qy (j:=0) N,D,_,rfl,.inl (u4 O),?_⟩⟩
    rw[zr,zS];exact k
def zg9(c:Nat->Nat->Int)(m:Nat)(g l:List Int)(x:Nat):Bool:=(List.range m).all fun j=>decide (g.getD x 0+l.getD j 0<=c x j)
def VF(c:Nat->Nat->Int)(n m:Nat)(l g:List Int):Bool:=(g.all fun z=>decide (z<=0))&&(List.range n).all (zg9 c m l g)
def ZJ(c:Nat->Nat->Int)(n m:Nat):Dat->Bool
 | .tup [a,b]=>jv n a&&(jv m b&&VF c n m (qZ a) (qZ b))
 | _=>false
def Jc(c:Nat->Nat->Int)(m:Nat)(g l:List Int)(i:Nat):List Bool:=(List.range i).flatMap fun x=>(List.range m).map fun j=>decide (g.getD x 0+l.getD j 0<=c x j)
theorem Qe(c:Nat->Nat->Int)(m:Nat)(g l:List Int):∀i,(Jc c m g l i).length=i*m
 | 0=>by simp[Jc]
 | i+1=>by
  have:=Qe c m g l i;unfold Jc at this ⊢;rw[j6,List.flatMap_append,zY,this];simp[Nat.succ_mul]
theorem zcH(c:Nat->Nat->Int)(n m:Nat)(g l:List Int):(Jc c m g l n).all id=(List.range n).all (zg9 c m g l):=by
 unfold Jc;rw[List.all_flatMap];congr 1
 funext x
 rw[XE];rfl
theorem Qs{c:List Int}{i:Nat}{x:V}(h:(c.map V.int)[i]? =some x):x=.int (c.getD i 0)/\i<c.length:=by
 rw[zZ] at h;obtain⟨u,e,rfl⟩:=jd.mp h;refine⟨?_,(zT.mp e).1⟩
 rw[qz,e];rfl
theorem zgD{d:Dat}(h:JZ 2 d=true):∃a b,d=.tup [a,b]:=by
 cases d with
 | tup c=>
  have:=jA h;match c,this with
  | [a,b],_=>exact⟨a,b,rfl⟩
 | _=>cases h
inductive Yz(K:W.Frag)(l:List V)(H:Hp)(Q:VK):Prop
 | mk (a:Addr) (c:Nat->Nat->Int) (n m:Nat) (v:V) (d:Dat) (_:l=[.ref a,v]) (_:CsAt H a c n m) (_:(n=0->m=0)) (_:n<=63) (_:m<=63) (_:Rep K H d v) (_:d.blk<=1000000) (_:∀g,Same H g->Q (.bl (ZJ c n m d)) g):Yz K l H Q
def ze1(K:W.Frag):Sp:=fun c H Q _=>Yz K c H Q
theorem ze9:zG ["costs","thing","rows","columns"] ["costs","thing"] (zx (topL 18)):=u0
def zay(c:_)(m:_)(g:List Int)(l:List Int)(i:_)(H:_):=fun(j:Nat) (t:List V) (s:Hp)=>(An2 (t=(Jc c m g l i++(List.range j).map fun j=>decide (g.getD i 0+l.getD j 0<=c i j)).map V.bl) (Same H s):Prop)
theorem zf6{f:Addr}{fd:FuncData}(F:Fun K "shows_paper" "shows_paper" (topL 18) f fd)(B:Blt I)(t:Dfn P w K I G "is_tuple_of" 1 ["thing","many"] (ze0 K))(g:Dfn P w K I G "are_numbers" 2 ["thing","many"] (zb7 K))(D:Dfn P w K I G "width_of" 1 ["costs"] zd4) :
  FnOk P w K I G CX0 3 f fd ["costs","thing"] (ze1 K):=by
 have nd:=ze9.nd;refine F.ok ze9 (fun l H Q E h=>?_) (fun ag A af s H l Q E hr h=>?_)
 ·obtain⟨a,c,n,m,v,d,rfl,_⟩:=h
  rfl
 ·obtain⟨a,c,n,m,v,d,rfl,cs,h0,hn,hm,rd,hb,k⟩:=h
  have sz:sizeLine=16777216:=sizeLine_eq;refine⟨_,(@zi _ _ _ _ _ (@jF _ _ _ _ _ _ _ _ (@xI _ _ _ _ (@jD _ _ _ (@zm _ _ _ _ _ _ _ _ _ _ t hr.m rfl (@zd _ _ _ _ _ (@pv _ 1 _ _ (by rfl) (by first| exact Or.inl rfl | exact Or.inr (Or.inl rfl) | exact Or.inr (Or.inr rfl)) (by decide) (by decide)) (@zd _ _ _ _ _ zj ze (by rfl)) (by rfl)) (by decide) (by rfl) (by rfl)) (by intro _ ;rfl))) (@zu _ _ _ (@zE _ _ _ _ xM)) qB) (@zi _ _ _ _ _ (@xJ _ _ _ _ _ _ (@pv _ 1 _ _ (by rfl) (by first| exact Or.inl rfl | exact Or.inr (Or.inl rfl) | exact Or.inr (Or.inr rfl)) (by decide) (by decide)) (@ju _ _ _ _ _ _ rfl (@zI _ _ _ _ _ (@zH _ _ 2 _ nd rfl (Or.inl rfl) (by first| exact .inl rfl | exact .inr rfl | assumption)) (@zI _ _ _ _ _ (@zH _ _ 3 _ nd rfl (Or.inr rfl) (by first| exact .inl rfl | exact .inr rfl | assumption)) qP (by rfl)) (by rfl)) (by rfl) (by rfl)) (by rfl) (by rfl) (by rfl)) (@zi _ _ _ _ _ (@jF _ _ _ _ _ _ _ _ (@PW.pt _ _ _ (@Jx _ _ _ _ _ _ _ (@xI _ _ _ _ (@jD _ _ _ (@zm _ _ _ _ _ _ _ _ _ _ g hr.m rfl (@zd _ _ _ _ _ (@pv _ 2 _ _ (by rfl) (by first| exact Or.inl rfl | exact Or.inr (Or.inl rfl) | exact Or.inr (Or.inr rfl)) (by decide) (by decide)) (@zd _ _ _ _ _ (@zv _ _ _ _ _ _ _ _ _ zy rfl B.len boot_len (@zd _ _ _ _ _ (@pv _ 0 _ _ (by rfl) (by first| exact Or.inl rfl | exact Or.inr (Or.inl rfl) | exact Or.inr (Or.inr rfl)) (by decide) (by decide)) ze (by rfl)) (by decide) (by decide) (by rfl) (by rfl)) ze (by rfl)) (by rfl)) (by decide) (by rfl) (by rfl)) (by intro _ ;rfl))) (@yP _ _ _ _ (@xI _ _ _ _ (@jD _ _ _ (@zm _ _ _ _ _ _ _ _ _ _ g hr.m rfl (@zd _ _ _ _ _ (@pv _ 3 _ _ (by rfl) (by first| exact Or.inl rfl | exact Or.inr (Or.inl rfl) | exact Or.inr (Or.inr rfl)) (by decide) (by decide)) (@zd _ _ _ _ _ (@zm _ _ _ _ _ _ _ _ _ _ D hr.m rfl (@zd _ _ _ _ _ (@pv _ 0 _ _ (by rfl) (by first| exact Or.inl rfl | exact Or.inr (Or.inl rfl) | exact Or.inr (Or.inr rfl)) (by decide) (by decide)) ze (by rfl)) (by decide) (by rfl) (by rfl)) ze (by rfl)) (by rfl)) (by decide) (by rfl) (by rfl)) (by intro _ ;rfl)))))) (@zu _ _ _ (@zE _ _ _ _ xM)) qB) (@zi _ _ _ _ _ (@jF _ _ _ _ _ _ _ _ (@jD _ _ _ (@zv _ _ _ _ _ _ _ _ _ (zbI rfl) rfl B.any zdz (@zd _ _ _ _ _ (@je _ _ _ _ _ _ _ _ _ _ _ [] [] rfl rfl (by kernel_rfl) (@qV _ _ _ _ (@pv _ 3 _ _ (by rfl) (by first| exact Or.inl rfl | exact Or.inr (Or.inl rfl) | exact Or.inr (Or.inr rfl)) (by decide) (by decide))) (fun _ _ _ _=>qh) (fun _ _ _ _=>(@qQ _ _ _ _ _ _ _ _ zcM (@pv _ 0 _ _ (by rfl) (by first| exact Or.inl rfl | exact Or.inr (Or.inl rfl) | exact Or.inr (Or.inr rfl)) (by decide) (by decide)) zj (qb _))) (by intro _ ;rfl)) ze (by rfl)) (by decide) (by decide) (by rfl) (by rfl)) (by intro _ ;rfl)) (@zu _ _ _ (@zE _ _ _ _ xM)) qB) (@zu _ _ _ (@zE _ _ _ _ (@zv _ _ _ _ _ _ _ _ _ (xE rfl) rfl B.all boot_all (@zd _ _ _ _ _ (@zei _ _ _ _ _ _ _ _ _ _ _ _ _ _ _ _ _ _ _ _ _ _ _ _ _ ["columns"] [3] rfl rfl (by kernel_rfl) (@wR _ _ _ _ _ _ _ _ _ rfl B.zip (@zd _ _ _ _ _ (@pv _ 2 _ _ (by rfl) (by first| exact Or.inl rfl | exact Or.inr (Or.inl rfl) | exact Or.inr (Or.inr rfl)) (by decide) (by decide)) (@zd _ _ _ _ _ (@pv _ 0 _ _ (by rfl) (by first| exact Or.inl rfl | exact Or.inr (Or.inl rfl) | exact Or.inr (Or.inr rfl)) (by decide) (by decide)) ze (by rfl)) (by rfl)) (by rfl) (by rfl)) (fun _ _ _ _=>qh) (fun _ _ _ _=>(@zeg _ K rfl _ _ _ _ _ _ _ _ rfl B.zip (@zd _ _ _ _ _ (@pv _ 4 _ _ (by rfl) (by first| exact Or.inl rfl | exact Or.inr (Or.inl rfl) | exact Or.inr (Or.inr rfl)) (by decide) (by decide)) (@zd _ _ _ _ _ (@pv _ 1 _ _ (by rfl) (by first| exact Or.inl rfl | exact Or.inr (Or.inl rfl) | exact Or.inr (Or.inr rfl)) (by decide) (by decide)) ze (by rfl)) (by rfl)) (by rfl) (by rfl))) (fun _ _ _ _=>qh) (fun _ _ _ _=>(@qQ _ _ _ _ _ _ _ _ VH (@zF _ _ _ _ _ _ _ _ qd (@pv _ 0 _ _ (by rfl) (by first| exact Or.inl rfl | exact Or.inr (Or.inl rfl) | exact Or.inr (Or.inr rfl)) (by decide) (by decide)) (@pv _ 2 _ _ (by rfl) (by first| exact Or.inl rfl | exact Or.inr (Or.inl rfl) | exact Or.inr (Or.inr rfl)) (by decide) (by decide))) (@pv _ 3 _ _ (by rfl) (by first| exact Or.inl rfl | exact Or.inr (Or.inl rfl) | exact Or.inr (Or.inr rfl)) (by decide) (by decide)) (qb _))) (by intro _ ;rfl) (by intro _ _ ;rfl)) ze (by rfl)) (by decide) (by decide) (by rfl) (by rfl)))))))),?_⟩
  refine⟨_,rfl,v,d,2,rfl,rd,_,rfl,jE (fun O=>?_) (fun O=>?_)⟩
  ·have e:ZJ c n m d=false:=by
    have O:JZ 2 d=false:=by simpa using O
    match d,O with
    | .tup [x,y],O=>cases O
    | .tup [],_=>rfl
    | .tup [_],_=>rfl
    | .tup (_::_::_::_),_=>rfl
    | .non,_=>rfl
    | .bl _,_=>rfl
    | .int _,_=>rfl
    | .str _,_=>rfl
    | .lst _,_=>rfl
   have:=k _ (u6 _);rw[e] at this;exact this
  have O:JZ 2 d=true:=by simpa using O
  obtain⟨L,M,rfl⟩:=zgD O;obtain⟨T,xs,rfl,hT,x1,r1,rfl,a4,x2,r2,rfl,a5,e⟩:=rd;cases e;have a3:L.blk<=1000000/\M.blk<=1000000:=by
   have:L.blk+1+(M.blk+1+0)<=1000000:=hb;omega
  refine⟨_,rfl,T,_,rfl,hT,rfl,_,_,rfl,_,_,rfl,rfl,?_⟩
  obtain⟨zc,U,ac,ae⟩:=id cs;refine⟨_,rfl,_,rfl,a,zc,rfl,.inl (u4 U),x1,L,n,by rw[ac];rfl,a4,a3.1,fun H1 s1=>?_⟩
  have a0:∀H',Same H H'->jv n L=false\/jv m M=false->Q (.bl false) H':=fun H' s' e=>by
   have:=k H' s';rw[show ZJ c n m (.tup [L,M])=false by
    show(jv n L&&(jv m M&&_))=false;rcases e with e | e<;>rw[e]<;>simp] at this
   exact this
  refine⟨_,rfl,jE (fun Y=>ifT rfl (a0 _ s1 (.inl (by simpa using Y)))) (fun Y=>?_)⟩
  have Y:jv n L=true:=by simpa using Y
  refine⟨_,rfl,_,rfl,a,c,n,m,rfl,cs.same s1,h0,x2,M,m,rfl,a5.same s1,a3.2,fun H2 s2=>?_⟩
  have s2:=s1.trans s2;refine⟨_,rfl,jE (fun c3=>a0 _ s2 (.inr (by simpa using c3))) (fun c3=>?_)⟩
  have c3:jv m M=true:=by simpa using c3
  have ek:ZJ c n m (.tup [L,M])=VF c n m (qZ L) (qZ M):=by
   show(jv n L&&(jv m M&&_))=_;rw[Y,c3];rfl
  rw[ek] at k;obtain⟨l1,rfl,q1,e1⟩:=yq Y a4;obtain⟨l2,rfl,q2,e2⟩:=yq c3 a5;generalize qZ L=N at q1 e1 k;generalize qZ M=l at q2 e2 k;have lv:(l.map V.int).length=m:=by rw[zr];exact e2
  have lu:(N.map V.int).length=n:=by rw[zr];exact e1
  refine⟨_,rfl,l2,rfl,⟨_,s2.seq q2⟩,jq (K:=K) (a:=l2) (xs:=l.map V.int) (fun i J H3=>J=((l.take i).map fun z=>decide (z>0)).map V.bl/\Same H H3) ⟨rfl,s2⟩ (fun i J H3 ⟨_,s3⟩=>s3.seq q2) ?_ ?_⟩
  ·rintro i x J H3 hx ⟨rfl,s3⟩
   obtain⟨rfl,hi⟩:=Qs hx;have ev:l[i]? =some (l.getD i 0):=by rw[qz,qo hi];rfl
   refine⟨rfl,_,rfl,_,_,rfl,rfl,?_,?_,s3⟩
   ·rw[zr,zr,jO];omega
   ·rw[jn ev,zV,zV];rfl
  rintro J H3 ⟨rfl,s3⟩;rw[lv,<- e2,j7];refine⟨by rw[zr,zr];omega,fun D1 a6=>⟨D1,l.map fun z=>decide (z>0),rfl,u4 zg,_,rfl,?_⟩⟩
  have s4:=s3.trans (zf (o:=.lst ((l.map fun z=>decide (z>0)).map V.bl)) a6)
  generalize upd H3 D1 (.lst ((l.map fun z=>decide (z>0)).map V.bl))=H4 at s4
  have ea:((l.map fun z=>decide (z>0)).any id)=!(l.all fun z=>decide (z<=0)):=by
   rw[List.any_map,List.not_all_eq_any_not];congr 1
   funext z
   show decide (z>0)=!decide (z<=0);by_cases hz:z<=0
   ·rw[zW hz,jb (by omega)];rfl
   ·rw[jb hz,zW (by omega)];rfl
  rw[ea];refine jE (fun c4=>?_) (fun c4=>?_)
  ·have:=k _ s4
   rw[show VF c n m N l=false by
    unfold VF;rw[show(l.all fun z=>decide (z<=0))=false by simpa using c4];rfl] at this
   exact this
  have c4:(l.all fun z=>decide (z<=0))=true:=by simpa using c4
  have ez:VF c n m N l=(Jc c m N l n).all id:=by
   unfold VF;rw[c4,zcH];rfl
  rw[ez] at k;refine⟨_,rfl,_,rfl,true,true,l1,a,rfl,⟨_,s4.seq q1⟩,⟨_,u4 (s4 _ _ U)⟩,?_⟩
  refine zeD (K:=K) (k1:=true) (k2:=true) (xs:=N.map V.int) (ys:=zc) (fun i J H5=>J=(Jc c m N l i).map V.bl/\Same H H5) ⟨rfl,s4⟩ (fun i J H5 ⟨_,s5⟩=>⟨s5.seq q1,u4 (s5 _ _ U)⟩) ?_ ?_
  ·rintro i x y J H5 T5 hx hy ⟨rfl,s5⟩ a8
   obtain⟨rfl,hi⟩:=Qs hx;have aa:i<n:=by omega
   obtain⟨A1,a1,a2⟩:=ae i aa;rw[a1] at hy;cases hy;have s6:=s5.trans (zf (o:=.tup [.int (N.getD i 0),.ref A1]) a8);refine⟨T5,_,rfl,u5 zg,rfl,_,_,rfl,_,_,rfl,rfl,rfl,?_⟩
   generalize upd H5 T5 (.tup [.int (N.getD i 0),.ref A1])=H6 at s6;refine⟨_,rfl,_,rfl,true,true,l2,A1,rfl,⟨_,s6.seq q2⟩,⟨_,u4 (s6 _ _ a2)⟩,?_⟩
   refine zgs (K:=K) (k1:=true) (k2:=true) (xs:=l.map V.int) (ys:=(List.range m).map fun j=>V.int (c i j)) (zay c m N l i H) ⟨by simp,s6⟩ (fun j J H7 ⟨_,s7⟩=>⟨s7.seq q2,u4 (s7 _ _ a2)⟩) ?_ ?_
   ·rintro j x y J H7 T7 hx hy ⟨rfl,s7⟩ a9
    obtain⟨rfl,hj⟩:=Qs hx;have ab:j<m:=by omega
    rw[zZ,jX ab] at hy;cases hy;have s8:=s7.trans (zf (o:=.tup [.int (l.getD j 0),.int (c i j)]) a9);refine⟨T7,_,rfl,u5 zg,rfl,_,_,rfl,_,_,rfl,rfl,⟨rfl,rfl,rfl,trivial⟩,?_⟩
    refine⟨_,rfl,_,rfl,_,_,rfl,rfl,_,rfl,_,_,rfl,rfl,?_,?_,s8⟩
    ·rw[zr,zY,Qe,zr,zS]
     have:=Nat.mul_le_mul (show i<=63 by omega) hm
     omega
    ·rw[j6]
     simp
   ·rintro J H7 ⟨rfl,s7⟩
    have em:min (l.map V.int).length ((List.range m).map fun j=>V.int (c i j)).length=m:=by rw[lv,zr,zS,XD]
    rw[em];refine⟨?_,s7⟩
    unfold Jc;rw[j6 (n:=i),List.flatMap_append];simp
  ·rintro J H5 ⟨rfl,s5⟩
   have em:min (N.map V.int).length zc.length=n:=by omega
   rw[em];refine⟨?_,fun D2 a7=>⟨D2,Jc c m N l n,rfl,u4 zg,k _ (s5.trans (zf a7))⟩⟩
   rw[zr,Qe];have:=Nat.mul_le_mul hn hm;omega
def c00:Nat->Nat->Int:=fun _ _=>0
theorem zhW{m j:Nat}(c:j<m):tot (qX c00 0 m) j=0:=by
 unfold tot qX;rw[qz,zZ,jX c];rfl
theorem Pot.paper{c:Nat->Nat->Int}{n m:Nat}{f:Nat->Nat}{u v:Nat->Int}(P:Pot c n m f u v){H:List (Nat×Nat)}(B:Hold H n f){A:List (Int×List Nat)}(s:Settle c m H (qX c00 0 m) A) :
  Pot c n m f (fun x=>c x (f x)-tot A (f x)) (tot A):=by
 obtain⟨J,L⟩:=B.mem;have D:∀j,j<m->v j<=c00 0 j:=fun j t=>P.neg j t
 obtain⟨g,st⟩:=s.ok P D J L (ub c n m f (c00 0));have E:∀j,j<m->tot A j<=0:=fun j t=>by
  have:=s.le j (by unfold qX;rw[zr,zS];exact zC _)
  rw[zhW t] at this;exact this
 refine⟨P.inj,P.rng,fun x hx j t=>?_,fun x hx=>by show c x (f x)-tot A (f x)+tot A (f x)=c x (f x);omega,E,fun j t M=>?_⟩
 ·have:=st x hx j t
  show c x (f x)-tot A (f x)+tot A j<=c x j;omega
 ·have l:=Wg.low P D (g.2 j t)
  have:=P.free j t M;have:=E j t;omega
def zeU(H:Hp)(p c g:Addr)(n m:Nat)(u v:Nat->Int):Prop:=H p=some (.tup [.ref c,.ref g])/\H c=some (.lst ((List.range n).map fun x=>V.int (u x)))/\H g=some (.lst ((List.range m).map fun j=>V.int (v j)))
inductive zb6(B:List V)(H:Hp)(Q:VK):Prop
 | mk (a:Addr) (c:Nat->Nat->Int) (n m:Nat) (_:B=[.ref a]) (_:CsAt H a c n m) (_:n<=m) (_:(n=0->m=0)) (_:m<=63) (_:(∀x,x<n->∀j,j<m->0<=c x j)) (_:∀s f g p t A l,AH c m n s->Hold s n f->Settle c m s (qX c00 0 m) g->Pot c n m f (fun x=>c x (f x)-tot g (f x)) (tot g)->Same H l->H p=none->H t=none->H A=none->t≠A->zeU l p t A n m (fun x=>c x (f x)-tot g (f x)) (tot g)->Q (.ref p) l):zb6  B H Q
def zgP:Sp:=fun c H Q _=>zb6  c H Q
theorem zg1:zG ["costs","holders","walks","numbers","rows"] ["costs"] (zx (topL 16)):=u0
theorem zht{f:Addr}{fd:FuncData}(F:Fun K "paper_for" "paper_for" (topL 16) f fd)(B:Blt I)(l:Dfn P w K I G "all_holders" 3 ["costs"] zfF)(O:Dfn P w K I G "settled" 1 ["costs","holders","walks"] zb3)(L:Dfn P w K I G "width_of" 1 ["costs"] zd4)(t:Dfn P w K I G "columns_by" 1 ["holders"] zfD) :
  FnOk P w K I G CX0 4 f fd ["costs"] zgP:=by
 have nd:=zg1.nd;refine F.ok zg1 (fun vs H Q E h=>?_) (fun b6 A b0 s H vs Q E hr h=>?_)
 ·obtain⟨a,c,n,m,rfl,_⟩:=h
  rfl
 ·obtain⟨a,c,n,m,rfl,a0,aj,h0,hm,ae,k⟩:=h
  have sz:sizeLine=16777216:=sizeLine_eq;have a7:(2^62:Int)=4611686018427387904:=by decide
  refine⟨_,(@zi _ _ _ _ _ (@zB _ _ 1 _ _ _ _ nd rfl (Or.inl rfl) (@zm _ _ _ _ _ _ _ _ _ _ l hr.m rfl (@zd _ _ _ _ _ (@pv _ 0 _ _ (by rfl) (by first| exact Or.inl rfl | exact Or.inr (Or.inl rfl) | exact Or.inr (Or.inr rfl)) (by decide) (by decide)) ze (by rfl)) (by decide) (by rfl) (by rfl)) (by rfl) (by first| exact .inl rfl | exact .inr rfl | assumption)) (@zi _ _ _ _ _ (@zB _ _ 2 _ _ _ _ nd rfl (Or.inl rfl) (@zm _ _ _ _ _ _ _ _ _ _ O hr.m rfl (@zd _ _ _ _ _ (@pv _ 0 _ _ (by rfl) (by first| exact Or.inl rfl | exact Or.inr (Or.inl rfl) | exact Or.inr (Or.inr rfl)) (by decide) (by decide)) (@zd _ _ _ _ _ (@pv _ 1 _ _ (by rfl) (by first| exact Or.inl rfl | exact Or.inr (Or.inl rfl) | exact Or.inr (Or.inr rfl)) (by decide) (by decide)) (@zd _ _ _ _ _ (@je _ _ _ _ _ _ _ _ _ _ _ [] [] rfl rfl (by kernel_rfl) (@qv _ _ _ _ _ _ rfl B.range (@zd _ _ _ _ _ (@zm _ _ _ _ _ _ _ _ _ _ L hr.m rfl (@zd _ _ _ _ _ (@pv _ 0 _ _ (by rfl) (by first| exact Or.inl rfl | exact Or.inr (Or.inl rfl) | exact Or.inr (Or.inr rfl)) (by decide) (by decide)) ze (by rfl)) (by decide) (by rfl) (by rfl)) ze (by rfl)) (by rfl)) (fun _ _ _ _=>qh) (fun _ _ _ _=>(@qG _ _ _ _ _ (@zd _ _ _ _ _ zj (@zd _ _ _ _ _ (@qG _ _ _ _ _ (@zd _ _ _ _ _ (@pv _ 0 _ _ (by rfl) (by first| exact Or.inl rfl | exact Or.inr (Or.inl rfl) | exact Or.inr (Or.inr rfl)) (by decide) (by decide)) ze (by rfl))) ze (by rfl)) (by rfl)))) (by intro _ ;rfl)) ze (by rfl)) (by rfl)) (by rfl)) (by decide) (by rfl) (by rfl)) (by rfl) (by first| exact .inl rfl | exact .inr rfl | assumption)) (@zi _ _ _ _ _ (@zB _ _ 3 _ _ _ _ nd rfl (Or.inr rfl) (@xL _ _ _ _ _ _ _ _ _ _ _ _ _ _ _ [] [] rfl rfl (by kernel_rfl) (@qV _ _ _ _ (@pv _ 2 _ _ (by rfl) (by first| exact Or.inl rfl | exact Or.inr (Or.inl rfl) | exact Or.inr (Or.inr rfl)) (by decide) (by decide))) (fun _ _ _ _=>qh) (fun _ _ _ _=>(@pv _ 0 _ _ (by rfl) (by first| exact Or.inl rfl | exact Or.inr (Or.inl rfl) | exact Or.inr (Or.inr rfl)) (by decide) (by decide))) (by intro _ ;rfl)) (by rfl) (by first| exact .inl rfl | exact .inr rfl | assumption)) (@zi _ _ _ _ _ (@zfQ _ _ _ _ _ _ _ _ _ _ _ _ _ _ _ _ _ _ _ ["numbers","costs"] [3,0] rfl rfl (by kernel_rfl) (@ww _ _ _ _ _ _ _ _ rfl B.enumerate (@zd _ _ _ _ _ (@zm _ _ _ _ _ _ _ _ _ _ t hr.m rfl (@zd _ _ _ _ _ (@pv _ 1 _ _ (by rfl) (by first| exact Or.inl rfl | exact Or.inr (Or.inl rfl) | exact Or.inr (Or.inr rfl)) (by decide) (by decide)) ze (by rfl)) (by decide) (by rfl) (by rfl)) ze (by rfl)) (by rfl)) (fun _ _ _ _=>qh) (fun _ _ _ _=>(@zF _ _ _ _ _ _ _ _ xo (@zJ _ _ _ _ _ _ _ (jG (K:=K) rfl) (@zJ _ _ _ _ _ _ _ (jG (K:=K) rfl) (@pv _ 3 _ _ (by rfl) (by first| exact Or.inl rfl | exact Or.inr (Or.inl rfl) | exact Or.inr (Or.inr rfl)) (by decide) (by decide)) (@pv _ 0 _ _ (by rfl) (by first| exact Or.inl rfl | exact Or.inr (Or.inl rfl) | exact Or.inr (Or.inr rfl)) (by decide) (by decide)) (fun _ _=>rfl)) (@pv _ 1 _ _ (by rfl) (by first| exact Or.inl rfl | exact Or.inr (Or.inl rfl) | exact Or.inr (Or.inr rfl)) (by decide) (by decide)) (fun _ _=>rfl)) (@zJ _ _ _ _ _ _ _ (jG (K:=K) rfl) (@pv _ 2 _ _ (by rfl) (by first| exact Or.inl rfl | exact Or.inr (Or.inl rfl) | exact Or.inr (Or.inr rfl)) (by decide) (by decide)) (@pv _ 1 _ _ (by rfl) (by first| exact Or.inl rfl | exact Or.inr (Or.inl rfl) | exact Or.inr (Or.inr rfl)) (by decide) (by decide)) (fun _ _=>rfl)))) (@zH _ _ 4 _ nd rfl (Or.inl rfl) (by first| exact .inl rfl | exact .inr rfl | assumption)) (by rfl) (by intro _ ;rfl)) (@zu _ _ _ (@zE _ _ _ _ (@qG _ _ _ _ _ (@zd _ _ _ _ _ (@pv _ 4 _ _ (by rfl) (by first| exact Or.inl rfl | exact Or.inr (Or.inl rfl) | exact Or.inr (Or.inr rfl)) (by decide) (by decide)) (@zd _ _ _ _ _ (@pv _ 3 _ _ (by rfl) (by first| exact Or.inl rfl | exact Or.inr (Or.inl rfl) | exact Or.inr (Or.inr rfl)) (by decide) (by decide)) ze (by rfl)) (by rfl))))))))),?_⟩
  refine⟨_,rfl,a,c,n,m,rfl,a0,aj,hm,ae,fun hs d o H1 ah s1 hd af=>?_⟩
  obtain⟨f,u,v,Y,J⟩:=ah.ok aj ae (zC _);refine⟨_,rfl,_,rfl,_,rfl,a,c,n,m,rfl,a0.same s1,h0,_,rfl,by rw[a7];omega,by rw[a7];omega,?_⟩
  refine vf (N:=m) (lo:=0) (fun i D H2=>Same H1 H2/\WkR H2 D ((qX c00 0 i).map enW)) ⟨u6 _,WkR.nil⟩ ?_ ?_
  ·rintro i D H2 hi ⟨s2,w2⟩
   rw[XF];refine⟨rfl,_,rfl,(by show 1<=_;omega),fun q1 al=>⟨(by show 2<=_;omega),fun q2 a6=>⟨?_,?_,?_⟩⟩⟩
   ·have:=w2.1;rw[zr] at this;unfold qX at this;rw[zr,zS] at this;omega
   ·exact s2.trans ((zf al).trans (zf a6))
   ·rw[Zn,zV]
    refine WkR.snoc (U:=q1) ((w2.same (zf al)).same (zf a6)) zg ?_
    exact zf a6 _ _ zg
  rintro D H2 ⟨s2,w2⟩;have zl:=w2.1;have fl:(qX c00 0 m).length=m:=by unfold qX;rw[zr,zS]
  rw[zr,fl] at zl;refine⟨by omega,fun wl ao=>?_⟩
  have s3:=s2.trans (zf (o:=.lst D) ao);have w3:=w2.same (zf (o:=.lst D) ao);have an:upd H2 wl (.lst D) wl=some (.lst D):=zg;generalize upd H2 wl (.lst D)=H3 at s3 w3 an;have am:∀j,j<m->v j<=c00 0 j:=fun j hj=>Y.neg j hj
  refine⟨a,d,wl,o,D,c,n,m,n,f,u,v,c00 0,hs,qX c00 0 m,rfl,(a0.same s1).same s3,s3 _ _ af,an,w3,Y,zC _,J,am,ub c n m f (c00 0),by omega,fun M p ys H4 st s4 hp ak au=>?_⟩
  have b4:=s4;have s4:=s1.trans (s3.trans s4);obtain⟨av,aw⟩:=J.mem;obtain⟨g,b5⟩:=st.ok Y am av aw (ub c n m f (c00 0));have el:=g.1;have yl:=au.1;rw[zr,el] at yl;have pp:=Y.paper J st;refine⟨_,rfl,p,rfl,⟨_,u4 ak⟩,jq (K:=K) (a:=p) (xs:=ys) (fun i D H5=>Same H4 H5/\D=(List.range i).map fun j=>V.int (tot M j)) ⟨u6 _,rfl⟩ (fun i D H5 ⟨s5,_⟩=>u4 (s5 _ _ ak)) ?_ ?_⟩
  ·rintro i x D H5 hx ⟨s5,rfl⟩
   have b7:i<m:=by have:=(zT.mp hx).1;omega
   obtain⟨U,U',b1,b2,b3⟩:=zbO au (k:=i) (by omega)
   rw[b1] at hx;cases hx;refine⟨U,_,rfl,u5 (s5 _ _ b2),rfl,_,_,rfl,_,_,rfl,rfl,rfl,_,rfl,?_,s5,?_⟩
   ·rw[zr,zS];omega
   ·rw[j6,zV];rfl
  rintro D H5 ⟨s5,rfl⟩;rw[yl];refine⟨by rw[zr,zS];omega,fun l2 a5=>?_⟩
  have s6:=s4.trans (s5.trans (zf (o:=.lst ((List.range m).map fun j=>V.int (tot M j))) a5))
  have ai:H l2=none:=uc (s4.trans s5) a5;have ag:upd H5 l2 (.lst ((List.range m).map fun j=>V.int (tot M j))) d=some (.frz o (.dK (hsV hs))):=zf a5 _ _ (s5 _ _ (b4 _ _ (s3 _ _ af)))
  have a9:upd H5 l2 (.lst ((List.range m).map fun j=>V.int (tot M j))) l2=some (.lst ((List.range m).map fun j=>V.int (tot M j))):=zg
  generalize upd H5 l2 (.lst ((List.range m).map fun j=>V.int (tot M j)))=H6 at s6 ag a9
  refine⟨_,rfl,d,o,n,m,f,hs,rfl,ag,J,Y.rng,hm,fun lc H7 s7 b8 a4=>?_⟩
  have ap:=s6.trans s7;have ln:((List.range n).map fun(x:Nat)=>V.int (f x:Int)).length=n:=by rw[zr,zS]
  obtain⟨zc,ax,b9,ay⟩:=id a0;have aa:=s7 _ _ a9;refine⟨lc,rfl,⟨_,u4 a4⟩,yu (K:=K) (a:=lc) (xs:=(List.range n).map fun(x:Nat)=>V.int (f x:Int)) (fun i D H8=>Same H7 H8/\D=(List.range i).map fun x=>V.int (c x (f x)-tot M (f x))) ⟨u6 _,rfl⟩ (fun i D H8 ⟨s8,_⟩=>u4 (s8 _ _ a4)) ?_ ?_⟩
  ·rintro i x D H8 T hx ⟨s8,rfl⟩ hT
   have hi:i<n:=by have:=(zT.mp hx).1;omega
   rw[zZ,jX hi] at hx;cases hx;obtain⟨A1,a1,a2⟩:=ay i hi;have s9:=s8.trans (zf (o:=.tup [.int (i:Int),.int (f i:Int)]) hT);refine⟨T,_,rfl,u5 zg,rfl,_,_,rfl,_,_,rfl,rfl,rfl,?_⟩
   generalize upd H8 T (.tup [.int (i:Int),.int (f i:Int)])=H9 at s9;have fi:=Y.rng i hi;have ar:=ap.trans s9;refine⟨_,rfl,_,rfl,a,_,_,.ref A1,rfl,rfl,u4 (ar _ _ ax),qy a1,_,rfl,A1,_,_,.int (c i (f i)),rfl,rfl,u4 (ar _ _ a2),qy (by rw[zZ,jX fi];rfl),_,rfl,_,rfl,l2,_,_,.int (tot M (f i)),rfl,rfl,u4 (s9 _ _ aa),qy (by rw[zZ,jX fi];rfl),_,_,rfl,rfl,?_,s9,?_⟩
   ·rw[zr,zS];omega
   ·rw[j6,zV];rfl
  ·rintro D H8 ⟨s8,rfl⟩
   rw[ln];refine⟨by rw[zr,zS];omega,fun l1 a3=>?_⟩
   have aq:=ap.trans s8;have ab:=s8 _ _ aa;have az:l1≠l2:=(zp ab a3).symm;have s9:=aq.trans (zf (o:=.lst ((List.range n).map fun x=>V.int (c x (f x)-tot M (f x)))) a3)
   have ac:upd H8 l1 (.lst ((List.range n).map fun x=>V.int (c x (f x)-tot M (f x)))) l2=some (.lst ((List.range m).map fun j=>V.int (tot M j))):=zf a3 _ _ ab
   have a8:upd H8 l1 (.lst ((List.range n).map fun x=>V.int (c x (f x)-tot M (f x)))) l1=some (.lst ((List.range n).map fun x=>V.int (c x (f x)-tot M (f x)))):=zg
   generalize upd H8 l1 (.lst ((List.range n).map fun x=>V.int (c x (f x)-tot M (f x))))=H9 at s9 ac a8
   refine⟨_,rfl,_,rfl,(by show 2<=_;omega),fun q hq=>?_⟩
   exact k hs f M q l1 l2 _ ah J st pp (s9.trans (zf hq)) (uc s9 hq) (uc aq a3) ai az ⟨zg,zf hq _ _ a8,zf hq _ _ ac⟩
theorem ZU{K:Type}[DecidableEq K]:∀{g c:List K},(c++g).Nodup->jY c g=c++g
 | [],c,_=>by simp[jY]
 | j::g,c,h=>by
  have l:j∉c:=fun z=>by
   rw[Zu] at h;exact h.2.2 j z j (by simp) rfl
  have e:jY c (j::g)=jY (c++[j]) g:=by
   show g.foldl xA (xA c j)=g.foldl xA (c++[j]);unfold xA;rw[zo l]
  rw[e,ZU (by simpa using h)]
  simp
theorem zcJ{c:Nat->Nat->Int}{n m:Nat}{d:Dat}(h:JZ 2 d=false):ZJ c n m d=false:=by
 match d,h with
 | .tup [x,y],g=>cases g
 | .tup [],_=>rfl
 | .tup [_],_=>rfl
 | .tup (_::_::_::_),_=>rfl
 | .non,_=>rfl
 | .bl _,_=>rfl
 | .int _,_=>rfl
 | .str _,_=>rfl
 | .lst _,_=>rfl
theorem yM{α:Type}[DecidableEq α]:∀{js ks:List α},ks.Nodup->(jY ks js).length<=ks.length+js.length/\((jY ks js).length=ks.length+js.length->(ks++js).Nodup)
 | [],ks,h=>⟨zC _,fun _=>by rw[QM];exact h⟩
 | j::js,ks,h=>by
  have e:jY ks (j::js)=jY (xA ks j) js:=rfl;rw[e];by_cases g:j∈ks
  ·have c:xA ks j=ks:=zq g
   rw[c];obtain⟨a,_⟩:=yM (js:=js) h;rw[jP];exact⟨by omega,fun z=>by omega⟩
  ·have c:xA ks j=ks++[j]:=zo g
   rw[c];have s:(ks++[j]).Nodup:=by
    rw[Zu];exact⟨h,by simp,fun a l b hb e=>g (by rw[<- zK.mp hb,<- e];exact l)⟩
   obtain⟨a,b⟩:=yM (js:=js) s;rw[zY,QU] at a b;rw[jP];refine⟨by omega,fun z=>?_⟩
   have:=b (by omega)
   rwa[List.append_assoc] at this
theorem Ve{α:Type}[DecidableEq α]{c:List α}:(jY [] c).length=c.length↔c.Nodup:=by
 constructor
 ·intro h
  exact(yM (js:=c) (ks:=[]) yF).2 (by rw[h];simp)
 ·intro h
  rw[ZU (by simpa using h)]
  rfl
def qN(lo c:Int):Dat->Bool
 | .int i=>decide (lo<=i)&&decide (i<=c)
 | _=>false
def wI(n m:Nat):Dat->Bool
 | .lst c=>decide (c.length=n)&&(c.all (qN 0 ((m:Int)-1))&&decide ((c.map iD).Nodup))
 | _=>false
theorem wN{lo c:Int}{d:Dat}(h:qN lo c d=true):jl d=true/\lo<=iD d/\iD d<=c:=by
 cases d with
 | int i=>
  obtain⟨a,b⟩:=(qE _ _).mp h;exact⟨rfl,jA a,jA b⟩
 | _=>cases h
def We(c:List Int)(x:Nat):Nat:=(c.getD x 0).toNat
theorem zeN{n m:Nat}{d:Dat}(h:wI n m d=true):jv n d=true/\(∀x,x<n->We (qZ d) x<m)/\(qZ d).map V.int=(List.range n).map (fun(x:Nat)=>V.int (We (qZ d) x:Int)):=by
 cases d with
 | lst c=>
  obtain⟨g,l⟩:=(qE _ _).mp h;obtain⟨l,B⟩:=(qE _ _).mp l;have g:=jA g;have s:=jN.mp l;have t:∀x (hx:x<c.length),0<=(c.map iD).getD x 0/\(c.map iD).getD x 0<=(m:Int)-1:=fun x hx=>by
   rw[qz,zZ,qo hx];exact(wN (s _ (jM hx))).2
  refine⟨?_,fun x hx=>?_,?_⟩
  ·show(decide (c.length=n)&&c.all jl)=true
   rw[zW g,jN.mpr fun d A=>(wN (s d A)).1]
   rfl
  ·show((c.map iD).getD x 0).toNat<m
   have:=t x (by omega)
   omega
  ·show(c.map iD).map V.int=_
   refine List.ext_getElem? fun x=>?_
   rw[zZ,zZ,zZ];by_cases hx:x<c.length
   ·rw[qo hx,jX (by omega)]
    have:=t x hx;show some (V.int (iD c[x]))=some (V.int ((((c.map iD).getD x 0).toNat:Nat):Int));rw[show(((c.map iD).getD x 0).toNat:Int)=(c.map iD).getD x 0 by omega,qz,zZ,qo hx]
    rfl
   ·rw[XZ (by omega),XZ (by rw[zS];omega)]
    rfl
 | _=>cases h
def VQ(c:Nat->Nat->Int)(n m:Nat)(d:Dat):Dat->Bool
 | .tup [a,b]=>wI n m d&&(ZJ c n m (.tup [a,b])&&decide ((qZ a).sum+(qZ b).sum=qe n fun x=>c x (We (qZ d) x)))
 | _=>false
theorem zcI{c:Nat->Nat->Int}{n m:Nat}{d:Dat}(h:ZJ c n m d=true):∃a b,d=.tup [a,b]/\jv n a=true/\jv m b=true:=by
 have:JZ 2 d=true:=by
  cases e:JZ 2 d with
  | true=>rfl
  | false=>rw[zcJ e] at h;cases h
 obtain⟨a,b,rfl⟩:=zgD this;obtain⟨g,l⟩:=(qE _ _).mp (show(jv n a&&(jv m b&&_))=true from h)
 exact⟨a,b,rfl,g,((qE _ _).mp l).1⟩
theorem zc1{c:Nat->Nat->Int}{n m:Nat}{d e:Dat}(h:ZJ c n m e=false):VQ c n m d e=false:=by
 unfold VQ;split
 ·rename_i a b
  rw[h,QK,XL]
 ·rfl
theorem zbo{c:Nat->Nat->Int}{n m:Nat}{d e:Dat}(h:wI n m d=false):VQ c n m d e=false:=by
 unfold VQ;split
 ·rw[h,QK]
 ·rfl
inductive Vl(K:W.Frag)(g:List V)(H:Hp)(Q:VK):Prop
 | mk (v:V) (d:Dat) (lo c:Int) (_:g=[v,.int lo,.int c]) (_:Rep K H d v) (_:Q (.bl (qN lo c d)) H):Vl K g H Q
def zbZ(K:W.Frag):Sp:=fun c H Q _=>Vl K c H Q
theorem zgT:zG ["thing","least","most"] ["thing","least","most"] (zx (topL 2)):=u0
theorem zhm{f:Addr}{J:FuncData}(F:Fun K "is_number_within" "is_number_within" (topL 2) f J)(B:Blt I)(c:Dfn P w K I G "is_number" 1 ["thing"] (zb8 K)):FnOk P w K I G CX0 2 f J ["thing","least","most"] (zbZ K):=by
 have T:=zgT.nd;refine F.ok zgT (fun O H Q E h=>?_) (fun M A D s H O Q E N h=>?_)
 ·obtain⟨v,d,lo,g,rfl,_⟩:=h
  rfl
 ·obtain⟨v,d,lo,g,rfl,L,k⟩:=h
  refine⟨_,(zu (zE (vy (zm c N.m rfl (zd (pv 0) ze)) (wS (zcE VH VH (pv 1) (pv 0) (pv 2)))))),?_⟩
  refine⟨_,rfl,v,d,rfl,L,_,rfl,jE (fun l=>?_) (fun l=>?_)⟩
  ·obtain⟨i,rfl⟩:∃i,d=.int i:=by cases d<;>first| exact⟨_,rfl⟩ | cases l
   cases(show v=.int i from L)
   refine⟨_,rfl,_,rfl,_,_,rfl,rfl,_,rfl,jE (fun t=>⟨_,rfl,_,_,rfl,rfl,?_⟩) (fun t=>?_)⟩
   ·rw[show qN lo g (.int i)=decide (i<=g) by
     show(decide (lo<=i)&&decide (i<=g))=_;rw[t];rfl] at k
    exact k
   ·rw[show qN lo g (.int i)=false by
     show(decide (lo<=i)&&decide (i<=g))=_;rw[(w9 _).mp t];rfl] at k
    exact k
  ·rw[show qN lo g d=false by cases d<;>first| rfl | exact absurd rfl l] at k
   exact k
inductive Vv(K:W.Frag)(l:List V)(H:Hp)(Q:VK):Prop
 | mk (a:Addr) (c:Nat->Nat->Int) (n m:Nat) (v:V) (d:Dat) (_:l=[.ref a,v]) (_:CsAt H a c n m) (_:(n=0->m=0)) (_:n<=63) (_:Rep K H d v) (_:d.blk<=1000000) (_:∀g,Same H g->Q (.bl (wI n m d)) g):Vv K l H Q
def zcg(K:W.Frag):Sp:=fun c H Q _=>Vv K c H Q
theorem zco:zG ["costs","thing"] ["costs","thing"] (zx (topL 19)):=u0
theorem zet{f:Addr}{fd:FuncData}(F:Fun K "are_columns" "are_columns" (topL 19) f fd)(B:Blt I)(D:Dfn P w K I G "is_number_within" 2 ["thing","least","most"] (zbZ K))(J:Dfn P w K I G "width_of" 1 ["costs"] zd4):FnOk P w K I G CX0 3 f fd ["costs","thing"] (zcg K):=by
 have nd:=zco.nd;refine F.ok zco (fun vs H Q E h=>?_) (fun a6 A a5 s H vs Q E hr h=>?_)
 ·obtain⟨a,c,n,m,v,d,rfl,_⟩:=h
  rfl
 ·obtain⟨a,c,n,m,v,d,rfl,cs,h0,hn,rd,hb,k⟩:=h
  have sz:sizeLine=16777216:=sizeLine_eq;refine⟨_,(@zi _ _ _ _ _ (@jF _ _ _ _ _ _ _ _ (@PW.pt _ _ _ (@Jx _ _ _ _ _ _ _ (@xI _ _ _ _ (@jD _ _ _ (@zv _ _ _ _ _ _ _ _ _ qY rfl B.isinstance boot_isinstance (@zd _ _ _ _ _ (@pv _ 1 _ _ (by rfl) (by first| exact Or.inl rfl | exact Or.inr (Or.inl rfl) | exact Or.inr (Or.inr rfl)) (by decide) (by decide)) (@zd _ _ _ _ _ (@qR _ _ (.ty "list") _ _ rfl B.list jk rfl (by decide) (by decide)) ze (by rfl)) (by rfl)) (by decide) (by decide) (by rfl) (by rfl)) (by intro _ ;rfl))) (@yP _ _ _ _ (@qw _ _ _ _ _ _ _ _ Y8 (@zv _ _ _ _ _ _ _ _ _ zy rfl B.len boot_len (@zd _ _ _ _ _ (@pv _ 1 _ _ (by rfl) (by first| exact Or.inl rfl | exact Or.inr (Or.inl rfl) | exact Or.inr (Or.inr rfl)) (by decide) (by decide)) ze (by rfl)) (by decide) (by decide) (by rfl) (by rfl)) (@zv _ _ _ _ _ _ _ _ _ zy rfl B.len boot_len (@zd _ _ _ _ _ (@pv _ 0 _ _ (by rfl) (by first| exact Or.inl rfl | exact Or.inr (Or.inl rfl) | exact Or.inr (Or.inr rfl)) (by decide) (by decide)) ze (by rfl)) (by decide) (by decide) (by rfl) (by rfl)) (qb _))))) (@zu _ _ _ (@zE _ _ _ _ xM)) qB) (@zi _ _ _ _ _ (@jF _ _ _ _ _ _ _ _ (@xI _ _ _ _ (@jD _ _ _ (@zv _ _ _ _ _ _ _ _ _ (xE rfl) rfl B.all boot_all (@zd _ _ _ _ _ (@je _ _ _ _ _ _ _ _ _ _ _ ["costs"] [0] rfl rfl (by kernel_rfl) (@qV _ _ _ _ (@pv _ 1 _ _ (by rfl) (by first| exact Or.inl rfl | exact Or.inr (Or.inl rfl) | exact Or.inr (Or.inr rfl)) (by decide) (by decide))) (fun _ _ _ _=>qh) (fun _ _ _ _=>(@zm _ _ _ _ _ _ _ _ _ _ D hr.m rfl (@zd _ _ _ _ _ (@pv _ 0 _ _ (by rfl) (by first| exact Or.inl rfl | exact Or.inr (Or.inl rfl) | exact Or.inr (Or.inr rfl)) (by decide) (by decide)) (@zd _ _ _ _ _ zj (@zd _ _ _ _ _ (@zF _ _ _ _ _ _ _ _ xo (@zm _ _ _ _ _ _ _ _ _ _ J hr.m rfl (@zd _ _ _ _ _ (@pv _ 1 _ _ (by rfl) (by first| exact Or.inl rfl | exact Or.inr (Or.inl rfl) | exact Or.inr (Or.inr rfl)) (by decide) (by decide)) ze (by rfl)) (by decide) (by rfl) (by rfl)) zj) ze (by rfl)) (by rfl)) (by rfl)) (by decide) (by rfl) (by rfl))) (by intro _ ;rfl)) ze (by rfl)) (by decide) (by decide) (by rfl) (by rfl)) (by intro _ ;rfl))) (@zu _ _ _ (@zE _ _ _ _ xM)) qB) (@zu _ _ _ (@zE _ _ _ _ (@qQ _ _ _ _ _ _ _ _ xk (@zv _ _ _ _ _ _ _ _ _ zbH rfl B.len boot_len (@zd _ _ _ _ _ (@qM _ _ _ _ _ _ _ _ _ (zbD hr.hd) rfl B.set Wi (@zd _ _ _ _ _ (@pv _ 1 _ _ (by rfl) (by first| exact Or.inl rfl | exact Or.inr (Or.inl rfl) | exact Or.inr (Or.inr rfl)) (by decide) (by decide)) ze (by rfl)) (by decide) (by decide) (by rfl) (by rfl)) ze (by rfl)) (by decide) (by decide) (by rfl) (by rfl)) (@zv _ _ _ _ _ _ _ _ _ zy rfl B.len boot_len (@zd _ _ _ _ _ (@pv _ 1 _ _ (by rfl) (by first| exact Or.inl rfl | exact Or.inr (Or.inl rfl) | exact Or.inr (Or.inr rfl)) (by decide) (by decide)) ze (by rfl)) (by decide) (by decide) (by rfl) (by rfl)) (qb _)))))),?_⟩
  obtain⟨zc,a3,a4,a7⟩:=id cs;have M:∀H',Same H H'->wI n m d=false->Q (.bl false) H':=fun H' s' e=>by
   have:=k H' s';rw[e] at this;exact this
  refine⟨_,rfl,v,d.tyN, "list",rfl,rd.ty,(by decide),?_⟩
  rw[Vf];refine⟨_,rfl,jE (fun L=>ifT rfl (M _ (u6 _) ?_)) (fun L=>?_)⟩
  ·have L:zdf d=false:=by simpa using L
   cases d<;>first| rfl | cases L
  have L:zdf d=true:=by simpa using L
  obtain⟨t,rfl⟩:∃t,d=.lst t:=by cases d<;>first| exact⟨_,rfl⟩ | cases L
  obtain⟨l,O,rfl,hq,rx⟩:=rd;have lx:=rx.len;have lb:t.length<=1000000:=jU (Xx t) hb;refine⟨_,rfl,l,O,rfl,.inl hq,_,rfl,a,zc,rfl,.inl (u4 a3),rfl,_,rfl,?_⟩
  have en:(!decide (V.int (O.length:Int)=V.int (zc.length:Int)))=!decide (t.length=n):=by
   congr 1
   refine wK.mpr ⟨fun h=>?_,fun h=>by rw[lx,a4,h]⟩
   have:(O.length:Int)=(zc.length:Int):=by injection h
   omega
  rw[en];refine jE (fun Y=>M _ (u6 _) ?_) (fun Y=>?_)
  ·show(decide (t.length=n)&&_)=false
   rw[show decide (t.length=n)=false by simpa using Y];rfl
  have Y:t.length=n:=by simpa using Y
  refine⟨_,rfl,l,rfl,⟨_,hq⟩,jq (K:=K) (a:=l) (xs:=O) (fun i zs U=>zs=((t.take i).map (qN 0 ((m:Int)-1))).map V.bl/\Same H U) ⟨rfl,u6 _⟩ (fun i zs U ⟨_,N⟩=>N.seq hq) ?_ ?_⟩
  ·rintro i x zs U hx ⟨rfl,N⟩
   obtain⟨e,ed,re⟩:=(rx.same N).get hx;have hi:i<t.length:=(zT.mp ed).1;refine⟨rfl,_,rfl,_,rfl,a,c,n,m,rfl,cs.same N,h0,_,_,rfl,rfl,x,e,0,(m:Int)-1,rfl,re,?_,?_,N⟩
   ·rw[zr,zr,jO];omega
   ·rw[jn ed,zV,zV];rfl
  rintro zs U ⟨rfl,N⟩;rw[lx,j7];refine⟨by rw[zr,zr];omega,fun D1 a2=>⟨D1,t.map (qN 0 ((m:Int)-1)),rfl,u4 zg,_,rfl,?_⟩⟩
  have s2:=N.trans (zf (o:=.lst ((t.map (qN 0 ((m:Int)-1))).map V.bl)) a2);generalize upd U D1 (.lst ((t.map (qN 0 ((m:Int)-1))).map V.bl))=H2 at s2;rw[show(t.map (qN 0 ((m:Int)-1))).all id=t.all (qN 0 ((m:Int)-1)) by rw[XE];rfl]
  refine jE (fun T=>M _ s2 ?_) (fun T=>?_)
  ·show(decide (t.length=n)&&(t.all (qN 0 ((m:Int)-1))&&_))=false
   rw[show t.all (qN 0 ((m:Int)-1))=false by simpa using T,QK,XL]
  have T:t.all (qN 0 ((m:Int)-1))=true:=by simpa using T
  have al:=jN.mp T;have an:t.all jl=true:=jN.mpr fun d hd=>(wN (al d hd)).1
  rw[JB an] at rx;have ex:O=(t.map iD).map V.int:=wP rx;have a1:O=((t.map iD).map (fun i=>(Sum.inl i:Key))).map kV:=by rw[ex,jT (g:=kV)];rfl
  rw[a1] at hq;refine⟨_,rfl,l,(t.map iD).map (fun i=>(Sum.inl i:Key)),rfl,s2.seq hq,by rw[zr,zr];omega,fun sp a0=>⟨sp,_,rfl,zg,_,rfl,l,_,rfl,.inl ((s2.trans (zf a0)).seq hq),?_⟩⟩
  have:=k _ (s2.trans (zf (o:=Jb P w sp (jY [] ((t.map iD).map (fun i=>(Sum.inl i:Key))))) a0))
  rw[show wI n m (.lst t)=decide (V.int ((jY [] ((t.map iD).map (fun i=>(Sum.inl i:Key)))).length:Int)=V.int ((((t.map iD).map (fun i=>(Sum.inl i:Key))).map kV).length:Int)) by
   show(decide (t.length=n)&&(t.all (qN 0 ((m:Int)-1))&&_))=_;rw[T,zW Y,vE,vE];refine wK.mpr ⟨fun h=>?_,fun h=>?_⟩
   ·rw[Ve.mpr,zr (f:=kV)]
    rw[List.Nodup,vp];exact h.imp fun ne e=>ne (by injection e)
   ·have h:(((jY [] ((t.map iD).map (fun i=>(Sum.inl i:Key)))).length:Nat):Int)=((((t.map iD).map (fun i=>(Sum.inl i:Key))).map kV).length:Nat):=by injection h
    rw[zr (f:=kV)] at h;have:=Ve.mp (show(jY [] ((t.map iD).map (fun i=>(Sum.inl i:Key)))).length=((t.map iD).map (fun i=>(Sum.inl i:Key))).length by omega)
    rw[List.Nodup,vp] at this;exact this.imp fun ne e=>ne (by rw[e])] at this
  exact⟨rfl,this⟩
theorem Vx:∀{c:List Dat},Dat.shws c=true->∀d∈c,d.shw=true
 | [],_,d,h=>nomatch h
 | e::c,h,d,s=>by
  obtain⟨g,l⟩:=(qE _ _).mp (show(e.shw&&Dat.shws c)=true from h)
  rcases zL.mp s with z | z
  ·rw[z];exact g
  ·exact Vx l d z
theorem Vz{d:Dat}(h:d.shw=true):∀z∈qZ d,-1000000000000<=z/\z<=1000000000000:=by
 cases d with
 | lst g=>
  intro z c;obtain⟨e,l,rfl⟩:=jg.mp (show z∈g.map iD from c)
  have:=Vx (show Dat.shws g=true from h) e l
  cases e with
  | int i=>
   have:i.natAbs<1000000000000:=jA this;show -1000000000000<=i/\i<=1000000000000;omega
  | _=>
   show(-1000000000000:Int)<=0/\(0:Int)<=1000000000000;exact⟨by decide,by decide⟩
 | _=>intro z c;cases c
inductive YA(K:W.Frag)(t:List V)(H:Hp)(Q:VK):Prop
 | mk (a:Addr) (c:Nat->Nat->Int) (n m:Nat) (l s:V) (d e:Dat) (_:t=[.ref a,l,s]) (_:CsAt H a c n m) (_:(n=0->m=0)) (_:n<=63) (_:m<=63) (_:(∀x,x<n->∀j,j<m->0<=c x j/\c x j<=1000000)) (_:Rep K H d l) (_:Rep K H e s) (_:d.blk<=1000000) (_:e.blk<=1000000) (_:e.shw=true) (_:∀g,Same H g->Q (.bl (VQ c n m d e)) g):YA K t H Q
def ze2(K:W.Frag):Sp:=fun c H Q _=>YA K c H Q
theorem zfa:zG ["costs","columns","thing","rows","numbers"] ["costs","columns","thing"] (zx (topL 20)):=u0
theorem zf7{f:Addr}{fd:FuncData}(F:Fun K "shows_matched" "shows_matched" (topL 20) f fd)(B:Blt I)(g:Dfn P w K I G "are_columns" 3 ["costs","thing"] (zcg K))(l:Dfn P w K I G "shows_paper" 3 ["costs","thing"] (ze1 K))(t:Dfn P w K I G "sum_at" 1 ["costs","columns"] (Jp K)):FnOk P w K I G CX0 4 f fd ["costs","columns","thing"] (ze2 K):=by
 have nd:=zfa.nd;refine F.ok zfa (fun vs H Q E h=>?_) (fun a5 A a2 s H vs Q E hr h=>?_)
 ·obtain⟨a,c,n,m,v1,v2,d,e,rfl,_⟩:=h
  rfl
 ·obtain⟨a,c,n,m,v1,v2,d,e,rfl,cs,h0,hn,hm,hc,rd,re,a0,a1,hw,k⟩:=h
  have sz:sizeLine=16777216:=sizeLine_eq;refine⟨_,(@zi _ _ _ _ _ (@jF _ _ _ _ _ _ _ _ (@PW.pt _ _ _ (@Jx _ _ _ _ _ _ _ (@xI _ _ _ _ (@jD _ _ _ (@zm _ _ _ _ _ _ _ _ _ _ g hr.m rfl (@zd _ _ _ _ _ (@pv _ 0 _ _ (by rfl) (by first| exact Or.inl rfl | exact Or.inr (Or.inl rfl) | exact Or.inr (Or.inr rfl)) (by decide) (by decide)) (@zd _ _ _ _ _ (@pv _ 1 _ _ (by rfl) (by first| exact Or.inl rfl | exact Or.inr (Or.inl rfl) | exact Or.inr (Or.inr rfl)) (by decide) (by decide)) ze (by rfl)) (by rfl)) (by decide) (by rfl) (by rfl)) (by intro _ ;rfl))) (@yP _ _ _ _ (@xI _ _ _ _ (@jD _ _ _ (@zm _ _ _ _ _ _ _ _ _ _ l hr.m rfl (@zd _ _ _ _ _ (@pv _ 0 _ _ (by rfl) (by first| exact Or.inl rfl | exact Or.inr (Or.inl rfl) | exact Or.inr (Or.inr rfl)) (by decide) (by decide)) (@zd _ _ _ _ _ (@pv _ 2 _ _ (by rfl) (by first| exact Or.inl rfl | exact Or.inr (Or.inl rfl) | exact Or.inr (Or.inr rfl)) (by decide) (by decide)) ze (by rfl)) (by rfl)) (by decide) (by rfl) (by rfl)) (by intro _ ;rfl)))))) (@zu _ _ _ (@zE _ _ _ _ xM)) qB) (@zi _ _ _ _ _ (@xJ _ _ _ _ _ _ (@pv _ 2 _ _ (by rfl) (by first| exact Or.inl rfl | exact Or.inr (Or.inl rfl) | exact Or.inr (Or.inr rfl)) (by decide) (by decide)) (@ju _ _ _ _ _ _ rfl (@zI _ _ _ _ _ (@zH _ _ 3 _ nd rfl (Or.inl rfl) (by first| exact .inl rfl | exact .inr rfl | assumption)) (@zI _ _ _ _ _ (@zH _ _ 4 _ nd rfl (Or.inl rfl) (by first| exact .inl rfl | exact .inr rfl | assumption)) qP (by rfl)) (by rfl)) (by rfl) (by rfl)) (by rfl) (by rfl) (by rfl)) (@zu _ _ _ (@zE _ _ _ _ (@qQ _ _ _ _ _ _ _ _ xk (@zF _ _ _ _ _ _ _ _ qd (@zv _ _ _ _ _ _ _ _ _ (JI rfl) rfl B.sum boot_sum (@zd _ _ _ _ _ (@pv _ 3 _ _ (by rfl) (by first| exact Or.inl rfl | exact Or.inr (Or.inl rfl) | exact Or.inr (Or.inr rfl)) (by decide) (by decide)) ze (by rfl)) (by decide) (by decide) (by rfl) (by rfl)) (@zv _ _ _ _ _ _ _ _ _ (JI rfl) rfl B.sum boot_sum (@zd _ _ _ _ _ (@pv _ 4 _ _ (by rfl) (by first| exact Or.inl rfl | exact Or.inr (Or.inl rfl) | exact Or.inr (Or.inr rfl)) (by decide) (by decide)) ze (by rfl)) (by decide) (by decide) (by rfl) (by rfl))) (@zm _ _ _ _ _ _ _ _ _ _ t hr.m rfl (@zd _ _ _ _ _ (@pv _ 0 _ _ (by rfl) (by first| exact Or.inl rfl | exact Or.inr (Or.inl rfl) | exact Or.inr (Or.inr rfl)) (by decide) (by decide)) (@zd _ _ _ _ _ (@pv _ 1 _ _ (by rfl) (by first| exact Or.inl rfl | exact Or.inr (Or.inl rfl) | exact Or.inr (Or.inr rfl)) (by decide) (by decide)) ze (by rfl)) (by rfl)) (by decide) (by rfl) (by rfl)) (qb _)))))),?_⟩
  have M:∀O,Same H O->VQ c n m d e=false->Q (.bl false) O:=fun O s' z=>by
   have:=k O s';rw[z] at this;exact this
  refine⟨_,rfl,_,rfl,a,c,n,m,v1,d,rfl,cs,h0,hn,rd,a0,fun H1 N=>⟨_,rfl,jE (fun J=>ifT rfl (M _ N (zbo (by simpa using J)))) (fun J=>?_)⟩⟩
  have J:wI n m d=true:=by simpa using J
  refine⟨_,rfl,_,rfl,a,c,n,m,v2,e,rfl,cs.same N,h0,hn,hm,re.same N,a1,fun H2 D=>⟨_,rfl,jE (fun L=>M _ (N.trans D) (zc1 (by simpa using L))) (fun L=>?_)⟩⟩
  have D:=N.trans D;have L:ZJ c n m e=true:=by simpa using L
  obtain⟨U,Y,rfl,n1,n2⟩:=zcI L;obtain⟨T,xs,rfl,hT,x1,r1,rfl,a3,x2,r2,rfl,a4,z⟩:=re;cases z;obtain⟨l1,rfl,q1,y1⟩:=yq n1 a3;obtain⟨l2,rfl,q2,y2⟩:=yq n2 a4;obtain⟨w1,w2⟩:=(qE _ _).mp (show(U.shw&&(Y.shw&&true))=true from hw)
  have w2:=((qE _ _).mp w2).1;obtain⟨g1,g2,g3⟩:=zeN J;obtain⟨lc,rfl,q3,y3⟩:=yq g1 rd;rw[g3] at q3;refine⟨_,rfl,T,_,rfl,D.sqT hT,rfl,_,_,rfl,_,_,rfl,rfl,?_⟩
  refine⟨_,rfl,l1,_,rfl,D.seq q1,Vz w1,by omega,_,rfl,l2,_,rfl,D.seq q2,Vz w2,by omega,_,_,rfl,rfl,?_⟩
  refine⟨_,rfl,_,rfl,a,lc,c,n,m,We (qZ d),rfl,cs.same D,D.seq q3,g2,hn,hc,fun H3 s3=>⟨rfl,?_⟩⟩
  have:=k _ (D.trans s3);rw[show VQ c n m d (.tup [U,Y])=decide (V.int ((qZ U).sum+(qZ Y).sum)=V.int (qe n fun x=>c x (We (qZ d) x))) by
   show(wI n m d&&(ZJ c n m (.tup [U,Y])&&decide _))=_;rw[J,L,vE,vE];exact wK.mpr ⟨fun h=>by rw[h],fun h=>by injection h⟩] at this
  exact this
theorem zan(k:Nat):∀os:List Nat,inV (.int (k:Int)) (wU os)=decide (k∈os)
 | []=>rfl
 | o::os=>by
  show((o:Int)==(k:Int)||inV (.int (k:Int)) (wU os))=_
  rw[zan k os];by_cases h:o=k
  ·subst h;simp
  ·have e:((o:Int)==(k:Int))=false:=by simp;omega
   rw[e,QH,wK];exact⟨fun z=>z9 _ z,fun z=>(zL.mp z).resolve_left fun y=>h y.symm⟩
def WayOk(r m:Nat)(w:List Nat):Prop:=w.length=r/\w.Nodup/\∀k∈w,k<m
theorem zbk(w:List Nat):(wU w).all xw=true:=jN.mpr fun z c=>by
 obtain⟨k,_,rfl⟩:=jg.mp c;rfl
def zdS(H:Hp)(t:Addr)(c:List (List Nat))(g:List V):Prop:=g.length=c.length/\∀(j:Nat) (w:List Nat),c[j]? =some w->∃a,g[j]? =some (.ref a)/\a≠t/\H a=some (.lst (wU w))
inductive zce(s:List V)(H:Hp)(Q:VK):Prop
 | mk (r m:Nat) (_:s=[.int r,.int m]) (_:r<=5) (_:m<=7) (_:∀(l:Addr) (g:List (List Nat)) (t:List V) c,H l=none->Same H c->c l=some (.lst t)->zdS c l g t->(∀w∈g,WayOk r m w)->g.length<=20000->Q (.ref l) c):zce  s H Q
def zfE:Sp:=fun c H Q _=>zce  c H Q
theorem zg5:zG ["_law_rows","_law_columns","_law_found","_law_row","_law_more","_law_some"] ["_law_rows","_law_columns"] (zx (topL 40)):=u0
theorem zhx{f:Addr}{fd:FuncData}(F:Fun K "_law_all_ways" "_law_all_ways" (topL 40) f fd)(B:Blt I):FnOk P w K I G CX0 1 f fd ["_law_rows","_law_columns"] zfE:=by
 have nd:=zg5.nd;refine F.ok zg5 (fun vs H Q E h=>?_) (fun ab A a9 s H vs Q E hr h=>?_)
 ·obtain⟨r,m,rfl,_⟩:=h
  rfl
 ·obtain⟨r,m,rfl,a8,af,k⟩:=h
  have aa:=bG1000000;have O:=bGe;refine⟨_,(zi (zB (i:=2) nd rfl (Or.inl rfl) (qI (zd (qI ze) ze)))
   (zi (qW jK rfl (qv rfl B.range (zd (pv 0) ze)) (zH (i:=3) nd rfl (Or.inl rfl))
   (zi (zB (i:=4) nd rfl (Or.inl rfl) (qI ze))
    (zi (qW jK rfl (qV (pv 2)) (zH (i:=5) nd rfl (Or.inr rfl))
    (zu (vw (Qb QF PySem.F.slot_list_extend PySem.F.type_list_extend zbm (pv 4) (zd (je ["_law_some"] [5] rfl rfl (by kernel_rfl) (qv rfl B.range (zd (pv 1) ze)) (fun _ _ _ _=>(Qa (qw (Jd (K:=K) rfl) (pv 0) (pv 1) (by with_unfolding_all rfl)))) (fun _ _ _ _=>(zF Xh (pv 1) (qI (zd (pv 0) ze))))) ze)))))
    (zu (zB (i:=2) nd rfl (Or.inl rfl) (pv 4))))))
   (zu (zE (pv 2))))),?_⟩
  refine⟨le0,fun N a7=>⟨le1,fun p hp=>?_⟩⟩
  have s0:=zf (H:=H) (o:=.lst []) a7;generalize a5:upd H N (.lst [])=He at hp s0;have he:He N=some (.lst []):=by rw[<- a5];exact zg
  have s1:=s0.trans (zf (o:=.lst [.ref N]) hp);have W0:zdS (upd He p (.lst [.ref N])) p [[]] [.ref N]:=⟨rfl,fun j w hj=>by
   cases j with
   | zero=>
    cases hj;exact⟨N,rfl,zp he hp,(zf hp) _ _ he⟩
   | succ j=>cases hj⟩
  refine⟨_,rfl,_,rfl,by rw[O];omega,by rw[O];omega,?_⟩
  refine ji (n:=r) (fun i σ H2=>Ex6 fun(l:Addr) (ws:List (List Nat)) (zs:List V) (v3 v4 v5:Option V)=>An7 (σ=[some (.int r),some (.int m),some (.ref l),v3,v4,v5]) (Same H H2) (H l=none) (H2 l=some (.lst zs)) (zdS H2 l ws zs) ((∀w∈ws,WayOk i m w)) (ws.length<=7^i)) ⟨p,[[]],_,_,_,_,rfl,s1,s0.free hp,zg,W0,fun w hw=>?_,zC _⟩ ?_ ?_
  ·rw[zK.mp hw]
   exact⟨rfl,yF,fun k hk=>nomatch hk⟩
  ·rintro i σ H2 hi ⟨l,ws,zs,v3,v4,v5,rfl,s2,hl,J,W2,a2,n2⟩
   refine⟨le0,fun M hM=>?_⟩
   have M0:=(zg:upd H2 M (.lst []) M=some (.lst []));have s3:=s2.trans (zf (o:=.lst []) hM);have ae:l≠M:=zp J hM;have zl:=W2.1;have n7:7^i<=2401:=by
    have:7^i<=7^4:=Nat.pow_le_pow_right (by decide) (by omega)
    exact jU this (by decide)
   refine⟨_,rfl,l,rfl,⟨_,u4 ((zf hM) _ _ J)⟩,yw (K:=K) (a:=l) (xs:=zs) (fun j σ H3=>Ex4 fun(us:List (List Nat)) (ys:List V) (v3 v5:Option V)=>An7 (σ=[some (.int r),some (.int m),some (.ref l),v3,some (.ref M),v5]) (Same H H3) ((∀a o,H2 a=some o->H3 a=some o)) (H3 M=some (.lst ys)) (zdS H3 M us ys) ((∀w∈us,WayOk (i+1) m w)) (us.length<=7*j)) ⟨[],[],_,_,rfl,s3,zf hM,M0,⟨rfl,fun j w hj=>by cases hj⟩,(fun w hw=>nomatch hw),qk _⟩ (fun j σ H3 _ ⟨_,_,_,_,_,_,k3,_,_,_,_⟩=>u4 (k3 _ _ J)) ?_ ?_⟩
   ·rintro j x σ H3 hx ⟨us,ys,v3,v5,rfl,s3,k3,M3,W3,a3,n3⟩
    have hj:j<ws.length:=by have:=(zT.mp hx).1;omega
    obtain⟨w,hw⟩:∃w,ws[j]? =some w:=⟨_,qo hj⟩;obtain⟨a,ea,ag,ha⟩:=W2.2 j w hw;rw[ea] at hx;cases hx;refine⟨_,rfl,.inl ⟨rfl,_,u4 M3⟩,?_⟩
    refine⟨_,rfl,_,rfl,(by rw[O];omega),(by rw[O];omega),?_⟩
    refine vf (fun q ts H4=>∃(g:List (List Nat)),Same H3 H4/\zdS H4 M g ts/\(∀w∈g,WayOk (i+1) m w)/\g.length<=q) ⟨[],u6 _,⟨rfl,fun j w hj=>by cases hj⟩,(fun w hw=>nomatch hw),qk _⟩ ?_ ?_
    ·rintro q ts H4 hq ⟨g,Y,L,T,n4⟩
     have a4:H4 a=some (.lst (wU w)):=Y _ _ (k3 _ _ ha);rw[XF];refine⟨rfl,_,rfl,_,rfl,a,wU w,rfl,.inl (u4 a4),rfl,zbk w,_,rfl,?_⟩
     rw[show(if true=true then !inV (.int (q:Int)) (wU w) else inV (.int (q:Int)) (wU w))=!decide (q∈w) by rw[zan];rfl]
     have tl:=L.1;have U:=a2 w (jc hw);by_cases z:q∈w
     ·rw[zW z]
      exact⟨g,Y,L,T,by omega⟩
     ·rw[jb z]
      have lw:(wU w).length=i:=by rw[zcY];exact U.1
      refine⟨_,rfl,_,rfl,le1,fun t ht=>⟨a,t,wU w,[.int (q:Int)],rfl,rfl,(zf ht) _ _ a4,zg,by rw[lw];show i+1<=_;omega,fun t2 a0=>⟨by omega,g++[w++[q]],Y.trans ((zf ht).trans (zf a0)),⟨?_,fun j' w' c=>?_⟩,fun w' a1=>?_,by rw[zY];show g.length+1<=_;omega⟩⟩⟩
      ·rw[zY,zY,L.1];rfl
      ·have M4:=(zf (o:=.lst [.int (q:Int)]) ht) _ _ (Y _ _ M3)
       by_cases lt:j'<g.length
       ·rw[jR lt] at c
        obtain⟨a',b1,b2,b3⟩:=L.2 j' w' c;exact⟨a',by rw[jR (by rw[L.1];exact lt)];exact b1,b2,(zf a0) _ _ ((zf ht) _ _ b3)⟩
       ·rw[jB (by omega)] at c
        have N:j'-g.length=0:=by
         have:=(zT.mp c).1;rw[QU] at this;omega
        rw[N] at c;cases c;refine⟨t2,by rw[jB (by rw[L.1];omega),L.1,N];rfl,(zp M4 a0).symm,?_⟩
        rw[zg,zbj]
      ·rcases qJ.mp a1 with y | y
       ·exact T w' y
       ·rw[zK.mp y]
        refine⟨by rw[zY,U.1];rfl,Zu.mpr ⟨U.2.1,xW.mpr ⟨ya,yF⟩,fun u hu v hv e=>z (by rw[<- zK.mp hv,<- e];exact hu)⟩,fun u hu=>?_⟩
        rcases qJ.mp hu with y | y
        ·exact U.2.2 u y
        ·rw[zK.mp y];omega
    ·rintro ts H4 ⟨g,Y,L,T,n4⟩
     have tl:=L.1;have yl:=W3.1;rw[xn] at n4;have M4:=Y _ _ M3;refine⟨by omega,fun D hD=>?_⟩
     have M5:=(zf (o:=.lst ts) hD) _ _ M4;refine⟨M,D,ys,ts,rfl,rfl,M5,zg,by omega,us++g,ys++ts,_,_,rfl,?_,fun a o ha=>?_,zg,⟨by rw[zY,zY];omega,fun j' w' c=>?_⟩,fun w' a1=>?_,by rw[zY];omega⟩
     ·intro b o hb
      rw[zw (zp hb (s2.free hM))];exact(zf hD) _ _ ((s3.trans Y) _ _ hb)
     ·rw[zw (zp ha hM)]
      exact(zf hD) _ _ (Y _ _ (k3 _ _ ha))
     ·by_cases lt:j'<us.length
      ·rw[jR lt] at c
       obtain⟨a',b1,b2,b3⟩:=W3.2 j' w' c;exact⟨a',by rw[jR (by rw[yl];exact lt)];exact b1,b2,by rw[zw b2];exact(zf hD) _ _ (Y _ _ b3)⟩
      ·rw[jB (by omega)] at c
       obtain⟨a',b1,b2,b3⟩:=L.2 _ w' c;exact⟨a',by rw[jB (by omega),yl];exact b1,b2,by rw[zw b2];exact(zf hD) _ _ b3⟩
     ·rcases qJ.mp a1 with z | z
      ·exact a3 w' z
      ·exact T w' z
   ·rintro σ H3 ⟨us,ys,v3,v5,rfl,s3,k3,M3,W3,a3,n3⟩
    have p7:7^(i+1)=7*7^i:=by rw[Nat.pow_succ,Nat.mul_comm]
    have a6:H M=none:=s2.free hM;exact⟨_,rfl,M,us,ys,_,_,_,rfl,s3,a6,M3,W3,a3,by omega⟩
  ·rintro σ H2 ⟨l,ws,zs,v3,v4,v5,rfl,s2,hl,J,W2,a2,n2⟩
   have:7^r<=7^5:=Nat.pow_le_pow_right (by decide) a8
   have ac:7^5=16807:=by decide
   exact⟨_,rfl,k l ws zs H2 hl s2 J W2 a2 (by omega)⟩
theorem zhf{r:Int}(c:0<=r)(g:r<4):∃z:Int,atI [V.int 2,V.int 4,V.int 30,V.int 999994] r=some (.int z)/\2<=z/\z<=999994:=by
 have hc:r=0\/r=1\/r=2\/r=3:=by omega
 rcases hc with rfl | rfl | rfl | rfl
 ·exact⟨2,rfl,by decide,by decide⟩
 ·exact⟨4,rfl,by decide,by decide⟩
 ·exact⟨30,rfl,by decide,by decide⟩
 ·exact⟨999994,rfl,by decide,by decide⟩
def CsB(H:Hp)(b p:Addr)(c:Nat->Nat->Int)(n m:Nat):Prop:=p≠b/\∃g,H p=some (.lst g)/\g.length=n/\∀x,x<n->∃A,g[x]? =some (.ref A)/\A≠b/\H A=some (.lst ((List.range m).map fun j=>V.int (c x j)))
theorem CsB.cs{H:Hp}{b p:Addr}{c:Nat->Nat->Int}{n m:Nat}(h:CsB H b p c n m):CsAt H p c n m:=
 let ⟨_,g,e,l,k⟩:=h
 ⟨g,e,l,fun x hx=>let ⟨A,a,_,d⟩:=k x hx;⟨A,a,d⟩⟩
theorem CsB.same{H g:Hp}{b p:Addr}{c:Nat->Nat->Int}{n m:Nat}(h:CsB H b p c n m)(s:SameB b H g):CsB g b p c n m:=
 let ⟨q,t,e,l,k⟩:=h
 ⟨q,t,s _ _ e q,l,fun x hx=>let ⟨A,a,r,d⟩:=k x hx;⟨A,a,r,s _ _ d r⟩⟩
inductive zb2(s:List V)(H:Hp)(Q:VK):Prop
 | mk (b:Addr) (l:Int) (_:s=[.ref b]) (_:BoxAt H b l) (_:l<1000000) (_:∀(c:Nat->Nat->Int) (n m:Nat) (p:Addr) g,H p=none->SameB b H g->BoxAt g b (l+100)->CsB g b p c n m->n<=m->n<=5->m<=7->(∀x,x<n->∀j,j<m->0<=c x j/\c x j<=999993)->Q (.ref p) g):zb2  s H Q
def zgM:Sp:=fun c H Q _=>zb2  c H Q
theorem zgY:zG ["_law_box_here","_law_many","_law_size","_law_most"] ["_law_box_here"] (zx (topL 41)):=u0
def zaT(b:_)(H:_)(m:_)(s:_):=fun(i:Nat) (l:List V) (g:Hp)=>(Ex1 fun(c:Nat->Nat->Int)=>An5 (l.length=i) ((∀x,x<i->∃A,l[x]? =some (.ref A)/\A≠b/\H A=none/\g A=some (.lst ((List.range m).map fun j=>V.int (c x j))))) ((∀x,x<i->∀j,j<m->0<=c x j/\c x j<=999993)) (SameB b H g) (BoxAt g b (s+10+7*i)):Prop)
def zaS(b:_)(l:_)(s:_)(i:_):=fun(j:Nat) (t:List V) (c:Hp)=>(Ex1 fun(g:Nat->Int)=>An4 (t=(List.range j).map (fun k=>V.int (g k))) ((∀k,k<j->0<=g k/\g k<=999993)) (SameB b l c) (BoxAt c b (s+10+7*i+j)):Prop)
theorem zhq{f:Addr}{fd:FuncData}(F:Fun K "_law_small" "_law_small" (topL 41) f fd)(B:Blt I)(l:Dfn P w K I G "_law_take" 1 ["_law_box_here","_law_size"] xY):FnOk P w K I G CX0 2 f fd ["_law_box_here"] zgM:=by
 have nd:=zgY.nd;refine F.ok zgY (fun vs H Q E h=>?_) (fun aa A a7 s H vs Q E hr h=>?_)
 ·obtain⟨b,Y,rfl,_⟩:=h
  rfl
 ·obtain⟨b,Y,rfl,hb,ac,k⟩:=h
  have sz:sizeLine=16777216:=sizeLine_eq;refine⟨_,(@zi _ _ _ _ _ (@zB _ _ 1 _ _ _ _ nd rfl (Or.inl rfl) (@zm _ _ _ _ _ _ _ _ _ _ l hr.m rfl (@zd _ _ _ _ _ (@pv _ 0 _ _ (by rfl) (by first| exact Or.inl rfl | exact Or.inr (Or.inl rfl) | exact Or.inr (Or.inr rfl)) (by decide) (by decide)) (@zd _ _ _ _ _ zj ze (by rfl)) (by rfl)) (by decide) (by rfl) (by rfl)) (by rfl) (by first| exact .inl rfl | exact .inr rfl | assumption)) (@zi _ _ _ _ _ (@xJ _ _ _ _ _ _ (@qG _ _ _ _ _ (@zd _ _ _ _ _ (@zF _ _ _ _ _ _ _ _ qd (@pv _ 1 _ _ (by rfl) (by first| exact Or.inl rfl | exact Or.inr (Or.inl rfl) | exact Or.inr (Or.inr rfl)) (by decide) (by decide)) (@zm _ _ _ _ _ _ _ _ _ _ l hr.m rfl (@zd _ _ _ _ _ (@pv _ 0 _ _ (by rfl) (by first| exact Or.inl rfl | exact Or.inr (Or.inl rfl) | exact Or.inr (Or.inr rfl)) (by decide) (by decide)) (@zd _ _ _ _ _ zj ze (by rfl)) (by rfl)) (by decide) (by rfl) (by rfl))) (@zd _ _ _ _ _ (@zJ _ _ _ _ _ _ _ z6 (@qI _ _ _ _ (@zd _ _ _ _ _ zj (@zd _ _ _ _ _ zj (@zd _ _ _ _ _ zj (@zd _ _ _ _ _ (@zF _ _ _ _ _ _ _ _ xo (@zF _ _ _ _ _ _ _ _ zcL zj zj) zj) ze (by rfl)) (by rfl)) (by rfl)) (by rfl))) (@zm _ _ _ _ _ _ _ _ _ _ l hr.m rfl (@zd _ _ _ _ _ (@pv _ 0 _ _ (by rfl) (by first| exact Or.inl rfl | exact Or.inr (Or.inl rfl) | exact Or.inr (Or.inr rfl)) (by decide) (by decide)) (@zd _ _ _ _ _ zj ze (by rfl)) (by rfl)) (by decide) (by rfl) (by rfl)) (fun _ _=>rfl)) ze (by rfl)) (by rfl))) (@ju _ _ _ _ _ _ rfl (@zI _ _ _ _ _ (@zH _ _ 2 _ nd rfl (Or.inr rfl) (by first| exact .inl rfl | exact .inr rfl | assumption)) (@zI _ _ _ _ _ (@zH _ _ 3 _ nd rfl (Or.inr rfl) (by first| exact .inl rfl | exact .inr rfl | assumption)) qP (by rfl)) (by rfl)) (by rfl) (by rfl)) (by rfl) (by rfl) (by rfl)) (@zu _ _ _ (@zE _ _ _ _ (@je _ _ _ _ _ _ _ _ _ _ _ ["_law_box_here","_law_most","_law_size"] [0,3,2] rfl rfl (by kernel_rfl) (@qv _ _ _ _ _ _ rfl B.range (@zd _ _ _ _ _ (@pv _ 1 _ _ (by rfl) (by first| exact Or.inl rfl | exact Or.inr (Or.inl rfl) | exact Or.inr (Or.inr rfl)) (by decide) (by decide)) ze (by rfl)) (by rfl)) (fun _ _ _ _=>qh) (fun _ _ _ _=>(@je _ _ _ _ _ _ _ _ _ _ _ ["_law_box_here","_law_most"] [1,2] rfl rfl (by kernel_rfl) (@qv _ _ _ _ _ _ rfl B.range (@zd _ _ _ _ _ (@pv _ 3 _ _ (by rfl) (by first| exact Or.inl rfl | exact Or.inr (Or.inl rfl) | exact Or.inr (Or.inr rfl)) (by decide) (by decide)) ze (by rfl)) (by rfl)) (fun _ _ _ _=>qh) (fun _ _ _ _=>(@zm _ _ _ _ _ _ _ _ _ _ l hr.m rfl (@zd _ _ _ _ _ (@pv _ 1 _ _ (by rfl) (by first| exact Or.inl rfl | exact Or.inr (Or.inl rfl) | exact Or.inr (Or.inr rfl)) (by decide) (by decide)) (@zd _ _ _ _ _ (@pv _ 2 _ _ (by rfl) (by first| exact Or.inl rfl | exact Or.inr (Or.inl rfl) | exact Or.inr (Or.inr rfl)) (by decide) (by decide)) ze (by rfl)) (by rfl)) (by decide) (by rfl) (by rfl))) (by intro _ ;rfl))) (by intro _ ;rfl)))))),?_⟩
  have J:=bGe;refine⟨_,rfl,b,6,Y,rfl,hb,by omega,by decide,by decide,fun t H2 q0 q1 B2 S2=>?_⟩
  refine⟨_,rfl,_,rfl,b,3,_,rfl,B2,by omega,by decide,by decide,fun d H3 d0 d1 B3 S3=>?_⟩
  refine⟨_,_,rfl,rfl,?_⟩
  refine⟨_,_,rfl,rfl,⟨by decide,by decide,by decide⟩,_,_,rfl,rfl,(by show 4<=_;omega),fun l2 h2=>⟨_,rfl,b,4,_,rfl,B3.new h2,by omega,by decide,by decide,fun r2 H4 a8 a9 B4 S4=>?_⟩⟩
  have L4:=S4 l2 _ zg (B3.nne h2);obtain⟨mz,em,ae,af⟩:=zhf a8 a9;refine⟨l2,_,_,_,rfl,rfl,u4 L4,em,?_⟩
  have O:=S2.trans (S3.trans ((u7 b H3).new (o:=.lst [.int 2,.int 4,.int 30,.int 999994]) h2 |>.trans S4))
  refine⟨by show 2<=_;omega,fun T hT=>?_⟩
  have B5:=(B4.new (o:=.tup [.int (t+d),.int mz]) hT).mono (show _<=Y+10 by omega)
  have U:=O.new (o:=.tup [.int (t+d),.int mz]) hT;refine⟨T,_,rfl,u5 zg,rfl,_,_,rfl,_,_,rfl,rfl,?_⟩
  generalize upd H4 T (.tup [.int (t+d),.int mz])=H5 at B5 U;obtain⟨n,rfl⟩:∃n:Nat,t=(n:Int):=⟨t.toNat,by omega⟩
  obtain⟨m,ab⟩:∃m:Nat,(n:Int)+d=(m:Int):=⟨((n:Int)+d).toNat,by omega⟩
  have a5:n<=5:=by omega
  have a0:m<=7:=by omega
  have a6:n<=m:=by omega
  clear S2 S3 S4 O B2 B3 B4 L4;refine⟨_,rfl,_,rfl,(by rw[J];omega),(by rw[J];omega),?_⟩
  rw[xn];refine vf (zaT b H m Y)
   ⟨fun _ _=>0,rfl,(fun x hx=>absurd hx (jL x)),(fun x hx=>absurd hx (jL x)),U,B5.mono (by omega)⟩ ?_ ?_
  ·rintro i zs H5 hi ⟨c,zl,za,zb,U,B5⟩
   refine⟨rfl,_,rfl,_,rfl,(by rw[J];omega),(by rw[J];omega),?_⟩
   rw[show((n:Int)+d).toNat=m by omega]
   refine vf (zaS b H5 Y i)
    ⟨fun _=>0,rfl,(fun x hx=>absurd hx (jL x)),u7 _ _,B5.mono (by omega)⟩ ?_ ?_
   ·rintro j ys H6 hj ⟨g,rfl,gb,L,D⟩
    refine⟨rfl,_,rfl,_,rfl,b,mz,_,rfl,D,by omega,by omega,by omega,fun y H7 y0 y1 B7 S7=>⟨?_,fun k=>if k=j then y else g k,?_,fun k hk=>?_,L.trans S7,B7.mono (by omega)⟩⟩
    ·rw[zr,zS];omega
    ·rw[j6,zV]
     congr 1
     ·refine QC fun k hk=>?_
      have:=qu.mp hk;show V.int (g k)=V.int (if k=j then y else g k)
      rw[zo (by omega)]
     ·show [V.int y]=[V.int (if j=j then y else g j)]
      rw[zq rfl]
    ·by_cases z:k=j
     ·simp only[z,if_true];omega
     ·simp only[z,if_false];exact gb k (by omega)
   ·rintro ys H6 ⟨g,rfl,gb,L,D⟩
    refine⟨by rw[zr,zS];omega,fun A M=>⟨by omega,fun x j=>if x=i then g j else c x j,by rw[zY,zl];rfl,fun x hx=>?_,fun x hx j hj=>?_,(U.trans L).new M,(D.new M).mono (by omega)⟩⟩
    ·by_cases z:x=i
     ·subst z
      refine⟨A,by rw[jB (by omega),zl,x6];rfl,D.nne M,(U.trans L).none M (D.nne M),?_⟩
      rw[zg];simp only[if_true]
     ·obtain⟨A',a1,a2,a3,a4⟩:=za x (by omega)
      refine⟨A',by rw[jR (by omega)];exact a1,a2,a3,?_⟩
      have:=L _ _ a4 a2;rw[zw (zp this M),this];simp only[z,if_false]
    ·by_cases z:x=i
     ·simp only[z,if_true];exact gb j hj
     ·simp only[z,if_false];exact zb x (by omega) j hj
  ·rintro zs H6 ⟨c,zl,za,zb,L,D⟩
   refine⟨by omega,fun p N=>?_⟩
   exact k c n m p _ (L.none N (D.nne N)) (L.new N) ((D.new N).mono (by omega)) ⟨D.nne N,zs,zg,zl,fun x hx=>by
    obtain⟨A,d1,d2,_,d4⟩:=za x hx;exact⟨A,d1,d2,by rw[zw (zp d4 N)];exact d4⟩⟩ a6 a5 a0 zb
theorem zfg:zG ["_law_costs","_law_columns"] ["_law_costs","_law_columns"] (zx (topL 42)):=u0
theorem zgb{f:Addr}{fd:FuncData}(F:Fun K "_law_sum" "_law_sum" (topL 42) f fd)(B:Blt I):FnOk P w K I G CX0 1 f fd ["_law_costs","_law_columns"] (Jp K):=by
 have nd:=zfg.nd;refine F.ok zfg (fun vs H Q E h=>?_) (fun a3 A a0 s H vs Q E hr h=>?_)
 ·obtain⟨a,l,c,n,m,f,rfl,_⟩:=h
  rfl
 ·obtain⟨a,l,c,n,m,f,rfl,N,hl,D,hn,hc,k⟩:=h
  have sz:sizeLine=16777216:=sizeLine_eq;refine⟨_,(zu (zE (zv (vk rfl) rfl B.sum boot_sum (zd (xL [] [] rfl rfl (by kernel_rfl) (wR rfl B.zip (zd (pv 0) (zd (pv 1) ze))) (fun _ _ _ _=>qh) (fun _ _ _ _=>(zJ (jG (K:=K) rfl) (pv 0) (pv 1) (fun _ _=>rfl)))) ze)))),?_⟩
  obtain⟨zc,J,U,Y⟩:=id N;have ln:((List.range n).map fun(x:Nat)=>V.int (f x:Int)).length=n:=by rw[zr,zS]
  refine⟨_,rfl,_,rfl,true,true,a,l,rfl,⟨_,u4 J⟩,⟨_,hl⟩,?_⟩
  refine yS (K:=K) (k1:=true) (k2:=true) (xs:=zc) (ys:=(List.range n).map fun(x:Nat)=>V.int (f x:Int)) (fun i L t=>L=((List.range i).map fun x=>c x (f x)).map V.int/\Same H t) ⟨rfl,u6 _⟩ (fun i L t ⟨_,g⟩=>⟨u4 (g _ _ J),g.seq hl⟩) ?_ ?_
  ·rintro i x y L t T hx hy ⟨rfl,g⟩ hT
   have O:i<n:=by have:=(zT.mp hx).1;omega
   obtain⟨M,a1,a2⟩:=Y i O;rw[a1] at hx;cases hx;rw[zZ,jX O] at hy;cases hy;have s2:=g.trans (zf (o:=.tup [.ref M,.int (f i:Int)]) hT);refine⟨T,_,rfl,u5 zg,rfl,_,_,rfl,_,_,rfl,rfl,rfl,?_⟩
   generalize upd t T (.tup [.ref M,.int (f i:Int)])=H2 at s2;refine⟨_,rfl,_,rfl,M,_,_,.int (c i (f i)),rfl,rfl,u4 (s2 _ _ a2),qy (by rw[zZ,jX (D i O)];rfl),?_,?_,s2⟩
   ·rw[zr,zr,zS];omega
   ·rw[j6,zV,zV];rfl
  ·rintro L t ⟨rfl,g⟩
   rw[ln,U,XD];refine⟨by rw[zr,zr,zS];omega,fun q hq=>⟨q,_,rfl,u4 zg,fun z hz=>?_,by rw[zr,zS];omega,k _ (g.trans (zf hq))⟩⟩
   obtain⟨x,hx,rfl⟩:=jg.mp hz;have hx:=qu.mp hx;exact hc x hx _ (D x hx)
def zeX(n m:Nat)(f:Nat->Nat):Prop:=(∀x,x<n->f x<m)/\∀x,x<n->∀y,y<n->f x=f y->x=y
def Least(c:Nat->Nat->Int)(n m:Nat)(t:Int):Prop:=(∃f,zeX n m f/\t=qe n fun x=>c x (f x))/\∀g,zeX n m g->t<=qe n fun x=>c x (g x)
theorem Least.of{c:Nat->Nat->Int}{n m:Nat}{f:Nat->Nat}{u v:Nat->Int}(p:Pot c n m f u v):Least c n m (qe n fun x=>c x (f x)):=⟨⟨f,⟨p.rng,p.inj⟩,rfl⟩,fun _ h=>p.least h.1 h.2⟩
theorem zcz{a b:List Int}(h:a.Perm b):a.sum=b.sum:=by
 induction h with
 | nil=>rfl
 | cons x _ c=>rw[wj,wj,c]
 | swap x y l=>simp only[wj];omega
 | trans _ _ i j=>exact i.trans j
structure Tab(n:Nat)(s r:Nat->Nat):Prop where
 to:∀x,x<n->s x<n
 fr:∀x,x<n->r x<n
 tf:∀x,x<n->s (r x)=x
 ft:∀x,x<n->r (s x)=x
 sum:∀h:Nat->Int,(qe n fun x=>h (s x))=qe n h
theorem Tab.back{n:Nat}{s r:Nat->Nat}(t:Tab n s r):Tab n r s:=⟨t.fr,t.to,t.ft,t.tf,fun h=>by
 have:=t.sum fun x=>h (r x)
 rw[<- this];exact xg n fun x hx=>by rw[t.ft x hx]⟩
theorem Tab.of{n:Nat}{os:List Nat}(p:os.Perm (List.range n)):Tab n (fun x=>os.getD x 0) (fun y=>os.idxOf y):=by
 have s:os.length=n:=by rw[p.length_eq,zS]
 have t:os.Nodup:=p.nodup_iff.mpr QO;have mem:∀x,x∈os↔x<n:=fun x=>by rw[p.mem_iff,qu]
 have c:∀(x:Nat) (hx:x<n),os.getD x 0=os[x]'(by omega):=fun x hx=>by
  rw[qz,qo (by omega)];rfl
 refine⟨fun x hx=>?_,fun x hx=>?_,fun x hx=>?_,fun x hx=>?_,fun h=>?_⟩
 ·rw[c x hx]
  exact(mem _).mp (jM _)
 ·rw[<- s]
  exact X5.mpr ((mem x).mpr hx)
 ·have l:=X5.mpr ((mem x).mpr hx)
  rw[c _ (by omega)]
  exact List.getElem_idxOf l
 ·rw[c x hx]
  exact t.idxOf_getElem x (by omega)
 ·have e:((List.range n).map fun x=>h (os.getD x 0))=os.map h:=by
   refine Zt (by rw[zr,zr,zS,s]) fun i g A=>?_
   rw[w8,w8,QQ,c i (by rw[zr,zS] at g;exact g)]
  show((List.range n).map fun x=>h (os.getD x 0)).sum=((List.range n).map h).sum
  rw[e];exact zcz (p.map h)
theorem Least.turn{c A:Nat->Nat->Int}{n m:Nat}{t B:Int}{s r a b:Nat->Nat}(S:Tab n s r)(T:Tab m a b)(e:∀x,x<n->∀j,j<m->A x j=c (s x) (a j))(h:Least c n m t)(D:Least A n m B):B<=t:=by
 obtain⟨⟨f,g,rfl⟩,_⟩:=h;have l:=D.2 (fun x=>b (f (s x))) ⟨fun x hx=>T.fr _ (g.1 _ (S.to x hx)),fun x hx y hy z=>by
  have E:f (s x)=f (s y):=by rw[<- T.tf _ (g.1 _ (S.to x hx)),<- T.tf _ (g.1 _ (S.to y hy)),show b (f (s x))=b (f (s y)) from z]
  have H:=g.2 _ (S.to x hx) _ (S.to y hy) E;rw[<- S.ft x hx,<- S.ft y hy,H]⟩
 have q:(qe n fun x=>A x (b (f (s x))))=qe n fun x=>c (s x) (f (s x)):=xg n fun x hx=>by
  rw[e x hx _ (T.fr _ (g.1 _ (S.to x hx))),T.tf _ (g.1 _ (S.to x hx))]
 have J:=S.sum fun y=>c y (f y)
 omega
theorem Least.turned{c g:Nat->Nat->Int}{n m:Nat}{t t':Int}{s r a b:Nat->Nat}(S:Tab n s r)(T:Tab m a b)(e:∀x,x<n->∀j,j<m->g x j=c (s x) (a j))(h:Least c n m t)(l:Least g n m t'):t'=t:=
 WQ (h.turn S T e l) (l.turn S.back T.back (fun x hx j A=>by rw[e _ (S.fr x hx) _ (T.fr j A),S.tf x hx,T.tf j A]) h)
theorem Wu(g:Nat->Int)(k:Int):∀n,qe n (fun x=>g x+k)=qe n g+k*n
 | 0=>by show(0:Int)=0+k*((0:Nat):Int);rw[show((0:Nat):Int)=0 from rfl];omega
 | n+1=>by
  rw[qC,qC,Wu g k n,show((n+1:Nat):Int)=(n:Int)+1 from rfl,Int.mul_add,Int.mul_one]
  omega
theorem Least.by{c:Nat->Nat->Int}{n m:Nat}{t A k:Int}(h:Least c n m t)(D:Least (fun x j=>c x j+k) n m A):A=t+k*n:=by
 obtain⟨⟨f,H,e⟩,l⟩:=h;obtain⟨⟨s,g,B⟩,J⟩:=D;have E:=J f H;have L:=l s g;rw[Wu (fun x=>c x (f x)) k n] at E
 rw[Wu (fun x=>c x (s x)) k n] at B
 omega
theorem Least.more{c l:Nat->Nat->Int}{n m:Nat}{t s:Int}(h:Least c n m t)(A:Least l n (m+1) s)(e:∀x,x<n->∀j,j<m->l x j=c x j):s<=t:=by
 obtain⟨⟨f,g,rfl⟩,_⟩:=h;have:=A.2 f ⟨fun x hx=>jQ (g.1 x hx),g.2⟩
 rw[xg n fun x hx=>e x hx _ (g.1 x hx)] at this
 exact this
theorem WayOk.onto{n m:Nat}{w:List Nat}(h:WayOk n m w):zeX n m fun x=>w.getD x 0:=by
 have c:∀(x:Nat) (hx:x<n),w.getD x 0=w[x]'(by rw[h.1];exact hx):=fun x hx=>by
  rw[qz,qo (by rw[h.1];exact hx)];rfl
 refine⟨fun x hx=>?_,fun x hx y hy z=>?_⟩
 ·show w.getD x 0<m
  rw[c x hx];exact h.2.2 _ (jM _)
 ·have z:w.getD x 0=w.getD y 0:=z
  rw[c x hx,c y hy] at z;exact(yc h.2.1).mp z
theorem WayOk.vals{n m:Nat}{w:List Nat}(h:WayOk n m w):wU w=(List.range n).map fun(x:Nat)=>V.int (w.getD x 0:Nat):=by
 have e:w=(List.range n).map fun x=>w.getD x 0:=Zt (by rw[zr,zS,h.1]) fun i c g=>by
  rw[w8,QQ,qz,qo c];rfl
 show w.map _=_;conv=>lhs;rw[e]
 rw[jT];rfl
theorem YX{K:W.Frag}{H:Hp}:∀{g:List Dat} {c:List V},c.length=g.length->(∀(i:Nat) d,g[i]? =some d->∃v,c[i]? =some v/\Rep K H d v)->Reps K H g c
 | [],c,l,_=>List.eq_nil_of_length_eq_zero l
 | d::g,[],l,_=>by simp at l
 | d::g,x::c,l,h=>by
  obtain⟨v,s,r⟩:=h 0 d rfl;cases s;exact⟨x,c,rfl,r,YX (by simpa using l) fun i e A=>by
   obtain⟨w,t,B⟩:=h (i+1) e (by simpa using A)
   exact⟨w,by simpa using t,B⟩⟩
theorem Vy:∀{c:List Dat},(∀d∈c,d.shw=true)->Dat.shws c=true
 | [],_=>rfl
 | d::c,h=>by
  show(d.shw&&Dat.shws c)=true;rw[h d (by simp),Vy fun e g=>h e (z9 _ g)]
  rfl
theorem Wl{z:Nat}:∀{ds:List Dat},(∀d∈ds,d.blk<=z)->Dat.blks ds<=(z+1)*ds.length
 | [],_=>qk _
 | d::ds,h=>by
  have g:=h d (by simp)
  have l:=Wl (z:=z) fun e c=>h e (z9 _ c)
  show d.blk+1+Dat.blks ds<=(z+1)*(ds.length+1);rw[Nat.mul_succ];omega
theorem V8{z:Nat}:∀{ds:List Dat},(∀d∈ds,d.py.depth<=z)->PyData.depthAll (Dat.pys ds)<=z
 | [],_=>qk _
 | d::ds,h=>by
  have g:=h d (by simp)
  have l:=V8 (z:=z) fun e c=>h e (z9 _ c)
  show max d.py.depth (PyData.depthAll (Dat.pys ds))<=z;omega
def ja(g:Nat->Int)(m:Nat):Dat:=.lst ((List.range m).map fun j=>.int (g j))
theorem Z6{K:W.Frag}{H:Hp}{a:Addr}{g:Nat->Int}{m:Nat}(h:H a=some (.lst ((List.range m).map fun j=>V.int (g j)))):Rep K H (ja g m) (.ref a):=by
 refine⟨a,_,rfl,u4 h,YX (by rw[zr,zr]) fun i d e=>?_⟩
 rw[zZ] at e;obtain⟨j,c,rfl⟩:=jd.mp e;exact⟨.int (g j),by rw[zZ,c];rfl,rfl⟩
theorem Xm{g:Nat->Int}{m:Nat}(h:∀j,j<m->(g j).natAbs<1000000000000):(ja g m).shw=true/\(ja g m).blk<=m/\(ja g m).py.depth<=2:=by
 have mem:∀d∈(List.range m).map (fun j=>Dat.int (g j)),∃j,j<m/\d=.int (g j):=fun d c=>by
  obtain⟨j,l,rfl⟩:=jg.mp c;exact⟨j,qu.mp l,rfl⟩
 refine⟨Vy fun d c=>?_,?_,?_⟩
 ·obtain⟨j,l,rfl⟩:=mem d c
  exact zW (h j l)
 ·have:=Wl (z:=0) (ds:=(List.range m).map fun j=>Dat.int (g j)) fun d c=>by
   obtain⟨j,l,rfl⟩:=mem d c;exact zC _
  rw[zr,zS,Nat.zero_add,Nat.one_mul] at this;exact this
 ·have:=V8 (z:=1) (ds:=(List.range m).map fun j=>Dat.int (g j)) fun d c=>by
   obtain⟨j,l,rfl⟩:=mem d c;show PyData.depth (.int (g j))<=1;simp[PyData.depth]
  show PyData.depth (.list (Dat.pys _))<=2;simp only[PyData.depth];omega
def V9(u v:Nat->Int)(n m:Nat):Dat:=.tup [ja u n,ja v m]
theorem zeb{K:W.Frag}{H:Hp}{p c g:Addr}{n m:Nat}{u v:Nat->Int}(h:zeU H p c g n m u v):Rep K H (V9 u v n m) (.ref p):=
 ⟨p,_,rfl,u5 h.1,_,_,rfl,Z6 h.2.1,_,_,rfl,Z6 h.2.2,rfl⟩
theorem zf2{u v:Nat->Int}{n m:Nat}(E:n<=63)(D:m<=63)(hu:∀x,x<n->(u x).natAbs<1000000000000)(l:∀j,j<m->(v j).natAbs<1000000000000):(V9 u v n m).shw=true/\(V9 u v n m).blk<=1000/\(V9 u v n m).py.depth<=60:=by
 obtain⟨c,s,A⟩:=Xm hu;obtain⟨g,t,B⟩:=Xm l;refine⟨?_,?_,?_⟩
 ·show((ja u n).shw&&((ja v m).shw&&true))=true
  rw[c,g];rfl
 ·show(ja u n).blk+1+((ja v m).blk+1+0)<=_
  omega
 ·show max (ja u n).py.depth (max (ja v m).py.depth 0)+1<=60
  omega
theorem Qr(u:Nat->Int)(n:Nat):qZ (ja u n)=(List.range n).map u:=by
 show((List.range n).map fun j=>Dat.int (u j)).map iD=_
 rw[jT];rfl
theorem zcU(u:Nat->Int)(n:Nat):jv n (ja u n)=true:=by
 show(decide (((List.range n).map fun j=>Dat.int (u j)).length=n)&&((List.range n).map fun j=>Dat.int (u j)).all jl)=true
 rw[zr,zS,zW rfl,XE];simp[jl,Function.comp_def]
theorem Z4{u:Nat->Int}{n x:Nat}(h:x<n):((List.range n).map u).getD x 0=u x:=by
 rw[qz,zZ,jX h];rfl
theorem zcG{c:Nat->Nat->Int}{n m:Nat}{u v:Nat->Int}(l:∀x,x<n->∀j,j<m->u x+v j<=c x j)(s:∀j,j<m->v j<=0):ZJ c n m (V9 u v n m)=true:=by
 show(jv n (ja u n)&&(jv m (ja v m)&&VF c n m (qZ (ja u n)) (qZ (ja v m))))=true;rw[zcU,zcU,Qr,Qr,vE,vE];unfold VF;rw[qE];refine⟨jN.mpr fun z t=>?_,jN.mpr fun x hx=>jN.mpr fun j g=>zW ?_⟩
 ·obtain⟨j,g,rfl⟩:=jg.mp t
  exact zW (s j (qu.mp g))
 ·have hx:=qu.mp hx
  have g:=qu.mp g;rw[Z4 hx,Z4 g];exact l x hx j g
theorem Wg.floor{c:Nat->Nat->Int}{r m:Nat}{f:Nat->Nat}{A T:Nat->Int}(s:∀x,x<r->f x<m)(hc:∀x,x<r->∀j,j<m->0<=c x j/\c x j<=1000000)(l:∀j,j<m->0<=A j):∀{p:List Nat} {j:Nat} {t:Int},Wg c r m f A T p j t-> -(1000000*(p.length:Int))<=t
 | _,_,_,.one B _=>by
  have:=l _ B;rw[QU];omega
 | _,_,_,.step g hx hb _ _=>by
  have H:=Wg.floor s hc l g;have D:=hc _ hx _ hb;have E:=hc _ hx _ (s _ hx);rw[zY,QU];omega
theorem Hold.eq{c:List (Nat×Nat)}{n:Nat}{f g:Nat->Nat}(a:Hold c n f)(b:Hold c n g):∀x,x<n->f x=g x:=fun x hx=>by
 have:=(a.2 (f x) x).mpr ⟨hx,rfl⟩;exact((b.2 (f x) x).mp this).2.symm
theorem zbf{c:Nat->Nat->Int}{n m:Nat}{E:List (Nat×Nat)}{f:Nat->Nat}{t:List (Int×List Nat)}(J:AH c m n E)(D:n<=m)(T:m<=63)(hc:∀x,x<n->∀j,j<m->0<=c x j/\c x j<=1000000)(B:Hold E n f)(st:Settle c m E (qX c00 0 m) t) :
  (∀j,j<m-> -63000000<=tot t j/\tot t j<=0)/\∀x,x<n->0<=c x (f x)-tot t (f x)/\c x (f x)-tot t (f x)<=64000000:=by
 obtain⟨M,u,v,P,s⟩:=J.ok D (fun x hx j A=>(hc x hx j A).1) (zC _)
 obtain⟨N,O⟩:=s.mem;have H:∀j,j<m->v j<=c00 0 j:=fun j A=>P.neg j A
 obtain⟨g,_⟩:=st.ok P H N O (ub c n m M (c00 0));have Q:=P.paper s st;have L:=B.eq s;have a:∀j,j<m-> -63000000<=tot t j/\tot t j<=0:=fun j A=>by
  have w:=(g.2 j A).floor P.rng hc fun _ _=>xy _
  have l:=(Yo g A).2;exact⟨by omega,Q.neg j A⟩
 refine⟨a,fun x hx=>?_⟩
 rw[L x hx];have:=a _ (P.rng x hx);have:=hc x hx _ (P.rng x hx);omega
theorem zgj{c:Nat->Nat->Int}{n m:Nat}{g:Nat->Nat}{u v:Nat->Int}(l:∀x,x<n->∀j,j<m->u x+v j<=c x j)(s:∀j,j<m->v j<=0)(o:zeX n m g) :
  VQ c n m (ja (fun x=>(g x:Int)) n) (V9 u v n m)=decide (qe n u+qe m v=qe n fun x=>c x (g x)):=by
 have A:∀x,x<n->We (qZ (ja (fun x=>(g x:Int)) n)) x=g x:=fun x hx=>by
  unfold We;rw[Qr,Z4 hx];exact xn _
 have t:wI n m (ja (fun x=>(g x:Int)) n)=true:=by
  show(decide (((List.range n).map fun(j:Nat)=>Dat.int (g j:Int)).length=n)&&(((List.range n).map fun(j:Nat)=>Dat.int (g j:Int)).all (qN 0 ((m:Int)-1))&&decide ((((List.range n).map fun(j:Nat)=>Dat.int (g j:Int)).map iD).Nodup)))=true
  rw[zr,zS,zW rfl,vE,qE];refine⟨jN.mpr fun d B=>?_,zW ?_⟩
  ·obtain⟨x,hx,rfl⟩:=jg.mp B
   have:=o.1 x (qu.mp hx);show(decide ((0:Int)<=(g x:Int))&&decide ((g x:Int)<=(m:Int)-1))=true;rw[zW (by omega),zW (by omega)];rfl
  ·rw[jT,List.Nodup,vp]
   refine(QO (n:=n)).imp_of_mem fun {x y} hx hy ne z=>ne ?_
   have z:(g x:Int)=(g y:Int):=z;exact o.2 x (qu.mp hx) y (qu.mp hy) (by omega)
 show(wI n m (ja (fun x=>(g x:Int)) n)&&(ZJ c n m (V9 u v n m)&&decide ((qZ (ja u n)).sum+(qZ (ja v m)).sum=qe n fun x=>c x (We (qZ (ja (fun x=>(g x:Int)) n)) x))))=_
 rw[zcG l s,vE,t,vE,Qr,Qr,xg n fun x hx=>by rw[A x hx]]
 rfl
def RwB(H:Hp)(b:Addr)(g:List V)(c:Nat->Nat->Int)(i m:Nat):Prop:=g.length=i/\∀x,x<i->∃A,g[x]? =some (.ref A)/\A≠b/\H A=some (.lst ((List.range m).map fun j=>V.int (c x j)))
theorem RwB.nil{H:Hp}{b:Addr}{c:Nat->Nat->Int}{m:Nat}:RwB H b [] c 0 m:=⟨rfl,fun x hx=>absurd hx (jL x)⟩
theorem RwB.same{H g:Hp}{b:Addr}{l:List V}{c:Nat->Nat->Int}{i m:Nat}(h:RwB H b l c i m)(s:SameB b H g):RwB g b l c i m:=⟨h.1,fun x hx=>let ⟨A,a,r,d⟩:=h.2 x hx;⟨A,a,r,s _ _ d r⟩⟩
theorem RwB.snoc{H:Hp}{b A:Addr}{s:List V}{c g:Nat->Nat->Int}{i m:Nat}(h:RwB H b s c i m)(n:A≠b)(e:H A=some (.lst ((List.range m).map fun j=>V.int (g i j))))(l:∀x,x<i->∀j,j<m->g x j=c x j):RwB H b (s++[.ref A]) g (i+1) m:=by
 refine⟨by rw[zY,h.1];rfl,fun x hx=>?_⟩
 by_cases z:x=i
 ·subst z
  exact⟨A,by rw[jB (by rw[h.1];omega),h.1,x6];rfl,n,e⟩
 ·obtain⟨t,a,r,d⟩:=h.2 x (by omega)
  refine⟨t,by rw[jR (by rw[h.1];omega)];exact a,r,?_⟩
  rw[d];congr 2
  refine QC fun j B=>?_
  rw[l x (by omega) j (qu.mp B)]
theorem RwB.lay{H:Hp}{b q:Addr}{g:List V}{c:Nat->Nat->Int}{n m:Nat}(h:RwB H b g c n m)(hq:H q=none)(l:q≠b):CsB (upd H q (.lst g)) b q c n m:=
 ⟨l,g,zg,h.1,fun x hx=>let ⟨A,a,r,d⟩:=h.2 x hx;⟨A,a,r,zf hq _ _ d⟩⟩
theorem RwB.perm{H:Hp}{b:Addr}{g t:List V}{c:Nat->Nat->Int}{n m:Nat}(h:RwB H b g c n m)(E:t.Perm g):∃os:List Nat,os.Perm (List.range n)/\RwB H b t (fun x j=>c (os.getD x 0) j) n m:=by
 have e:g=(List.range n).map fun x=>g.getD x .non:=Zt (by rw[zr,zS,h.1]) fun i D L=>by
  rw[w8,QQ,qz,qo D];rfl
 obtain⟨os,s,rfl⟩:=jZ E e;have l:os.length=n:=by rw[s.length_eq,zS]
 refine⟨os,s,by rw[zr,l],fun x hx=>?_⟩
 have J:=(Tab.of s).to x hx;obtain⟨A,a,r,d⟩:=h.2 _ J;refine⟨A,?_,r,d⟩
 have B:os[x]? =some (os.getD x 0):=by
  rw[qz,qo (by omega)];rfl
 rw[zZ,B];show some (g.getD (os.getD x 0) .non)=_;rw[qz,a];rfl
theorem RwB.cs{H:Hp}{b q:Addr}{g:List V}{c:Nat->Nat->Int}{n m:Nat}(h:RwB H b g c n m)(hq:H q=some (.lst g)):CsAt H q c n m:=
 ⟨g,hq,h.1,fun x hx=>let ⟨A,a,_,d⟩:=h.2 x hx;⟨A,a,d⟩⟩
inductive zb1(s:List V)(H:Hp)(Q:VK):Prop
 | mk (b p:Addr) (t l:Int) (c:Nat->Nat->Int) (n m:Nat) (_:s=[.ref b,.ref p,.int t]) (_:BoxAt H b l) (_:l<100000) (_:CsB H b p c n m) (_:1<=n) (_:n<=5) (_:n<=m) (_:m<=7) (_:(∀x,x<n->∀j,j<m->0<=c x j/\c x j<=999993)) (_:Least c n m t) (_:∀g,SameB b H g->BoxAt g b (l+50)->Q (.bl true) g):zb1  s H Q
def zgL:Sp:=fun c H Q _=>zb1  c H Q
theorem zgW:zG ["_law_box_here","_law_costs","_law_total","_law_size","_law_by","_law_order"] ["_law_box_here","_law_costs","_law_total"] (zx (topL 43)):=u0
theorem zho{f:Addr}{fd:FuncData}(F:Fun K "_law_turned_right" "_law_turned_right" (topL 43) f fd)(B:Blt I)(O:Dfn P w K I G "_law_take" 1 ["_law_box_here","_law_size"] xY)(J:Dfn P w K I G "_law_shuffled" 2 ["_law_box_here","_law_some"] (J3 K))(g:Dfn P w K I G "matched_slots" 4 ["costs"] zd5):FnOk P w K I G CX0 5 f fd ["_law_box_here","_law_costs","_law_total"] zgL:=by
 have nd:=zgW.nd;refine F.ok zgW (fun vs H Q E h=>?_) (fun bd A b3 s H vs Q E hr h=>?_)
 ·obtain⟨b,p,t,n0,c,n,m,rfl,_⟩:=h
  rfl
 ·obtain⟨b,p,t,n0,c,n,m,rfl,hb,bi,cs,h1,h5,af,hm,hc,ls,k⟩:=h
  have sz:sizeLine=16777216:=sizeLine_eq;have be:=bGe;refine⟨_,(@zi _ _ _ _ _ (@xJ _ _ _ _ _ _ (@qG _ _ _ _ _ (@zd _ _ _ _ _ (@zv _ _ _ _ _ _ _ _ _ zy rfl B.len boot_len (@zd _ _ _ _ _ (@zJ _ _ _ _ _ _ _ z6 (@pv _ 1 _ _ (by rfl) (by first| exact Or.inl rfl | exact Or.inr (Or.inl rfl) | exact Or.inr (Or.inr rfl)) (by decide) (by decide)) zj (fun _ _=>rfl)) ze (by rfl)) (by decide) (by decide) (by rfl) (by rfl)) (@zd _ _ _ _ _ (@zm _ _ _ _ _ _ _ _ _ _ O hr.m rfl (@zd _ _ _ _ _ (@pv _ 0 _ _ (by rfl) (by first| exact Or.inl rfl | exact Or.inr (Or.inl rfl) | exact Or.inr (Or.inr rfl)) (by decide) (by decide)) (@zd _ _ _ _ _ zj ze (by rfl)) (by rfl)) (by decide) (by rfl) (by rfl)) ze (by rfl)) (by rfl))) (@ju _ _ _ _ _ _ rfl (@zI _ _ _ _ _ (@zH _ _ 3 _ nd rfl (Or.inl rfl) (by first| exact .inl rfl | exact .inr rfl | assumption)) (@zI _ _ _ _ _ (@zH _ _ 4 _ nd rfl (Or.inr rfl) (by first| exact .inl rfl | exact .inr rfl | assumption)) qP (by rfl)) (by rfl)) (by rfl) (by rfl)) (by rfl) (by rfl) (by rfl)) (@zi _ _ _ _ _ (@zB _ _ 5 _ _ _ _ nd rfl (Or.inr rfl) (@zm _ _ _ _ _ _ _ _ _ _ J hr.m rfl (@zd _ _ _ _ _ (@pv _ 0 _ _ (by rfl) (by first| exact Or.inl rfl | exact Or.inr (Or.inl rfl) | exact Or.inr (Or.inr rfl)) (by decide) (by decide)) (@zd _ _ _ _ _ (@yo _ _ _ _ _ _ _ rfl rfl B.list rfl B.range jk (@zd _ _ _ _ _ (@pv _ 3 _ _ (by rfl) (by first| exact Or.inl rfl | exact Or.inr (Or.inl rfl) | exact Or.inr (Or.inr rfl)) (by decide) (by decide)) ze (by rfl)) (by rfl) (by rfl)) ze (by rfl)) (by rfl)) (by decide) (by rfl) (by rfl)) (by rfl) (by first| exact .inl rfl | exact .inr rfl | assumption)) (@zi _ _ _ _ _ (@jF _ _ _ _ _ _ _ _ (@qw _ _ _ _ _ _ _ _ Y8 (@zJ _ _ _ _ _ _ _ qr (@zm _ _ _ _ _ _ _ _ _ _ g hr.m rfl (@zd _ _ _ _ _ (@zm _ _ _ _ _ _ _ _ _ _ J hr.m rfl (@zd _ _ _ _ _ (@pv _ 0 _ _ (by rfl) (by first| exact Or.inl rfl | exact Or.inr (Or.inl rfl) | exact Or.inr (Or.inr rfl)) (by decide) (by decide)) (@zd _ _ _ _ _ (@zfX _ _ _ _ _ _ _ _ _ _ _ ["_law_order"] [5] rfl rfl (by kernel_rfl) (@qV _ _ _ _ (@pv _ 1 _ _ (by rfl) (by first| exact Or.inl rfl | exact Or.inr (Or.inl rfl) | exact Or.inr (Or.inr rfl)) (by decide) (by decide))) (fun _ _ _ _=>qh) (fun _ _ _ _=>(@je _ _ _ _ _ _ _ _ _ _ _ ["_law_row"] [0] rfl rfl (by kernel_rfl) (@Z8 _ K rfl _ _ _ (@pv _ 1 _ _ (by rfl) (by first| exact Or.inl rfl | exact Or.inr (Or.inl rfl) | exact Or.inr (Or.inr rfl)) (by decide) (by decide))) (fun _ _ _ _=>qh) (fun _ _ _ _=>(@zJ _ _ _ _ _ _ _ (jG (K:=K) rfl) (@pv _ 1 _ _ (by rfl) (by first| exact Or.inl rfl | exact Or.inr (Or.inl rfl) | exact Or.inr (Or.inr rfl)) (by decide) (by decide)) (@pv _ 0 _ _ (by rfl) (by first| exact Or.inl rfl | exact Or.inr (Or.inl rfl) | exact Or.inr (Or.inr rfl)) (by decide) (by decide)) (fun _ _=>rfl))) (by intro _ ;rfl))) (by intro _ ;rfl)) ze (by rfl)) (by rfl)) (by decide) (by rfl) (by rfl)) ze (by rfl)) (by decide) (by rfl) (by rfl)) zj (fun _ _=>rfl)) (@pv _ 2 _ _ (by rfl) (by first| exact Or.inl rfl | exact Or.inr (Or.inl rfl) | exact Or.inr (Or.inr rfl)) (by decide) (by decide)) (qb _)) (@zu _ _ _ (@zE _ _ _ _ xM)) qB) (@zi _ _ _ _ _ (@jF _ _ _ _ _ _ _ _ (@qw _ _ _ _ _ _ _ _ Y8 (@zJ _ _ _ _ _ _ _ qr (@zm _ _ _ _ _ _ _ _ _ _ g hr.m rfl (@zd _ _ _ _ _ (@je _ _ _ _ _ _ _ _ _ _ _ ["_law_by"] [4] rfl rfl (by kernel_rfl) (@qV _ _ _ _ (@pv _ 1 _ _ (by rfl) (by first| exact Or.inl rfl | exact Or.inr (Or.inl rfl) | exact Or.inr (Or.inr rfl)) (by decide) (by decide))) (fun _ _ _ _=>qh) (fun _ _ _ _=>(@je _ _ _ _ _ _ _ _ _ _ _ ["_law_by"] [1] rfl rfl (by kernel_rfl) (@Z8 _ K rfl _ _ _ (@pv _ 0 _ _ (by rfl) (by first| exact Or.inl rfl | exact Or.inr (Or.inl rfl) | exact Or.inr (Or.inr rfl)) (by decide) (by decide))) (fun _ _ _ _=>qh) (fun _ _ _ _=>(@zF _ _ _ _ _ _ _ _ qd (@pv _ 0 _ _ (by rfl) (by first| exact Or.inl rfl | exact Or.inr (Or.inl rfl) | exact Or.inr (Or.inr rfl)) (by decide) (by decide)) (@pv _ 1 _ _ (by rfl) (by first| exact Or.inl rfl | exact Or.inr (Or.inl rfl) | exact Or.inr (Or.inr rfl)) (by decide) (by decide)))) (by intro _ ;rfl))) (by intro _ ;rfl)) ze (by rfl)) (by decide) (by rfl) (by rfl)) zj (fun _ _=>rfl)) (@zF _ _ _ _ _ _ _ _ qd (@pv _ 2 _ _ (by rfl) (by first| exact Or.inl rfl | exact Or.inr (Or.inl rfl) | exact Or.inr (Or.inr rfl)) (by decide) (by decide)) (@zF _ _ _ _ _ _ _ _ xp (@pv _ 4 _ _ (by rfl) (by first| exact Or.inl rfl | exact Or.inr (Or.inl rfl) | exact Or.inr (Or.inr rfl)) (by decide) (by decide)) (@zv _ _ _ _ _ _ _ _ _ zy rfl B.len boot_len (@zd _ _ _ _ _ (@pv _ 1 _ _ (by rfl) (by first| exact Or.inl rfl | exact Or.inr (Or.inl rfl) | exact Or.inr (Or.inr rfl)) (by decide) (by decide)) ze (by rfl)) (by decide) (by decide) (by rfl) (by rfl)))) (qb _)) (@zu _ _ _ (@zE _ _ _ _ xM)) qB) (@zu _ _ _ (@zE _ _ _ _ (@qQ _ _ _ _ _ _ _ _ VH (@zJ _ _ _ _ _ _ _ qr (@zm _ _ _ _ _ _ _ _ _ _ g hr.m rfl (@zd _ _ _ _ _ (@je _ _ _ _ _ _ _ _ _ _ _ ["_law_box_here"] [0] rfl rfl (by kernel_rfl) (@qV _ _ _ _ (@pv _ 1 _ _ (by rfl) (by first| exact Or.inl rfl | exact Or.inr (Or.inl rfl) | exact Or.inr (Or.inr rfl)) (by decide) (by decide))) (fun _ _ _ _=>qh) (fun _ _ _ _=>(@zF _ _ _ _ _ _ _ _ Xh (@pv _ 0 _ _ (by rfl) (by first| exact Or.inl rfl | exact Or.inr (Or.inl rfl) | exact Or.inr (Or.inr rfl)) (by decide) (by decide)) (@qI _ _ _ _ (@zd _ _ _ _ _ (@zm _ _ _ _ _ _ _ _ _ _ O hr.m rfl (@zd _ _ _ _ _ (@pv _ 1 _ _ (by rfl) (by first| exact Or.inl rfl | exact Or.inr (Or.inl rfl) | exact Or.inr (Or.inr rfl)) (by decide) (by decide)) (@zd _ _ _ _ _ zj ze (by rfl)) (by rfl)) (by decide) (by rfl) (by rfl)) ze (by rfl))))) (by intro _ ;rfl)) ze (by rfl)) (by decide) (by rfl) (by rfl)) zj (fun _ _=>rfl)) (@pv _ 2 _ _ (by rfl) (by first| exact Or.inl rfl | exact Or.inr (Or.inl rfl) | exact Or.inr (Or.inr rfl)) (by decide) (by decide)) (qb _)))))))),?_⟩
  obtain⟨np,N,z1,z2,z3⟩:=id cs;obtain⟨A0,a1,a2,a3⟩:=z3 0 (by omega)
  refine⟨_,rfl,p,_,_,.ref A0,rfl,rfl,u4 z1,qy a1,?_⟩
  refine⟨A0,_,rfl,.inl (u4 a3),?_⟩
  refine⟨_,rfl,b,7,n0,rfl,hb,by omega,by decide,by decide,fun M H1 y0 y1 B1 S1=>⟨by show 2<=_;omega,fun T hT=>?_⟩⟩
  rw[zr,zS];refine⟨T,_,rfl,u5 zg,rfl,_,_,rfl,_,_,rfl,rfl,?_⟩
  have B2:=B1.new (o:=.tup [.int m,.int M]) hT;have S2:=S1.new (o:=.tup [.int m,.int M]) hT;generalize upd H1 T (.tup [.int m,.int M])=H2 at B2 S2;refine⟨_,rfl,_,rfl,(m:Int),rfl,by omega,by omega,fun l hl=>?_⟩
  rw[xn];refine⟨b,l,_,_,rfl,B2.new hl,by omega,B2.nne hl,zg,by rw[zr,zS];omega,fun ol ys H3 S3 B3 b0 bj ar pm=>?_⟩
  obtain⟨os,po,rfl⟩:=jZ pm rfl;have S3:=S2.trans (((u7 b H2).new hl).trans S3);rw[zr,zS] at B3;have a6:=cs.same S3;obtain⟨_,b6,w1,w2,w3⟩:=id a6;have a0:∀(j:Nat),j<m->os.getD j 0<m:=(Tab.of po).to;have b2:os.length=m:=by rw[po.length_eq,zS]
  have ai:(os.map fun(j:Nat)=>V.int (j:Int)).length=m:=by rw[zr,b2]
  refine⟨_,rfl,_,rfl,p,rfl,⟨_,u4 w1⟩,jq (K:=K) (a:=p) (xs:=b6) (fun i N H4=>RwB H4 b N (fun x j=>c x (os.getD j 0)) i m/\SameB b H3 H4/\BoxAt H4 b (n0+1+m)) ⟨RwB.nil,u7 _ _,B3.mono (by omega)⟩ (fun i N H4 ⟨_,s4,_⟩=>u4 (s4 _ _ w1 np)) ?_ ?_⟩
  ·rintro i x N H4 hx ⟨R4,s4,B4⟩
   have hi:i<n:=by have:=(zT.mp hx).1;omega
   obtain⟨A,g1,g2,g3⟩:=w3 i hi;rw[g1] at hx;cases hx;have q3:=s4 _ _ g3 g2;have ag:=s4 _ _ ar b0;refine⟨rfl,_,rfl,ol,rfl,⟨_,u4 ag⟩,jq (K:=K) (a:=ol) (xs:=os.map fun(j:Nat)=>V.int (j:Int)) (fun j ys H5=>ys=(List.range j).map (fun j=>V.int (c i (os.getD j 0)))/\H5=H4) ⟨rfl,rfl⟩ (fun j ys H5 ⟨_,e⟩=>by rw[e];exact u4 ag) ?_ ?_⟩
   ·rintro j x ys H5 hx ⟨rfl,rfl⟩
    have Y:j<m:=by have:=(zT.mp hx).1;omega
    have ex:os[j]? =some (os.getD j 0):=by
     rw[qz,qo (by omega)];rfl
    rw[zZ,ex] at hx;cases hx;refine⟨rfl,_,rfl,_,rfl,A,_,_,.int (c i (os.getD j 0)),rfl,rfl,u4 q3,qy (by rw[zZ,jX (a0 j Y)];rfl),?_,?_,rfl⟩
    ·rw[zr,zS];omega
    ·rw[j6,zV];rfl
   ·rintro ys H5 ⟨rfl,rfl⟩
    rw[ai];refine⟨by rw[zr,zS];omega,fun D U=>?_⟩
    have nD:D≠b:=B4.nne U;refine⟨by rw[R4.1];omega,R4.same ((u7 b H5).new U) |>.snoc nD zg fun _ _ _ _=>rfl,s4.new U,B4.new U⟩
  rintro N H4 ⟨R4,s4,B4⟩;rw[w2] at R4;have zl:=R4.1;refine⟨by omega,fun D U=>?_⟩
  have nD:D≠b:=B4.nne U;refine⟨b,D,_,N,rfl,B4.new U,by omega,nD,zg,by omega,fun l2 ys H5 s5 B5 bq bh ae b4=>?_⟩
  obtain⟨oo,aj,R5⟩:=((R4.same ((u7 b H4).new U)).same s5).perm b4;have S5:=(s4.new (o:=.lst N) U).trans s5;refine⟨l2,_,n,m,rfl,R5.cs ae,af,by omega,fun x hx j Y=>?_,fun hs f u v q L H6 ah b9 b5 s6 hq hL ms=>?_⟩
  ·have:=hc _ ((Tab.of aj).to x hx) _ (a0 j Y)
   exact⟨this.1,by omega⟩
  have e1:=ls.turned (Tab.of aj) (Tab.of po) (fun x hx j Y=>rfl) (Least.of b5)
  refine⟨q,_,_,_,rfl,rfl,u5 ms.1,rfl,_,rfl,rfl,?_⟩
  rw[e1];refine⟨_,rfl,ifF (by simp) ?_⟩
  have S6:=S5.trans (.of s6);have B6:=B5.same s6;have ap:=a6.same S6;obtain⟨_,b7,v1,v2,v3⟩:=id ap;refine⟨_,rfl,p,rfl,⟨_,u4 v1⟩,jq (K:=K) (a:=p) (xs:=b7) (fun i N H7=>RwB H7 b N (fun x j=>c x j+M) i m/\SameB b H6 H7/\BoxAt H7 b (n0+1+m+n)) ⟨RwB.nil,u7 _ _,B6.mono (by omega)⟩ (fun i N H7 ⟨_,s7,_⟩=>u4 (s7 _ _ v1 np)) ?_ ?_⟩
  ·rintro i x N H7 hx ⟨R7,s7,B7⟩
   have hi:i<n:=by have:=(zT.mp hx).1;omega
   obtain⟨A,g1,g2,g3⟩:=v3 i hi;rw[g1] at hx;cases hx;have q3:=s7 _ _ g3 g2;have lm:((List.range m).map fun j=>V.int (c i j)).length=m:=by rw[zr,zS]
   refine⟨rfl,_,rfl,A,rfl,⟨_,u4 q3⟩,jq (K:=K) (a:=A) (xs:=(List.range m).map fun j=>V.int (c i j)) (fun j ys H8=>ys=(List.range j).map (fun j=>V.int (c i j+M))/\H8=H7) ⟨rfl,rfl⟩ (fun j ys H8 ⟨_,e⟩=>by rw[e];exact u4 q3) ?_ ?_⟩
   ·rintro j x ys H8 hx ⟨rfl,rfl⟩
    have Y:j<m:=by have:=(zT.mp hx).1;omega
    rw[zZ,jX Y] at hx;cases hx;refine⟨rfl,_,rfl,_,rfl,_,_,rfl,rfl,?_,?_,rfl⟩
    ·rw[zr,zS];omega
    ·rw[j6,zV];rfl
   ·rintro ys H8 ⟨rfl,rfl⟩
    rw[lm];refine⟨by rw[zr,zS];omega,fun D U=>?_⟩
    have nD:D≠b:=B7.nne U;refine⟨by rw[R7.1];omega,R7.same ((u7 b H8).new U) |>.snoc nD zg fun _ _ _ _=>rfl,s7.new U,B7.new U⟩
  rintro am H7 ⟨R7,s7,B7⟩;rw[v2] at R7;have bt:=R7.1;refine⟨by omega,fun D7 a4=>?_⟩
  have ay:D7≠b:=B7.nne a4;refine⟨D7,_,n,m,rfl,(R7.lay a4 ay).cs,af,by omega,fun x hx j Y=>?_,fun bo f' u' v' q' L' H8 bb au ak s8 bm bf aw=>?_⟩
  ·have:=hc x hx j Y
   exact⟨by omega,by omega⟩
  have e2:=ls.by (Least.of ak)
  have S8:=(S6.trans (s7.new (o:=.lst am) a4)).trans (.of s8);have B8:=(B7.new (o:=.lst am) a4).same s8;have aq:=a6.same S8;obtain⟨_,b8,x1,x2,x3⟩:=id aq;refine⟨q',_,_,_,rfl,rfl,u5 aw.1,rfl,_,rfl,_,rfl,_,rfl,p,_,rfl,.inl (u4 x1),?_⟩
  rw[x2];have ac:(2:Int)^64=18446744073709551616:=by decide
  refine⟨_,_,rfl,rfl,.inl ⟨by rw[ac];omega,by rw[ac];omega⟩,_,_,rfl,rfl,rfl,?_⟩
  rw[show(qe n fun x=>(fun x j=>c x j+M) x (f' x))=t+M*n from e2]
  refine⟨_,rfl,ifF (by simp) ?_⟩
  refine⟨_,rfl,p,rfl,⟨_,u4 x1⟩,jq (K:=K) (a:=p) (xs:=b8) (fun i N H9=>Ex1 fun(e:Nat->Int)=>An4 (RwB H9 b N (fun x j=>if j<m then c x j else e x) i (m+1)) ((∀x,x<i->0<=e x/\e x<=29)) (SameB b H8 H9) (BoxAt H9 b (n0+1+m+n+i))) ⟨fun _=>0,RwB.nil,(fun x hx=>absurd hx (jL x)),u7 _ _,B8.mono (by omega)⟩ (fun i N H9 ⟨_,_,_,s9,_⟩=>u4 (s9 _ _ x1 np)) ?_ ?_⟩
  ·rintro i x N H9 hx ⟨e,R9,eb,s9,B9⟩
   have hi:i<n:=by have:=(zT.mp hx).1;omega
   obtain⟨A,g1,g2,g3⟩:=x3 i hi;rw[g1] at hx;cases hx;have q3:=s9 _ _ g3 g2;refine⟨rfl,_,rfl,_,rfl,b,30,_,rfl,B9,by omega,by decide,by decide,fun y ba br bs ao aa=>⟨le1,fun t1 a7=>⟨A,t1,_,[.int y],rfl,rfl,(zf a7) _ _ (aa _ _ q3 g2),zg,by rw[zr,zS];show m+1<=_;omega,fun t2 a8=>?_⟩⟩⟩
   have a9:=ao.new (o:=.lst [.int y]) a7;have b1:t2≠b:=a9.nne a8;have ab:=(aa.new (o:=.lst [.int y]) a7).new (o:=.lst ((List.range m).map (fun j=>V.int (c i j))++[.int y])) a8
   refine⟨by rw[R9.1];omega,fun x=>if x=i then y else e x,(R9.same ab).snoc b1 ?_ fun x hx j Y=>?_,fun x hx=>?_,s9.trans ab,(a9.new a8).mono (by omega)⟩
   ·rw[zg,j6,zV]
    congr 2
    congr 1
    ·refine QC fun j Y=>?_
     rw[zq (qu.mp Y)]
    ·show [V.int y]=[V.int (if m<m then c i m else if i=i then y else e i)]
     rw[zo (jJ m),zq rfl]
   ·show(if j<m then c x j else if x=i then y else e x)=_
    rw[zo (show ¬x=i by omega)]
   ·show 0<=(if x=i then y else e x)/\(if x=i then y else e x)<=29
    by_cases z:x=i
    ·rw[zq z];omega
    ·rw[zo z];exact eb x (by omega)
  rintro an H9 ⟨e,R9,eb,s9,B9⟩;rw[x2] at R9 eb B9;have bu:=R9.1;refine⟨by omega,fun D9 a5=>?_⟩
  have az:D9≠b:=B9.nne a5;refine⟨D9,_,n,m+1,rfl,(R9.lay a5 az).cs,by omega,by omega,fun x hx j Y=>?_,fun bp f2 u2 v2 q2 L2 HA bc av al sA bn bg ax=>?_⟩
  ·by_cases z:j<m
   ·rw[zq z]
    have:=hc x hx j z;exact⟨this.1,by omega⟩
   ·rw[zo z]
    have:=eb x hx;exact⟨this.1,by omega⟩
  have e3:=ls.more (Least.of al) fun x hx j Y=>zq Y
  refine⟨q2,_,_,_,rfl,rfl,u5 ax.1,rfl,_,rfl,_,_,rfl,rfl,?_⟩
  rw[zW e3];exact k _ (S3.trans ((S8.trans (s9.new (o:=.lst an) a5)).trans (.of sA))) (((B9.new (o:=.lst an) a5).same sA).mono (by omega))
end
section
variable{X:Cx}{g c:Expr}{l:List Expr}{scope:Scope}{t:Pos}{B:TI}{A:TT}{w:TE}
theorem zfP{x z u y:Str}{Y pz U py D tp G:Pos}{T E:Nat}{g2:TG}(J:List Str)(Q:List Nat)(hc:X.calm=true)(hk:scope.kind=.function)(hb:v0 scope.names X.env.scope.names X.N [x,z,u] J Q=true)(hi:PI X (.Tuple [.Tuple [.Name x Y,.Name z pz] E G,.Name u U] T tp) c B)
  (hf:∀C s H I,PF (zP X ([x,z,u]++J) scope C s H I) l A) (he:∀C s H I,PE (zP X ([x,z,u]++J) scope C s H I) g w)
  (N:PG X (.Name y py) g2) (O:swapsWith (.ListComp g [⟨.Tuple [.Tuple [.Name x Y,.Name z pz] E G,.Name u U] T tp,c,l,0⟩] scope t) (some (.Name y py)) D.line X.env=pure true:=by rfl)
  (hs:∀x,foldedSetIterable c X.env x=pure x:=by intro _;rfl):PS X (.Assign [.Name y py] (.ListComp g [⟨.Tuple [.Tuple [.Name x Y,.Name z pz] E G,.Name u U] T tp,c,l,0⟩] scope t) D) (za2 (tLC B 3 Q (Xp X.K 2 (xu (Xp X.K 2 (xu (j4 0) (xu (j4 1) V3))) (xu (j4 2) V3))) A w) g2):=by
 obtain⟨h1,L,M⟩:=xF hb;refine zcw [x,z,u] J Q hc hk h1 hi (fun C s H I=>?_) hf he N O hs
 exact ju (X:=zP X ([x,z,u]++J) scope C s H I) hc (zI (ju hc (zI (xc (L x (by simp)) M rfl) (zI (xc (L z (by simp)) M rfl) qP))) (zI (xc (L u (by simp)) M rfl) qP))
end
def xx(J:Job)(c:List Str)(g:List (Int×Int))(x j:Nat):Int:=vX J (c.getD x default) (g.getD j (0,0))
theorem YU{w H:Hp}{J:Job}{c:List Str}{g:List (Int×Int)}{s:List V}{l:Addr}(h:Rows w H (c.map (zd9 J g)) s)(e:H l=some (.lst s)):CsAt H l (xx J c g) c.length g.length:=by
 refine⟨s,e,by rw[h.1,zr],fun x hx=>?_⟩
 have B:c[x]? =some (c.getD x default):=by rw[qz,qo hx];rfl
 obtain⟨A,a,_,d⟩:=h.2 x _ (by rw[zZ,B];rfl)
 refine⟨A,a,?_⟩
 rw[d];congr 2
 unfold zd9;rw[jT];refine Zt (by rw[zr,zr,zS]) fun i t D=>?_
 rw[zr] at t;rw[w8,w8,QQ];unfold xx;rw[qz (l:=g),qo t];rfl
theorem Wc{J:Job}{g:List Nat}(s:Q7 J g){q:Int×Int}(hq:inB q)(c:Str):0<=vX J c q/\vX J c q<=180000:=by
 unfold vX;have b:=zbX (Wb (kd:=c) s hq fun q h=>h)
 have l:=yU (jy J) q c J.ps;have:=s.pl;omega
section
variable{P:Program}{w:World}{K:W.Frag}{I:Str->Option Value}{G:Heap}
inductive YC(K:W.Frag)(N:List V)(H:Hp)(Q:VK):Prop
 | mk (D L:Addr) (J:Job) (t:List Nat) (c:List Str) (l:List (Int×Int)) (A:List V) (_:N=[.ref D,.ref L]) (_:Rep K H (Xk J) (.ref D)) (_:Q7 J t) (_:H L=some (.lst A)) (_:Reps K H (l.map plD) A) (_:(∀q∈l,inB q)) (_:l.length<=63) (_:(c.Pairwise fun a b=>ltS a b=true)) (_:(∀j,j∈c↔j∈qx J)) (_:c.length<=l.length) (_:∀(E M:Addr) (g h O T:V) (B:List V) (f:Nat->Nat) (u v:Nat->Int) s,Same H s->Pot (xx J c l) c.length l.length f u v->SqT K s E [g,h,.ref M,O,T]->SqT K s M B->B.length=c.length->(∀x,x<c.length->∃U k n,B[x]? =some (.ref U)/\s U=some (.tup [k,A.getD (f x) .non,n]))->Q (.ref E) s):YC K N H Q
def ze3(K:W.Frag):Sp:=fun c H Q _=>YC K c H Q
theorem zfc:zG ["job","slots","gate","heads","feeders","parts","aheads","columns","placed"] ["job","slots"] (zx (topL 23)):=u0
theorem zf9{f:Addr}{fd:FuncData}(F:Fun K "placed_feeders" "placed_feeders" (topL 23) f fd)(B:Blt I)(t:Dfn P w K I G "slot_costs" 4 ["job","slots"] (J6 K))(c:Dfn P w K I G "matched_slots" 4 ["costs"] zd5)(N:Dfn P w K I G "wanted_of" 1 ["job"] (Ww K)):FnOk P w K I G CX0 5 f fd ["job","slots"] (ze3 K):=by
 have nd:=zfc.nd;refine F.ok zfc (fun vs H Q E h=>?_) (fun ak A ac s H vs Q E hr h=>?_)
 ·obtain⟨jp,sl,J,a4,ms,Y,sv,rfl,_⟩:=h
  rfl
 ·obtain⟨jp,sl,J,a4,ms,Y,sv,rfl,rj,jo,a2,rs,hb,ql,up,mm,lm,k⟩:=h
  have sz:sizeLine=16777216:=sizeLine_eq;refine⟨_,(@zi _ _ _ _ _ (@xJ _ _ _ _ _ _ (@pv _ 0 _ _ (by rfl) (by first| exact Or.inl rfl | exact Or.inr (Or.inl rfl) | exact Or.inr (Or.inr rfl)) (by decide) (by decide)) (@ju _ _ _ _ _ _ rfl (@zI _ _ _ _ _ (@zH _ _ 2 _ nd rfl (Or.inl rfl) (by first| exact .inl rfl | exact .inr rfl | assumption)) (@zI _ _ _ _ _ (@zH _ _ 3 _ nd rfl (Or.inl rfl) (by first| exact .inl rfl | exact .inr rfl | assumption)) (@zI _ _ _ _ _ (@zH _ _ 4 _ nd rfl (Or.inl rfl) (by first| exact .inl rfl | exact .inr rfl | assumption)) (@zI _ _ _ _ _ (@zH _ _ 5 _ nd rfl (Or.inl rfl) (by first| exact .inl rfl | exact .inr rfl | assumption)) (@zI _ _ _ _ _ (@zH _ _ 6 _ nd rfl (Or.inl rfl) (by first| exact .inl rfl | exact .inr rfl | assumption)) qP (by rfl)) (by rfl)) (by rfl)) (by rfl)) (by rfl)) (by rfl) (by rfl)) (by rfl) (by rfl) (by rfl)) (@zi _ _ _ _ _ (@zB _ _ 7 _ _ _ _ nd rfl (Or.inl rfl) (@zJ _ _ _ _ _ _ _ qr (@zm _ _ _ _ _ _ _ _ _ _ c hr.m rfl (@zd _ _ _ _ _ (@zm _ _ _ _ _ _ _ _ _ _ t hr.m rfl (@zd _ _ _ _ _ (@pv _ 0 _ _ (by rfl) (by first| exact Or.inl rfl | exact Or.inr (Or.inl rfl) | exact Or.inr (Or.inr rfl)) (by decide) (by decide)) (@zd _ _ _ _ _ (@pv _ 1 _ _ (by rfl) (by first| exact Or.inl rfl | exact Or.inr (Or.inl rfl) | exact Or.inr (Or.inr rfl)) (by decide) (by decide)) ze (by rfl)) (by rfl)) (by decide) (by rfl) (by rfl)) ze (by rfl)) (by decide) (by rfl) (by rfl)) zj (fun _ _=>rfl)) (by rfl) (by first| exact .inl rfl | exact .inr rfl | assumption)) (@zi _ _ _ _ _ (zfP ["slots"] [1] rfl rfl (by kernel_rfl) (@wR _ _ _ _ _ _ _ _ _ rfl B.zip (@zd _ _ _ _ _ (@zm _ _ _ _ _ _ _ _ _ _ N hr.m rfl (@zd _ _ _ _ _ (@pv _ 0 _ _ (by rfl) (by first| exact Or.inl rfl | exact Or.inr (Or.inl rfl) | exact Or.inr (Or.inr rfl)) (by decide) (by decide)) ze (by rfl)) (by decide) (by rfl) (by rfl)) (@zd _ _ _ _ _ (@pv _ 7 _ _ (by rfl) (by first| exact Or.inl rfl | exact Or.inr (Or.inl rfl) | exact Or.inr (Or.inr rfl)) (by decide) (by decide)) ze (by rfl)) (by rfl)) (by rfl) (by rfl)) (fun _ _ _ _=>qh) (fun _ _ _ _=>(@qG _ _ _ _ _ (@zd _ _ _ _ _ (@pv _ 0 _ _ (by rfl) (by first| exact Or.inl rfl | exact Or.inr (Or.inl rfl) | exact Or.inr (Or.inr rfl)) (by decide) (by decide)) (@zd _ _ _ _ _ (@zJ _ _ _ _ _ _ _ (jG (K:=K) rfl) (@pv _ 3 _ _ (by rfl) (by first| exact Or.inl rfl | exact Or.inr (Or.inl rfl) | exact Or.inr (Or.inr rfl)) (by decide) (by decide)) (@pv _ 2 _ _ (by rfl) (by first| exact Or.inl rfl | exact Or.inr (Or.inl rfl) | exact Or.inr (Or.inr rfl)) (by decide) (by decide)) (fun _ _=>rfl)) (@zd _ _ _ _ _ (@pv _ 1 _ _ (by rfl) (by first| exact Or.inl rfl | exact Or.inr (Or.inl rfl) | exact Or.inr (Or.inr rfl)) (by decide) (by decide)) ze (by rfl)) (by rfl)) (by rfl)))) (@zH _ _ 8 _ nd rfl (Or.inl rfl) (by first| exact .inl rfl | exact .inr rfl | assumption))) (@zu _ _ _ (@zE _ _ _ _ (@qG _ _ _ _ _ (@pa5 _ _ _ _ _ _ _ _ _ _ _ (@pv _ 2 _ _ (by rfl) (by first| exact Or.inl rfl | exact Or.inr (Or.inl rfl) | exact Or.inr (Or.inr rfl)) (by decide) (by decide)) (@pv _ 3 _ _ (by rfl) (by first| exact Or.inl rfl | exact Or.inr (Or.inl rfl) | exact Or.inr (Or.inr rfl)) (by decide) (by decide)) (@qM _ _ _ _ _ _ _ _ _ jH rfl B.tuple jw (@zd _ _ _ _ _ (@pv _ 8 _ _ (by rfl) (by first| exact Or.inl rfl | exact Or.inr (Or.inl rfl) | exact Or.inr (Or.inr rfl)) (by decide) (by decide)) ze (by rfl)) (by decide) (by decide) (by rfl) (by rfl)) (@pv _ 5 _ _ (by rfl) (by first| exact Or.inl rfl | exact Or.inr (Or.inl rfl) | exact Or.inr (Or.inr rfl)) (by decide) (by decide)) (@pv _ 6 _ _ (by rfl) (by first| exact Or.inl rfl | exact Or.inr (Or.inl rfl) | exact Or.inr (Or.inr rfl)) (by decide) (by decide)) (by rfl)))))))),?_⟩
  obtain⟨g,fs,ps,as,fv,ao,qj,_,_,_,_,_,_⟩:=vg rj;refine⟨_,rfl,jp,_,rfl,qj,rfl,_,_,rfl,_,_,rfl,_,_,rfl,_,_,rfl,_,_,rfl,rfl,?_⟩
  refine⟨_,rfl,_,rfl,jp,sl,J,a4,Y,sv,rfl,rj,jo,a2,rs,hb,by omega,fun l M O H1 hl s1 a8 ag aa ml R=>?_⟩
  have em:M=ms:=JY ag up fun j=>(aa j).trans (mm j).symm
  subst em;have cb:∀x,x<M.length->∀j,j<Y.length->0<=xx J M Y x j/\xx J M Y x j<=1000000:=fun x hx j hj=>by
   have:=Wc jo (hb _ (jM hj)) (M.getD x default);unfold xx;rw[qz (l:=Y),qo hj];show 0<=vX J (M.getD x default) Y[j]/\vX J (M.getD x default) Y[j]<=1000000;omega
  have af:=rs.len;rw[zr] at af;refine⟨l,_,M.length,Y.length,rfl,YU R a8,lm,ql,cb,fun hs f u v q L H2 ah aj a5 s2 hq hL a0=>?_⟩
  refine⟨q,_,_,_,rfl,rfl,u5 a0.1,rfl,?_⟩
  have S2:=s1.trans s2;refine⟨_,rfl,jp,J,rfl,rj.same S2,jo.pl,fun wl ns wz H3 al s3 a3 ai ab an am wt=>?_⟩
  have en:ns=M:=JY ai up fun j=>(ab j).trans (mm j).symm
  subst en;have ln:((List.range ns.length).map fun(x:Nat)=>V.int (f x:Int)).length=ns.length:=by rw[zr,zS]
  have a7:=wt.1;refine⟨_,rfl,true,true,wl,L,rfl,⟨_,u4 a3⟩,⟨_,u4 (s3 _ _ a0.2)⟩,?_⟩
  refine yS (K:=K) (k1:=true) (k2:=true) (xs:=wz) (ys:=(List.range ns.length).map fun(x:Nat)=>V.int (f x:Int)) (fun i O H4=>An3 (Same H3 H4) (O.length=i) (∀x,x<i->∃U k n,O[x]? =some (.ref U)/\H4 U=some (.tup [k,sv.getD (f x) .non,n]))) ⟨u6 _,rfl,fun x hx=>absurd hx (jL x)⟩ (fun i O H4 ⟨s4,_,_⟩=>⟨u4 (s4 _ _ a3),u4 (s4 _ _ (s3 _ _ a0.2))⟩) ?_ ?_
  ·rintro i x y O H4 T hx hy ⟨s4,zl,zk⟩ hT
   have hi:i<ns.length:=by rw[<- a7];exact(zT.mp hx).1
   obtain⟨T1,e1,e2⟩:=wt.2 i _ (qo hi);rw[hx] at e1;cases e1;rw[zZ,jX hi] at hy;cases hy;have fr:=a5.rng i hi;have sT:=zf (o:=.tup [.ref T1,.int (f i:Int)]) hT;refine⟨T,_,rfl,u5 zg,rfl,_,_,rfl,T1,_,rfl,u5 (sT _ _ (s4 _ _ e2)),rfl,_,_,rfl,_,_,rfl,rfl,_,_,rfl,rfl,rfl,?_⟩
   have s5:=s4.trans sT;have sX:=sT;generalize upd H4 T (.tup [.ref T1,.int (f i:Int)])=H5 at s5 sX;have hv:sv[f i]? =some (sv.getD (f i) .non):=by
    rw[qz,qo (by omega)];rfl
   refine⟨_,rfl,_,rfl,_,rfl,sl,_,_,sv.getD (f i) .non,rfl,rfl,u4 ((S2.trans (s3.trans s5)) _ _ a2),qy hv,_,rfl,(by show 3<=_;omega),fun U hU=>⟨by omega,s5.trans (zf hU),by rw[zY,zl];rfl,fun x hx=>?_⟩⟩
   by_cases z:x=i
   ·subst z
    exact⟨U,_,_,by rw[jB (by omega),zl,x6];rfl,zg⟩
   ·obtain⟨U',k',n',b1,b2⟩:=zk x (by omega)
    exact⟨U',k',n',by rw[jR (by omega)];exact b1,by rw[zw (zp (sX _ _ b2) hU)];exact sX _ _ b2⟩
  ·rintro O H4 ⟨s4,zl,zk⟩
   rw[a7,ln,XD] at zl zk;refine⟨by omega,fun D hD=>⟨_,rfl,_,rfl,_,rfl,D,O,rfl,.inl ⟨u4 zg,fun tp a9=>⟨_,rfl,_,rfl,(by show 5<=_;omega),fun pt a1=>?_⟩⟩⟩⟩
   have sD:=zf (o:=.lst O) hD;have ae:=sD.trans (zf (o:=.tup O) a9);have a6:=ae.trans (zf (o:=.tup [.ref g,.int J.hd,.ref tp,.ref ps,.ref as]) a1);exact k pt tp _ _ _ _ O f u v _ (S2.trans (s3.trans (s4.trans a6))) a5 (u5 zg) (u5 (zf a1 _ _ zg)) zl fun x hx=>let ⟨U,k',n',b1,b2⟩:=zk x hx;⟨U,k',n',b1,a6 _ _ b2⟩
theorem zcx{K:W.Frag}{H:Hp}:∀(as:List Addr),(∀a∈as,PlA H a)->∃c:List (Int×Int),Reps K H (c.map plD) (as.map V.ref)/\(∀q∈c,inB q)/\c.length=as.length
 | [],_=>⟨[],rfl,fun q h=>(nomatch h),rfl⟩
 | a::as,h=>by
  obtain⟨c,g,l,s⟩:=zcx (K:=K) as fun b hb=>h b (z9 _ hb)
  obtain⟨x,y,e,r⟩:=h a (by simp)
  refine⟨(x,y)::c,⟨_,_,rfl,zfS (u5 e),g⟩,fun q hq=>?_,by rw[jP,jP,s]⟩
  rcases zL.mp hq with rfl | hq
  ·exact r
  ·exact l q hq
theorem Wa(c:List V)(z:Nat):jS c none (some (z:Int))=c.take z:=by
 unfold jS;rw[HT.sIx_none,List.drop_zero,HT.sIx_nat,Nat.sub_zero];by_cases h:z<=c.length
 ·rw[Nat.min_eq_left h]
 ·rw[Nat.min_eq_right (by omega),j7,X3 (by omega)]
theorem zam(t:Str):∀l:List Str,inV (.str t) (l.map V.str)=decide (t∈l)
 | []=>by simp[inV]
 | x::l=>by
  have:=zam t l;unfold inV at this ⊢;rw[jz,vJ,this];by_cases e:t=x
  ·subst e
   simp[eqV]
  ·have c:¬x=t:=fun z=>e z.symm
   simp[eqV,e,c]
theorem Wv(l:List Str):(l.map V.str).all xw=true:=jN.mpr fun z c=>by
 obtain⟨k,_,rfl⟩:=jg.mp c;rfl
def zbz(J:Job)(c:List Str):Job:={ J with ps:=J.ps.filter fun p=>decide (p.k∈c),as:=[] }
inductive zb5(g:List V)(H:Hp)(Q:VK):Prop
 | mk (b:Addr) (n:Int) (_:g=[.ref b]) (_:BoxAt H b n) (_:n<100000) (_:∀c,SameB b H c->Q (.bl true) c):zb5  g H Q
def zgO:Sp:=fun c H Q _=>zb5  c H Q
theorem zg0:zG ["_law_box_here","_law_job_here","_law_kinds_here","_law_slots_here","_law_costs","_law_places_here","_law_mine"] ["_law_box_here"] (zx (topL 44)):=u0
theorem zhs{f:Addr}{fd:FuncData}(F:Fun K "_law_placed_right" "_law_placed_right" (topL 44) f fd)(B:Blt I)(ae:Dfn P w K I G "_law_job" 4 ["_law_box_here","_law_few","_law_most","_law_plenty"] (ze6 K))(a5:Dfn P w K I G "_law_kinds" 1 ["_law_job_here"] (YI K))(a6:Dfn P w K I G "_law_slots" 3 ["_law_box_here","_law_many"] Yy)(a0:Dfn P w K I G "slot_costs" 4 ["job","slots"] (J6 K))(O:Dfn P w K I G "placed_feeders" 5 ["job","slots"] (ze3 K))(a9:Dfn P w K I G "_law_cost" 2 ["_law_job_here","_law_kind","_law_slot"] (J7 K))(af:Dfn P w K I G "_law_sum" 1 ["_law_costs","_law_columns"] (Jp K))(a3:Dfn P w K I G "_law_all_ways" 1 ["_law_rows","_law_columns"] zfE):FnOk P w K I G CX0 6 f fd ["_law_box_here"] zgO:=by
 have nd:=zg0.nd;refine F.ok zg0 (fun vs H Q E h=>?_) (fun c0 A bt s H vs Q E hr h=>?_)
 ·obtain⟨b,n,rfl,_⟩:=h
  rfl
 ·obtain⟨b,n,rfl,hb,hn,k⟩:=h
  have sz:sizeLine=16777216:=sizeLine_eq;have c1:=bGe;have c4:=V0 hr;refine⟨_,(@zi _ _ _ _ _ (@zB _ _ 1 _ _ _ _ nd rfl (Or.inr rfl) (@zm _ _ _ _ _ _ _ _ _ _ ae hr.m rfl (@zd _ _ _ _ _ (@pv _ 0 _ _ (by rfl) (by first| exact Or.inl rfl | exact Or.inr (Or.inl rfl) | exact Or.inr (Or.inr rfl)) (by decide) (by decide)) (@zd _ _ _ _ _ zj (@zd _ _ _ _ _ zj (@zd _ _ _ _ _ xM ze (by rfl)) (by rfl)) (by rfl)) (by rfl)) (by decide) (by rfl) (by rfl)) (by rfl) (by first| exact .inl rfl | exact .inr rfl | assumption)) (@zi _ _ _ _ _ (@zB _ _ 2 _ _ _ _ nd rfl (Or.inr rfl) (@xK _ _ _ _ _ _ _ _ _ _ wu (@zm _ _ _ _ _ _ _ _ _ _ a5 hr.m rfl (@zd _ _ _ _ _ (@pv _ 1 _ _ (by rfl) (by first| exact Or.inl rfl | exact Or.inr (Or.inl rfl) | exact Or.inr (Or.inr rfl)) (by decide) (by decide)) ze (by rfl)) (by decide) (by rfl) (by rfl)) wv (@xV _ _ _ zj)) (by rfl) (by first| exact .inl rfl | exact .inr rfl | assumption)) (@zi _ _ _ _ _ (@zB _ _ 1 _ _ _ _ nd rfl (Or.inr rfl) (@zF _ _ _ _ _ _ _ _ zab (@xK _ _ _ _ _ _ _ _ _ _ zfG (@pv _ 1 _ _ (by rfl) (by first| exact Or.inl rfl | exact Or.inr (Or.inl rfl) | exact Or.inr (Or.inr rfl)) (by decide) (by decide)) wv (@xV _ _ _ zj)) (@qG _ _ _ _ _ (@zd _ _ _ _ _ (@qM _ _ _ _ _ _ _ _ _ jH rfl B.tuple jw (@zd _ _ _ _ _ (@je _ _ _ _ _ _ _ _ _ _ _ ["_law_kinds_here"] [2] rfl rfl (by kernel_rfl) (@vT _ _ _ _ (@zJ _ _ _ _ _ _ _ qr (@pv _ 1 _ _ (by rfl) (by first| exact Or.inl rfl | exact Or.inr (Or.inl rfl) | exact Or.inr (Or.inr rfl)) (by decide) (by decide)) zj (fun _ _=>rfl))) (fun _ _ _ _=>(@Qa _ _ _ (@qw _ _ _ _ _ _ _ _ (WC (K:=K) rfl) (@zJ _ _ _ _ _ _ _ (wB (K:=K) rfl) (@pv _ 0 _ _ (by rfl) (by first| exact Or.inl rfl | exact Or.inr (Or.inl rfl) | exact Or.inr (Or.inr rfl)) (by decide) (by decide)) zj (fun _ _=>rfl)) (@pv _ 1 _ _ (by rfl) (by first| exact Or.inl rfl | exact Or.inr (Or.inl rfl) | exact Or.inr (Or.inr rfl)) (by decide) (by decide)) (by with_unfolding_all rfl)))) (fun _ _ _ _=>(@pv _ 0 _ _ (by rfl) (by first| exact Or.inl rfl | exact Or.inr (Or.inl rfl) | exact Or.inr (Or.inr rfl)) (by decide) (by decide))) (by intro _ ;rfl)) ze (by rfl)) (by decide) (by decide) (by rfl) (by rfl)) (@zd _ _ _ _ _ (@qG _ _ _ _ _ ze) ze (by rfl)) (by rfl)))) (by rfl) (by first| exact .inl rfl | exact .inr rfl | assumption)) (@zi _ _ _ _ _ (@zB _ _ 3 _ _ _ _ nd rfl (Or.inl rfl) (@xK _ _ _ _ _ _ _ _ _ _ wu (@zm _ _ _ _ _ _ _ _ _ _ a6 hr.m rfl (@zd _ _ _ _ _ (@pv _ 0 _ _ (by rfl) (by first| exact Or.inl rfl | exact Or.inr (Or.inl rfl) | exact Or.inr (Or.inr rfl)) (by decide) (by decide)) (@zd _ _ _ _ _ (@zv _ _ _ _ _ _ _ _ _ zy rfl B.len boot_len (@zd _ _ _ _ _ (@pv _ 2 _ _ (by rfl) (by first| exact Or.inl rfl | exact Or.inr (Or.inl rfl) | exact Or.inr (Or.inr rfl)) (by decide) (by decide)) ze (by rfl)) (by decide) (by decide) (by rfl) (by rfl)) ze (by rfl)) (by rfl)) (by decide) (by rfl) (by rfl)) wv (@xV _ _ _ zj)) (by rfl) (by first| exact .inl rfl | exact .inr rfl | assumption)) (@zi _ _ _ _ _ (@zB _ _ 4 _ _ _ _ nd rfl (Or.inr rfl) (@zm _ _ _ _ _ _ _ _ _ _ a0 hr.m rfl (@zd _ _ _ _ _ (@pv _ 1 _ _ (by rfl) (by first| exact Or.inl rfl | exact Or.inr (Or.inl rfl) | exact Or.inr (Or.inr rfl)) (by decide) (by decide)) (@zd _ _ _ _ _ (@pv _ 3 _ _ (by rfl) (by first| exact Or.inl rfl | exact Or.inr (Or.inl rfl) | exact Or.inr (Or.inr rfl)) (by decide) (by decide)) ze (by rfl)) (by rfl)) (by decide) (by rfl) (by rfl)) (by rfl) (by first| exact .inl rfl | exact .inr rfl | assumption)) (@zi _ _ _ _ _ (@zfR _ _ _ _ _ _ _ _ _ _ _ _ _ _ _ [] [] rfl rfl (by kernel_rfl) (@vT _ _ _ _ (@zJ _ _ _ _ _ _ _ qr (@zm _ _ _ _ _ _ _ _ _ _ O hr.m rfl (@zd _ _ _ _ _ (@pv _ 1 _ _ (by rfl) (by first| exact Or.inl rfl | exact Or.inr (Or.inl rfl) | exact Or.inr (Or.inr rfl)) (by decide) (by decide)) (@zd _ _ _ _ _ (@pv _ 3 _ _ (by rfl) (by first| exact Or.inl rfl | exact Or.inr (Or.inl rfl) | exact Or.inr (Or.inr rfl)) (by decide) (by decide)) ze (by rfl)) (by rfl)) (by decide) (by rfl) (by rfl)) zj (fun _ _=>rfl))) (fun _ _ _ _=>qh) (fun _ _ _ _=>(@zJ _ _ _ _ _ _ _ (wB (K:=K) rfl) (@pv _ 0 _ _ (by rfl) (by first| exact Or.inl rfl | exact Or.inr (Or.inl rfl) | exact Or.inr (Or.inr rfl)) (by decide) (by decide)) zj (fun _ _=>rfl))) (@zH _ _ 5 _ nd rfl (Or.inl rfl) (by first| exact .inl rfl | exact .inr rfl | assumption)) (by rfl) (by intro _ ;rfl)) (@zi _ _ _ _ _ (@zB _ _ 6 _ _ _ _ nd rfl (Or.inr rfl) (@zv _ _ _ _ _ _ _ _ _ (vk rfl) rfl B.sum boot_sum (@zd _ _ _ _ _ (@xL _ _ _ _ _ _ _ _ _ _ _ _ _ _ _ ["_law_job_here"] [1] rfl rfl (by kernel_rfl) (@wR _ _ _ _ _ _ _ _ _ rfl B.zip (@zd _ _ _ _ _ (@pv _ 2 _ _ (by rfl) (by first| exact Or.inl rfl | exact Or.inr (Or.inl rfl) | exact Or.inr (Or.inr rfl)) (by decide) (by decide)) (@zd _ _ _ _ _ (@pv _ 5 _ _ (by rfl) (by first| exact Or.inl rfl | exact Or.inr (Or.inl rfl) | exact Or.inr (Or.inr rfl)) (by decide) (by decide)) ze (by rfl)) (by rfl)) (by rfl) (by rfl)) (fun _ _ _ _=>qh) (fun _ _ _ _=>(@zm _ _ _ _ _ _ _ _ _ _ a9 hr.m rfl (@zd _ _ _ _ _ (@pv _ 2 _ _ (by rfl) (by first| exact Or.inl rfl | exact Or.inr (Or.inl rfl) | exact Or.inr (Or.inr rfl)) (by decide) (by decide)) (@zd _ _ _ _ _ (@pv _ 0 _ _ (by rfl) (by first| exact Or.inl rfl | exact Or.inr (Or.inl rfl) | exact Or.inr (Or.inr rfl)) (by decide) (by decide)) (@zd _ _ _ _ _ (@pv _ 1 _ _ (by rfl) (by first| exact Or.inl rfl | exact Or.inr (Or.inl rfl) | exact Or.inr (Or.inr rfl)) (by decide) (by decide)) ze (by rfl)) (by rfl)) (by rfl)) (by decide) (by rfl) (by rfl))) (by intro _ ;rfl)) ze (by rfl)) (by decide) (by decide) (by rfl) (by rfl)) (by rfl) (by first| exact .inl rfl | exact .inr rfl | assumption)) (@zu _ _ _ (@zE _ _ _ _ (@zv _ _ _ _ _ _ _ _ _ (xE rfl) rfl B.all boot_all (@zd _ _ _ _ _ (@je _ _ _ _ _ _ _ _ _ _ _ ["_law_mine","_law_costs"] [6,4] rfl rfl (by kernel_rfl) (@qV _ _ _ _ (@zm _ _ _ _ _ _ _ _ _ _ a3 hr.m rfl (@zd _ _ _ _ _ (@zv _ _ _ _ _ _ _ _ _ zy rfl B.len boot_len (@zd _ _ _ _ _ (@pv _ 2 _ _ (by rfl) (by first| exact Or.inl rfl | exact Or.inr (Or.inl rfl) | exact Or.inr (Or.inr rfl)) (by decide) (by decide)) ze (by rfl)) (by decide) (by decide) (by rfl) (by rfl)) (@zd _ _ _ _ _ (@zv _ _ _ _ _ _ _ _ _ zy rfl B.len boot_len (@zd _ _ _ _ _ (@pv _ 3 _ _ (by rfl) (by first| exact Or.inl rfl | exact Or.inr (Or.inl rfl) | exact Or.inr (Or.inr rfl)) (by decide) (by decide)) ze (by rfl)) (by decide) (by decide) (by rfl) (by rfl)) ze (by rfl)) (by rfl)) (by decide) (by rfl) (by rfl))) (fun _ _ _ _=>qh) (fun _ _ _ _=>(@qQ _ _ _ _ _ _ _ _ VH (@pv _ 1 _ _ (by rfl) (by first| exact Or.inl rfl | exact Or.inr (Or.inl rfl) | exact Or.inr (Or.inr rfl)) (by decide) (by decide)) (@zm _ _ _ _ _ _ _ _ _ _ af hr.m rfl (@zd _ _ _ _ _ (@pv _ 2 _ _ (by rfl) (by first| exact Or.inl rfl | exact Or.inr (Or.inl rfl) | exact Or.inr (Or.inr rfl)) (by decide) (by decide)) (@zd _ _ _ _ _ (@pv _ 0 _ _ (by rfl) (by first| exact Or.inl rfl | exact Or.inr (Or.inl rfl) | exact Or.inr (Or.inr rfl)) (by decide) (by decide)) ze (by rfl)) (by rfl)) (by decide) (by rfl) (by rfl)) (qb _))) (by intro _ ;rfl)) ze (by rfl)) (by decide) (by decide) (by rfl) (by rfl))))))))))),?_⟩
  refine⟨_,rfl,b,9,40,n,true,rfl,hb,by omega,by decide,by decide,by decide,by decide,fun jp J c7 H1 S1 B1 an jo=>?_⟩
  refine⟨_,rfl,jp,J,rfl,an,jo.pl,fun kl Y H2 bi s2 K2 pw mm ml=>?_⟩
  refine⟨5,rfl,kl,_,rfl,u4 K2,fun k5 ag=>?_⟩
  rw[show(some (5:Int))=some ((5:Nat):Int) from rfl,Wa,<- XI]
  have s3:=s2.trans (zf (o:=.lst ((Y.take 5).map V.str)) ag);have K5:upd H2 k5 (.lst ((Y.take 5).map V.str)) k5=some (.lst ((Y.take 5).map V.str)):=zg;have n5:H1 k5=none:=s2.free ag;have br:k5≠b:=B1.nne n5;generalize upd H2 k5 (.lst ((Y.take 5).map V.str))=H3 at s3 K5;have B3:=B1.same s3;have b5:=an.same s3;have S3:=S1.trans (.of s3);clear s2 bi K2 ag;obtain⟨g,fs,ps,as,fv,bu,qj,rg,qf,rf,qp,rp,ra⟩:=vg b5;have lp:=rp.len;have aw:¬(HT.sIx 5 0 none=0/\HT.sIx 5 5 (some 3)=5):=by decide
  rw[zr] at lp;refine⟨_,rfl,3,rfl,jp,_,rfl,qj,aw,fun j3 bg=>?_⟩
  have s4:=zf (o:=.tup [.ref g,.int J.hd,.ref fs]) bg;have J4:upd H3 j3 (.tup [.ref g,.int J.hd,.ref fs]) j3=some (.tup [.ref g,.int J.hd,.ref fs]):=zg;rw[show jS [V.ref g,.int J.hd,.ref fs,.ref ps,.ref as] none (some 3)=[.ref g,.int J.hd,.ref fs] from rfl]
  generalize upd H3 j3 (.tup [.ref g,.int J.hd,.ref fs])=H4 at s4 J4;refine⟨_,rfl,jp,_,_,_,rfl,rfl,s4.sqT qj,rfl,ps,rfl,⟨_,s4.sqT qp⟩,?_⟩
  have b7:=rp.same s4;refine Qn (K:=K) (a:=ps) (xs:=bu) (fun i N H5=>Reps K H5 (((J.ps.take i).filter fun p=>decide (p.k∈Y.take 5)).map xt) N/\Same H4 H5) ⟨rfl,u6 _⟩ (fun i N H5 ⟨_,s5⟩=>s5.sqT (s4.sqT qp)) ?_ ?_
  ·rintro i x N H5 hx ⟨r5,s5⟩
   obtain⟨dd,e1,r1⟩:=(b7.same s5).get hx;rw[zZ] at e1;obtain⟨pa,ax,rfl⟩:=jd.mp e1;obtain⟨a,c,rfl,qa⟩:=yQ r1;have zl:=r5.len;have fl:=QT (fun p:wq=>decide (p.k∈Y.take 5)) (J.ps.take i)
   have tl:=WZ i J.ps;have hi:=(zT.mp ax).1;have:=jo.pl;rw[zr] at zl;refine⟨rfl,_,rfl,a,_,_,_,rfl,rfl,qa,rfl,_,rfl,k5,_,rfl,.inl (u4 (s5 _ _ (s4 _ _ K5))),rfl,Wv _,_,rfl,?_⟩
   rw[jn ax,XU,zV,zam];refine jE (fun q=>?_) (fun q=>?_)
   ·have q:decide (pa.k∈Y.take 5)=true:=q
    refine⟨_,rfl,by omega,?_,s5⟩
    rw[List.filter_cons_of_pos (by exact q)]
    exact r5.snoc r1
   ·have q:¬decide (pa.k∈Y.take 5)=true:=q
    rw[List.filter_cons_of_neg (by exact q),List.filter_nil,List.map_nil,QM]
    exact⟨r5,s5⟩
  rintro N H5 ⟨r5,s5⟩;rw[lp,j7] at r5;have zl:=r5.len;rw[zr] at zl;have fl:=QT (fun p:wq=>decide (p.k∈Y.take 5)) J.ps
  have:=jo.pl;refine⟨by omega,fun D hD=>⟨D,N,rfl,.inl ⟨u4 zg,fun p5 bj=>⟨qk _,fun e0 b1=>⟨by show 2<=_;omega,fun t2 ah=>?_⟩⟩⟩⟩⟩
  have sD:=zf (o:=.lst N) hD;have ac:=sD.trans (zf (o:=.tup N) bj);have P5:upd (upd H5 D (.lst N)) p5 (.tup N) p5=some (.tup N):=zg;generalize upd (upd H5 D (.lst N)) p5 (.tup N)=H6 at b1 ah ac P5;have s6:=zf (o:=.tup []) b1;have E6:upd H6 e0 (.tup []) e0=some (.tup []):=zg;generalize upd H6 e0 (.tup [])=H7 at ah s6 E6;have s7:=zf (o:=.tup [.ref p5,.ref e0]) ah;have b9:=(s5.trans ac).trans (s6.trans s7);refine⟨j3,t2,_,_,rfl,rfl,u5 (b9 _ _ J4),u5 zg,(fun z=>nomatch z),(by show 3+2<=_;omega),(fun z=>nomatch z),fun _ j5 bh=>?_⟩
  have s8:=s7.trans (zf (o:=.tup ([.ref g,.int J.hd,.ref fs]++[.ref p5,.ref e0])) bh);have J8:upd (upd H7 t2 (.tup [.ref p5,.ref e0])) j5 (.tup ([.ref g,.int J.hd,.ref fs]++[.ref p5,.ref e0])) j5=some (.tup [.ref g,.int J.hd,.ref fs,.ref p5,.ref e0]):=zg;generalize upd (upd H7 t2 (.tup [.ref p5,.ref e0])) j5 (.tup ([.ref g,.int J.hd,.ref fs]++[.ref p5,.ref e0]))=H8 at s8 J8;have ar:=ac.trans (s6.trans s8);have a4:=s4.trans (s5.trans ar);have ao:Rep K H8 (Xk (zbz J (Y.take 5))) (.ref j5):=⟨j5,_,rfl,u5 J8,_,_,rfl,rg.same a4,_,_,rfl,rfl,_,_,rfl,⟨fs,fv,rfl,a4.sqT qf,rf.same a4⟩,_,_,rfl,⟨p5,N,rfl,u5 ((s6.trans s8) _ _ P5),r5.same ar⟩,_,_,rfl,⟨e0,[],rfl,u5 (s8 _ _ E6),rfl⟩,rfl⟩;have K8:=a4 _ _ K5;have B8:=B3.same a4;have S8:=S3.trans (.of a4);have a7:Q7 (zbz J (Y.take 5)) (List.range (zbz J (Y.take 5)).ps.length):=by
   have be:(zbz J (Y.take 5)).ps.length<=J.ps.length:=fl;exact⟨jo.gate,jo.hd0,jo.hd1,jo.fl,jo.fa,jU be jo.pl,fun p hp=>jo.pa p (Zs.mp hp).1,List.Perm.refl _,(fun p hp=>nomatch hp),qk _,jo.f0⟩
  have ab:∀j,j∈Y.take 5↔j∈qx (zbz J (Y.take 5)):=fun j=>by
   constructor
   ·intro h
    obtain⟨p,hp,e⟩:=jg.mp ((mm j).mp (QS h));exact jg.mpr ⟨p,Zs.mpr ⟨hp,zW (by rw[e];exact h)⟩,e⟩
   ·intro h
    obtain⟨p,hp,e⟩:=jg.mp h;rw[<- e];exact jA (Zs.mp hp).2
  clear a4 ar b9 s8 s7 s6 ac sD s5 s4 b5 r5 b7 rp qp rf qf rg ra qj B3 S3 P5 E6 J4 J8 K5;have bp:(Y.take 5).length<=5:=WZ 5 Y;have ak:(Y.take 5).Pairwise fun a b=>ltS a b=true:=pw.sublist (WV 5 Y)
  generalize bf:zbz J (Y.take 5)=J5 at ao a7 ab;generalize Y.take 5=M at K8 ab bp ak;clear bf pw mm jo an;refine⟨_,rfl,_,rfl,k5,_,rfl,.inl (u4 K8),b,_,_,rfl,B8,by omega,by omega,by rw[zr];omega,fun sl as H9 S9 B9 c6 c3 L9 al am b3=>⟨7,rfl,sl,_,rfl,u4 L9,fun s7 bn=>?_⟩⟩
  rw[show(some (7:Int))=some ((7:Nat):Int) from rfl,Wa,<- XI]
  rw[zr] at am;have b6:=ao.keep (u9 B8 S9) (zdc J5);have K9:=S9 _ _ K8 br;have pa7:∀a∈as.take 7,PlA H9 a:=fun a ha=>b3 a (QS ha)
  have bb:(as.take 7).length<=7:=WZ 7 as;have bc:M.length<=(as.take 7).length:=by rw[jO];omega
  generalize as.take 7=L at pa7 bb bc;obtain⟨qs,b8,hq,ql⟩:=zcx (K:=K) L pa7;have a8:=zf (o:=.lst (L.map V.ref)) bn;have aa:upd H9 s7 (.lst (L.map V.ref)) s7=some (.lst (L.map V.ref)):=zg;generalize upd H9 s7 (.lst (L.map V.ref))=HA at a8 aa;have ap:=b6.same a8;have aq:=b8.same a8;have KA:=a8 _ _ K9;have SA:=(S8.trans S9).trans (.of a8);clear ao b6 b8 K8 K9 S8 S9 B8 b3 L9;refine⟨_,rfl,_,rfl,j5,s7,J5,_,qs,_,rfl,ap,a7,aa,aq,hq,by omega,fun cl t cz HB c2 sB CB bz bq _ R=>?_⟩
  have em:t=M:=JY bz ak fun j=>(bq j).trans (ab j).symm
  subst em;refine⟨_,rfl,_,rfl,j5,s7,J5,_,t,qs,_,rfl,ap.same sB,a7,sB _ _ aa,aq.same sB,hq,by omega,ak,ab,by omega,fun pt tp g' h' a1 a2 fz f' u v HC sC aj Pt Tp fl fk=>⟨pt,_,_,_,rfl,rfl,Pt,rfl,tp,rfl,⟨_,Tp⟩,?_⟩⟩
  have bd:(L.map V.ref).length=qs.length:=by rw[zr,ql]
  refine Qn (K:=K) (a:=tp) (xs:=fz) (fun i N HD=>N=(List.range i).map (fun x=>(L.map V.ref).getD (f' x) .non)/\Same HC HD) ⟨rfl,u6 _⟩ (fun i N HD ⟨_,sD⟩=>sD.sqT Tp) ?_ ?_
  ·rintro i x N HD hx ⟨rfl,sD⟩
   have hi:i<t.length:=by rw[<- fl];exact(zT.mp hx).1
   obtain⟨U,k',n',e1,e2⟩:=fk i hi;rw[hx] at e1;cases e1;refine⟨rfl,_,rfl,U,_,_,_,rfl,rfl,u5 (sD _ _ e2),rfl,?_,?_,sD⟩
   ·rw[zr,zS];omega
   ·rw[j6,zV];rfl
  rintro N HD ⟨rfl,sD⟩;rw[fl];refine⟨by rw[zr,zS];omega,fun pl b2=>?_⟩
  have PE:upd HD pl (.lst ((List.range t.length).map fun x=>(L.map V.ref).getD (f' x) .non)) pl=some (.lst ((List.range t.length).map fun x=>(L.map V.ref).getD (f' x) .non)):=zg
  have sE:=sC.trans (sD.trans (zf (o:=.lst ((List.range t.length).map fun x=>(L.map V.ref).getD (f' x) .non)) b2))
  generalize upd HD pl (.lst ((List.range t.length).map fun x=>(L.map V.ref).getD (f' x) .non))=HE at PE sE
  have KE:=sE _ _ (sB _ _ KA);have LE:=sE _ _ (sB _ _ aa);have CE:=sE _ _ CB;have bv:=ap.same (sB.trans sE);have bx:=aq.same (sB.trans sE);have SE:=SA.trans (.of (sB.trans sE));have RE:=R.same sE;have ai:(t.map V.str).length=t.length:=zr ..;have bo:((List.range t.length).map fun x=>(L.map V.ref).getD (f' x) .non).length=t.length:=by rw[zr,zS]
  clear sC sD b2 Pt Tp fk;refine⟨_,rfl,_,rfl,true,true,k5,pl,rfl,⟨_,u4 KE⟩,⟨_,u4 PE⟩,?_⟩
  refine yS (K:=K) (k1:=true) (k2:=true) (xs:=t.map V.str) (ys:=(List.range t.length).map fun x=>(L.map V.ref).getD (f' x) .non) (fun i N HF=>N=((List.range i).map fun x=>xx J5 t qs x (f' x)).map V.int/\Same HE HF) ⟨rfl,u6 _⟩ (fun i N HF ⟨_,sF⟩=>⟨u4 (sF _ _ KE),u4 (sF _ _ PE)⟩) ?_ ?_
  ·rintro i x y N HF T hx hy ⟨rfl,sF⟩ hT
   have hi:i<t.length:=by rw[<- ai];exact(zT.mp hx).1
   have em:t[i]? =some (t.getD i default):=by rw[qz,qo hi];rfl
   rw[zZ,em] at hx;cases hx;rw[zZ,jX hi] at hy;cases hy;have fr:=aj.rng i hi;have sT:=sF.trans (zf (o:=.tup [.str (t.getD i default),(L.map V.ref).getD (f' i) .non]) hT);refine⟨T,_,rfl,u5 zg,rfl,_,_,rfl,_,_,rfl,rfl,rfl,?_⟩
   have av:(L.map V.ref)[f' i]? =some ((L.map V.ref).getD (f' i) .non):=by rw[qz,qo (by omega)];rfl
   obtain⟨dq,ay,bw⟩:=(bx.same sT).get av;have az:qs[f' i]? =some (qs.getD (f' i) (0,0)):=by rw[qz,qo fr];rfl
   rw[zZ,az] at ay;cases ay;refine⟨_,rfl,_,rfl,_,rfl,j5,J5,_,_,_,_,rfl,bv.same sT,a7,bw,hq _ (jc az),fun HG sG=>⟨?_,?_,sT.trans sG⟩⟩
   ·rw[zr,zr,zS];omega
   ·rw[j6,zV,zV];rfl
  rintro N HF ⟨rfl,sF⟩;rw[ai,bo,XD];have au:∀x,x<t.length->∀j,j<qs.length->0<=xx J5 t qs x j/\xx J5 t qs x j<=1000000:=fun x hx j hj=>by
   have:=Wc a7 (hq _ (jM hj)) (t.getD x default);unfold xx;rw[qz (l:=qs),qo hj];show 0<=vX J5 (t.getD x default) qs[j]/\vX J5 (t.getD x default) qs[j]<=1000000;omega
  refine⟨by rw[zr,zr,zS];omega,fun b4 bm=>⟨b4,_,rfl,u4 zg,fun z hz=>?_,by rw[zr,zS];omega,?_⟩⟩
  ·obtain⟨x,hx,rfl⟩:=jg.mp hz
   have hx:=qu.mp hx;exact au x hx _ (aj.rng x hx)
  have sG:=sF.trans (zf (o:=.lst (((List.range t.length).map fun x=>xx J5 t qs x (f' x)).map V.int)) bm)
  generalize upd HF b4 (.lst (((List.range t.length).map fun x=>xx J5 t qs x (f' x)).map V.int))=HG at sG
  refine⟨_,rfl,k5,_,rfl,.inl (u4 (sG _ _ KE)),_,rfl,s7,_,rfl,.inl (u4 (sG _ _ LE)),t.length,qs.length,(by rw[ai,bd];rfl),by omega,by omega,fun wl ws wz HH c5 sH Lw W bs nw=>?_⟩
  have CH:CsAt HH cl (xx J5 t qs) t.length qs.length:=((YU (R.same sE) CE).same sG).same sH;have W1:=W.1;refine⟨wl,rfl,⟨_,u4 Lw⟩,jq (K:=K) (a:=wl) (xs:=wz) (fun i N HI=>N=List.replicate i (V.bl true)/\Same HH HI) ⟨rfl,u6 _⟩ (fun i N HI ⟨_,sI⟩=>u4 (sI _ _ Lw)) ?_ ?_⟩
  ·rintro i x N HI hx ⟨rfl,sI⟩
   have hi:i<ws.length:=by rw[<- W1];exact(zT.mp hx).1
   have ew:ws[i]? =some ws[i]:=qo hi;obtain⟨a,e1,_,e3⟩:=W.2 i _ ew;rw[hx] at e1;cases e1;have ok:=bs _ (jM hi);rw[ok.vals] at e3;refine⟨rfl,_,rfl,_,rfl,_,rfl,cl,a,xx J5 t qs,t.length,qs.length,fun x=>ws[i].getD x 0,rfl,CH.same sI,u4 (sI _ _ e3),ok.onto.1,by omega,au,fun HJ sJ=>⟨_,_,rfl,rfl,?_,?_,sI.trans sJ⟩⟩
   ·rw[wL];omega
   ·have le:((List.range t.length).map fun x=>xx J5 t qs x (f' x)).sum<=qe t.length fun x=>xx J5 t qs x (ws[i].getD x 0):=aj.least ok.onto.1 ok.onto.2
    rw[zW le,XY]
  rintro N HI ⟨rfl,sI⟩;rw[W1];refine⟨by rw[wL];omega,fun ba b0=>?_⟩
  refine⟨ba,List.replicate ws.length true,rfl,u4 (by rw[zg,XV]),?_⟩
  rw[show(List.replicate ws.length true).all id=true by simp]
  exact k _ (SE.trans (.of (sG.trans (sH.trans (sI.trans (zf b0))))))
theorem zdv{H:Hp}{b p:Addr}{c:Nat->Nat->Int}{n m:Nat}(s:CsB H b p c n m)(l:n<=m)(hc:∀x,x<n->∀j,j<m->0<=c x j/\c x j<=999993):∃g,g<=m/\CsB H b p c n g/\n<=g/\(n=0->g=0)/\∀x,x<n->∀j,j<g->0<=c x j/\c x j<=999993:=by
 cases n with
 | zero=>
  obtain⟨B,D,t,A,E⟩:=s;exact⟨0,qk _,⟨B,D,t,A,fun x hx=>absurd hx (jL x)⟩,zC _,fun _=>rfl,fun x hx=>absurd hx (jL x)⟩
 | succ n=>exact⟨m,zC _,s,l,(fun z=>nomatch z),hc⟩
inductive zb4(l:List V)(H:Hp)(Q:VK):Prop
 | mk (b:Addr) (g:Int) (_:l=[.ref b]) (_:BoxAt H b g) (_:g<1000) (_:∀c,SameB b H c->Q (.bl true) c):zb4  l H Q
def zgN:Sp:=fun c H Q _=>zb4  c H Q
theorem zgZ:zG ["_law_box_here","_law_costs","_law_total","_law_pair","_law_some","_law_mine"] ["_law_box_here"] (zx (topL 47)):=u0
def zaR(b:_)(p:_)(c:_)(s:_)(g:_):=fun(i:Nat) (σ:St) (l:Hp)=>(Ex2 fun(t A:Option V)=>An2 (σ=[some (.ref b),some (.ref p),some (.int c),some (.ref s),t,A]) (Same g l):Prop)
theorem zhr{f:Addr}{fd:FuncData}(F:Fun K "_law_right" "_law_right" (topL 47) f fd)(B:Blt I)(Y:Dfn P w K I G "_law_small" 2 ["_law_box_here"] zgM)(D:Dfn P w K I G "matched_slots" 4 ["costs"] zd5)(O:Dfn P w K I G "paper_for" 4 ["costs"] zgP)(N:Dfn P w K I G "_law_all_ways" 1 ["_law_rows","_law_columns"] zfE)
  (aa:Dfn P w K I G "_law_sum" 1 ["_law_costs","_law_columns"] (Jp K)) (J:Dfn P w K I G "shows_matched" 4 ["costs","columns","thing"] (ze2 K)) (a5:Dfn P w K I G "_law_same" 1 ["_law_found","_law_due"] (spS K 1)) (t:Dfn P w K I G "_law_turned_right" 5 ["_law_box_here","_law_costs","_law_total"] zgL) (l:Dfn P w K I G "_law_placed_right" 6 ["_law_box_here"] zgO):FnOk P w K I G CX0 7 f fd ["_law_box_here"] zgN:=by
 have nd:=zgZ.nd;refine F.ok zgZ (fun vs H Q E h=>?_) (fun b1 A ax s H vs Q E hr h=>?_)
 ·obtain⟨b,n0,rfl,_⟩:=h
  rfl
 ·obtain⟨b,n0,rfl,hb,b6,k⟩:=h
  have sz:sizeLine=16777216:=sizeLine_eq;have b2:=bGe;have b9:=V0 hr;have hu:=hr.units0;refine⟨_,(@zi _ _ _ _ _ (@zB _ _ 1 _ _ _ _ nd rfl (Or.inl rfl) (@zm _ _ _ _ _ _ _ _ _ _ Y hr.m rfl (@zd _ _ _ _ _ (@pv _ 0 _ _ (by rfl) (by first| exact Or.inl rfl | exact Or.inr (Or.inl rfl) | exact Or.inr (Or.inr rfl)) (by decide) (by decide)) ze (by rfl)) (by decide) (by rfl) (by rfl)) (by rfl) (by first| exact .inl rfl | exact .inr rfl | assumption)) (@zi _ _ _ _ _ (@Wz _ _ 2 3 _ _ _ _ _ _ _ _ _ _ _ rfl nd rfl rfl (by decide) rfl rfl (@zd _ _ _ _ _ (@zJ _ _ _ _ _ _ _ qr (@zm _ _ _ _ _ _ _ _ _ _ D hr.m rfl (@zd _ _ _ _ _ (@pv _ 1 _ _ (by rfl) (by first| exact Or.inl rfl | exact Or.inr (Or.inl rfl) | exact Or.inr (Or.inr rfl)) (by decide) (by decide)) ze (by rfl)) (by decide) (by rfl) (by rfl)) zj (fun _ _=>rfl)) (@zd _ _ _ _ _ (@zm _ _ _ _ _ _ _ _ _ _ O hr.m rfl (@zd _ _ _ _ _ (@pv _ 1 _ _ (by rfl) (by first| exact Or.inl rfl | exact Or.inr (Or.inl rfl) | exact Or.inr (Or.inr rfl)) (by decide) (by decide)) ze (by rfl)) (by decide) (by rfl) (by rfl)) ze (by rfl)) (by rfl)) (by rfl) (by rfl)) (@zi _ _ _ _ _ (@qW _ _ _ _ _ _ _ _ jK rfl (@qV _ _ _ _ (@zm _ _ _ _ _ _ _ _ _ _ N hr.m rfl (@zd _ _ _ _ _ (@zv _ _ _ _ _ _ _ _ _ zy rfl B.len boot_len (@zd _ _ _ _ _ (@pv _ 1 _ _ (by rfl) (by first| exact Or.inl rfl | exact Or.inr (Or.inl rfl) | exact Or.inr (Or.inr rfl)) (by decide) (by decide)) ze (by rfl)) (by decide) (by decide) (by rfl) (by rfl)) (@zd _ _ _ _ _ (@vc _ _ _ _ _ _ _ _ (@qw _ _ _ _ _ _ _ _ (VG hu) (@pv _ 1 _ _ (by rfl) (by first| exact Or.inl rfl | exact Or.inr (Or.inl rfl) | exact Or.inr (Or.inr rfl)) (by decide) (by decide)) (@qI _ _ _ _ ze) (qb _)) (@zv _ _ _ _ _ _ _ _ _ zy rfl B.len boot_len (@zd _ _ _ _ _ (@zJ _ _ _ _ _ _ _ z6 (@pv _ 1 _ _ (by rfl) (by first| exact Or.inl rfl | exact Or.inr (Or.inl rfl) | exact Or.inr (Or.inr rfl)) (by decide) (by decide)) zj (fun _ _=>rfl)) ze (by rfl)) (by decide) (by decide) (by rfl) (by rfl)) zj) ze (by rfl)) (by rfl)) (by decide) (by rfl) (by rfl))) (@zH _ _ 4 _ nd rfl (Or.inl rfl) (by first| exact .inl rfl | exact .inr rfl | assumption)) (@zi _ _ _ _ _ (@zB _ _ 5 _ _ _ _ nd rfl (Or.inl rfl) (@zm _ _ _ _ _ _ _ _ _ _ aa hr.m rfl (@zd _ _ _ _ _ (@pv _ 1 _ _ (by rfl) (by first| exact Or.inl rfl | exact Or.inr (Or.inl rfl) | exact Or.inr (Or.inr rfl)) (by decide) (by decide)) (@zd _ _ _ _ _ (@pv _ 4 _ _ (by rfl) (by first| exact Or.inl rfl | exact Or.inr (Or.inl rfl) | exact Or.inr (Or.inr rfl)) (by decide) (by decide)) ze (by rfl)) (by rfl)) (by decide) (by rfl) (by rfl)) (by rfl) (by first| exact .inl rfl | exact .inr rfl | assumption)) (@zu _ _ _ (@jF _ _ _ _ _ _ _ _ (@PW.pt _ _ _ (@Jx _ _ _ _ _ _ _ (@qw _ _ _ _ _ _ _ _ Y9 (@pv _ 5 _ _ (by rfl) (by first| exact Or.inl rfl | exact Or.inr (Or.inl rfl) | exact Or.inr (Or.inr rfl)) (by decide) (by decide)) (@pv _ 2 _ _ (by rfl) (by first| exact Or.inl rfl | exact Or.inr (Or.inl rfl) | exact Or.inr (Or.inr rfl)) (by decide) (by decide)) (qb _)) (@yP _ _ _ _ (@xI _ _ _ _ (@jD _ _ _ (@zm _ _ _ _ _ _ _ _ _ _ a5 hr.m rfl (@zd _ _ _ _ _ (@zm _ _ _ _ _ _ _ _ _ _ J hr.m rfl (@zd _ _ _ _ _ (@pv _ 1 _ _ (by rfl) (by first| exact Or.inl rfl | exact Or.inr (Or.inl rfl) | exact Or.inr (Or.inr rfl)) (by decide) (by decide)) (@zd _ _ _ _ _ (@pv _ 4 _ _ (by rfl) (by first| exact Or.inl rfl | exact Or.inr (Or.inl rfl) | exact Or.inr (Or.inr rfl)) (by decide) (by decide)) (@zd _ _ _ _ _ (@pv _ 3 _ _ (by rfl) (by first| exact Or.inl rfl | exact Or.inr (Or.inl rfl) | exact Or.inr (Or.inr rfl)) (by decide) (by decide)) ze (by rfl)) (by rfl)) (by rfl)) (by decide) (by rfl) (by rfl)) (@zd _ _ _ _ _ (@qQ _ _ _ _ _ _ _ _ xk (@pv _ 5 _ _ (by rfl) (by first| exact Or.inl rfl | exact Or.inr (Or.inl rfl) | exact Or.inr (Or.inr rfl)) (by decide) (by decide)) (@pv _ 2 _ _ (by rfl) (by first| exact Or.inl rfl | exact Or.inr (Or.inl rfl) | exact Or.inr (Or.inr rfl)) (by decide) (by decide)) (qb _)) ze (by rfl)) (by rfl)) (by decide) (by rfl) (by rfl)) (by intro _ ;rfl)))))) (@zu _ _ _ (@zE _ _ _ _ xM)) qB))) (by intro _ ;rfl)) (@zi _ _ _ _ _ (@jF _ _ _ _ _ _ _ _ (@PW.pt _ _ _ (@zfN _ _ _ _ _ _ _ (@qw _ _ _ _ _ _ _ _ (VG hu) (@pv _ 1 _ _ (by rfl) (by first| exact Or.inl rfl | exact Or.inr (Or.inl rfl) | exact Or.inr (Or.inr rfl)) (by decide) (by decide)) (@qI _ _ _ _ ze) (qb _)) (@zec _ _ _ _ (@xI _ _ _ _ (@jD _ _ _ (@zm _ _ _ _ _ _ _ _ _ _ t hr.m rfl (@zd _ _ _ _ _ (@pv _ 0 _ _ (by rfl) (by first| exact Or.inl rfl | exact Or.inr (Or.inl rfl) | exact Or.inr (Or.inr rfl)) (by decide) (by decide)) (@zd _ _ _ _ _ (@pv _ 1 _ _ (by rfl) (by first| exact Or.inl rfl | exact Or.inr (Or.inl rfl) | exact Or.inr (Or.inr rfl)) (by decide) (by decide)) (@zd _ _ _ _ _ (@pv _ 2 _ _ (by rfl) (by first| exact Or.inl rfl | exact Or.inr (Or.inl rfl) | exact Or.inr (Or.inr rfl)) (by decide) (by decide)) ze (by rfl)) (by rfl)) (by rfl)) (by decide) (by rfl) (by rfl)) (by intro _ ;rfl)))))) (@zu _ _ _ (@zE _ _ _ _ xM)) qB) (@zu _ _ _ (@zE _ _ _ _ (@zm _ _ _ _ _ _ _ _ _ _ l hr.m rfl (@zd _ _ _ _ _ (@pv _ 0 _ _ (by rfl) (by first| exact Or.inl rfl | exact Or.inr (Or.inl rfl) | exact Or.inr (Or.inr rfl)) (by decide) (by decide)) ze (by rfl)) (by decide) (by rfl) (by rfl)))))))),?_⟩
  refine⟨_,rfl,b,n0,rfl,hb,by omega,fun c n m0 p H1 hp S1 B1 aq al h5 h7 au=>?_⟩
  obtain⟨m,b5,cs,a7,h0,hc⟩:=zdv aq al au;have hm:m<=7:=by omega
  have av:∀x,x<n->∀j,j<m->0<=c x j:=fun x hx j hj=>(hc x hx j hj).1
  have a6:∀x,x<n->∀j,j<m->0<=c x j/\c x j<=1000000:=fun x hx j hj=>⟨(hc x hx j hj).1,by have:=(hc x hx j hj).2;omega⟩
  refine⟨_,rfl,p,c,n,m,rfl,cs.cs,a7,by omega,a6,fun hs f u v q L H2 ah b0 a8 s2 hq hL ms=>⟨q,_,_,_,rfl,rfl,u5 ms.1,rfl,?_⟩⟩
  have a9:=cs.same (.of s2);refine⟨_,rfl,p,c,n,m,rfl,a9.cs,a7,h0,by omega,av,fun b8 U es q2 l1 l2 H3 an ab az M s3 b7 b3 b4 bc pa=>⟨_,_,rfl,?_⟩⟩
  have ls:=Least.of a8;have tt:(qe n fun x=>c x (U x))=qe n fun x=>c x (f x):=WQ (M.least a8.rng a8.inj) (a8.least M.rng M.inj)
  obtain⟨bv,bu⟩:=zbf an a7 (by omega) a6 ab az
  obtain⟨w1,w2,w3⟩:=zf2 (u:=fun x=>c x (U x)-tot es (U x)) (v:=tot es) (n:=n) (m:=m) (by omega) (by omega) (fun x hx=>by have:=bu x hx;show(c x (U x)-tot es (U x)).natAbs<_;omega) (fun j hj=>by have:=bv j hj;omega)
  generalize hT:(qe n fun x=>c x (f x))=T at ls tt ms
  have a4:(qe n fun x=>c x (U x))=qe n (fun x=>c x (U x)-tot es (U x))+qe m (tot es):=M.sum
  have af:∀x,x<n->∀j,j<m->(fun x=>c x (U x)-tot es (U x)) x+tot es j<=c x j:=M.feas
  have am:=M.neg;generalize (fun x=>c x (U x)-tot es (U x))=u2 at pa w1 w2 w3 a4 af
  generalize tot es=v2 at pa w1 w2 w3 a4 af am;have S3:=S1.trans (.of (s2.trans s3));have B3:=B1.same (s2.trans s3);have a0:=a9.same (.of s3);obtain⟨np,zs,z1,z2,z3⟩:=id a0;have ac:∀(q:(!zs.isEmpty)=true),n≠0:=fun q e=>by
   rw[<- z2] at e;rw[List.length_eq_zero_iff.mp e] at q;cases q
  have ar:∀(q:¬(!zs.isEmpty)=true),m=0:=fun q=>h0 (by
   cases zs with
   | nil=>exact z2.symm
   | cons z zs=>exact absurd rfl q)
  obtain⟨A0,ai⟩:∃A0:Addr,n≠0->zs[0]? =some (.ref A0)/\H3 A0=some (.lst ((List.range m).map fun j=>V.int (c 0 j))):=by
   by_cases z:n=0
   ·exact⟨0,fun y=>absurd z y⟩
   ·obtain⟨A,a1,_,a3⟩:=z3 0 (by omega)
    exact⟨A,fun _=>⟨a1,a3⟩⟩
  refine⟨_,rfl,p,_,rfl,.inl (u4 z1),_,rfl,le0,fun e0 aj=>⟨p,e0,zs,rfl,rfl,u4 ((zf aj) _ _ z1),u4 zg,_,rfl,?_⟩⟩
  have s4:=zf (o:=.lst []) aj;generalize upd H3 e0 (.lst [])=H4 at s4;have ao:=a0.same (.of s4);refine jE (fun q=>⟨_,rfl,p,_,_,.ref A0,rfl,rfl,u4 (s4 _ _ z1),qy (j:=0) (ai (ac q)).1,A0,_,rfl,.inl (u4 (s4 _ _ (ai (ac q)).2)),?_⟩) (fun q=>?_)
  all_goals(
   refine⟨n,m,(by first| (rw[z2,zr,zS];rfl) | (rw[z2,ar q];rfl)),h5,hm,fun wl ws wz HH ba sH Lw W aw nw=>?_⟩
   have ap:=ao.same (.of sH);have ae:zeU HH q2 l1 l2 n m u2 v2:=⟨sH _ _ (s4 _ _ pa.1),sH _ _ (s4 _ _ pa.2.1),sH _ _ (s4 _ _ pa.2.2)⟩;have W1:=W.1;refine⟨wl,rfl,⟨_,u4 Lw⟩,yw (K:=K) (a:=wl) (xs:=wz) (zaR b p T q2 HH) ⟨_,_,rfl,u6 _⟩ (fun i σ HI _ ⟨_,_,_,sI⟩=>u4 (sI _ _ Lw)) ?_ ?_⟩
   ·rintro i x σ HI hx ⟨v4,v5,rfl,sI⟩
    have hi:i<ws.length:=by rw[<- W1];exact(zT.mp hx).1
    obtain⟨a,e1,_,e3⟩:=W.2 i _ (qo hi);rw[hx] at e1;cases e1;have ok:=aw _ (jM hi);generalize ws[i]=wy at e3 ok;rw[ok.vals] at e3;have aI:=sI _ _ e3;have ag:=ap.same (.of sI);have le:T<=qe n fun x=>c x (wy.getD x 0):=ls.2 _ ok.onto
    refine⟨_,rfl,_,rfl,p,a,c,n,m,fun x=>wy.getD x 0,rfl,ag.cs,u4 aI,ok.onto.1,by omega,a6,fun HJ sJ=>?_⟩
    have mi:=zgj af am ok.onto;rw[<- a4,tt] at mi;generalize (qe n fun x=>c x (wy.getD x 0))=a2 at le mi
    refine⟨_,rfl,_,rfl,_,_,rfl,rfl,_,rfl,ifF (jb (by omega)) ?_⟩
    have ay:zeU HJ q2 l1 l2 n m u2 v2:=⟨(sI.trans sJ) _ _ ae.1,(sI.trans sJ) _ _ ae.2.1,(sI.trans sJ) _ _ ae.2.2⟩;obtain⟨o1,o2,_⟩:=Xm (g:=fun x=>(wy.getD x 0:Int)) (m:=n) fun j hj=>by have:wy.getD j 0<m:=ok.onto.1 j hj;show((wy.getD j 0:Nat):Int).natAbs<_;omega
    refine⟨_,rfl,_,rfl,_,rfl,p,c,n,m,.ref a,.ref q2,ja (fun x=>(wy.getD x 0:Int)) n,V9 u2 v2 n m,rfl,(ag.same (.of sJ)).cs,h0,by omega,by omega,a6,Z6 (sJ _ _ aI),zeb ay,by omega,by omega,w1,fun HK sK=>?_⟩
    rw[mi];refine⟨_,rfl,_,rfl,rfl,?_⟩
    rw[show decide (V.int a2=V.int T)=decide (T=a2) from wK.mpr ⟨fun e=>(V.int.inj e).symm,fun e=>by rw[e]⟩]
    refine⟨.bl (decide (T=a2)),_,_,rfl,rfl,rfl,trivial,fun HL sL=>⟨_,rfl,ifF rfl ?_⟩⟩
    exact⟨_,_,rfl,sI.trans (sJ.trans (sK.trans sL))⟩
   ·rintro σ HI ⟨v4,v5,rfl,sI⟩
    have sX:=s4.trans (sH.trans sI);refine⟨_,rfl,le0,fun e1 ak=>⟨p,e1,zs,rfl,rfl,u4 ((zf ak) _ _ (sX _ _ z1)),u4 zg,_,rfl,?_⟩⟩
    have sY:=sX.trans (zf (o:=.lst []) ak);generalize upd HI e1 (.lst [])=HM at sY;have BM:=B3.same sY;have SM:=S3.trans (.of sY);refine jE (fun y=>?_) (fun y=>ifF rfl ⟨_,rfl,b,_,rfl,BM,by omega,fun HN SN=>k _ (SM.trans SN)⟩)
    have bb:=ac y;exact⟨_,rfl,_,rfl,_,rfl,b,p,T,_,c,n,m,rfl,BM,by omega,a0.same (.of sY),by omega,h5,a7,hm,hc,ls,fun HO SO BO=>⟨_,rfl,ifF rfl ⟨_,rfl,b,_,rfl,BO,by omega,fun HN SN=>k _ (SM.trans (SO.trans SN))⟩⟩⟩)
inductive YH(K:W.Frag)(g:List V)(H:Hp)(Q:VK):Prop
 | mk (a:Addr) (c:List Int) (_:g=[.ref a]) (_:SqL K H a (c.map V.int)) (_:c.length<=63) (_:∀l,Q (.bl true) l):YH K g H Q
def spLaw(K:W.Frag):Sp:=fun c H Q _=>YH K c H Q
theorem zff:zG ["_law_script","_law_cells"] ["_law_script"] (zx (topL 48)):=u0
theorem zgd{f:Addr}{fd:FuncData}(F:Fun K "law" "law" (topL 48) f fd)(B:Blt I)(g:Dfn P w K I G "_law_folded" 1 ["_law_script","_law_size"] (zcb K))(J:Dfn P w K I G "_law_box" 1 ["_law_script","_law_k"] (ze7 K))
  (l:Dfn P w K I G "_law_right" 7 ["_law_box_here"] zgN):FnOk P w K I G CX0 8 f fd ["_law_script"] (spLaw K):=by
 have nd:=zff.nd;refine F.ok zff (fun vs H Q E h=>?_) (fun a1 A U s H vs Q E T h=>?_)
 ·obtain⟨a,ns,rfl,_⟩:=h
  rfl
 ·obtain⟨a,ns,rfl,hS,M,k⟩:=h
  refine⟨_,(zi (zB (i:=1) nd rfl (Or.inr rfl) (zm g T.m rfl (zd (pv 0) (zd zj ze))))
   (zu (zE (zv (xE rfl) rfl B.all boot_all (zd (je ["_law_cells"] [1] rfl rfl (by kernel_rfl) (qv rfl B.range (zd (zv (yV rfl) rfl B.max Qy (zd zj (zd (zv zy rfl B.len boot_len (zd (pv 1) ze)) ze))) ze)) (fun _ _ _ _=>qh) (fun _ _ _ _=>(zm l T.m rfl (zd (zm J T.m rfl (zd (pv 1) (zd (pv 0) ze))) ze)))) ze))))),?_⟩
  refine⟨_,rfl,a,ns,3,rfl,hS,M,by decide,by decide,fun p t H1 s1 hp hm=>?_⟩
  have L:=bGe;have hl:(t.map V.int).length<=3:=by rw[zr];exact hm
  refine⟨_,rfl,p,_,rfl,.inl hp,_,_,rfl,_,rfl,(by rw[L];split<;>omega),(by rw[L];split<;>omega),?_⟩
  have hN:(if((t.map V.int).length:Int)>2 then((t.map V.int).length:Int) else 2).toNat<=8:=by split<;>omega
  have a0:=bG100;refine vf (fun i Y N=>Y=List.replicate i (V.bl true)/\Same H1 N) ⟨rfl,u6 _⟩ ?_ ?_
  ·rintro i Y N hi ⟨rfl,O⟩
   rw[XF];refine⟨rfl,?_⟩
   refine⟨_,rfl,_,rfl,p,t,i,rfl,O.seq hp,by omega,fun q o hq Bq=>⟨q,0,rfl,Bq,by decide,fun H3 s3=>⟨?_,?_,fun c u e=>?_⟩⟩⟩
   ·rw[wL];omega
   ·rw[XY]
   ·exact s3 c u ((zf hq) c u (O c u e)) (zp (O c u e) hq)
  ·rintro Y N ⟨rfl,O⟩
   refine⟨by rw[wL];omega,fun D hD=>⟨D,List.replicate (if((t.map V.int).length:Int)>2 then((t.map V.int).length:Int) else 2).toNat true,rfl,?_,?_⟩⟩
   ·refine u4 ?_
    rw[zg,XV]
   ·have:=k (upd N D (.lst (List.replicate (if((t.map V.int).length:Int)>2 then((t.map V.int).length:Int) else 2).toNat (V.bl true))))
    simpa using this
end
theorem all_mk{l:PySem.W.OpenLaw}{w:World}{K:W.Frag}{h:Heap}{mg:Str->Option Value}{fa:Addr}(X:K.In h)(e:zev WK zbK zaY K=zeG WK zbK zaY)(G:h.Ns mainGlobals mg)(av:mg "law" = some (.ref fa)) :
  ∃fd:FuncData,(∀(s:Shared) (v:Value),BindsTo s fd ⟨[v],[]⟩ [("_law_script",v)])/\∀ap:Heap,K.In ap->ap.Ns mainGlobals mg->FnOk l.prog w K mg ap CX0 8 fa fd ["_law_script"] (spLaw K):=by
 have Z0:Tp l.prog w K mg h h WK zbK zaY:=⟨X,G,e⟩;have B:Blt mg:=⟨Z0.bl 0 rfl,Z0.bl 1 rfl,Z0.bl 2 rfl,Z0.bl 3 rfl,Z0.bl 4 rfl,Z0.bl 5 rfl,Z0.bl 6 rfl,Z0.bl 7 rfl,Z0.bl 8 rfl,Z0.bl 9 rfl,Z0.bl 10 rfl,Z0.bl 11 rfl,Z0.bl 12 rfl,Z0.bl 13 rfl,Z0.bl 14 rfl,Z0.bl 15 rfl,Z0.bl 16 rfl,Z0.bl 17 rfl,Z0.bl 18 rfl,Z0.bl 19 rfl,Z0.bl 20 rfl⟩;obtain⟨f,fd,a,F⟩:=Z0.fd 44 rfl;cases av.symm.trans (PySem.W.mg_of X G a);refine⟨fd,?_,fun ap _ _=>?_⟩
 ·obtain⟨_,_,_,_,_,_,_,_,_,rfl,_,_⟩:=F.ex
  exact fun s v=>.of_eq rfl
 have Z:Tp l.prog w K mg ap h WK zbK zaY:=⟨X,G,e⟩;have O:=Z.dfn 0 rfl fun _ _ F _ _=>zgf F B
 have I:=Z.dfn 1 rfl fun _ _ F _ _=>zhm F B O
 have a8:=Z.dfn 2 rfl fun _ _ F _ _=>zf4 F B
 have aj:=Z.dfn 3 rfl fun _ _ F _ _=>zgc F B a8
 have a2:=Z.dfn 4 rfl fun _ _ F _ _=>zhp F B
 have T:=Z.dfn 5 rfl fun _ _ F _ _=>zem F B
 have H:=Z.dfn 6 rfl fun _ _ F _ _=>zhn F B
 have a6:=Z.dfn 7 rfl fun _ _ F _ _=>zf8 F B
 have Y:=Z.dfn 8 rfl fun _ _ F _ _=>zhv F B a6
 have E:=Z.dfn 9 rfl fun _ _ F _ _=>zhy F B Y
 have M:=Z.dfn 10 rfl fun _ _ F _ _=>zhw F B
 have ac:=Z.dfn 11 rfl fun _ _ F _ _=>zf5 F B
 have g:=Z.dfn 12 rfl fun _ _ F _ _=>zhu F B E M ac
 have ak:=Z.dfn 13 rfl fun _ _ F _ _=>zht F B E a6 H M
 have a1:=Z.dfn 14 rfl fun _ _ F _ _=>zgh F B O
 have a7:=Z.dfn 15 rfl fun _ _ F _ _=>zf6 F B a2 a1 H
 have a0:=Z.dfn 16 rfl fun _ _ F _ _=>zet F B I H
 have U:=Z.dfn 17 rfl fun _ _ F _ _=>zf7 F B a0 a7 ac
 have al:=Z.dfn 18 rfl fun _ _ F _ _=>zes F B aj
 have N:=Z.dfn 19 rfl fun _ _ F _ _=>zcT F B al T
 have Q:=Z.dfn 20 rfl fun _ _ F _ _=>zf9 F B N g T
 have aq:=Z.dfn 21 rfl fun _ _ F _ _=>zgg F B
 have c:=Z.dfn 22 rfl fun _ _ F _ _=>zen F B
 have aa:=Z.dfn 23 rfl fun _ _ F _ _=>zeq F B
 have ao:=Z.dfn 24 rfl fun _ _ F m b=>zac F B m b 1
 have a4:=Z.dfn 25 rfl fun _ _ F _ _=>zcN F B
 have an:=Z.dfn 26 rfl fun _ _ F _ _=>zga F B c a4
 have af:=Z.dfn 27 rfl fun _ _ F _ _=>zcQ F B an
 have A:=Z.dfn 28 rfl fun _ _ F _ _=>zcP F B c
 have ab:=Z.dfn 29 rfl fun _ _ F _ _=>zbg F B A
 have t:=Z.dfn 30 rfl fun _ _ F _ _=>zeo F B c
 have a3:=Z.dfn 31 rfl fun _ _ F _ _=>zer F B c t A
 have a9:=Z.dfn 32 rfl fun _ _ F _ _=>zbh F B c t
 have ar:=Z.dfn 33 rfl fun _ _ F _ _=>zge F B c af A ab a3 a9
 have au:=Z.dfn 34 rfl fun _ _ F _ _=>zep F B
 have am:=Z.dfn 35 rfl fun _ _ F _ _=>zcR F B au
 have D:=Z.dfn 36 rfl fun _ _ F _ _=>zhx F B
 have ai:=Z.dfn 37 rfl fun _ _ F _ _=>zhq F B c
 have a5:=Z.dfn 38 rfl fun _ _ F _ _=>zgb F B
 have L:=Z.dfn 39 rfl fun _ _ F _ _=>zho F B c t g
 have ae:=Z.dfn 41 rfl fun _ _ F _ _=>zcS F B
 have ah:=Z.dfn 42 rfl fun _ _ F _ _=>zcO F B c A
 have J:=Z.dfn 40 rfl fun _ _ F _ _=>zhs F B ar ae ah N Q am a5 D
 have ag:=Z.dfn 43 rfl fun _ _ F _ _=>zhr F B ai g ak D a5 U ao L J
 exact zgd F B aa aq ag
end L2
open PySem PySem.W PyProof.Rows
set_option maxRecDepth 100000 in
set_option maxHeartbeats 0 in
theorem PySem.Challenge.cw_pickboard_k76_whole_no_matching_is_less_holds : PySem.Challenge.rw_pickboard_k76_whole_no_matching_is_less.Holds := by
 refine L2.ownHead (d:=L2.defRec "law" (L2.topL 48)) 9999 L2.head1 L2.head2 (by kernel_rfl) (by kernel_rfl) (by kernel_rfl) L2.head3 ⟨rfl,rfl,rfl,rfl,rfl,by decide +kernel⟩ (by w_witness2) ?_
 exact L2.walkS (n:=63) (k:=8) (x:= "_law_script") (sp:=L2.spLaw) rfl (by decide) (by kernel_rfl) ⟨rfl,by decide,by decide,rfl⟩ (fun _ _ _ _ _ X e G m=>L2.all_mk X e G m) fun _ _ a ns hl _ hS=>⟨a,ns,rfl,hS,hl,fun _=>rfl⟩
