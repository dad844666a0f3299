import PyProof.Rows.All
import Wide.All
import OpenK.AllK
import Wide.FinOn
import Lean
import PyProof.EqAt
import PyProof.EqKinds
import PyProof.TupleCall
import PyProof.NeKinds
import PyProof.ReprRoads
import PyProof.ReprBulk
import PyProof.SumWalk
import PyProof.FString5
import PyProof.StrBlock2
import PyProof.StrBlockI
import PyProof.StrBlockH
import PyProof.StrWalks
import PyProof.StrLawsIn
import PyProof.AutoListH
import PyProof.CompUse
import PyProof.ListRange
import PyProof.CallFns
import PyProof.ListTruth
import PyProof.Rows.Range3
import PyProof.SeqI3
import KE.KRevSl
import PyProof.DictIter
import PyProof.DictWalks
import PyProof.DictCompW
import PyProof.Cells
import OpenK.KOwn
import PyProof.ExcClass3
import PyProof.ExcInit
import PyProof.ExcBaseAll.ValueError
import PyProof.ExcArgsOwn
import PyProof.ExcAttrAll.ValueError
import PyProof.Rows.SortWalk
import PyProof.Rows.SortStr
import PyProof.MeetsDict
import PyProof.DictUpdate
import PyProof.FactsAll.dict_3
import KE.KDictList
import PyProof.FactsAll.dict_4
import KE.KDictSum
import PyProof.IsiH_list
import PyProof.Rows.Exc
import KE.KDictOf
import PyProof.SetKind
import PyProof.Rows.SetFrom
import PyProof.FactsAll.set_1
import PyProof.FactsAll.set_2
import KE.KSortTup
import KE.KItemsList
import PyProof.Rows.SortRev
import PyProof.Rows.StrCase
import PyProof.Rows.StrLen
import KE.KPairComp
import KE.KMinKey
import PyProof.CallStr
import PyProof.StrCalls2
import PyProof.StrLawsTight
import PyProof.FString
import PyProof.StrBlock
import KE.KUnpack
import PyProof.Rows.TupMore
import PyProof.DictItems
import PyProof.IsiH_tuple
import PyProof.TupleIter
import PyProof.Ascii
import PySem.Challenge.RW_pickboard_k04_jobs_or_not
set_option Elab.async false
set_option linter.all false
set_option maxRecDepth 100000
def zi:=@Nat.le_refl
def zn:=@PySem.wpAny_bind
def zv:=@List.length_map
def qg:=@List.getElem?_eq_some_iff
def zy:=@PySem.wpAny_pure
def qw:=@PySem.Heap.get?_push_of_some
def qm:=@List.map_append
def qY:=@List.mem_of_getElem?
def qR:=@List.length_append
def qQ:=@Bool.and_eq_true
def zQ:=@decide_eq_true
def qv:=@List.mem_singleton
def qt:=@List.size_toArray
def qH:=@PySem.Heap.get?_push_size
def zO:=@PySem.Heap.lt_size
def qB:=@of_decide_eq_true
def qy:=@decide_eq_false
def z9:=@List.mem_cons
def qI:=@List.length_take
def qX:=@Array.length_toList
def zB:=@if_neg
def jh:=@List.mem_cons_of_mem
def qW:=@Bool.false_eq_true
def qF:=@Bool.and_false
def qk:=@Nat.le_trans
def zY:=@Nat.zero_le
def qr:=@List.mem_map
def jN:=@Option.map_eq_some_iff
def qz:=@Nat.ne_of_lt
def zF:=@if_pos
def jx:=@List.mem_cons_self
def jT:=@List.mem_append_right
def xq:=@List.getElem?_append_left
def xF:=@List.getElem?_append_right
def jG:=@Bool.false_ne_true
def jv:=@List.length_cons
def xE:=@Array.getElem?_eq_getElem
def jw:=@List.all_eq_true
def ju:=@List.mem_append
def jS:=@Nat.lt_of_lt_of_le
def jM:=@List.getElem?_map
def xL:=@List.getElem?_eq_getElem
def xp:=@Array.getElem?_toList
def jf:=@List.map_cons
def jL:=@List.take_length
def jF:=@List.mem_range
def j6:=@Bool.not_eq_true
def j5:=@Option.some.inj
def vV:=@List.take_append_getElem
def jR:=@PySem.wpAny_holding
def jQ:=@Bool.true_and
def xm:=@PySem.PassesOwn.never
def qA:=@Ne.symm
def vm:=@List.mem_append_left
def x6:=@PySem.wpAny_setState_of
def jC:=@PySem.wpAny_mono
def xZ:=@List.lookup_cons
def xD:=@PySem.Heap.size_push
def vD:=@decide_eq_true_iff
def vh:=@Bool.eq_iff_iff
def wK:=@List.length_replicate
def xY:=@PySem.wpAny_seqItems
def xK:=@Nat.lt_irrefl
def ZI:=@Array.getElem?_eq_some_iff
def yL:=@PySem.F.plainAttrs_list
def vU:=@PySem.wpAny_truthy_bool
def vT:=@Nat.le_of_lt_succ
def wn:=@Int.emod_lt_of_pos
def vg:=@Bool.false_and
def vS:=@PySem.wpAny_call_entry
def wJ:=@PySem.mem_of_lookup
def xi:=@beq_iff_eq
def QD:=@Array.getD_eq_getD_getElem?
def wm:=@List.length_range
def xJ:=@PySem.wpAny_field
def ZH:=@PySem.Heap.get?_update_self
def QC:=@PySem.F.slot_list_append
def QB:=@PySem.F.type_list_append
def wg:=@List.append_nil
def wf:=@List.nodup_cons
def we:=@Int.emod_nonneg
def JN:=@PyProof.Rows.callWith_type1
def QA:=@PySem.wpAny_callSpecial?_slot
def vR:=@List.any_cons
def JM:=@List.getD_eq_getElem?_getD
def yK:=@PySem.wpAny_newObj_type
def ZG:=@List.replicate_succ
def wI:=@List.mem_filter
def ZF:=@List.mem_filterMap
def yJ:=@Nat.lt_succ_self
def ZE:=@Nat.lt_of_le_of_lt
def yI:=@List.any_eq_true
def vQ:=@Nat.succ_pos
def vP:=@Sum.inl.inj
def JL:=@List.take_of_length_le
def JK:=@PySem.SetTable.insertAt_perm
def vC:=@PySem.wpAny_rule
def wH:=@Bool.not_true
def ZD:=@List.not_mem_nil
def JJ:=@List.mem_iff_getElem?
def Zu:=@List.length_filter_le
def vv:=@List.all_map
def wv:=@Option.map_some
def vt:=@List.map_map
def yh:=@Array.toList_push
def Zt:=@PySem.Heap.SameBut.update
def Zs:=@Nat.mul_le_mul_left
def yf:=@List.length_drop
def ye:=@PySem.wpAny_isInstance
def yc:=@List.getElem_mem
def yb:=@decide_eq_decide
def ya:=@PySem.F.plain_min_loop
def QW:=@PySem.Heap.get?_update_other
def x8:=@Nat.mod_lt
def Zr:=@PySem.Calls.spliced_cons
def Zq:=@PySem.wpAny_setField_rec
def Zp:=@of_decide_eq_false
def WU:=@PyProof.Rows.F.plain_set_update_loop
def wZ:=@PySem.wpAny_passesOwn
def wY:=@List.length_nil
def wX:=@List.foldl_cons
def wW:=@List.forIn_cons
def QV:=@List.take_append_drop
def XC:=@PySem.F.slot_tuple_iterator_next
def wu:=@Bool.and_true
def Zo:=@Int.toNat_natCast
def Zn:=@List.nodup_append
def QU:=@PySem.Around.under_plainId
def XB:=@Classical.byContradiction
def wt:=@Nat.ne_of_gt
def wq:=@Nat.le_of_eq
def wo:=@Nat.sub_self
def Zm:=@PySem.F.slot_tuple_mul
def QT:=@List.filterMap_cons
def WT:=@PyProof.Rows.slot_tuple_getitem
def wV:=@PySem.wpAny_standAt
def Zl:=@List.find?_cons
def Zk:=@PySem.wpAny_specialOf
def Zj:=@Nat.not_lt_zero
def QS:=@Array.forIn_toList
def XA:=@List.getElem?_set_self
def QR:=@List.flatten_cons
def QQ:=@List.append_assoc
def QP:=@Nat.lt_succ_of_lt
def QO:=@Option.some.injEq
def QN:=@PySem.F.slot_tuple_hash
def wU:=@Nat.le_of_lt
def Zi:=@List.forIn_nil
def Zh:=@Nat.mul_le_mul
def Zg:=@Array.size_map
def Xz:=@List.getElem?_set_ne
def Xy:=@Nat.add_le_add_right
def Xx:=@List.replicate_succ'
def wT:=@PySem.wpAny_letGo
def Xw:=@Array.toList_append
def QM:=@List.length_set
def WS:=@List.getElem?_zip_eq_some
def WR:=@PySem.F.args_tuple_add_2
def Zf:=@Nat.lt_or_ge
def WQ:=@List.length_erase_of_mem
def zc5:=@PyProof.Rows.F.entry_set_update_loop
def Xv:=@PySem.F.args_tuple_mul_2
def QL:=@PySem.Value.type.inj
def QK:=@Bool.not_false
def WP:=@PySem.F.entry_tuple_add
def Xu:=@PySem.Calls.spliced_nil
def Xt:=@Nat.lt_trichotomy
def Xr:=@PySem.F.entry_tuple_mul
def WO:=@PySem.F.slot_tuple_add
def WN:=@PySem.Calls.callWith_builtin
def WM:=@Array.getElem?_eq_none
def WL:=@List.length_pos_of_mem
def QJ:=@List.all_cons
def QI:=@PySem.W.mg_of
def Xq:=@List.nodup_range
def Xp:=@Nat.le_max_right
def WK:=@List.length_singleton
def WJ:=@PySem.F.slot_dict_get
def WI:=@PySem.Calls.evalArgs_plain
def QH:=@Nat.succ_mul
def WH:=@List.mem_iff_getElem
def Xo:=@PySem.F.slot_zip_next
def QG:=@Nat.lt_trans
def WG:=@Array.toList_extract
def QF:=@Nat.zero_add
def Xn:=@PySem.F.slot_tuple_eq
def WF:=@List.mem_erase_of_ne
def Xm:=@Nat.le_max_left
def QE:=@Int.zero_add
def zc4:=@List.eq_nil_of_length_eq_zero
def WE:=@Nat.add_le_add_left
def WD:=@List.length_pos_iff
def WC:=@List.getElem_of_mem
def zc3:=@PySem.F.args_tuple_iterator_next_1
def zc2:=@PySem.F.slot_dict_setdefault
def zc1:=@Array.getElem?_setIfInBounds
def WB:=@PySem.SeqAt.EqAt.str_int
def Ze:=@PyProof.Rows.IsTup.new
def zc0:=@PySem.F.entry_tuple_iterator_next
def WA:=@List.zip_cons_cons
def Wz:=@Nat.eq_zero_or_pos
def Wy:=@List.map_replicate
def Wx:=@List.filter_append
def Xl:=@PySem.Paired.length
def zcZ:=@PySem.Calls.Name_function_global
def zcY:=@Int.fdiv_eq_ediv_of_nonneg
def zcX:=@Int.fmod_eq_emod_of_nonneg
def Xk:=@Prod.mk.injEq
def zcW:=@List.perm_append_singleton
def Ww:=@List.take_sublist
def Wv:=@Array.size_append
def Wu:=@Option.isSome_map
def zcV:=@List.mem_drop_iff_getElem
def Zd:=@Prod.ext
def Xj:=@List.map_nil
def Wt:=@PySem.F.entry_min_loop
def Ws:=@PySem.Around.in1_units
def Wr:=@List.of_mem_zip
def Wq:=@PySem.SeqAt.in_listAt
def Wp:=@List.nil_append
def Wo:=@List.nodup_nil
namespace L2
open PySem PySem.Spec PyProof.Rows
theorem bG1000000:1000000<sizeLine:=by rw[sizeLine_eq];decide
theorem bG100000:100000<sizeLine:=by rw[sizeLine_eq];decide
theorem bG16000000:16000000<sizeLine:=by rw[sizeLine_eq];decide
theorem bG100:100<sizeLine:=by rw[sizeLine_eq];decide
theorem bGe:(2:Int)^62=4611686018427387904:=by decide
abbrev Key:=Sum Int Str
def Ju:Key->Value->Bool
 | .inl k,v=>Value.isInt k v
 | .inr x,v=>Value.isStrOf x v
def zhE(w:World):Key->Int
 | .inl k=>hashInt k
 | .inr x=>hashStr w x
theorem je:∀{k:Key} {v:Value},Ju k v=true->(∃i t,k=Sum.inl i/\v=Value.int i t)\/(∃x t,k=Sum.inr x/\v=Value.str x t)
 | .inl i,v,h=>by
  obtain⟨t,e⟩:=Value.isInt_shape (k:=i) (v:=v) h;exact .inl ⟨i,t,rfl,e⟩
 | .inr x,v,h=>by
  obtain⟨t,e⟩:=Value.isStrOf_shape (x:=x) (v:=v) h;exact .inr ⟨x,t,rfl,e⟩
theorem zaP(i:Int)(t:Tok):Ju (.inl i) (.int i t)=true:=by simp[Ju,Value.isInt]
theorem zaO(x:Str)(t:Tok):Ju (.inr x) (.str x t)=true:=by simp[Ju,Value.isStrOf]
theorem zfG(a b:Int):decide ((Sum.inl a:Key)=Sum.inl b)=(a==b):=by
 by_cases e:a=b
 ·subst e;simp
 ·have h:¬(Sum.inl a:Key)=Sum.inl b:=fun q=>e (vP q)
  rw[qy h];exact(beq_eq_false_iff_ne.mpr e).symm
theorem zfD(a b:Str):decide ((Sum.inr a:Key)=Sum.inr b)=decide (a=b):=by
 by_cases e:a=b
 ·subst e;simp
 ·have h:¬(Sum.inr a:Key)=Sum.inr b:=fun q=>e (Sum.inr.inj q)
  rw[qy h,qy e]
theorem zfF(a:Int)(b:Str):decide ((Sum.inl a:Key)=Sum.inr b)=false:=qy (fun q=>nomatch q)
theorem zfE(a:Str)(b:Int):decide ((Sum.inr a:Key)=Sum.inl b)=false:=qy (fun q=>nomatch q)
def qL(c:Program)(w:World):PySem.KeyKind c w Key where
 is:=Ju
 hash:=zhE w
 inj:=fun v a b f hb=>by
  rcases je f with ⟨i,t,rfl,rfl⟩ | ⟨x,t,rfl,rfl⟩
  ·rcases je hb with ⟨j,u,rfl,e⟩ | ⟨y,u,rfl,e⟩
   ·injection e with e1 _;rw[e1]
   ·exact nomatch e
  ·rcases je hb with ⟨j,u,rfl,e⟩ | ⟨y,u,rfl,e⟩
   ·exact nomatch e
   ·injection e with e1 _;rw[e1]
 byValue:=fun k v h=>by
  rcases je h with ⟨i,t,rfl,rfl⟩ | ⟨x,t,rfl,rfl⟩<;>rfl
 pyHash:=fun hv h=>by
  rcases je hv with ⟨i,t,rfl,rfl⟩ | ⟨x,t,rfl,rfl⟩
  ·exact wpAny_pyHash_int h
  ·exact wpAny_pyHash_str h
 eqBool:=fun hu hv h=>by
  rcases je hu with ⟨i,t,rfl,rfl⟩ | ⟨x,t,rfl,rfl⟩
  ·rcases je hv with ⟨j,u,rfl,rfl⟩ | ⟨y,u,rfl,rfl⟩
   ·rw[zfG] at h;exact wpAny_eqBool_int h
   ·rw[zfF] at h;exact SeqAt.EqAt.int_str i t y u _ _ _ _ h
  ·rcases je hv with ⟨j,u,rfl,rfl⟩ | ⟨y,u,rfl,rfl⟩
   ·rw[zfE] at h;exact WB x t j u _ _ _ _ h
   ·rw[zfD] at h;exact wpAny_eqBool_str h
 «strs»:=fun k x t v h=>by
  rcases je h with ⟨i,u,rfl,e⟩ | ⟨y,u,rfl,e⟩
  ·exact nomatch e
  ·injection e with e1 _
   subst e1;cases v<;>rfl
theorem Vk(b:Program)(w:World)(i:Int)(t:Tok):(qL b w).is (.inl i) (.int i t)=true:=zaP i t
theorem Vj(b:Program)(w:World)(x:Str)(t:Tok):(qL b w).is (.inr x) (.str x t)=true:=zaO x t
inductive V where
 | non | bl (b:Bool) | int (i:Int) | str (x:Str) | byt (b:Array UInt8) | flt (b:UInt64) | ref (a:Addr) | ty (n:String)
 deriving DecidableEq
def RelV:V->Value->Prop
 | .non,u=>u=Value.none
 | .bl b,u=>u=Value.bool b
 | .int i,u=>∃t,u=Value.int i t
 | .str x,u=>∃t,u=Value.str x t
 | .byt b,u=>∃t,u=Value.bytes b t
 | .flt b,u=>∃t,u=Value.float b t
 | .ref a,u=>u=Value.ref a
 | .ty n,u=>u=Value.type n
abbrev Vals:List V->List Value->Prop:=Paired RelV
theorem Vals.length{c:List V}{b:List Value}(r:Vals c b):c.length=b.length:=Xl r
theorem Vals.get:∀{c:List V} {b:List Value} {i:Nat} {x:V},Vals c b->c[i]? =some x->∃u,b[i]? =some u/\RelV x u
 | _,_,_,_,.nil,e=>by simp at e
 | _,_,0,_,.cons r _,e=>by simp at e;subst e;exact⟨_,rfl,r⟩
 | _,_,i+1,x,.cons _ t,e=>by
  obtain⟨u,h1,h2⟩:=Vals.get (i:=i) (x:=x) t (by simpa using e)
  exact⟨u,by simpa using h1,h2⟩
theorem Vals.set{x:V}{u:Value}(r:RelV x u):∀{c:List V} {b:List Value} (i:Nat),Vals c b->Vals (c.set i x) (b.set i u)
 | _,_,_,.nil=>.nil
 | _,_,0,.cons _ t=>.cons r t
 | _,_,i+1,.cons q t=>.cons q (Vals.set r i t)
theorem Vals.append:∀{f g:List V} {b c:List Value},Vals f b->Vals g c->Vals (f++g) (b++c)
 | _,_,_,_,.nil,s=>s
 | _,_,_,_,.cons r t,s=>.cons r (Vals.append t s)
theorem Vals.take:∀{c:List V} {b:List Value} (n:Nat),Vals c b->Vals (c.take n) (b.take n)
 | _,_,0,_=>.nil
 | _,_,_+1,.nil=>.nil
 | _,_,n+1,.cons r t=>.cons r (Vals.take n t)
theorem Vals.drop:∀{c:List V} {b:List Value} (n:Nat),Vals c b->Vals (c.drop n) (b.drop n)
 | _,_,0,r=>r
 | _,_,_+1,.nil=>.nil
 | _,_,n+1,.cons _ t=>Vals.drop n t
def RelO:Option V->Option Value->Prop
 | some v,some u=>RelV v u
 | none,none=>True
 | _,_=>False
def KV{κ:Type}:List (κ×V)->List (κ×Value)->Prop:=Paired fun(p:κ×V) (q:κ×Value)=>p.1=q.1/\RelV p.2 q.2
def kV:Key->V
 | .inl i=>.int i
 | .inr x=>.str x
inductive HO where
  | lst (g:List V)
  | tup (g:List V)
  | dK (b:List (Key×V)) | dT (b:List (List Key×V))
  | set (S:Int->Bool) (n:Nat)
  | ins (C i:Addr) (c:List (Str×V))
  | own (x:Addr)
  | xd (c:List (Str×V))
  | met (f x:Addr)
  | rng (lo l:Int)
  | frz (o:Obj) (u:HO)
  | tbl (s:Array Value)
  | ext (φ:Heap->Prop)
abbrev Hp:=Addr->Option HO
def upd(H:Hp)(a:Addr)(o:HO):Hp:=fun b=>if b=a then some o else H b
theorem zc{H:Hp}{a:Addr}{o:HO}:upd H a o a=some o:=by unfold upd;rw[zF rfl]
theorem zt{H:Hp}{a b:Addr}{o:HO}(h:b≠a):upd H a o b=H b:=by unfold upd;rw[zB h]
theorem Vh{H:Hp}{a b:Addr}{o u:HO}(h:H a=some o)(c:H b=some u)(d:o≠u):a≠b:=by
 intro e;subst e;rw[h] at c;exact d (j5 c)
theorem zp{H:Hp}{a b:Addr}{o:HO}(h:H a=some o)(c:H b=none):a≠b:=by
 intro e;subst e;rw[h] at c;cases c
section
variable(P:Program)(w:World)
def TupX(h:Heap)(a:Addr)(b:Array Value):Prop:=IsTup h a b/\∃o,h.get? a=some o/\o.dict=none
theorem TupX.by{h:Heap}{a:Addr}{b:Array Value}{n:Nat}(e:h.get? a=some { cls:=.type "tuple",data:=.seq b n }):TupX h a b:=⟨⟨_,e,rfl,n,rfl⟩,_,e,rfl⟩
def ObjOk(H:Hp)(h:Heap)(a:Addr):HO->Prop
 | .lst g=>g.length<=sizeLine/\∃(b:List Value) (n:Nat),Vals g b/\h.get? a=some { cls:=.type "list",data:=.seq b.toArray n }
 | .tup g=>g.length<=sizeLine/\∃b:List Value,Vals g b/\TupX h a b.toArray
 | .dK c=>c.length<=sizeLine/\(a==sysModules)=false/\∃B,KV c B/\h.DictOf (qL P w) a B
 | .dT c=>c.length<=sizeLine/\(a==sysModules)=false/\∃g:List (List Key×Addr×Value),
   Paired (fun(p:List Key×V) (q:List Key×Addr×Value)=>p.1=q.1/\H q.2.1=some (.tup (p.1.map kV))/\RelV p.2 q.2.2) c g /\
   ∃o A D,h.get? a=some o/\o.ExactDict/\o.data=.dict A D/\A.toList=g.map (entryOfKey (tupleKind (qL P w)))/\(g.map (·.1)).Nodup
 | .set S n=>h.SetOf (intKind P w) a S n
 | .ins C s l=>H s=some (.own a)/\l.length<=1000/\s≠a/\h.get? a=some (PySem.W.instObj C s) /\
   ∃i,h.Ns1 s i/\(∀f,RelO (l.lookup f) (i f))/\PySem.Within i (l.map (·.1))
 | .own _=>∃o,h.get? a=some o
 | .xd l=>∃i,h.Ns1 a i/\∀f,RelO (l.lookup f) (i f)
 | .rng lo E=>∃t u v,h.get? a=some { cls:=.type "range",data:=.fields #[.int lo t,.int E u,.int 1 v] }
 | .frz o u=>h.get? a=some o/\ObjOk H h a u
 | .tbl G=>h.get? a=some { cls:=.none,data:=.fields G }
 | .met f x=>h.get? a=some (PySem.W.methodObj (.ref f) (.ref x))
 | .ext φ=>φ h/\(∃o,h.get? a=some o)/\∀h1 h2:Heap,φ h1->(∀o,h1.get? a=some o->h2.get? a=some o)->φ h2
def HOk(H:Hp)(h:Heap):Prop:=∀a o,H a=some o->ObjOk P w H h a o
end
section
variable{P:Program}{w:World}{H g:Hp}{h h':Heap}{a:Addr}{o:HO}
theorem ObjOk.lt(x:ObjOk P w H h a o):a<h.objs.size:=by
 cases o with
 | lst i=>obtain⟨_,_,_,_,e⟩:=x;exact zO e
 | tup i=>obtain⟨_,_,_,p⟩:=x;exact p.1.lt
 | dK b=>obtain⟨_,_,_,_,o,_,_,e,_⟩:=x;exact zO e
 | dT b=>obtain⟨_,_,_,_,o,_,_,e,_⟩:=x;exact zO e
 | set S n=>obtain⟨o,_,_,_,e,_⟩:=x;exact zO e
 | ins C l c=>obtain⟨_,_,_,e,_⟩:=x;exact zO e
 | own y=>obtain⟨_,e⟩:=x;exact zO e
 | xd c=>obtain⟨_,⟨_,_,_,e,_⟩,_⟩:=x;exact zO e
 | rng lo s=>obtain⟨_,_,_,e⟩:=x;exact zO e
 | frz A u=>obtain⟨e,_⟩:=x;exact zO e
 | tbl B=>exact zO (show h.get? a=some _ from x)
 | met f y=>exact zO (show h.get? a=some _ from x)
 | ext φ=>obtain⟨_,⟨_,e⟩,_⟩:=x;exact zO e
theorem Paired.mapP{α β:Type}{F G:α->β->Prop}:∀{c:List α} {i:List β},Paired F c i->(∀a b,F a b->G a b)->Paired G c i
 | _,_,.nil,_=>.nil
 | _,_,.cons r t,f=>.cons (f _ _ r) (Paired.mapP t f)
theorem ObjOk.stay(x:ObjOk P w H h a o)(k:∀b u,(b=a\/H b=some (.own a))->h.get? b=some u->h'.get? b=some u)
  (M:∀b,H b=some (.own a)->g b=some (.own a)) (N:∀b B,H b=some (.tup B)->g b=some (.tup B)):ObjOk P w g h' a o:=by
 induction o with
 | lst B=>obtain⟨z,A,n,r,e⟩:=x;exact⟨z,A,n,r,k _ _ (.inl rfl) e⟩
 | tup B=>obtain⟨z,A,r,⟨i,e,c⟩,Q,e2,J⟩:=x;exact⟨z,A,r,⟨i,k _ _ (.inl rfl) e,c⟩,Q,k _ _ (.inl rfl) e2,J⟩
 | dK D=>obtain⟨z,y,T,r,i,s,l,e,c⟩:=x;exact⟨z,y,T,r,i,s,l,k _ _ (.inl rfl) e,c⟩
 | dT D=>
  obtain⟨z,y,B,r,i,s,l,e,c⟩:=x;exact⟨z,y,B,Paired.mapP r fun p q z=>⟨z.1,N _ _ z.2.1,z.2.2⟩,i,s,l,k _ _ (.inl rfl) e,c⟩
 | set S n=>obtain⟨i,s,l,t,e,c⟩:=x;exact⟨i,s,l,t,k _ _ (.inl rfl) e,c⟩
 | ins C U L=>
  obtain⟨d,z,ne,e,E,⟨G,s,l,e2,c⟩,r⟩:=x;exact⟨M _ d,z,ne,k _ _ (.inl rfl) e,E,⟨G,s,l,k _ _ (.inr d) e2,c⟩,r⟩
 | own y=>obtain⟨i,e⟩:=x;exact⟨i,k _ _ (.inl rfl) e⟩
 | xd L=>obtain⟨E,⟨G,s,l,e,c⟩,r⟩:=x;exact⟨E,⟨G,s,l,k _ _ (.inl rfl) e,c⟩,r⟩
 | rng lo Y=>obtain⟨t,u,v,e⟩:=x;exact⟨t,u,v,k _ _ (.inl rfl) e⟩
 | frz i u O=>obtain⟨e,q⟩:=x;exact⟨k _ _ (.inl rfl) e,O q⟩
 | tbl I=>
  have e:h.get? a=some { cls:=.none,data:=.fields I }:=x;show h'.get? a=some { cls:=.none,data:=.fields I };exact k a _ (.inl rfl) e
 | met f y=>
  have e:h.get? a=some (PySem.W.methodObj (.ref f) (.ref y)):=x;show h'.get? a=some (PySem.W.methodObj (.ref f) (.ref y));exact k a _ (.inl rfl) e
 | ext φ=>obtain⟨p,⟨o,e⟩,st⟩:=x;exact⟨st _ _ p fun o q=>k _ _ (.inl rfl) q,⟨o,k _ _ (.inl rfl) e⟩,st⟩
theorem HOk.lt(x:HOk P w H h)(e:H a=some o):a<h.objs.size:=(x a o e).lt
theorem HOk.fresh(x:HOk P w H h)(e:h.objs.size<=a):H a=none:=by
 cases q:H a with
 | none=>rfl
 | some u=>exact absurd (jS (x.lt q) e) (xK _)
theorem HOk.kept(x:HOk P w H h)(k:∀b u,h.get? b=some u->h'.get? b=some u):HOk P w H h':=fun a o e=>
 (x a o e).stay (fun b u _ q=>k b u q) (fun _ q=>q) fun _ _ q=>q
theorem HOk.laid(x:HOk P w H h)(k:∀b u,h.get? b=some u->h'.get? b=some u)(hp:h.objs.size<=a)(f:ObjOk P w (upd H a o) h' a o):HOk P w (upd H a o) h':=fun b u e=>by
 have i:=x.fresh hp;by_cases hb:b=a
 ·subst hb;rw[zc] at e;cases e;exact f
 ·rw[zt hb] at e
  exact(x b u e).stay (fun c v _ q=>k c v q) (fun c q=>by rw[zt (zp q i)];exact q) fun c l q=>by rw[zt (zp q i)];exact q
end
def Rd(H:Hp)(a:Addr)(u:HO):Prop:=H a=some u\/∃o,H a=some (.frz o u)
theorem Rd.of{H:Hp}{a:Addr}{u:HO}(h:H a=some u):Rd H a u:=.inl h
theorem Rd.ok{P:Program}{w:World}{H:Hp}{h:Heap}{a:Addr}{u:HO}(r:Rd H a u)(x:HOk P w H h):ObjOk P w H h a u:=by
 rcases r with r | ⟨o,r⟩
 ·exact x a u r
 ·obtain⟨_,q⟩:=x a _ r
  exact q
def Mut:Option HO->Prop
 | some (.lst _)=>True
 | some (.dK _)=>True
 | some (.dT _)=>True
 | some (.set _ _)=>True
 | some (.ins _ _ _)=>True
 | some (.ext _)=>True
 | _=>False
section
variable{P:Program}{w:World}{H:Hp}{h f:Heap}{x e:Addr}{g:HO}
theorem HOk.write(ok:HOk P w H h)(s:Mut (H x))(E:e=x\/H e=some (.own x))(k:∀b u,b≠e->h.get? b=some u->f.get? b=some u)(B:∃u,f.get? e=some u)
  (D:ObjOk P w (upd H x g) f x g):HOk P w (upd H x g) f:=fun b u q=>by
 have l:∀c y,H c=some (.own y)->c≠x:=fun c y r z=>by subst z;rw[r] at s;exact s
 have o:∀c A,H c=some (.tup A)->c≠x:=fun c A r z=>by subst z;rw[r] at s;exact s
 by_cases hb:b=x
 ·subst hb;rw[zc] at q;cases q;exact D
 ·rw[zt hb] at q
  by_cases i:b=e
  ·have G:H b=some (.own x):=by
    rcases E with z | z
    ·exact absurd (i.trans z) hb
    ·rw[i];exact z
   rw[q] at G;cases G
   obtain⟨v,hv⟩:=B;exact⟨v,by rw[i];exact hv⟩
  ·refine(ok b u q).stay (fun c v hc r=>k c v ?_ r) (fun c r=>by rw[zt (l c b r)];exact r) fun c A r=>by rw[zt (o c A r)];exact r
   rcases hc with rfl | hc
   ·exact i
   ·rintro rfl
    rcases E with z | z
    ·exact l c b hc z
    ·rw[hc] at z;cases z;exact hb rfl
end
structure Un(fs ex:List Addr)(H H':Hp)(h h':Heap):Prop where
 keep:∀b o,h.get? b=some o->H b=none->b∉fs->b∉ex->h'.get? b=some o
 slot:∀b o,h.get? b=some o->H b=none->b∈fs->b∉ex->∃sl,h'.get? b=some { o with slots:=sl }
 free:∀b o,h.get? b=some o->H b=none->b∉ex->H' b=none
 there:∀b o,h.get? b=some o->b∉ex->∃o',h'.get? b=some o'
 tups:∀b xs,H b=some (.tup xs)->H' b=some (.tup xs)
 frzs:∀b o u,H b=some (.frz o u)->H' b=some (.frz o u)
 tbls:∀b ps,H b=some (.tbl ps)->∃more,H' b=some (.tbl (ps++more))
section
variable{g s f l:List Addr}{H i w:Hp}{h h1 h2 h':Heap}{a x e:Addr}{o:HO}
theorem Un.any(u:Un g f H i h h1){b:Addr}{c:Obj}(q:h.get? b=some c)(n:H b=none)(hx:b∉f):∃A,h1.get? b=some { c with slots:=A }:=by
 by_cases hb:b∈g
 ·exact u.slot b c q n hb hx
 ·exact⟨c.slots,u.keep b c q n hb hx⟩
theorem Un.trans(a:Un g f H i h h1)(b:Un g f i w h1 h2):Un g f H w h h2 where
 keep:=fun c u q n hc hx=>b.keep c u (a.keep c u q n hc hx) (a.free c u q n hx) hc hx
 slot:=fun c u q n hc hx=>by
  obtain⟨J,e1⟩:=a.slot c u q n hc hx;obtain⟨D,e2⟩:=b.slot c _ e1 (a.free c u q n hx) hc hx;exact⟨D,e2⟩
 free:=fun c u q n hx=>by
  obtain⟨B,e1⟩:=a.there c u q hx;exact b.free c B e1 (a.free c u q n hx) hx
 there:=fun c u q hx=>by
  obtain⟨B,e1⟩:=a.there c u q hx;exact b.there c B e1 hx
 tups:=fun c A q=>b.tups c A (a.tups c A q)
 frzs:=fun c u A q=>b.frzs c u A (a.frzs c u A q)
 tbls:=fun c I q=>by
  obtain⟨E,e1⟩:=a.tbls c I q;obtain⟨G,e2⟩:=b.tbls c _ e1;exact⟨E++G,by rw[e2,Array.append_assoc]⟩
theorem Un.kept(k:∀b u,h.get? b=some u->h'.get? b=some u):Un g f H H h h':=
 ⟨fun b c q _ _ _=>k b c q,fun b c q _ _ _=>⟨c.slots,k b c q⟩,fun _ _ _ n _=>n,fun b c q _=>⟨c,k b c q⟩,fun _ _ q=>q,fun _ _ _ q=>q,fun _ A q=>⟨#[],by rw[q];simp⟩⟩
theorem Un.refl:Un g f H H h h:=Un.kept fun _ _ q=>q
theorem Un.laid(k:∀b u,h.get? b=some u->h'.get? b=some u)(hp:h.objs.size<=a)(c:H a=none):Un g f H (upd H a o) h h' where
 keep:=fun b u q _ _ _=>k b u q
 slot:=fun b u q _ _ _=>⟨u.slots,k b u q⟩
 free:=fun b u q n _=>by rw[zt (qz (jS (zO q) hp))];exact n
 there:=fun b u q _=>⟨u,k b u q⟩
 tups:=fun b A q=>by rw[zt (zp q c)];exact q
 frzs:=fun b u A q=>by rw[zt (zp q c)];exact q
 tbls:=fun b B q=>⟨#[],by rw[zt (zp q c),q];simp⟩
theorem Un.write(A:Mut (H x))(E:e=x\/H e=some (.own x))(k:∀b u,b≠e->h.get? b=some u->h'.get? b=some u)(B:∃u,h'.get? e=some u):Un g f H (upd H x o) h h':=by
 have hx:∀b,H b=none->b≠x:=fun b n z=>by subst z;rw[n] at A;exact A
 have hb:∀b,H b=none->b≠e:=fun b n z=>by
  subst z;rcases E with r | r
  ·exact hx b n r
  ·rw[n] at r;cases r
 have D:∀b u,H b=some u->¬Mut (some u)->b≠x:=fun b u q G z=>by subst z;rw[q] at A;exact G A
 refine⟨fun b u q n _ _=>k b u (hb b n) q,fun b u q n _ _=>⟨u.slots,k b u (hb b n) q⟩,fun b u q n _=>by rw[zt (hx b n)];exact n,fun b u q _=>?_,
  fun b I q=>by rw[zt (D b _ q fun z=>z)];exact q,fun b u I q=>by rw[zt (D b _ q fun z=>z)];exact q,fun b J q=>⟨#[],by rw[zt (D b _ q fun z=>z),q];simp⟩⟩
 by_cases c:b=e
 ·subst c;exact B
 ·exact⟨u,k b u c q⟩
theorem Un.mono(u:Un g f H i h h1)(B:∀b∈g,b∈s)(hx:∀b∈f,b∈l):Un s l H i h h1:=
 ⟨fun b A q n hb c=>u.keep b A q n (fun z=>hb (B b z)) fun z=>c (hx b z),fun _ _ q n _ c=>u.any q n fun z=>c (hx _ z),fun b A q n c=>u.free b A q n fun z=>c (hx b z),fun b A q c=>u.there b A q fun z=>c (hx b z),u.tups,u.frzs,u.tbls⟩
end
def trk(h:Heap)(H:Hp):List Addr:=(List.range h.objs.size).filter fun a=>(H a).isSome
def J9(h:Heap)(H:Hp):Heap:=PySem.W.hideAll h (trk h H)
theorem zaR(h:Heap)(H:Hp):(J9 h H).objs.size=h.objs.size:=PySem.W.hideAll_size _ _
theorem zcC{h:Heap}{H:Hp}{b:Addr}{o:Obj}(e:h.get? b=some o)(n:H b=none):(J9 h H).get? b=some o:=
 PySem.W.hideAll_get _ e fun c=>by
  have q:(H b).isSome=true:=(wI.mp c).2;rw[n] at q;simp at q
theorem zdI{h:Heap}{H:Hp}{b:Addr}{o:Obj}(e:(J9 h H).get? b=some o):h.get? b=some o/\H b=none:=by
 have c:h.get? b=some o:=PySem.W.of_hideAll (trk h H) e;refine⟨c,?_⟩
 cases q:H b with
 | none=>rfl
 | some x=>
  have f:b∈trk h H:=wI.mpr ⟨jF.mpr (zO c),by simp[q]⟩
  have z:(J9 h H).get? b=none:=PySem.W.hideAll_none (trk h H) f;rw[z] at e;cases e
def zd7(g h:Heap)(L:Addr):List (Addr×Obj):=(List.range h.objs.size).filterMap fun a=>if a=L\/(g.get? a).isSome=true then none else(h.get? a).map fun o=>(a,o)
def rest(g h:Heap)(L d:Addr):List (Addr×Obj):=(zd7 g h L).filter fun p=>decide (p.1≠d)
structure Mod(K:W.Frag)(mg:Str->Option Value)(base:Heap):Prop where
 kin:K.In base
 glob:base.Ns mainGlobals mg
 blt:∃mb,base.Ns builtinsNs mb/\∀x:Str,x ≠ "__name__" -> mb x=bootBuiltins x
 nolimit:base.NoLimit
structure Cx where
 prog:Program
 w:World
 K:PySem.W.Frag
 mg:Str->Option Value
 base:Heap
 A:Around
 N:List Str
 s₀:Shared
 H₀:Hp
 env:Env
 outer:List Env
 stack:List Env
 ex:List Addr
 fn:Str->Bool
 calm:Bool
 pn:List (Addr×Obj)
 xe:Value->Shared->Prop
def frs(l:List Env):List Addr:=l.filterMap (·.frame)
abbrev Cx.fs(X:Cx):List Addr:=frs X.outer
def Vis(b:Scope)(x:Str):Prop:=b.names.lookup x=some .local\/b.names.lookup x=some .cell\/b.names.lookup x=some .free
def Loc(b:Scope)(x:Str):Prop:=b.names.lookup x=some .local\/b.names.lookup x=some .cell
def zhR(b:Env)(h:Heap)(m:Str->Option Value)(x:Str)(u:Value):Prop:=
 (b.kindOf x=some .local/\m x=some u)\/((b.kindOf x=some .cell\/b.kindOf x=some .free)/\∃c,b.cells.lookup x=some c/\h.IsCell c (some u))
structure Cx.Ok(X:Cx):Prop where
 mod:Mod X.K X.mg X.base
 kind:X.env.scope.kind=.function
 glob:X.env.globals=mainGlobals
 blt:X.env.builtins=builtinsNs
 above:X.s₀.heap.objs.size<=X.env.locals
 inj:∀x y c,X.env.cells.lookup x=some c->X.env.cells.lookup y=some c->x=y
 has:∀x,(X.env.kindOf x=some .cell\/X.env.kindOf x=some .free)->∃c,X.env.cells.lookup x=some c
 cab:∀x c,X.fn x=true->X.env.cells.lookup x=some c->X.s₀.heap.objs.size<=c
 hd:X.calm=true->X.A.handled=none
 frames:X.A.frames=some X.stack
 stk:X.stack=X.outer\/(X.stack=X.env::X.outer/\X.env.frame=some X.env.locals)
 exf:∀b∈X.ex,b≠X.env.locals/\∀x c,X.env.cells.lookup x=some c->c≠b
 bs:∀b o,X.base.get? b=some o->X.s₀.heap.get? b=some o/\X.H₀ b=none
 bsz:X.base.objs.size<=X.s₀.heap.objs.size
 noex:∀b o,X.base.get? b=some o->b∉X.ex
 exfs:∀b∈X.ex,b∉X.fs
 funs:X.s₀.heap.FunFrames X.base X.outer
 frf:∀b∈X.fs,X.H₀ b=none
structure Inv(X:Cx)(pins:List (Addr×Obj))(σ:List (Option V))(H:Hp)(s:Shared):Prop where
 ok:X.Ok
 os:s.os=X.s₀.os
 bare:AllBare s.gens
 base:Un X.fs X.ex X.H₀ H X.s₀.heap s.heap
 loc:∃m,s.heap.Ns X.env.locals m/\∀(i:Nat) (x:Str) (v:V),X.N[i]? =some x->σ[i]? =some (some v)->Vis X.env.scope x->∃u,RelV v u/\zhR X.env s.heap m x u
 cell:∀x c,X.env.cells.lookup x=some c->∃v,s.heap.IsCell c v
 free:H X.env.locals=none
 freeC:∀x c,X.env.cells.lookup x=some c->H c=none
 pin:∀p∈X.pn++pins,s.heap.get? p.1=some p.2/\H p.1=none/\p.1≠X.env.locals/\p.1∉X.fs/\∀v,p.2.data≠.cell v
 hok:HOk X.prog X.w H s.heap
 len:σ.length=X.N.length
section
variable{X:Cx}{f:List (Addr×Obj)}{σ:List (Option V)}{H g:Hp}{s:Shared}{h':Heap}
theorem Cx.Ok.nofr(ok:X.Ok){b:Addr}{o:Obj}(e:X.base.get? b=some o):b∉X.fs:=fun hb=>by
 have:=(ok.funs.mem hb).1;rw[e] at this;cases this
theorem Inv.bs(I:Inv X f σ H s):∀b o,X.base.get? b=some o->s.heap.get? b=some o/\H b=none:=fun b o e=>
 ⟨I.base.keep b o (I.ok.bs b o e).1 (I.ok.bs b o e).2 (I.ok.nofr e) (I.ok.noex b o e),I.base.free b o (I.ok.bs b o e).1 (I.ok.bs b o e).2 (I.ok.noex b o e)⟩
theorem Inv.bk(I:Inv X f σ H s):∀b o,X.base.get? b=some o->s.heap.get? b=some o:=fun b o e=>(I.bs b o e).1
theorem Inv.mod(I:Inv X f σ H s):Mod X.K X.mg X.base:=I.ok.mod
theorem Inv.kIn(I:Inv X f σ H s):X.K.In s.heap:=I.ok.mod.kin.keeps I.bk
theorem Inv.nolimit(I:Inv X f σ H s):s.heap.NoLimit:=I.ok.mod.nolimit.keeps I.bk
theorem Inv.fr(I:Inv X f σ H s):∃m,Fr X.base X.env.locals s.heap m:=
 let ⟨m,b,_⟩:=I.loc
 ⟨m,b,I.bk,qk I.ok.bsz I.ok.above⟩
theorem Inv.lt(I:Inv X f σ H s):X.env.locals<s.heap.objs.size:=let ⟨_,b,_⟩:=I.loc;b.lt
theorem Inv.sz(I:Inv X f σ H s):X.s₀.heap.objs.size<=s.heap.objs.size:=qk I.ok.above (wU I.lt)
theorem Inv.nofs(I:Inv X f σ H s){a:Addr}(h:s.heap.objs.size<=a):a∉X.fs:=fun hb=>by
 obtain⟨_,o,b,_⟩:=I.ok.funs.mem hb;exact absurd (jS (zO b) (qk I.sz h)) (xK _)
theorem Inv.cne(I:Inv X f σ H s):∀x c,X.env.cells.lookup x=some c->c≠X.env.locals:=fun x c e z=>by
 obtain⟨v,o,u,l⟩:=I.cell x c e;obtain⟨m,⟨B,A,w,i,b,_⟩,_⟩:=I.loc;rw[z,i] at u;cases u;rw[b] at l;cases l
theorem Inv.funs(I:Inv X f σ H s):s.heap.FunFrames X.base X.outer:=by
 have all:∀(l:List Env),(∀b∈frs l,b∈X.fs)->X.s₀.heap.FunFrames X.base l->s.heap.FunFrames X.base l:=by
  intro l;induction l with
  | nil=>intro _ _;trivial
  | cons w r J=>
   intro u B;obtain⟨hk,⟨L,o,i,D,E,A⟩,G⟩:=B;have c:L∈X.fs:=u L (by unfold frs;rw[QT,i];exact jx)
   obtain⟨M,e⟩:=I.base.slot L o E (I.ok.frf L c) c fun z=>I.ok.exfs L z c
   exact⟨hk,⟨L,_,i,D,e,A⟩,J (fun b hb=>u b (by unfold frs;rw[QT,i];exact jh _ hb)) G⟩
 exact all X.outer (fun _ hb=>hb) I.ok.funs
theorem Inv.stack(I:Inv X f σ H s):s.heap.FunFrames X.base X.stack:=by
 rcases I.ok.stk with e | ⟨e,b⟩
 ·rw[e];exact I.funs
 ·rw[e]
  obtain⟨m,c,_⟩:=I.loc;refine .cons (by rw[I.ok.kind];decide) b c ?_ I.funs
  exact Heap.get?_none_of_le (qk I.ok.bsz I.ok.above)
theorem Inv.stkSub(I:Inv X f σ H s):∀b∈frs X.stack,b∈X.env.locals::X.fs:=fun b hb=>by
 rcases I.ok.stk with e | ⟨e,c⟩
 ·rw[e] at hb;exact jh _ hb
 ·rw[e] at hb
  unfold frs at hb;rw[QT,c] at hb;exact hb
theorem Inv.stkFree(I:Inv X f σ H s):∀b∈frs X.stack,H b=none:=fun b hb=>by
 rcases z9.mp (I.stkSub b hb) with e | hb
 ·rw[e];exact I.free
 ·obtain⟨_,o,c,_⟩:=I.ok.funs.mem hb
  exact I.base.free b o c (I.ok.frf b hb) fun z=>I.ok.exfs b z hb
theorem Inv.step{g':Array GenState}{t':Nat}{d':Drawn}{ch:List Addr}(I:Inv X f σ H s)
  (B:∀b∈ch,(b∈X.ex\/X.s₀.heap.objs.size<=b)/\b≠X.env.locals/\(∀x c,X.env.cells.lookup x=some c->c≠b)/\∀p∈X.pn++f,p.1≠b)
  (D:∀b o,b≠X.env.locals->b∉X.fs->b∉ch->s.heap.get? b=some o->H b=none->h'.get? b=some o)
  (J:∀b o,b≠X.env.locals->b∈X.fs->b∉ch->s.heap.get? b=some o->H b=none->∃sl,h'.get? b=some { o with slots:=sl }) (w:∀b o,b∉ch->s.heap.get? b=some o->H b=none->g b=none)
  (M:∀b o,b∉ch->s.heap.get? b=some o->∃T,h'.get? b=some T)
  (Y:∀b L,H b=some (.tup L)->g b=some (.tup L)) (O:∀b o u,H b=some (.frz o u)->g b=some (.frz o u)) (U:∀b ps,H b=some (.tbl ps)->∃more,g b=some (.tbl (ps++more)))
  (ns:∀m,s.heap.Ns X.env.locals m->h'.Ns X.env.locals m) (a6:HOk X.prog X.w g h') (hg:AllBare g') :
  Inv X f σ g { s with heap:=h',gens:=g',drawn:=d',toks:=t' }:=by
 have Q:∀b o,X.s₀.heap.get? b=some o->b≠X.env.locals:=fun b o e=>qz (jS (zO e) I.ok.above)
 have G:∀b o,X.s₀.heap.get? b=some o->b∉X.ex->b∉ch:=fun b o e hx hb=>by
  rcases(B b hb).1 with z | z
  ·exact hx z
  ·exact absurd (jS (zO e) z) (xK _)
 have A:∀x c,X.env.cells.lookup x=some c->∀v,s.heap.IsCell c v->h'.IsCell c v:=fun x c e v ⟨o,N,hd⟩=>by
  have E:c∉ch:=fun z=>(B c z).2.2.1 x c e rfl
  by_cases hc:c∈X.fs
  ·obtain⟨sl,q⟩:=J c o (I.cne x c e) hc E N (I.freeC x c e)
   exact⟨_,q,hd⟩
  ·exact⟨o,D c o (I.cne x c e) hc E N (I.freeC x c e),hd⟩
 refine⟨I.ok,I.os,hg,⟨fun b o e n hb hx=>?_,fun b o e n hb hx=>?_,fun b o e n hx=>?_,fun b o e hx=>?_,fun b L e=>Y b L (I.base.tups b L e),fun b o L e=>O b o L (I.base.frzs b o L e),fun b ps e=>?_⟩,?_,fun x c e=>?_,?_,fun x c e=>?_,fun p hp=>?_,a6,I.len⟩
 ·exact D b o (Q b o e) hb (G b o e hx) (I.base.keep b o e n hb hx) (I.base.free b o e n hx)
 ·obtain⟨sl,e1⟩:=I.base.slot b o e n hb hx
  obtain⟨a7,e2⟩:=J b _ (Q b o e) hb (G b o e hx) e1 (I.base.free b o e n hx);exact⟨a7,e2⟩
 ·obtain⟨T,e1⟩:=I.base.there b o e hx
  exact w b T (G b o e hx) e1 (I.base.free b o e n hx)
 ·obtain⟨T,e1⟩:=I.base.there b o e hx
  exact M b T (G b o e hx) e1
 ·obtain⟨m1,e1⟩:=I.base.tbls b ps e
  obtain⟨m2,e2⟩:=U b _ e1;exact⟨m1++m2,by rw[e2,Array.append_assoc]⟩
 ·obtain⟨m,hn,hl⟩:=I.loc
  refine⟨m,ns m hn,fun i x v e1 e2 e3=>?_⟩
  obtain⟨u,r,l⟩:=hl i x v e1 e2 e3;refine⟨u,r,?_⟩
  rcases l with l | ⟨k,c,e,z⟩
  ·exact .inl l
  ·exact .inr ⟨k,c,e,A x c e _ z⟩
 ·obtain⟨v,z⟩:=I.cell x c e
  exact⟨v,A x c e v z⟩
 ·obtain⟨m,⟨o,_,_,N,_⟩,_⟩:=I.loc
  exact w _ o (fun z=>(B _ z).2.1 rfl) N I.free
 ·obtain⟨v,o,N,hd⟩:=I.cell x c e
  exact w c o (fun z=>(B c z).2.2.1 x c e rfl) N (I.freeC x c e)
 ·obtain⟨e,n,ne,nf,d⟩:=I.pin p hp
  have E:p.1∉ch:=fun z=>(B p.1 z).2.2.2 p hp rfl
  exact⟨D p.1 p.2 ne nf E e n,w p.1 p.2 E e n,ne,nf,d⟩
theorem Inv.un{t':Nat}(I:Inv X f σ H s)(u:Un X.fs [] H g s.heap h')(w:HOk X.prog X.w g h'):Inv X f σ g { s with heap:=h',toks:=t' }:=by
 obtain⟨m,⟨o,M,L,A,r⟩,_⟩:=id I.loc;obtain⟨T,B⟩:=u.any A I.free (by simp)
 exact I.step (g':=s.gens) (d':=s.drawn) (ch:=[]) (fun _ z=>nomatch z) (fun b o _ hb _ e n=>u.keep b o e n hb (by simp)) (fun b o _ hb _ e n=>u.slot b o e n hb (by simp)) (fun b o _ e n=>u.free b o e n (by simp)) (fun b o _ e=>u.there b o e (by simp)) u.tups u.frzs u.tbls (fun O D=>by
  obtain⟨Q,l,i,c,E⟩:=D;rw[A] at c;cases c
  exact⟨_,l,i,B,E⟩) w I.bare
theorem Inv.call{g':Array GenState}{t':Nat}{d':Drawn}{ch:List Addr}(I:Inv X f σ H s)(u:Un (frs X.stack) ch H g s.heap h')(D:HOk X.prog X.w g h')(G:AllBare g')
  (i:∀b∈ch,(b∈X.ex\/X.s₀.heap.objs.size<=b)/\b≠X.env.locals/\(∀x c,X.env.cells.lookup x=some c->c≠b)/\∀p∈X.pn++f,p.1≠b) :
  Inv X f σ g { s with heap:=h',gens:=g',drawn:=d',toks:=t' }:=by
 obtain⟨m,⟨o,N,M,E,r⟩,_⟩:=id I.loc;obtain⟨T,B⟩:=u.any E I.free fun z=>(i _ z).2.1 rfl
 exact I.step (ch:=ch) i (fun b o B hb hc e n=>u.keep b o e n (fun z=>(z9.mp (I.stkSub b z)).elim B hb) hc) (fun b o _ _ hc e n=>u.any e n hc) (fun b o hc e n=>u.free b o e n hc) (fun b o hc e=>u.there b o e hc) u.tups u.frzs u.tbls (fun O J=>by
  obtain⟨Q,A,w,l,L⟩:=J;rw[E] at l;cases l
  exact⟨_,A,w,B,L⟩) D G
theorem Inv.turned{t':Nat}{it:Addr}(I:Inv X f σ H s)(k:∀b o,b≠it->s.heap.get? b=some o->h'.get? b=some o)(D:H it=none)(l:it≠X.env.locals)
  (h1:it∈X.ex\/X.s₀.heap.objs.size<=it) (h2:∀x c,X.env.cells.lookup x=some c->c≠it) (h3:∀p∈X.pn++f,p.1≠it):Inv X f σ H { s with heap:=h',toks:=t' }:=by
 have i:∀b u,H b=some u->b≠it:=fun b u e z=>by rw[z,D] at e;cases e
 refine I.step (g':=s.gens) (d':=s.drawn) (ch:=[it]) (fun b hb=>?_) (fun b o _ _ hc e _=>k b o (fun z=>hc (by simp[z])) e) (fun b o _ _ hc e _=>⟨o.slots,k b o (fun z=>hc (by simp[z])) e⟩) (fun _ _ _ _ n=>n)
  (fun b o hc e=>⟨o,k b o (fun z=>hc (by simp[z])) e⟩) (fun _ _ e=>e) (fun _ _ _ e=>e) (fun b M e=>⟨#[],by rw[e];simp⟩) (fun m B=>?_) (fun b u e=>?_) I.bare
 ·have e:b=it:=by simpa using hb
  subst e;exact⟨h1,l,h2,h3⟩
 ·obtain⟨o,A,w,E,r⟩:=B
  exact⟨o,A,w,k _ o (qA l) E,r⟩
 ·refine(I.hok b u e).stay (fun c v hc q=>k c v ?_ q) (fun _ q=>q) fun _ _ q=>q
  rcases hc with z | z
  ·rw[z];exact i b u e
  ·exact i c _ z
theorem Inv.tok(I:Inv X f σ H s)(t:Nat):Inv X f σ H { s with toks:=t }:=I.un (h':=s.heap) (t':=t) Un.refl I.hok
theorem Inv.kept{t':Nat}(I:Inv X f σ H s)(k:∀b u,s.heap.get? b=some u->h'.get? b=some u):Inv X f σ H { s with heap:=h',toks:=t' }:=I.un (Un.kept k) (I.hok.kept k)
theorem Inv.laid{a:Addr}{o:HO}{t':Nat}(I:Inv X f σ H s)(k:∀b u,s.heap.get? b=some u->h'.get? b=some u)(hp:s.heap.objs.size<=a)(c:ObjOk X.prog X.w (upd H a o) h' a o) :
  Inv X f σ (upd H a o) { s with heap:=h',toks:=t' }:=I.un (Un.laid k hp (I.hok.fresh hp)) (I.hok.laid k hp c)
theorem Inv.write{x e:Addr}{o:HO}{A:Nat}(I:Inv X f σ H s)(w:Mut (H x))(l:e=x\/H e=some (.own x))(k:∀b u,b≠e->s.heap.get? b=some u->h'.get? b=some u)(c:∃u,h'.get? e=some u)
  (i:ObjOk X.prog X.w (upd H x o) h' x o):Inv X f σ (upd H x o) { s with heap:=h',toks:=A }:=I.un (Un.write w l k c) (I.hok.write w l k c i)
theorem Inv.weak{c:List (Option V)}(I:Inv X f σ H s)(o:c.length=σ.length)(w:∀(i:Nat) v,c[i]? =some (some v)->σ[i]? =some (some v)):Inv X f c H s:=
 ⟨I.ok,I.os,I.bare,I.base,let ⟨m,u,b⟩:=I.loc;⟨m,u,fun i x v e1 e2 l=>b i x v e1 (w i v e2) l⟩,I.cell,I.free,I.freeC,I.pin,I.hok,o.trans I.len⟩
theorem Inv.pins_of{b:List (Addr×Obj)}(I:Inv X f σ H s)(h:∀p∈b,s.heap.get? p.1=some p.2/\H p.1=none/\p.1≠X.env.locals/\p.1∉X.fs/\∀v,p.2.data≠.cell v):Inv X b σ H s:=
 ⟨I.ok,I.os,I.bare,I.base,I.loc,I.cell,I.free,I.freeC,fun p hp=>(ju.mp hp).elim (fun z=>I.pin p (vm _ z)) (h p),I.hok,I.len⟩
theorem Vg{N:List Str}(c:N.Nodup){i j:Nat}{x:Str}(a:N[i]? =some x)(b:N[j]? =some x):i=j:=by
 obtain⟨h1,e1⟩:=qg.mp a;obtain⟨h2,e2⟩:=qg.mp b;exact(List.getElem_inj c).mp (e1.trans e2.symm)
theorem zar{M:Model}{A:Around}{E:Value->Shared->Prop}{i:Nat}{x:Str}{v:V}{u:Value}{Q:Unit->Shared->Prop}(I:Inv X f σ H s)(hN:X.N.Nodup)(T:X.N[i]? =some x)(hx:Loc X.env.scope x)(r:RelV v u)
  (h:∀s',Inv X f (σ.set i (some v)) H s'->(∃a,Heap.SameBut a s.heap s'.heap/\(a=X.env.locals\/X.env.cells.lookup x=some a))->Q () s') (hf:X.fn x=true\/X.env.scope.names.lookup x=some .local:=by first| exact .inl rfl | exact .inr rfl | assumption):wpAny M A (storeName X.env x u) Q E s:=by
 obtain⟨m,hn,hl⟩:=id I.loc;have O:(X.env.scope.kind==.class||(X.env.scope.kind==.module&&X.env.locals != X.env.globals))=false:=by rw[I.ok.kind];rfl
 have U:i<σ.length:=by rw[I.len];exact(qg.mp T).1
 have D:=I.cne;have w:∀{a:Addr} {h':Heap},(∃o,s.heap.get? a=some o/\H a=none)->Heap.SameBut a s.heap h'->HOk X.prog X.w H h':=fun {a h'} ha l b ob e=>by
  obtain⟨_,_,B⟩:=ha;refine(I.hok b ob e).stay (fun c w' hc q=>(l.2 c ?_).trans q) (fun _ q=>q) fun _ _ q=>q
  rintro rfl;rcases hc with rfl | hc
  ·rw[B] at e;cases e
  ·rw[B] at hc;cases hc
 rcases hx with hk | hk
 ·refine wpAny_storeName_local hk hn (fun h' a7 l=>?_) O
  obtain⟨oL,_,_,a8,_⟩:=id hn;refine h _ ⟨I.ok,I.os,I.bare,⟨fun b o e n hb hx=>?_,fun b o e n hb hx=>?_,I.base.free,fun b o e hx=>?_,I.base.tups,I.base.frzs,I.base.tbls⟩,⟨_,a7,fun j y v' e1 e2 e3=>?_⟩,fun y c e=>?_,I.free,I.freeC,fun p hp=>?_,w ⟨oL,a8,I.free⟩ l,by simpa using I.len⟩ ⟨_,l,.inl rfl⟩
  ·exact(l.2 b (qz (jS (zO e) I.ok.above))).trans (I.base.keep b o e n hb hx)
  ·obtain⟨sl,e1⟩:=I.base.slot b o e n hb hx
   exact⟨sl,(l.2 b (qz (jS (zO e) I.ok.above))).trans e1⟩
  ·obtain⟨o',e1⟩:=I.base.there b o e hx
   exact⟨o',(l.2 b (qz (jS (zO e) I.ok.above))).trans e1⟩
  ·by_cases J:j=i
   ·subst J
    rw[T] at e1;cases e1
    rw[XA U] at e2;cases e2;exact⟨u,r,.inl ⟨hk,by simp⟩⟩
   ·rw[Xz (qA J)] at e2
    obtain⟨u',r',q⟩:=hl j y v' e1 e2 e3;refine⟨u',r',?_⟩
    rcases q with ⟨k,e⟩ | ⟨k,c,e,z⟩
    ·refine .inl ⟨k,?_⟩
     have:y≠x:=fun e=>J (Vg hN e1 (e▸T))
     simp[this,e]
    ·exact .inr ⟨k,c,e,z.sameBut l (D y c e)⟩
  ·obtain⟨w',z⟩:=I.cell y c e
   exact⟨w',z.sameBut l (D y c e)⟩
  ·obtain⟨e,n,ne,nf,d⟩:=I.pin p hp
   exact⟨(l.2 p.1 ne).trans e,n,ne,nf,d⟩
 ·have G:X.fn x=true:=by
   rcases hf with z | z
   ·exact z
   ·rw[z] at hk;cases hk
  obtain⟨c,hc⟩:=I.ok.has x (.inl hk);obtain⟨w',z⟩:=I.cell x c hc;refine wpAny_storeName_cell I.ok.kind hk hc z (fun h' L l=>?_)
  obtain⟨oc,Y,a6⟩:=id z;refine h { s with heap:=h' } ⟨I.ok,I.os,I.bare,⟨fun b o e n hb hx=>?_,fun b o e n hb hx=>?_,I.base.free,fun b o e hx=>?_,I.base.tups,I.base.frzs,I.base.tbls⟩,⟨m,hn.sameBut l (qA (D x c hc)),fun j y v' e1 e2 e3=>?_⟩,fun y c' e=>?_,I.free,I.freeC,fun p hp=>?_,w ⟨oc,Y,I.freeC x c hc⟩ l,by simpa using I.len⟩ ⟨c,l,.inr hc⟩
  ·exact(l.2 b (qz (jS (zO e) (I.ok.cab x c G hc)))).trans (I.base.keep b o e n hb hx)
  ·obtain⟨sl,e1⟩:=I.base.slot b o e n hb hx
   exact⟨sl,(l.2 b (qz (jS (zO e) (I.ok.cab x c G hc)))).trans e1⟩
  ·obtain⟨o',e1⟩:=I.base.there b o e hx
   exact⟨o',(l.2 b (qz (jS (zO e) (I.ok.cab x c G hc)))).trans e1⟩
  ·by_cases J:j=i
   ·subst J
    rw[T] at e1;cases e1
    rw[XA U] at e2;cases e2;exact⟨u,r,.inr ⟨.inl hk,c,hc,L⟩⟩
   ·rw[Xz (qA J)] at e2
    obtain⟨u',r',q⟩:=hl j y v' e1 e2 e3;refine⟨u',r',?_⟩
    rcases q with q | ⟨k,c',e,z'⟩
    ·exact .inl q
    ·refine .inr ⟨k,c',e,z'.sameBut l ?_⟩
     rintro rfl;exact J (Vg hN e1 (I.ok.inj _ _ _ e hc▸T))
  ·by_cases N:c'=c
   ·subst N;exact⟨_,L⟩
   ·obtain⟨w2,z2⟩:=I.cell y c' e
    exact⟨w2,z2.sameBut l N⟩
  ·obtain⟨e,n,ne,nf,d⟩:=I.pin p hp
   refine⟨(l.2 p.1 ?_).trans e,n,ne,nf,d⟩
   intro q;rw[q,Y] at e;have q':oc=p.2:=j5 e;exact d w' (by rw[<- q'];exact a6)
theorem yn{M:Model}{A:Around}{E:Value->Shared->Prop}{i:Nat}{x:Str}{v:V}{u:Value}{Q:Unit->Shared->Prop}(I:Inv X f σ H s)(l:X.N.Nodup)(w:X.N[i]? =some x)(hx:Loc X.env.scope x)(r:RelV v u)
  (h:∀b,Inv X f (σ.set i (some v)) H b->Q () b) (o:X.fn x=true\/X.env.scope.names.lookup x=some .local:=by first| exact .inl rfl | exact .inr rfl | assumption):wpAny M A (storeName X.env x u) Q E s:=
 zar I l w hx r (fun b c _=>h b c) o
theorem Inv.call'{s':Shared}{ch:List Addr}(I:Inv X f σ H s)(D:s'.os=s.os)(u:Un (frs X.stack) ch H g s.heap s'.heap)(l:HOk X.prog X.w g s'.heap)(B:AllBare s'.gens)
  (i:∀b∈ch,(b∈X.ex\/X.s₀.heap.objs.size<=b)/\b≠X.env.locals/\(∀x c,X.env.cells.lookup x=some c->c≠b)/\∀p∈X.pn++f,p.1≠b):Inv X f σ g s':=by
 obtain⟨h',w,o,A,E⟩:=s';have e:E=s.os:=D;subst e;exact I.call (g':=w) (t':=A) (d':=o) u l B i
end
abbrev XK:=Value->Option Addr->Hp->Prop
abbrev St:=List (Option V)
abbrev VK:=V->Hp->Prop
abbrev TE:=St->Hp->VK->Prop
abbrev TT:=St->Hp->(Bool->Hp->Prop)->Prop
abbrev TA:=St->Hp->(List V->Hp->Prop)->Prop
structure XF where
 nx:St->Hp->Prop
 rt:VK
 bk:St->Hp->Prop:=fun _ _=>False
 ct:St->Hp->Prop:=fun _ _=>False
abbrev TS:=XF->St->Hp->Prop
def EP(X:Cx)(b:List (Addr×Obj))(σ:St)(Q:VK)(u:Value)(f:Shared):Prop:=∃v c,Inv X b σ c f/\RelV v u/\Q v c
def TP(X:Cx)(c:List (Addr×Obj))(σ:St)(Q:Bool->Hp->Prop)(b:Bool)(g:Shared):Prop:=∃f,Inv X c σ f g/\Q b f
def AP(X:Cx)(b:List (Addr×Obj))(σ:St)(Q:List V->Hp->Prop)(i:List Value)(g:Shared):Prop:=∃f c,Inv X b σ c g/\Vals f i/\Q f c
def SP(X:Cx)(b:List (Addr×Obj))(D:XF)(f:Flow)(i:Shared):Prop:=
 match f with
 | .next=>∃g c,Inv X b g c i/\D.nx g c
 | .brk=>∃g c,Inv X b g c i/\D.bk g c
 | .cont=>∃g c,Inv X b g c i/\D.ct g c
 | .ret u=>∃v g c,Inv X b g c i/\RelV v u/\D.rt v c
def PE(X:Cx)(e:Expr)(t:TE):Prop:=
 ∀(b:List (Addr×Obj)) (s:Shared) (σ:St) (H:Hp) (Q:VK),Inv X b σ H s->t σ H Q->wpAny (model X.prog X.w) X.A (eval e X.env) (EP X b σ Q) X.xe s
def PT(X:Cx)(e:Expr)(t:TT):Prop:=
 ∀(b:List (Addr×Obj)) (s:Shared) (σ:St) (H:Hp) (Q:Bool->Hp->Prop),Inv X b σ H s->t σ H Q->wpAny (model X.prog X.w) X.A (isTrue e X.env (eval e X.env)) (TP X b σ Q) X.xe s
def PW(X:Cx)(e:Expr)(t:TT):Prop:=
 ∀(c:Sem Value) (b:List (Addr×Obj)) (s:Shared) (σ:St) (H:Hp) (Q:Bool->Hp->Prop),Inv X b σ H s->t σ H Q->wpAny (model X.prog X.w) X.A (isTrue e X.env c) (TP X b σ Q) X.xe s
theorem PW.pt{X:Cx}{e:Expr}{t:TT}(h:PW X e t):PT X e t:=h _
def ua:=@PW.pt
def PA(X:Cx)(f:List Expr)(t:TA):Prop:=
 ∀(c:Pos) (b:List (Addr×Obj)) (s:Shared) (σ:St) (H:Hp) (Q:List V->Hp->Prop),Inv X b σ H s->t σ H Q->wpAny (model X.prog X.w) X.A (spliced (backTo c (starEach f X.env))) (AP X b σ Q) X.xe s
def PS(X:Cx)(st:Stmt)(t:TS):Prop:=
 ∀(b:List (Addr×Obj)) (s:Shared) (σ:St) (H:Hp) (D:XF),Inv X b σ H s->t D σ H->wpAny (model X.prog X.w) X.A (exec st X.env) (SP X b D) X.xe s
def PSs(X:Cx)(st:List Stmt)(t:TS):Prop:=
 ∀(b:List (Addr×Obj)) (s:Shared) (σ:St) (H:Hp) (D:XF),Inv X b σ H s->t D σ H->wpAny (model X.prog X.w) X.A (execs st X.env) (SP X b D) X.xe s
theorem thn{α:Type}{t:Sem α}{Q b:α->Shared->Prop}{M:Model}{A:Around}{E:Value->Shared->Prop}{s:Shared}(h:wpAny M A t Q E s)(c:∀a s,Q a s->b a s):wpAny M A t b E s:=jC h c fun _ _ x=>x
section
variable{X:Cx}
inductive IsB(x:V)(H:Hp)(Q:Bool->Hp->Prop):Prop
 | mk (c:Bool) (h:x=.bl c) (q:Q c H):IsB x H Q
inductive IsI(x:V)(H:Hp)(Q:Int->Hp->Prop):Prop
 | mk (i:Int) (h:x=.int i) (q:Q i H):IsI x H Q
inductive zhl(c:List V)(H:Hp)(Q:V->V->Hp->Prop):Prop
 | mk (v w:V) (h:c=[v,w]) (q:Q v w H):zhl c H Q
inductive JS(i:Nat)(σ:St)(H:Hp)(Q:VK):Prop
 | mk (v:_) (_:σ[i]? =some (some v)) (_:Q v H):JS i σ H Q
def tC(v:V):TE:=fun _ H Q=>Q v H
theorem zfb{i:Nat}{x:Str}{f:Pos}(L:X.N[i]? =some x)(hv:Vis X.env.scope x)(J:(x==("__debug__":Str))=false:=by decide)(G:(x==("__classdict__":Str))=false:=by decide):PE X (.Name x f) (JS i):=by
 intro E s σ H Q I h;obtain⟨v,e,h⟩:=h;obtain⟨m,O,M⟩:=I.loc;obtain⟨u,r,l⟩:=M i x v L e hv;have D:EP X E σ Q u s:=⟨v,H,I,r,h⟩;rcases l with ⟨hk,N⟩ | ⟨hk,c,hc,w⟩
 ·exact wpAny_Name (wpAny_loadName_local I.ok.kind hk O N D) J
 ·rcases hk with hk | hk
  ·exact wpAny_Name (wpAny_loadName_cell I.ok.kind hk hc w D) J
  ·exact wpAny_Name (wpAny_loadName_free I.ok.kind hk hc w D G) J
theorem ze{i j f}:PE X (.Constant (.int i) j f) (tC (.int i)):=fun _ _ _ H _ I h=>wpAny_Constant_int ⟨.int i,H,I.tok _,⟨_,rfl⟩,h⟩
theorem qZ{b j f}:PE X (.Constant (.bool b) j f) (tC (.bl b)):=fun _ _ _ H _ I h=>Constant_bool ⟨.bl b,H,I,rfl,h⟩
theorem j8{j f}:PE X (.Constant .none j f) (tC .non):=fun _ _ _ H _ I h=>Constant_none ⟨.non,H,I,rfl,h⟩
theorem xW{x j f}:PE X (.Constant (.str x) j f) (tC (.str x)):=fun _ _ _ H _ I h=>Calls.Constant_str ⟨.str x,H,I.tok _,⟨_,rfl⟩,h⟩
def Gl(X:Cx)(x:Str):Prop:=X.env.kindOf x=some .globalImplicit
theorem YK{E:Value->Shared->Prop}{c:List (Addr×Obj)}{s:Shared}{σ:St}{H:Hp}{x:Str}{u:Value}{f:Pos}{Q:Value->Shared->Prop}(I:Inv X c σ H s)(l:Gl X x)(w:X.mg x=some u)(h:Q u s)
  (i:(x==("__debug__":Str))=false:=by decide):wpAny (model X.prog X.w) X.A (eval (.Name x f) X.env) Q E s:=
 zcZ I.ok.kind l (Calls.loadGlobal_global (by rw[I.ok.glob];exact I.mod.glob.keeps I.bk) w h) i
theorem vI{E:Value->Shared->Prop}{c:List (Addr×Obj)}{s:Shared}{σ:St}{H:Hp}{x:Str}{u:Value}{f:Pos}{Q:Value->Shared->Prop}(I:Inv X c σ H s)(l:Gl X x)(w:X.mg x=none)(hv:bootBuiltins x=some u)(h:Q u s)
  (D:x ≠ "__name__" :=by decide) (i:(x==("__debug__":Str))=false:=by decide):wpAny (model X.prog X.w) X.A (eval (.Name x f) X.env) Q E s:=by
 obtain⟨G,h1,h2⟩:=I.mod.blt;exact zcZ I.ok.kind l (Calls.loadGlobal_builtin (by rw[I.ok.glob];exact I.mod.glob.keeps I.bk) w (by rw[I.ok.blt];exact h1.keeps I.bk) ((h2 x D).trans hv) h) i
theorem vd{x:Str}{v:V}{u:Value}{f:Pos}(i:Gl X x)(l:X.mg x=some u)(r:RelV v u)(c:(x==("__debug__":Str))=false:=by decide):PE X (.Name x f) (tC v):=
 fun _ _ _ H _ I h=>YK I i l ⟨v,H,I,r,h⟩ c
theorem zM{x:Str}{v:V}{u:Value}{f:Pos}(i:Gl X x)(l:X.mg x=none)(hv:bootBuiltins x=some u)(r:RelV v u)(s:x ≠ "__name__" :=by decide)(c:(x==("__debug__":Str))=false:=by decide):PE X (.Name x f) (tC v):=
 fun _ _ _ H _ I h=>vI I i l hv ⟨v,H,I,r,h⟩ s c
variable{a b:Expr}{o B:TE}{f:Pos}
def PC(X:Cx)(i:CmpOp)(a b:Expr)(t:TE):Prop:=
 ∀(c:List (Addr×Obj)) (s:Shared) (σ:St) (H:Hp) (Q:VK),Inv X c σ H s->t σ H Q ->
  wpAny (model X.prog X.w) X.A (eval a X.env) (fun v l=>wpAny (model X.prog X.w) X.A (eval b X.env) (fun u w=>wpAny (model X.prog X.w) X.A (compareOp i v u) (EP X c σ Q) X.xe w) X.xe l) X.xe s
theorem zcm(b:Expr){c:CmpOp}(h:c≠.In)(h2:c≠.NotIn):behindInMarks c b=false:=by
 have e1:(c==CmpOp.In)=false:=by cases c<;>first| rfl | exact absurd rfl h
 have e2:(c==CmpOp.NotIn)=false:=by cases c<;>first| rfl | exact absurd rfl h2
 cases b<;>simp[behindInMarks,e1,e2]
def tB(t:TE):TT:=fun σ H Q=>t σ H fun x c=>IsB x c Q
theorem zb2{l:CmpOp}{t:TE}(h:PC X l a b t)(h1:behindInMarks l b=false:=by first| exact zcm _ (by decide) (by decide) | rfl):PT X (.Compare a [l] [b] f) (tB t):=by
 intro i s σ H Q I E;refine wpAny_isTrue_Compare1 (thn (h i s σ H _ I E) fun v s1 h1=>thn h1 fun u s2 h2=>thn h2 fun c J ⟨x,w,D,G,q1⟩=>?_) h1
 obtain⟨d,rfl,q⟩:=q1;cases G;exact vU ⟨w,D,q⟩
theorem zS{e:Expr}{t:TE}(h:PE X e t)(w:∀c,isTrue e X.env c=(do let v<-c;standAt e.pos;holding [v] (truthy v)):=by intro _;rfl):PT X e (tB t):=by
 intro i s σ H Q I D;refine isTrue_plain (thn (h i s σ H _ I D) fun v s1 ⟨x,l,u,E,q1⟩=>?_) (w _)
 obtain⟨d,rfl,q⟩:=q1;cases E;exact vU ⟨l,u,q⟩
variable{g A:TT}{rest:List Expr}
def zhw(t u:TT):TT:=fun σ H Q=>t σ H fun c i=>if c=true then u σ i Q else Q false i
def tOr(t u:TT):TT:=fun σ H Q=>t σ H fun c i=>if c=true then Q true i else u σ i Q
def zhr(t:TT):TT:=fun σ H Q=>t σ H fun c i=>Q (!c) i
theorem yr(l:PT X a g):PW X (.BoolOp .And [a] f) g:=by
 intro u i s σ H Q I h;refine isTrue_and (thn (l i s σ H Q I h) fun c s1 e=>?_)
 cases c with
 | true=>exact isTrue_and_nil e
 | false=>exact e
theorem jm(l:PT X a g):PW X (.BoolOp .Or [a] f) g:=by
 intro u i s σ H Q I h;refine isTrue_or (thn (l i s σ H Q I h) fun c s1 e=>?_)
 cases c with
 | false=>exact isTrue_or_nil e
 | true=>exact e
theorem Qa(w:PT X a g)(hb:PW X (.BoolOp .And (b::rest) f) A):PW X (.BoolOp .And (a::b::rest) f) (zhw g A):=by
 intro D i s σ H Q I h;refine isTrue_and (thn (w i s σ H _ I h) fun c s1 ⟨l,u,q1⟩=>?_)
 cases c with
 | true=>exact hb D i s1 σ l Q u q1
 | false=>exact⟨l,u,q1⟩
theorem jD(w:PT X a g)(hb:PW X (.BoolOp .Or (b::rest) f) A):PW X (.BoolOp .Or (a::b::rest) f) (tOr g A):=by
 intro D i s σ H Q I h;refine isTrue_or (thn (w i s σ H _ I h) fun c s1 ⟨l,u,q1⟩=>?_)
 cases c with
 | true=>exact⟨l,u,q1⟩
 | false=>exact hb D i s1 σ l Q u q1
theorem qo(u:PT X a g):PT X (.UnaryOp .Not a f) (zhr g):=by
 intro i s σ H Q I h;exact isTrue_not (u i s σ H (fun c l=>Q (!c) l) I h)
def zga(o B:TE):TE:=fun σ H Q=>o σ H fun x i=>IsB x i fun c i=>if c=true then B σ i Q else Q (.bl false) i
def zf5(o:TE):TE:=fun σ H Q=>o σ H fun x i=>IsB x i fun c i=>Q (.bl (!c)) i
theorem jV{l}{t:TE}(h:PE X a t):PE X (.BoolOp l [a] f) t:=fun c s σ H Q I i=>BoolOp_one (h c s σ H Q I i)
theorem qU(w:PE X a o)(hb:PE X (.BoolOp .And (b::rest) f) B):PE X (.BoolOp .And (a::b::rest) f) (zga o B):=by
 intro i s σ H Q I h;refine BoolOp_and (thn (w i s σ H _ I h) fun v s1 ⟨x,l,u,D,q1⟩=>?_)
 obtain⟨c,rfl,q1⟩:=q1;cases D;refine vU ?_
 cases c with
 | true=>exact hb i s1 σ l Q u q1
 | false=>exact⟨.bl false,l,u,rfl,q1⟩
theorem J3(w:PE X a o):PE X (.UnaryOp .Not a f) (zf5 o):=by
 intro i s σ H Q I h;refine UnaryOp_ (thn (w i s σ H _ I h) fun v s1 ⟨x,l,u,D,q1⟩=>?_)
 obtain⟨c,rfl,q1⟩:=q1;cases D;exact not_of (vU ⟨.bl (!c),l,u,rfl,q1⟩)
def tIf(t:TT)(o B:TE):TE:=fun σ H Q=>t σ H fun c i=>if c=true then o σ i Q else B σ i Q
theorem jn{c:Expr}(hc:PT X c g)(w:PE X a o)(hb:PE X b B):PE X (.IfExp c a b f) (tIf g o B):=by
 intro i s σ H Q I h;refine wpAny_IfExp (thn (hc i s σ H _ I h) fun d s1 ⟨l,u,q1⟩=>?_)
 cases d with
 | true=>exact w i s1 σ l Q u q1
 | false=>exact hb i s1 σ l Q u q1
end
def SqL(K:W.Frag)(H:Hp)(a:Addr)(c:List V):Prop:=
 Rd H a (.lst c) \/
  ∃(o:Obj) (b:Array Value) (n:Nat),K.lookup a=some o/\o.cls=.type "list" /\ o.dict=none/\o.data=.seq b n/\b.size<=sizeLine/\Vals c b.toList
def SqT(K:W.Frag)(H:Hp)(a:Addr)(c:List V):Prop:=
 Rd H a (.tup c) \/
  ∃(o:Obj) (b:Array Value) (n:Nat),K.lookup a=some o/\o.cls=.type "tuple" /\ o.data=.seq b n/\b.size<=sizeLine/\Vals c b.toList
def zhP:Value->Option V
 | .none=>some .non
 | .bool b=>some (.bl b)
 | .int i _=>some (.int i)
 | .str x _=>some (.str x)
 | .bytes b _=>some (.byt b)
 | .float b _=>some (.flt b)
 | .ref a=>some (.ref a)
 | .type n=>some (.ty n)
 | _=>none
theorem RelV.abs{x:V}{u:Value}(r:RelV x u):zhP u=some x:=by
 cases x with
 | non=>cases r;rfl
 | bl _=>cases r;rfl
 | int _=>obtain⟨t,rfl⟩:=r;rfl
 | str _=>obtain⟨t,rfl⟩:=r;rfl
 | byt _=>obtain⟨t,rfl⟩:=r;rfl
 | flt _=>obtain⟨t,rfl⟩:=r;rfl
 | ref _=>cases r;rfl
 | ty _=>cases r;rfl
theorem RelV.inj{x y:V}{u:Value}(r:RelV x u)(q:RelV y u):x=y:=j5 (r.abs.symm.trans q.abs)
theorem Vals.inj:∀{c f:List V} {b:List Value},Vals c b->Vals f b->c=f
 | _,_,_,.nil,.nil=>rfl
 | _,_,_,.cons r t,.cons g i=>by rw[r.inj g,Vals.inj t i]
section
variable{X:Cx}{b:List (Addr×Obj)}{σ:St}{H:Hp}{s:Shared}{a:Addr}{c f:List V}
theorem SqL.of{K:W.Frag}(h:H a=some (.lst c)):SqL K H a c:=.inl (.inl h)
def u3:=@SqL.of
theorem SqT.of{K:W.Frag}(h:H a=some (.tup c)):SqT K H a c:=.inl (.inl h)
def u5:=@SqT.of
theorem Inv.list(I:Inv X b σ H s)(h:SqL X.K H a c):∃g:List Value,Vals c g/\PlainL s.heap a g.toArray/\c.length<=sizeLine:=by
 rcases h with h | ⟨o,g,n,hk,hc,i,l,u,r⟩
 ·obtain⟨z,g,n,r,e⟩:=h.ok I.hok
  exact⟨g,r,⟨_,n,e,rfl,rfl,rfl⟩,z⟩
 ·refine⟨g.toList,r,⟨o,n,I.kIn a o hk,hc,i,by simpa using l⟩,?_⟩
  have e:=r.length;simp only[qX] at e;omega
theorem Inv.tuple(I:Inv X b σ H s)(h:SqT X.K H a c):∃g:List Value,Vals c g/\IsTup s.heap a g.toArray/\c.length<=sizeLine:=by
 rcases h with h | ⟨o,g,n,hk,hc,i,l,r⟩
 ·obtain⟨z,g,r,p⟩:=h.ok I.hok
  exact⟨g,r,p.1,z⟩
 ·refine⟨g.toList,r,⟨o,I.kIn a o hk,hc,n,by simpa using i⟩,?_⟩
  have e:=r.length;simp only[qX] at e;omega
theorem Inv.list_inj(I:Inv X b σ H s)(h:SqL X.K H a c)(A:SqL X.K H a f):c=f:=by
 obtain⟨i,r,⟨o,n,e,_,_,d⟩,_⟩:=I.list h;obtain⟨g,B,⟨E,D,u,_,_,l⟩,_⟩:=I.list A;rw[e] at u;cases u
 rw[d] at l;injection l with w _;have:i=g:=by simpa using congrArg Array.toList w
 subst this;exact r.inj B
theorem Inv.tuple_inj(I:Inv X b σ H s)(h:SqT X.K H a c)(A:SqT X.K H a f):c=f:=by
 obtain⟨i,r,⟨o,e,_,n,d⟩,_⟩:=I.tuple h;obtain⟨g,B,⟨E,u,_,D,l⟩,_⟩:=I.tuple A;rw[e] at u;cases u
 rw[d] at l;injection l with w _;have:i=g:=by simpa using congrArg Array.toList w
 subst this;exact r.inj B
end
abbrev Cx.wish(X:Cx)(E:Value->Shared->Prop):Cx:={ X with xe:=E }
abbrev Cx.nox(X:Cx):Cx:=X.wish fun _ _=>False
theorem Cx.Ok.wish{X:Cx}(ok:X.Ok)(E:Value->Shared->Prop):(X.wish E).Ok:=
 ⟨ok.mod,ok.kind,ok.glob,ok.blt,ok.above,ok.inj,ok.has,ok.cab,ok.hd,ok.frames,ok.stk,ok.exf,ok.bs,ok.bsz,ok.noex,ok.exfs,ok.funs,ok.frf⟩
theorem Cx.Ok.unwish{X:Cx}{E:Value->Shared->Prop}(ok:(X.wish E).Ok):X.Ok:=
 ⟨ok.mod,ok.kind,ok.glob,ok.blt,ok.above,ok.inj,ok.has,ok.cab,ok.hd,ok.frames,ok.stk,ok.exf,ok.bs,ok.bsz,ok.noex,ok.exfs,ok.funs,ok.frf⟩
section
variable{X:Cx}{b:List (Addr×Obj)}{σ:St}{H:Hp}{s:Shared}{E:Value->Shared->Prop}
theorem Inv.wish(I:Inv X b σ H s)(E:Value->Shared->Prop):Inv (X.wish E) b σ H s:=⟨I.ok.wish E,I.os,I.bare,I.base,I.loc,I.cell,I.free,I.freeC,I.pin,I.hok,I.len⟩
theorem Inv.unwish(I:Inv (X.wish E) b σ H s):Inv X b σ H s:=⟨I.ok.unwish,I.os,I.bare,I.base,I.loc,I.cell,I.free,I.freeC,I.pin,I.hok,I.len⟩
theorem SP.unwish{D:XF}{f:Flow}{i:Shared}(h:SP (X.wish E) b D f i):SP X b D f i:=by
 cases f with
 | next=>obtain⟨g,c,I,q⟩:=h;exact⟨g,c,I.unwish,q⟩
 | brk=>obtain⟨g,c,I,q⟩:=h;exact⟨g,c,I.unwish,q⟩
 | cont=>obtain⟨g,c,I,q⟩:=h;exact⟨g,c,I.unwish,q⟩
 | ret u=>obtain⟨v,g,c,I,r,q⟩:=h;exact⟨v,g,c,I.unwish,r,q⟩
theorem PE.nox{e:Expr}{t:TE}(h:PE X.nox e t):PE X e t:=fun b s σ H Q I g=>
 jC (h b s σ H Q (I.wish _) g) (fun _ _ ⟨v,c,f,r,q⟩=>⟨v,c,f.unwish,r,q⟩) fun _ _ z=>False.elim z
theorem PT.nox{e:Expr}{t:TT}(h:PT X.nox e t):PT X e t:=fun b s σ H Q I g=>
 jC (h b s σ H Q (I.wish _) g) (fun _ _ ⟨c,f,q⟩=>⟨c,f.unwish,q⟩) fun _ _ z=>False.elim z
theorem PSs.nox{st:List Stmt}{t:TS}(h:PSs X.nox st t):PSs X st t:=fun b s σ H D I c=>
 jC (h b s σ H D (I.wish _) c) (fun _ _ q=>q.unwish) fun _ _ z=>False.elim z
end
section
variable{X:Cx}{st:Stmt}{rest:List Stmt}{t u:TS}{e:Expr}{i:TE}{g:Pos}
def zf6:TS:=fun D σ H=>D.nx σ H
def zeT(t u:TS):TS:=fun D σ H=>t { D with nx:=u D } σ H
theorem zH:PSs X [] zf6:=fun _ _ σ H _ I h=>wpAny_execs_nil ⟨σ,H,I,h⟩
theorem zf(h1:PS X st t)(h2:PSs X rest u):PSs X (st::rest) (zeT t u):=by
 intro b s σ H D I h;refine wpAny_execs_cons (thn (h1 b s σ H { D with nx:=u D } I h) fun f s1 q=>?_)
 cases f with
 | next=>
  obtain⟨o,c,l,q⟩:=q;exact h2 b s1 o c D l q
 | ret v=>exact q
 | brk=>exact q
 | cont=>exact q
theorem zj(h1:PS X st t):PSs X [st] t:=by
 intro b s σ H D I h;refine wpAny_execs_cons (thn (h1 b s σ H D I h) fun f s1 q=>?_)
 cases f with
 | next=>exact wpAny_execs_nil q
 | ret v=>exact q
 | brk=>exact q
 | cont=>exact q
theorem Inv.quiet{b:List (Addr×Obj)}{σ:St}{H:Hp}{s:Shared}(I:Inv X b σ H s):interactive X.env=false:=by simp[interactive,I.ok.kind]
def zf7(i:TE):TS:=fun D σ H=>i σ H fun _ b=>D.nx σ b
theorem xM(l:PE X e i)(o:swapsWith e none g.line X.env=pure false:=by rfl):PS X (.Expr e g) (zf7 i):=by
 intro b s σ H D I h;exact wpAny_Expr_any (thn (l b s σ H _ I h) fun v s1 ⟨x,c,f,w,q1⟩=>⟨σ,c,f,q1⟩) I.quiet o
def zhp(i:TE):TS:=fun D σ H=>i σ H D.rt
theorem zq(l:PE X e i):PS X (.Return (some e) g) (zhp i):=by
 intro b s σ H D I h;exact wpAny_Return_some (thn (l b s σ H _ I h) fun v s1 ⟨x,c,f,o,q1⟩=>⟨x,σ,c,f,o,q1⟩)
def zhs(c:TT)(t u:TS):TS:=fun D σ H=>c σ H fun b f=>if b=true then t D σ f else u D σ f
theorem z6{c:Expr}{a b:List Stmt}{w:TT}(hc:PT X c w)(A:PSs X a t)(hb:PSs X b u):PS X (.If c a b g) (zhs w t u):=by
 intro f s σ H D I h;refine wpAny_If (thn (hc f s σ H _ I h) fun d s1 ⟨l,o,q1⟩=>?_)
 cases d with
 | true=>exact A f s1 σ l D o q1
 | false=>exact hb f s1 σ l D o q1
end
abbrev TG:=V->St->Hp->(St->Hp->Prop)->Prop
abbrev TGs:=List V->St->Hp->(St->Hp->Prop)->Prop
def PG(X:Cx)(b:Expr)(t:TG):Prop:=
 ∀(c:List (Addr×Obj)) (s:Shared) (σ:St) (H:Hp) (v:V) (u:Value) (Q:St->Hp->Prop),Inv X c σ H s->RelV v u->t v σ H Q ->
  wpAny (model X.prog X.w) X.A (assign b X.env u) (fun _ i=>∃g f,Inv X c g f i/\Q g f) X.xe s
def PGs(X:Cx)(o:List Expr)(t:TGs):Prop:=
 ∀(b:List (Addr×Obj)) (s:Shared) (σ:St) (H:Hp) (g:List V) (f:List Value) (Q:St->Hp->Prop),Inv X b σ H s->Vals g f->t g σ H Q ->
  wpAny (model X.prog X.w) X.A (assignInOrder ((assignEach o X.env).map (·.2)) f) (fun _ l=>∃i c,Inv X b i c l/\Q i c) X.xe s
abbrev zf0:=V->V->V->Hp->(Hp->Prop)->Prop
def zhj(X:Cx)(t:zf0):Prop:=
 ∀(b:List (Addr×Obj)) (s:Shared) (σ:St) (H:Hp) (o i v:V) (g f u:Value) (Q:Hp->Prop),Inv X b σ H s->RelV o g->RelV i f->RelV v u->t o i v H Q ->
  wpAny (model X.prog X.w) X.A (setItem g f u) (fun _ l=>∃c,Inv X b σ c l/\Q c) X.xe s
section
variable{X:Cx}{l:Pos}
def ZB(i:Nat):TG:=fun v σ H Q=>Q (σ.set i (some v)) H
theorem zG{i:Nat}{x:Str}(f:X.N.Nodup)(o:X.N[i]? =some x)(hx:Loc X.env.scope x)(g:X.fn x=true\/X.env.scope.names.lookup x=some .local:=by first| exact .inl rfl | exact .inr rfl | assumption):PG X (.Name x l) (ZB i):=by
 intro b s σ H v u Q I r h;exact wpAny_assign_Name (yn I f o hx r (fun w c=>⟨_,H,c,h⟩) g)
def zg7:TGs:=fun b σ H Q=>b=[]/\Q σ H
inductive YT(t:TG)(u:TGs)(b:List V)(σ:St)(H:Hp)(Q:St->Hp->Prop):Prop
 | mk (v r:_) (_:b=v::r) (_:t v σ H fun f c=>u r f c Q):YT t u b σ H Q
theorem jZ:PGs X [] zg7:=by
 intro b s σ H f c Q I r h;obtain⟨e,h⟩:=h;subst e;cases r;exact assignInOrder_nil ⟨σ,H,I,h⟩
theorem zI{e:Expr}{c:List Expr}{t:TG}{u:TGs}(h1:PG X e t)(h2:PGs X c u)
  (i:(assignEach (e::c) X.env).map (·.2)=assign e X.env::(assignEach c X.env).map (·.2):=by rfl):PGs X (e::c) (YT t u):=by
 intro b s σ H D A Q I r h;obtain⟨v,B,e1,h⟩:=h;subst e1;cases r with
 | cons r o=>
  rw[i];refine assignInOrder_cons (thn (h1 b s σ H _ _ _ I r h) fun _ s1 ⟨w,f,g,q1⟩=>?_)
  exact h2 b s1 w f _ _ Q g o q1
inductive zfJ(K:W.Frag)(n:Nat)(t:TGs)(v:V)(σ:St)(H:Hp)(Q:St->Hp->Prop):Prop
 | mk (a b:_) (_:v=.ref a) (_:SqT K H a b) (_:b.length=n) (_:t b σ H Q):zfJ K n t v σ H Q
theorem xH{f:List Expr}{k:Nat}{t:TGs}{n:Nat}(hc:X.calm=true)(h:PGs X f t)
  (E:(assignEach f X.env).length=n:=by rfl) (g:(assignEach f X.env).findIdx? (·.1)=none:=by rfl):PG X (.Tuple f k l) (zfJ X.K n t):=by
 intro c s σ H v u Q I r i;obtain⟨a,L,e1,hq,D,i⟩:=i;subst e1;cases r;obtain⟨J,w,G,M⟩:=I.tuple hq;refine assign_Tuple_tuple (I.ok.hd hc) G (by simp[E,<- D,w.length]) g fun B hx=>?_
 have A:Inv X c σ H { s with heap:=B }:=I.kept (t':=s.toks) fun b o e=>hx b o (qz (zO e)) e
 exact h c _ σ H L _ Q A (by simpa using w) i
def zhJ(to g:TE)(t:zf0):TG:=fun v σ H Q=>to σ H fun o b=>g σ b fun i c=>t o i v c fun f=>Q σ f
theorem J0{o i:Expr}{to g:TE}{t:zf0}(M:PE X o to)(L:PE X i g)(N:zhj X t)
  (J:∀v,assign (.Subscript o i l) X.env v=(do
   let c<-holding [v] (eval o X.env)
   let f<-holding [v,c] (eval i X.env)
   standAt l
   holding [v,c,f] (setItem c f v)
   release [v,c,f] []):=by intro _;rfl):PG X (.Subscript o i l) (zhJ to g t):=by
 intro b s σ H v u Q I r h;rw[J];refine zn (jR (thn (M b s σ H _ I h) fun c s1 ⟨x,w,D,O,q1⟩=>?_))
 refine zn (jR (thn (L b s1 σ w _ D q1) fun f s2 ⟨y,A,E,T,q2⟩=>?_))
 refine zn (wV (zn (jR (thn (N b s2 σ A x y v c f u _ E O T r q2) fun _ U ⟨B,G,q3⟩=>?_))))
 exact wpAny_release ⟨σ,B,G,q3⟩
def zdd(c:TE)(g:TG):TS:=fun D σ H=>c σ H fun x b=>g x σ b D.nx
theorem xG{c e:Expr}{f:TE}{g:TG}(u:PE X e f)(w:PG X c g)(A:swapsWithSole [c] e l.line X.env=pure false:=by rfl)(B:swappedStores [c] e X.env=pure none:=by rfl)
  (h1:(assignEach [c] X.env).map (·.2)=[assign c X.env]:=by rfl):PS X (.Assign [c] e l) (zdd f g):=by
 intro b s σ H D I h;refine wpAny_Assign_stores (thn (u b s σ H _ I h) fun v s1 ⟨x,i,o,E,q1⟩=>?_) A B
 rw[h1];exact thn (w b s1 σ i x v _ o E q1) fun _ s2 q=>q
theorem zA{i:Nat}{x:Str}{e:Expr}{f:TE}{b:Pos}(w:X.N.Nodup)(E:X.N[i]? =some x)(hx:Loc X.env.scope x)(A:PE X e f)(G:swapsWith e (some (.Name x b)) l.line X.env=pure false:=by rfl)(B:X.fn x=true\/X.env.scope.names.lookup x=some .local:=by first| exact .inl rfl | exact .inr rfl | assumption) :
  PS X (.Assign [.Name x b] e l) (zdd f (ZB i)):=by
 intro c s σ H D I h;refine wpAny_Assign_Name (thn (A c s σ H _ I h) fun v s1 ⟨y,g,o,J,q1⟩=>?_) G
 exact yn o w E hx J (fun s2 u=>⟨_,g,u,q1⟩) B
def zhq(i j:Nat)(c:TA):TS:=fun D σ H=>c σ H fun f b=>zhl f b fun v w b=>D.nx ((σ.set i (some v)).set j (some w)) b
theorem Qb{i j:Nat}{x y:Str}{a b:Expr}{Y:TA}{L M J:Pos}{G E f}(hc:X.calm=true)(U:X.N.Nodup)(hi:X.N[i]? =some x)(hj:X.N[j]? =some y)(A:i≠j)
  (hx:X.env.scope.names.lookup x=some .local) (hy:X.env.scope.names.lookup y=some .local) (ha:PA X [a,b] Y)
  (hw:swappedStores [.Tuple [.Name x L,.Name y M] G J] (.Tuple [a,b] E f) X.env=pure (some [x,y]))
  (hs:swapsWithSole [.Tuple [.Name x L,.Name y M] G J] (.Tuple [a,b] E f) l.line X.env=pure false:=by rfl) :
  PS X (.Assign [.Tuple [.Name x L,.Name y M] G J] (.Tuple [a,b] E f) l) (zhq i j Y):=by
 intro c s σ H D I h;rw[exec_Assign_arm];refine zn (wV ?_)
 rw[hs];refine zn (zy ?_)
 rw[zB (by decide)]
 refine zn (Tuple_ (thn (ha _ c s σ H _ I h) fun us s1 ⟨vs,O,I1,r1,q1⟩=>?_))
 obtain⟨v,w,e1,q1⟩:=q1;subst e1;obtain⟨g,u,rfl,rv,N⟩:∃g u,us=[g,u]/\RelV v g/\RelV w u:=by
  cases r1 with
  | cons p q=>
   cases q with
   | cons p' q'=>
    cases q';exact⟨_,_,rfl,p,p'⟩
 refine yK ?_ (by show 2<=sizeLine;decide)
 have I2:Inv X c σ O { s1 with heap:=s1.heap.push { cls:=.type "tuple",data:=.seq [g,u].toArray } }:=I1.kept (t':=s1.toks) fun b o e=>qw _ e
 rw[hw];refine zn (zy ?_)
 show wpAny (model X.prog X.w) X.A (do rule "assign.swapped-stores";let items<-unpackItems (.ref s1.heap.objs.size) 2 none;assignInOrder [fun v=>bindName X.env y v,fun v=>bindName X.env x v] items.reverse;pure Flow.next) _ _ _
 refine zn (vC (zn (unpackItems_tuple (items:=#[g,u]) (I.ok.hd hc) (Ze s1.heap _) fun T B=>?_)))
 have I3:=I2.kept (h':=T) (t':=s1.toks) fun b o e=>B b o (qz (zO e)) e
 show wpAny _ _ (assignInOrder [fun v=>bindName X.env y v,fun v=>bindName X.env x v] [u,g] >>= fun _=>pure Flow.next) _ _ _
 refine zn (assignInOrder_cons (wpAny_bindName (yn I3 U hj (.inl hy) N (fun s2 I4=>?_) (.inr hy))))
 refine assignInOrder_cons (wpAny_bindName (yn I4 U hi (.inl hx) rv (fun s3 Q=>assignInOrder_nil (zy ?_)) (.inr hx)))
 rw[List.set_comm _ _ (qA A)] at Q;exact⟨_,O,Q,q1⟩
def zeR(c:TT)(s:TS):TS:=fun D σ H=>∃W:Nat->St->Hp->Prop,(∃m,W m σ H)/\∀m σ H,W m σ H ->
 c σ H fun b g=>if b=true then ∃N:St->Hp->Prop,(∀o f,N o f->∃i,i<m/\W i o f)/\s { D with nx:=N,ct:=N,bk:=D.nx } σ g else D.nx σ g
theorem Vb{c:Expr}{body:List Stmt}{Y:TT}{U:TS}(hp:PassesOwn (model X.prog X.w) X.A X.env X.xe)(hc:PT X c Y)(hb:PSs X body U):PS X (.While c body [] l) (zeR Y U):=by
 intro g s σ H D I h;obtain⟨W,⟨m0,w0⟩,o⟩:=h;refine wpAny_While (codeAny_whileLoop (fun n s'=>∃σ' L,Inv X g σ' L s'/\W n σ' L) ?_ m0 ⟨σ,H,I,w0⟩)
 rintro n s1 ⟨w,M,I1,w1⟩;refine wZ hp (thn (hc g s1 w M _ I1 (o n w M w1)) fun b s2 ⟨O,Q,q2⟩=>?_)
 cases b with
 | true=>
  obtain⟨N,T,q2⟩:=q2;rw[zF rfl];refine wZ hp (thn (hb g s2 w O _ Q q2) fun f s3 q3=>?_)
  cases f with
  | next=>
   obtain⟨u,i,A,G⟩:=q3;obtain⟨E,B,J⟩:=T u i G;exact⟨E,B,u,i,A,J⟩
  | cont=>
   obtain⟨u,i,A,G⟩:=q3;obtain⟨E,B,J⟩:=T u i G;exact⟨E,B,u,i,A,J⟩
  | brk=>exact q3
  | ret v=>exact q3
 | false=>
  rw[zB jG];exact wpAny_execs_nil ⟨w,O,Q,q2⟩
end
structure It where
 go:Nat->Hp->Prop
 yld:Nat->Hp->V->Hp->Prop
 stop:Nat->Hp->Prop
def vc(X:Cx)(f:List (Addr×Obj))(H:Hp)(b:Addr):Prop:=
 H b=none/\b≠X.env.locals/\b∉X.fs/\(b∈X.ex\/X.s₀.heap.objs.size<=b)/\(∀x c,X.env.cells.lookup x=some c->c≠b)/\∀p∈X.pn++f,p.1≠b
theorem Inv.fpOk{X:Cx}{f:List (Addr×Obj)}{σ:St}{H g:Hp}{s:Shared}{b:Addr}(I:Inv X f σ H s)(hb:s.heap.objs.size<=b)(i:g b=none):vc X f g b:=by
 refine⟨i,wt (jS I.lt hb),I.nofs hb,.inr (qk I.sz hb),fun x c e z=>?_,fun p hp z=>?_⟩
 ·obtain⟨v,q⟩:=I.cell x c e
  exact absurd (jS q.lt (by rw[z];exact hb)) (xK _)
 ·exact absurd (jS (zO (I.pin p hp).1) (by rw[z];exact hb)) (xK _)
structure Q7(P:Program)(w:World)(K:W.Frag)(tg:Expr)(J:It)(fp:List Addr)(it:Addr)(tn:Nat->Heap->Prop):Prop where
 mem:it∈fp
 obj:∀i h,tn i h->∀b∈fp,∃o,h.get? b=some o/\∀v,o.data≠.cell v
 keep:∀i h h',tn i h->(∀b∈fp,∀o,h.get? b=some o->h'.get? b=some o)->tn i h'
 item:∀(X:Cx),X.prog=P->X.w=w->X.K=K->X.calm=true->∀(i:Nat) (pins:List (Addr×Obj)) (s:Shared) (σ:St) (H:Hp) (E:Value->Shared->Prop),Inv X pins σ H s->(∀b∈fp,vc X pins H b)->tn i s.heap->J.go i H ->
  wpAny (model P w) X.A (pyNext (.ref it)) (fun r s1=>∃u,r=some u /\
   wpAny (model P w) X.A (letOwnedTupleGo tg (.ref it) u) (fun _ s2=>∃x H',Inv X pins σ H' s2/\RelV x u/\J.yld i H x H'/\tn (i+1) s2.heap/\∀b∈fp,H' b=none) E s1) E s
 done:∀(X:Cx),X.prog=P->X.w=w->X.K=K->X.calm=true->∀(i:Nat) (pins:List (Addr×Obj)) (s:Shared) (σ:St) (H:Hp) (E:Value->Shared->Prop),Inv X pins σ H s->(∀b∈fp,vc X pins H b)->tn i s.heap->J.stop i H ->
  wpAny (model P w) X.A (pyNext (.ref it)) (fun r s1=>r=none/\Inv X pins σ H s1) E s
 self:∀(A:Around) (i:Nat) (s:Shared) (Q:Value->Shared->Prop) (E:Value->Shared->Prop),tn i s.heap->Q (.ref it) s->wpAny (model P w) A (pyIter (.ref it)) Q E s
abbrev TI:=St->Hp->(It->Hp->Prop)->Prop
def PIE(X:Cx)(c:List (Addr×Obj))(σ:St)(s:Expr)(R:It->Hp->Prop)(g:Value)(s2:Shared):Prop:=
 ∃(l:Addr) (i:List Addr) (o:Nat->Heap->Prop) (J:It) (f:Hp),g=.ref l/\Inv X c σ f s2/\Q7 X.prog X.w X.K s J i l o/\o 0 s2.heap/\(∀b∈i,vc X c f b)/\R J f
def PI(X:Cx)(f c:Expr)(g:TI):Prop:=
 ∀(b:List (Addr×Obj)) (s:Shared) (σ:St) (H:Hp) (R:It->Hp->Prop),Inv X b σ H s->g σ H R ->
  wpAny (model X.prog X.w) X.A (eval c X.env) (fun v s1=>wpAny (model X.prog X.w) X.A (pyIter v) (PIE X b σ f R) X.xe s1) X.xe s
theorem Vz{M:Model}{A:Around}{E:Value->Shared->Prop}{s:Shared}{f:Expr}{c:Addr}{u:Value}{o:Obj}{n:String}{g:Array Value}{Q:Unit->Shared->Prop}(w:s.heap.get? c=some o)(hc:o.cls=.type n)(i:o.data=.fields g)
  (l:["enumerate", "zip", "dict_itemiterator", "dict_reverseitemiterator", "odict_iterator", "itertools.zip_longest", "itertools.pairwise"].contains n=false) (b:Q () s):wpAny M A (letOwnedTupleGo f (.ref c) u) Q E s:=by
 unfold letOwnedTupleGo;cases f<;>first
  | exact zy b
  | (cases u<;>first
    | exact zy b
    | (refine zn (wpAny_load w ?_)
       rw[hc,i];show wpAny M A (if(["enumerate", "zip", "dict_itemiterator", "dict_reverseitemiterator", "odict_iterator", "itertools.zip_longest", "itertools.pairwise"].contains n&&g[0]? ==some (rawInt _))=true then _ else _) Q E s
       rw[zB (by intro h;rw[l,vg] at h;cases h)]
       exact zy b))
def Itl(K:W.Frag)(a:Addr):It:=
 ⟨fun i H=>∃b x,SqL K H a b/\b[i]? =some x,fun i H x c=>c=H/\∀b,SqL K H a b->b[i]? =some x,fun i H=>∃b,SqL K H a b/\b.length<=i⟩
def Itt(K:W.Frag)(a:Addr):It:=
 ⟨fun i H=>∃b x,SqT K H a b/\b[i]? =some x,fun i H x c=>c=H/\∀b,SqT K H a b->b[i]? =some x,fun i H=>∃b,SqT K H a b/\b.length<=i⟩
def Itr(lo:Int)(n:Nat):It:=⟨fun i _=>i<n,fun i H x b=>b=H/\x=.int (lo+i),fun i _=>n<=i⟩
theorem Jd{P:Program}{w:World}{K:W.Frag}{tg:Expr}(a g:Addr):Q7 P w K tg (Itl K a) [g] g (fun i h=>h.IsListIter g a i) where
 mem:=by simp
 obj:=fun i h st b hb=>by
  have e:b=g:=by simpa using hb
  subst e;obtain⟨o,e,c,d⟩:=st;exact⟨o,e,fun v z=>by rw[d] at z;cases z⟩
 keep:=fun i h A st k=>st.at fun o e=>k g (by simp) o e
 item:=by
  intro X O T N hc i f s σ H E I B st Q;subst O T N;obtain⟨xs,x,hq,hx⟩:=Q;obtain⟨U,Y,p,hz⟩:=I.list hq;obtain⟨u,hu,ru⟩:=Y.get hx;obtain⟨D,G,f2,J,L,M⟩:=B g (by simp)
  refine wpAny_pyNext_list_item st p.isList (x:=u) (by simpa using hu) fun A l sb=>?_
  have I1:Inv X f σ H { s with heap:=A }:=I.turned (t':=s.toks) (fun b o hb e=>(sb.2 b hb).trans e) D G J L M
  obtain⟨o,e,c,d⟩:=id l;exact⟨u,rfl,Vz (s:={ s with heap:=A }) e c d (by decide) ⟨x,H,I1,ru,⟨rfl,fun ys hy=>by rw[I.list_inj hy hq];exact hx⟩,l,fun b hb=>(B b hb).1⟩⟩
 done:=by
  intro X O T N hc i f s σ H E I B st Q;subst O T N;obtain⟨xs,hq,hx⟩:=Q;obtain⟨U,Y,p,hz⟩:=I.list hq;obtain⟨D,G,f2,J,L,M⟩:=B g (by simp)
  have hl:=Y.length;exact wpAny_pyNext_list_end (I.ok.hd hc) st p.isList (by simp;omega) fun A eb=>⟨rfl,I.turned (t':=s.toks) (fun b o hb e=>eb b o hb e) D G J L M⟩
 self:=fun _ _ _ _ _ st h=>wpAny_pyIter_listiter st h
theorem ZZ{P:Program}{w:World}{K:W.Frag}{tg:Expr}(a g:Addr):Q7 P w K tg (Itt K a) [g] g (fun i h=>h.IsTupleIter g a i) where
 mem:=by simp
 obj:=fun i h st b hb=>by
  have e:b=g:=by simpa using hb
  subst e;obtain⟨o,e,c,d⟩:=st;exact⟨o,e,fun v z=>by rw[d] at z;cases z⟩
 keep:=fun i h B st k=>st.at fun o e=>k g (by simp) o e
 item:=by
  intro X Q U O hc i f s σ H E I D st T;subst Q U O;obtain⟨xs,x,hq,hx⟩:=T;obtain⟨l,Y,p,hz⟩:=I.tuple hq;obtain⟨u,hu,ru⟩:=Y.get hx;obtain⟨G,J,f2,L,M,N⟩:=D g (by simp)
  refine wpAny_pyNext_tuple_item st (show s.heap.IsTuple a l.toArray from p) (x:=u) (by simpa using hu) fun B A sb=>?_
  have I1:Inv X f σ H { s with heap:=B }:=I.turned (t':=s.toks) (fun b o hb e=>(sb.2 b hb).trans e) G J L M N
  obtain⟨o,e,c,d⟩:=id A;exact⟨u,rfl,Vz (s:={ s with heap:=B }) e c d (by decide) ⟨x,H,I1,ru,⟨rfl,fun ys hy=>by rw[I.tuple_inj hy hq];exact hx⟩,A,fun b hb=>(D b hb).1⟩⟩
 done:=by
  intro X Q U O hc i f s σ H E I D st T;subst Q U O;obtain⟨xs,hq,hx⟩:=T;obtain⟨l,Y,p,hz⟩:=I.tuple hq;obtain⟨G,J,f2,L,M,N⟩:=D g (by simp)
  have hl:=Y.length;exact wpAny_pyNext_tuple_end (I.ok.hd hc) st (show s.heap.IsTuple a l.toArray from p) (by simp;omega) fun B eb=>⟨rfl,I.turned (t':=s.toks) (fun b o hb e=>eb b o hb e) G J L M N⟩
 self:=fun _ _ _ _ _ st h=>wpAny_pyIter_tupleiter st h
theorem VS{P:Program}{w:World}{K:W.Frag}{tg:Expr}(c:Addr)(lo:Int)(n:Nat):Q7 P w K tg (Itr lo n) [c] c (fun i h=>IsRangeIter h c (lo+(i:Nat)*1) ((n:Int)-(i:Nat)) 1) where
 mem:=by simp
 obj:=fun i h st b hb=>by
  have e:b=c:=by simpa using hb
  subst e;exact⟨_,st,fun v z=>by
   have z':Data.fields _=Data.cell v:=z;cases z'⟩
 keep:=fun i h l st k=>k c (by simp) _ st
 item:=by
  intro X M O L hc i f s σ H E I u st N;subst M O L;obtain⟨A,B,f2,D,G,J⟩:=u c (by simp)
  have W:=Walks.range (prog:=X.prog) (w:=X.w) (I.ok.hd hc) c lo 1 n;refine W.item i s _ _ N st fun v l T hv g kk=>?_
  obtain⟨t,rfl⟩:=hv;have U:Inv X f σ H { s with heap:=l,toks:=T }:=I.turned (fun b o hb e=>kk b o (by simpa using hb) e) A B D G J
  refine⟨_,rfl,Vz (s:={ s with heap:=l,toks:=T }) (n:= "range_iterator") g rfl rfl (by decide) ⟨.int (lo+i),H,U,⟨t,?_⟩,⟨rfl,rfl⟩,g,fun b hb=>(u b hb).1⟩⟩
  rw[Int.mul_one]
 done:=by
  intro X M O L hc i f s σ H E I u st N;subst M O L;obtain⟨A,B,f2,D,G,J⟩:=u c (by simp)
  exact wpAny_pyNext_range_end (I.ok.hd hc) st (by have:n<=i:=N;omega) fun l Y=>⟨rfl,I.turned (t':=s.toks) (fun b o hb e=>Y b o hb e) A B D G J⟩
 self:=fun _ _ _ _ _ st h=>wpAny_pyIter_rangeiter st h
section
variable{X:Cx}{c:Expr}
inductive InL(K:W.Frag)(x:V)(H:Hp)(R:It->Hp->Prop):Prop
 | mk (a:Addr) (h:x=.ref a) (e:∃b,SqL K H a b) (r:R (Itl K a) H):InL K x H R
inductive InT(K:W.Frag)(x:V)(H:Hp)(R:It->Hp->Prop):Prop
 | mk (a:Addr) (h:x=.ref a) (e:∃b,SqT K H a b) (r:R (Itt K a) H):InT K x H R
def zg5(K:W.Frag)(f:TE):TI:=fun σ H R=>f σ H fun x b=>InL K x b R
def zg3(K:W.Frag)(f:TE):TI:=fun σ H R=>f σ H fun x b=>InT K x b R
theorem xN{l:Expr}{i:TE}(w:PE X l i):PI X c l (zg5 X.K i):=by
 intro f s σ H R I h;refine thn (w f s σ H _ I h) fun v s1 ⟨x,u,g,B,q1⟩=>?_
 obtain⟨a,e,⟨J,hq⟩,q⟩:=q1;subst e;cases B;obtain⟨A,E,p,D⟩:=g.list hq;refine wpAny_pyIter_list p.isList ?_
 refine⟨s1.heap.objs.size,[s1.heap.objs.size],_,_,u,rfl,g.kept (t':=s1.toks) fun b o e=>qw _ e,Jd a _,⟨_,qH _ rfl,rfl,rfl⟩,fun b hb=>?_,q⟩
 have e:b=s1.heap.objs.size:=by simpa using hb
 subst e;exact g.fpOk (zi _) (g.hok.fresh (zi _))
theorem jI{l:Expr}{u:TE}(A:PE X l u):PI X c l (zg3 X.K u):=by
 intro f s σ H R I h;refine thn (A f s σ H _ I h) fun v s1 ⟨x,w,g,B,q1⟩=>?_
 obtain⟨a,e,⟨J,hq⟩,q⟩:=q1;subst e;cases B;obtain⟨i,E,p,D⟩:=g.tuple hq;refine wpAny_pyIter_tuple (show s1.heap.IsTuple a i.toArray from p) ?_
 refine⟨s1.heap.objs.size,[s1.heap.objs.size],_,_,w,rfl,g.kept (t':=s1.toks) fun b o e=>qw _ e,ZZ a _,⟨_,qH _ rfl,rfl,rfl⟩,fun b hb=>?_,q⟩
 have e:b=s1.heap.objs.size:=by simpa using hb
 subst e;exact g.fpOk (zi _) (g.hok.fresh (zi _))
theorem zbX{g:List (Addr×Obj)}{σ:St}{H:Hp}{s:Shared}{R:It->Hp->Prop}{E:Value->Shared->Prop}{lo f:Int}{t u v:Tok}{l:Nat}(I:Inv X g σ H s)(h1:-(2^62)<=lo)(h2:lo<2^62)(h3:-(2^62)<=f)(w:f<2^62)
  (q:R (Itr lo (f-lo).toNat) H):wpAny (model X.prog X.w) X.A (pyIter (.ref s.heap.objs.size)) (PIE X g σ c R) E { s with heap:=s.heap.push { cls:=.type "range",data:=.fields #[.int lo t,.int f u,.int 1 v] },toks:=l }:=by
 refine wpAny_pyIter_range (IsRange.new ..) (small_one h1 h2 h3 w) ?_
 have i:Inv X g σ H { s with heap:=s.heap.push { cls:=.type "range",data:=.fields #[.int lo t,.int f u,.int 1 v] },toks:=l }:=I.kept fun b o e=>qw _ e
 refine⟨(s.heap.push { cls:=.type "range",data:=.fields #[.int lo t,.int f u,.int 1 v] }).objs.size,[(s.heap.push { cls:=.type "range",data:=.fields #[.int lo t,.int f u,.int 1 v] }).objs.size],_,_,H,rfl,
  i.kept (t':=l) fun b o e=>qw _ e,VS _ lo (f-lo).toNat,?_,fun b hb=>?_,q⟩
 ·have e1:lo+((0:Nat):Int)*1=lo:=by simp
  have e2:(((f-lo).toNat:Nat):Int)-((0:Nat):Int)=Builtin.Range.rangeSize lo f 1:=by rw[rangeSize_one];split<;>omega
  show IsRangeIter _ _ (lo+((0:Nat):Int)*1) ((((f-lo).toNat:Nat):Int)-((0:Nat):Int)) 1;rw[e1,e2];exact qH _ rfl
 ·have e:b=(s.heap.push { cls:=.type "range",data:=.fields #[.int lo t,.int f u,.int 1 v] }).objs.size:=by simpa using hb
  subst e;exact i.fpOk (zi _) (i.hok.fresh (zi _))
inductive zhm(b:List V)(H:Hp)(R:It->Hp->Prop):Prop
 | mk (j:Int) (h:b=[.int j]) (h1:-(2^62)<=j) (h2:j<2^62) (r:R (Itr 0 j.toNat) H):zhm b H R
def zg4(f:TA):TI:=fun σ H R=>f σ H fun g b=>zhm g b R
theorem qG{a:Expr}{g:TA}{p f:Pos}(o:Gl X "range")(u:X.mg "range" = none)(l:PA X [a] g)(w:starEach [a] X.env=[(false,eval a X.env)]:=by rfl):PI X c (.Call (.Name "range" p) [a] [] f) (zg4 g):=by
 intro b s σ H R I h;refine Call_ (vI I o u boot_range (JN (thn (l f b s σ H _ I h) fun E s1 ⟨G,D,i,A,q1⟩=>?_) w rfl))
 obtain⟨j,e,q1,q2,q⟩:=q1;subst e;cases A with
 | cons r B=>
  cases B;obtain⟨t,rfl⟩:=r;exact call_range_1 (zbX i (by omega) (by omega) q1 q2 (by simpa using q))
def zht(w:TI)(g:TG)(u:TS):TS:=fun D σ H=>w σ H fun J o=>∃W:Nat->Nat->St->Hp->Prop,(∃m,W 0 m σ o)/\∀i m σ H,W i m σ H ->
 (J.stop i H/\D.nx σ H)\/(J.go i H/\∃N:St->Hp->Prop,(∀l b,N l b->∃f,f<m/\W (i+1) f l b)/\∀x b,J.yld i H x b->g x σ b fun A s=>u { D with nx:=N,ct:=N,bk:=D.nx } A s)
def jg(f:List Addr)(h:Heap):List (Addr×Obj):=f.filterMap fun b=>(h.get? b).map fun o=>(b,o)
theorem xB{f:List Addr}{h:Heap}{b:Addr}{o:Obj}(hb:b∈f)(e:h.get? b=some o):(b,o)∈jg f h:=ZF.mpr ⟨b,hb,by rw[e];rfl⟩
theorem yQ{f:List Addr}{h:Heap}{p:Addr×Obj}(hp:p∈jg f h):p.1∈f/\h.get? p.1=some p.2:=by
 obtain⟨b,hb,e⟩:=ZF.mp hp;cases q:h.get? b with
 | none=>rw[q] at e;cases e
 | some o=>
  rw[q] at e;have g:(b,o)=p:=j5 e;subst g;exact⟨hb,q⟩
theorem Inv.pinned{f:List (Addr×Obj)}{σ:St}{H:Hp}{s:Shared}{fp:List Addr}(I:Inv X f σ H s)(w:∀b∈fp,vc X f H b)(A:∀b∈fp,∃o,s.heap.get? b=some o/\∀v,o.data≠.cell v):Inv X (f++jg fp s.heap) σ H s:=
 I.pins_of fun p hp=>(ju.mp hp).elim (fun z=>I.pin p (jT _ z)) fun z=>by
  obtain⟨hb,e⟩:=yQ z;obtain⟨i,l,u,_⟩:=w p.1 hb;obtain⟨o,g,d⟩:=A p.1 hb;rw[e] at g;cases g
  exact⟨e,i,l,u,d⟩
theorem Inv.unpinned{b f:List (Addr×Obj)}{σ:St}{H:Hp}{s:Shared}(I:Inv X (b++f) σ H s):Inv X b σ H s:=I.pins_of fun p hp=>I.pin p (jT _ (vm _ hp))
theorem jH{B:Expr}{body:List Stmt}{wi:TI}{g:TG}{tb:TS}{aa:Pos}(hp:PassesOwn (model X.prog X.w) X.A X.env X.xe)(hc:X.calm=true)(hi:PI X c B wi)(hg:PG X c g)(hb:PSs X body tb)
  (hs:∀x,foldedSetIterable B X.env x=pure x:=by intro _;rfl):PS X (.For c B body [] aa) (zht wi g tb):=by
 intro l s σ H D I h;refine wpAny_For (thn (hi l s σ H _ I h) fun v s1 h1=>thn h1 fun ac s2 h2=>?_) hs
 obtain⟨it,Q,tn,J,H2,e,I2,T,ab,f2,W,⟨m0,w0⟩,a7⟩:=h2;subst e;have E:∀{L:Hp},(∀b∈Q,L b=none)->∀b∈Q,vc X l L b:=fun hn b hb=>⟨hn b hb,(f2 b hb).2⟩
 refine codeAny_forLoop_any (fun n s'=>∃i σ' L,Inv X l σ' L s'/\tn i s'.heap/\(∀b∈Q,L b=none)/\W i n σ' L) ?_ m0 ⟨0,σ,H2,I2,ab,fun b hb=>(f2 b hb).1,w0⟩
 rintro n s3 ⟨i,σ3,H3,I3,a6,U,w3⟩;rcases a7 i n σ3 H3 w3 with ⟨stop,qn⟩ | ⟨go,N,hN,step⟩
 ·refine wZ hp (thn (T.done X rfl rfl rfl hc i l s3 σ3 H3 X.xe I3 (E U) a6 stop) fun r s4 ⟨hr,I4⟩=>?_)
  subst hr;exact wpAny_execs_nil ⟨σ3,H3,I4,qn⟩
 ·refine wZ hp (thn (T.item X rfl rfl rfl hc i l s3 σ3 H3 X.xe I3 (E U) a6 go) fun r s4 ⟨u,hr,h4⟩=>?_)
  subst hr;refine wZ hp (thn h4 fun _ s5 ⟨x,H5,I5,r5,y5,O,a9⟩=>?_)
  have a8:=I5.pinned (E a9) (T.obj _ _ O);refine wZ hp (thn (hg _ s5 σ3 H5 x u _ a8 r5 (step x H5 y5)) fun _ s6 ⟨σ6,H6,I6,q6⟩=>?_)
  refine wZ hp (thn (hb _ s6 σ6 H6 _ I6 q6) fun f s7 M=>?_)
  have again:∀{G:St} {w:Hp},Inv X (l++jg Q s5.heap) G w s7->N G w->∃m,m<n/\∃i σ' L,Inv X l σ' L s7/\tn i s7.heap/\(∀b∈Q,L b=none)/\W i m σ' L:=fun {G w} A Y=>by
   obtain⟨m',hm,w7⟩:=hN G w Y;refine⟨m',hm,i+1,G,w,A.unpinned,T.keep _ _ _ O fun b hb o e=>(A.pin (b,o) (jT _ (jT _ (xB hb e)))).1,fun b hb=>?_,w7⟩
   obtain⟨o,e,d⟩:=T.obj _ _ O b hb;exact(A.pin (b,o) (jT _ (jT _ (xB hb e)))).2.1
  cases f with
  | next=>obtain⟨G,w,A,Y⟩:=M;exact again A Y
  | cont=>obtain⟨G,w,A,Y⟩:=M;exact again A Y
  | brk=>obtain⟨G,w,A,M⟩:=M;exact⟨G,w,A.unpinned,M⟩
  | ret v=>obtain⟨x7,G,w,A,r7,M⟩:=M;exact⟨x7,G,w,A.unpinned,r7,M⟩
end
theorem wb{K:W.Frag}{a:Addr}{xs:List V}{g:TG}{u:TS}{D:XF}{σ:St}{H:Hp}(Pv:Nat->St->Hp->Prop)(h0:Pv 0 σ H)(B:∀i σ H,i<=xs.length->Pv i σ H->SqL K H a xs)
  (E:∀i x σ H,xs[i]? =some x->Pv i σ H->g x σ H fun o f=>u { D with nx:=Pv (i+1),ct:=Pv (i+1),bk:=D.nx } o f) (w:∀σ H,Pv xs.length σ H->D.nx σ H) :
  ∃W:Nat->Nat->St->Hp->Prop,(∃m,W 0 m σ H)/\∀i m σ H,W i m σ H ->
   ((Itl K a).stop i H/\D.nx σ H)\/((Itl K a).go i H/\∃N:St->Hp->Prop,(∀l b,N l b->∃s,s<m/\W (i+1) s l b)/\∀x b,(Itl K a).yld i H x b->g x σ b fun o f=>u { D with nx:=N,ct:=N,bk:=D.nx } o f):=by
 refine⟨fun i m σ H=>m=xs.length-i/\i<=xs.length/\Pv i σ H,⟨xs.length,by simp,zY _,h0⟩,?_⟩
 rintro i m σ H ⟨rfl,A,p⟩;have q:=B i σ H A p;by_cases c:i<xs.length
 ·refine .inr ⟨⟨xs,xs[i],q,by simp[c]⟩,Pv (i+1),fun l b G=>⟨xs.length-(i+1),by omega,rfl,c,G⟩,fun x b y=>?_⟩
  obtain⟨e,y⟩:=y;subst e;exact E i x σ _ (y xs q) p
 ·have e:i=xs.length:=by omega
  subst e;exact .inl ⟨⟨xs,q,zi _⟩,w σ H p⟩
theorem zdV{K:W.Frag}{a:Addr}{xs:List V}{g:TG}{u:TS}{D:XF}{σ:St}{H:Hp}(Pv:Nat->St->Hp->Prop)(h0:Pv 0 σ H)(B:∀i σ H,i<=xs.length->Pv i σ H->SqT K H a xs)
  (E:∀i x σ H,xs[i]? =some x->Pv i σ H->g x σ H fun o f=>u { D with nx:=Pv (i+1),ct:=Pv (i+1),bk:=D.nx } o f) (w:∀σ H,Pv xs.length σ H->D.nx σ H) :
  ∃W:Nat->Nat->St->Hp->Prop,(∃m,W 0 m σ H)/\∀i m σ H,W i m σ H ->
   ((Itt K a).stop i H/\D.nx σ H)\/((Itt K a).go i H/\∃N:St->Hp->Prop,(∀l b,N l b->∃s,s<m/\W (i+1) s l b)/\∀x b,(Itt K a).yld i H x b->g x σ b fun o f=>u { D with nx:=N,ct:=N,bk:=D.nx } o f):=by
 refine⟨fun i m σ H=>m=xs.length-i/\i<=xs.length/\Pv i σ H,⟨xs.length,by simp,zY _,h0⟩,?_⟩
 rintro i m σ H ⟨rfl,A,p⟩;have q:=B i σ H A p;by_cases c:i<xs.length
 ·refine .inr ⟨⟨xs,xs[i],q,by simp[c]⟩,Pv (i+1),fun l b G=>⟨xs.length-(i+1),by omega,rfl,c,G⟩,fun x b y=>?_⟩
  obtain⟨e,y⟩:=y;subst e;exact E i x σ _ (y xs q) p
 ·have e:i=xs.length:=by omega
  subst e;exact .inl ⟨⟨xs,q,zi _⟩,w σ H p⟩
theorem jt{lo:Int}{n:Nat}{g:TG}{u:TS}{D:XF}{σ:St}{H:Hp}(Pv:Nat->St->Hp->Prop)(h0:Pv 0 σ H)
  (A:∀i σ H,i<n->Pv i σ H->g (.int (lo+i)) σ H fun o f=>u { D with nx:=Pv (i+1),ct:=Pv (i+1),bk:=D.nx } o f) (w:∀σ H,Pv n σ H->D.nx σ H) :
  ∃W:Nat->Nat->St->Hp->Prop,(∃m,W 0 m σ H)/\∀i m σ H,W i m σ H ->
   ((Itr lo n).stop i H/\D.nx σ H)\/((Itr lo n).go i H/\∃N:St->Hp->Prop,(∀l b,N l b->∃s,s<m/\W (i+1) s l b)/\∀x b,(Itr lo n).yld i H x b->g x σ b fun o f=>u { D with nx:=N,ct:=N,bk:=D.nx } o f):=by
 refine⟨fun i m σ H=>m=n-i/\i<=n/\Pv i σ H,⟨n,by simp,zY _,h0⟩,?_⟩
 rintro i m σ H ⟨rfl,E,p⟩;by_cases c:i<n
 ·refine .inr ⟨c,Pv (i+1),fun l b B=>⟨n-(i+1),by omega,rfl,c,B⟩,fun x b y=>?_⟩
  obtain⟨e,y⟩:=y;subst e y;exact A i σ _ c p
 ·have e:i=n:=by omega
  subst e;exact .inl ⟨zi _,w σ H p⟩
abbrev R2:=V->V->Hp->VK->Prop
def OpR(X:Cx)(f:Value->Value->Sem Value)(r:R2):Prop:=
 ∀(b:List (Addr×Obj)) (s:Shared) (σ:St) (H:Hp) (x y:V) (v u:Value) (Q:VK),Inv X b σ H s->RelV x v->RelV y u->r x y H Q ->
  wpAny (model X.prog X.w) X.A (f v u) (EP X b σ Q) X.xe s
def UnR(X:Cx)(f:Value->Sem Value)(r:V->Hp->VK->Prop):Prop:=
 ∀(b:List (Addr×Obj)) (s:Shared) (σ:St) (H:Hp) (x:V) (v:Value) (Q:VK),Inv X b σ H s->RelV x v->r x H Q ->
  wpAny (model X.prog X.w) X.A (f v) (EP X b σ Q) X.xe s
def CallR(X:Cx)(f:Value)(r:List V->Hp->VK->Prop):Prop:=
 ∀(b:List (Addr×Obj)) (s:Shared) (σ:St) (H:Hp) (g:List V) (c:List Value) (Q:VK),Inv X b σ H s->Vals g c->r g H Q ->
  wpAny (model X.prog X.w) X.A (call f c) (EP X b σ Q) X.xe s
def tOp(r:R2)(f g:TE):TE:=fun σ H Q=>f σ H fun x b=>g σ b fun y c=>r x y c Q
def tUn(r:V->Hp->VK->Prop)(c:TE):TE:=fun σ H Q=>c σ H fun x b=>r x b Q
inductive rI(C:Int->Int->Prop)(g:Int->Int->V)(x:V)(y:V)(H:Hp)(Q:VK):Prop
 | mk (i j:_) (_:x=.int i) (_:y=.int j) (_:C i j) (_:Q (g i j) H):rI C g x y H Q
inductive rI0(g:Int->Int->V)(x:V)(y:V)(H:Hp)(Q:VK):Prop
 | mk (i j:_) (_:x=.int i) (_:y=.int j) (_:Q (g i j) H):rI0 g x y H Q
inductive rU(g:Int->V)(x:V)(H:Hp)(Q:VK):Prop
 | mk (i:_) (_:x=.int i) (_:Q (g i) H):rU g x H Q
section
variable{X:Cx}{a b c:Expr}{l w A:TE}{o:Pos}
theorem zfR(G:PE X a l)(hb:PE X b w){g:List (Addr×Obj)}{s:Shared}{σ:St}{H:Hp}{R:V->V->Hp->Prop}(I:Inv X g σ H s)
  (h:l σ H fun x B=>w σ B fun y i=>R x y i) {Q:Value->Shared->Prop} {f:Value->Value->Sem Value}
  (J:∀v u s2 x y i,Inv X g σ i s2->RelV x v->RelV y u->R x y i->wpAny (model X.prog X.w) X.A (f v u) Q X.xe s2) :
  wpAny (model X.prog X.w) X.A (eval a X.env) (fun v N=>wpAny (model X.prog X.w) X.A (eval b X.env) (fun u O=>wpAny (model X.prog X.w) X.A (f v u) Q X.xe O) X.xe N) X.xe s:=by
 refine thn (G g s σ H _ I h) fun v s1 ⟨x,B,D,L,q1⟩=>?_
 refine thn (hb g s1 σ B _ D q1) fun u s2 ⟨y,i,E,M,q2⟩=>?_
 exact J v u s2 x y i E L M q2
theorem zu{g:Operator}{r:R2}(E:OpR X (binaryOp g) r)(D:PE X a l)(hb:PE X b w):PE X (.BinOp a g b o) (tOp r l w):=by
 intro f s σ H Q I h;exact wpAny_BinOp (zfR D hb I h fun v u s2 x y i B G J q=>E f s2 σ i x y v u Q B G J q)
theorem zb9{g:UnaryOp}{r:V->Hp->VK->Prop}(D:UnR X (unaryOp g) r)(B:PE X a l):PE X (.UnaryOp g a o) (tUn r l):=by
 intro f s σ H Q I h;exact UnaryOp_ (thn (B f s σ H _ I h) fun v s1 ⟨x,i,u,E,q1⟩=>D f s1 σ i x v Q u E q1)
theorem opI{f:Value->Value->Sem Value}{C:Int->Int->Prop}{g:Int->Int->Int}
  (rule:∀(i j:Int) (t u:Tok) (s:Shared) (Q:Value->Shared->Prop) (E:Value->Shared->Prop),C i j->Q (.int (g i j) s.toks) { s with toks:=s.toks+1 }->wpAny (model X.prog X.w) X.A (f (.int i t) (.int j u)) Q E s) :
  OpR X f (rI C fun i j=>.int (g i j)):=by
 intro B s σ H x y v u Q I D G h;obtain⟨i,j,rfl,rfl,hc,q⟩:=h;obtain⟨t,rfl⟩:=D;obtain⟨J,rfl⟩:=G;exact rule i j t J s _ _ hc ⟨.int (g i j),H,I.tok _,⟨_,rfl⟩,q⟩
theorem zgH{f:Value->Value->Sem Value}{g:Int->Int->Int}
  (rule:∀(i j:Int) (t u:Tok) (s:Shared) (Q:Value->Shared->Prop) (E:Value->Shared->Prop),Q (.int (g i j) s.toks) { s with toks:=s.toks+1 }->wpAny (model X.prog X.w) X.A (f (.int i t) (.int j u)) Q E s) :
  OpR X f (rI0 fun i j=>.int (g i j)):=by
 intro B s σ H x y v u Q I D G h;obtain⟨i,j,rfl,rfl,q⟩:=h;obtain⟨t,rfl⟩:=D;obtain⟨J,rfl⟩:=G;exact rule i j t J s _ _ ⟨.int (g i j),H,I.tok _,⟨_,rfl⟩,q⟩
theorem zdx{f:Value->Value->Sem Value}{g:Int->Int->Bool}
  (rule:∀(i j:Int) (t u:Tok) (s:Shared) (Q:Value->Shared->Prop) (E:Value->Shared->Prop),Q (.bool (g i j)) s->wpAny (model X.prog X.w) X.A (f (.int i t) (.int j u)) Q E s) :
  OpR X f (rI0 fun i j=>.bl (g i j)):=by
 intro B s σ H x y v u Q I D G h;obtain⟨i,j,rfl,rfl,q⟩:=h;obtain⟨t,rfl⟩:=D;obtain⟨J,rfl⟩:=G;exact rule i j t J s _ _ ⟨.bl (g i j),H,I,rfl,q⟩
def zhn(i j:Int):Prop:=0<j/\j<1073741824
def zhS(i j:Int):Prop:=0<=j/\j<=1000000/\i.natAbs<2^64
def CMul(i j:Int):Prop:=(-(2^64)<i/\i<2^64)\/(-(2^64)<j/\j<2^64)
theorem CMul.ok{i j:Int}(h:CMul i j):IntMulOk i j:=by
 rcases h with ⟨h1,h2⟩ | ⟨h1,h2⟩
 ·exact .of_left (intBits_le_64 h1 h2)
 ·exact .of_right (intBits_le_64 h1 h2)
theorem zT:OpR X (binaryOp .Add) (rI0 fun i j=>.int (i+j)):=zgH fun _ _ _ _ _ _ _ q=>add_int q
theorem xu:OpR X (binaryOp .Sub) (rI0 fun i j=>.int (i-j)):=zgH fun _ _ _ _ _ _ _ q=>sub_int q
theorem xX:OpR X (binaryOp .Mult) (rI CMul fun i j=>.int (i*j)):=opI fun _ _ _ _ _ _ _ hc q=>mul_int q hc.ok
theorem YB:OpR X (binaryOp .FloorDiv) (rI zhn fun i j=>.int (i/j)):=opI fun i j _ _ _ _ _ hc q=>by
 have h1:(0:Int)<j:=hc.1;have h2:j<1073741824:=hc.2;exact floordiv_int (by omega) (by rw[zcY i (by omega)];exact q) (.inl (PyProof.noPylong_small (by omega)))
theorem xv:OpR X (binaryOp .Mod) (rI (fun _ j=>0<j) fun i j=>.int (i % j)):=opI fun i j _ _ _ _ _ hc q=>by
 have h1:(0:Int)<j:=hc;exact mod_int' (by omega) (by rw[zcX i (by omega)];exact q)
theorem zce:OpR X (binaryOp .Pow) (rI zhS fun i j=>.int (i^j.toNat)):=opI fun _ _ _ _ _ _ _ hc q=>pow_int_small hc.1 hc.2.1 hc.2.2 q
theorem unI{f:Value->Sem Value}{g:Int->Int}
  (rule:∀(i:Int) (t:Tok) (s:Shared) (Q:Value->Shared->Prop) (E:Value->Shared->Prop),Q (.int (g i) s.toks) { s with toks:=s.toks+1 }->wpAny (model X.prog X.w) X.A (f (.int i t)) Q E s) :
  UnR X f (rU fun i=>.int (g i)):=by
 intro u s σ H x v Q I B h;obtain⟨i,rfl,q⟩:=h;obtain⟨t,rfl⟩:=B;exact rule i t s _ _ ⟨.int (g i),H,I.tok _,⟨_,rfl⟩,q⟩
theorem VQ:UnR X (unaryOp .USub) (rU fun i=>.int (-i)):=unI fun _ _ _ _ _ q=>neg_int q
end
def zgf:V->V->Bool
 | .non,.non=>true | .non,.int _=>true | .int _,.non=>true | .non,.bl _=>true | .bl _,.non=>true | .non,.str _=>true | .str _,.non=>true
 | .int _,.int _=>true | .bl _,.bl _=>true | .str _,.str _=>true | .byt _,.byt _=>true
 | .int _,.str _=>true | .str _,.int _=>true | .bl _,.str _=>true | .str _,.bl _=>true
 | _,_=>false
def rEq:R2:=fun x y H Q=>zgf x y=true/\Q (.bl (decide (x=y))) H
def rNe:R2:=fun x y H Q=>zgf x y=true/\Q (.bl (!decide (x=y))) H
theorem YY{i j:Int}:decide (V.int i=V.int j)=(i==j):=by
 rw[vh];simp
theorem zcK{i j:Bool}:decide (V.bl i=V.bl j)=(i==j):=by
 rw[vh];simp
theorem YX{i j:Str}:decide (V.str i=V.str j)=(i==j):=by
 rw[vh];simp
theorem YZ{i j:Array UInt8}:decide (V.byt i=V.byt j)=(i.toList==j.toList):=by
 rw[vh];cases i;cases j;simp
section
variable{X:Cx}{a b c:Expr}{g l A:TE}{w:Pos}
theorem z7{f:List (Addr×Obj)}{σ:St}{H:Hp}{s:Shared}{Q:VK}{k i:Bool}(I:Inv X f σ H s)(q:Q (.bl k) H)(e:k=i):EP X f σ Q (.bool i) s:=by
 subst e;exact⟨.bl k,H,I,rfl,q⟩
theorem qV:OpR X (compareOp .Eq) rEq:=by
 intro E s σ H x y v u Q I D f h;obtain⟨B,q⟩:=h;cases x with
 | non=>
  cases D;cases y with
  | non=>cases f;exact PySem.EqNone.eq_none_none (z7 I q (by simp))
  | bl j=>cases f;exact PySem.EqNone.eq_none_bool (z7 I q (by simp))
  | int j=>obtain⟨o,rfl⟩:=f;exact PySem.EqNone.eq_none_int (z7 I q (by simp))
  | str j=>obtain⟨o,rfl⟩:=f;exact PySem.EqNone.eq_none_str (z7 I q (by simp))
  | _=>exact absurd (show false=true from B) jG
 | bl i=>
  cases D;cases y with
  | non=>cases f;exact PySem.EqNone.eq_bool_none (z7 I q (by simp))
  | bl j=>cases f;exact eq_bool (z7 I q zcK)
  | str j=>obtain⟨o,rfl⟩:=f;exact PySem.EqMixed.eq_bool_str (z7 I q (by simp))
  | _=>exact absurd (show false=true from B) jG
 | int i=>
  obtain⟨t,rfl⟩:=D;cases y with
  | non=>cases f;exact PySem.EqNone.eq_int_none (z7 I q (by simp))
  | int j=>obtain⟨o,rfl⟩:=f;exact eq_int (z7 I q YY)
  | str j=>obtain⟨o,rfl⟩:=f;exact PySem.EqMixed.eq_int_str (z7 I q (by simp))
  | _=>exact absurd (show false=true from B) jG
 | str i=>
  obtain⟨t,rfl⟩:=D;cases y with
  | non=>cases f;exact PySem.EqNone.eq_str_none (z7 I q (by simp))
  | bl j=>cases f;exact PySem.EqMixed.eq_str_bool (z7 I q (by simp))
  | int j=>obtain⟨o,rfl⟩:=f;exact PySem.EqMixed.eq_str_int (z7 I q (by simp))
  | str j=>obtain⟨o,rfl⟩:=f;exact eq_str (z7 I q YX)
  | _=>exact absurd (show false=true from B) jG
 | byt i=>
  obtain⟨t,rfl⟩:=D;cases y with
  | byt j=>obtain⟨o,rfl⟩:=f;exact PySem.W.eq_bytes (z7 I q YZ)
  | _=>exact absurd (show false=true from B) jG
 | _=>cases y<;>exact absurd (show false=true from B) jG
theorem yz:OpR X (compareOp .NotEq) rNe:=by
 intro E s σ H x y v u Q I D f h;obtain⟨B,q⟩:=h;cases x with
 | non=>
  cases D;cases y with
  | non=>cases f;exact PySem.EqNone.ne_none_none (z7 I q (by simp))
  | bl j=>cases f;exact PySem.EqNone.ne_none_bool (z7 I q (by simp))
  | int j=>obtain⟨o,rfl⟩:=f;exact PySem.EqNone.ne_none_int (z7 I q (by simp))
  | str j=>obtain⟨o,rfl⟩:=f;exact PySem.EqNone.ne_none_str (z7 I q (by simp))
  | _=>exact absurd (show false=true from B) jG
 | bl i=>
  cases D;cases y with
  | non=>cases f;exact PySem.EqNone.ne_bool_none (z7 I q (by simp))
  | bl j=>cases f;exact ne_bool (z7 I q (congrArg not zcK))
  | str j=>obtain⟨o,rfl⟩:=f;exact PySem.EqMixed.ne_bool_str (z7 I q (by simp))
  | _=>exact absurd (show false=true from B) jG
 | int i=>
  obtain⟨t,rfl⟩:=D;cases y with
  | non=>cases f;exact PySem.EqNone.ne_int_none (z7 I q (by simp))
  | int j=>obtain⟨o,rfl⟩:=f;exact ne_int (z7 I q (congrArg not YY))
  | str j=>obtain⟨o,rfl⟩:=f;exact PySem.EqMixed.ne_int_str (z7 I q (by simp))
  | _=>exact absurd (show false=true from B) jG
 | str i=>
  obtain⟨t,rfl⟩:=D;cases y with
  | non=>cases f;exact PySem.EqNone.ne_str_none (z7 I q (by simp))
  | bl j=>cases f;exact PySem.EqMixed.ne_str_bool (z7 I q (by simp))
  | int j=>obtain⟨o,rfl⟩:=f;exact PySem.EqMixed.ne_str_int (z7 I q (by simp))
  | str j=>obtain⟨o,rfl⟩:=f;exact ne_str (z7 I q (congrArg not YX))
  | _=>exact absurd (show false=true from B) jG
 | byt i=>
  obtain⟨t,rfl⟩:=D;cases y with
  | byt j=>obtain⟨o,rfl⟩:=f;exact PySem.W.ne_bytes (z7 I q (congrArg not YZ))
  | _=>exact absurd (show false=true from B) jG
 | _=>cases y<;>exact absurd (show false=true from B) jG
theorem Vf:OpR X (compareOp .Lt) (rI0 fun i j=>.bl (decide (i<j))):=zdx fun _ _ _ _ _ _ _ q=>lt_int q
theorem Qj:OpR X (compareOp .LtE) (rI0 fun i j=>.bl (decide (i<=j))):=zdx fun _ _ _ _ _ _ _ q=>le_int q
theorem Zz:OpR X (compareOp .Gt) (rI0 fun i j=>.bl (decide (j<i))):=zdx fun _ _ _ _ _ _ _ q=>gt_int q
theorem zgG:OpR X (compareOp .GtE) (rI0 fun i j=>.bl (decide (j<=i))):=zdx fun _ _ _ _ _ _ _ q=>ge_int q
inductive ZK(x:V)(y:V)(H:Hp)(Q:VK):Prop
 | mk (i j:_) (_:x=.str i) (_:y=.str j) (_:Q (.bl (!(Builtin.Str.occurrences j i 0 j.length 1).isEmpty)) H):ZK x y H Q
theorem zaF:OpR X (compareOp .In) (ZK):=by
 intro f s σ H x y v u Q I o B h;obtain⟨i,j,rfl,rfl,q⟩:=h;obtain⟨t,rfl⟩:=o;obtain⟨D,rfl⟩:=B;exact in_str (z7 I q rfl)
theorem yP:OpR X (compareOp .Is) (fun x y H Q=>y=.non/\Q (.bl (decide (x=.non))) H):=by
 intro f s σ H x y v u Q I i o h;obtain⟨rfl,q⟩:=h;cases o;refine is_none_gen (z7 I q ?_)
 cases x<;>first
  | (cases i;rfl)
  | (obtain⟨t,rfl⟩:=i;rfl)
theorem zdw:OpR X (compareOp .IsNot) (fun x y H Q=>y=.non/\Q (.bl (!decide (x=.non))) H):=by
 intro f s σ H x y v u Q I i o h;obtain⟨rfl,q⟩:=h;cases o;refine isnot_none_gen (z7 I q ?_)
 cases x<;>first
  | (cases i;rfl)
  | (obtain⟨t,rfl⟩:=i;rfl)
theorem OpR.or{f:Value->Value->Sem Value}{r o:R2}(h:OpR X f r)(E:OpR X f o):OpR X f (fun x y H Q=>r x y H Q\/o x y H Q):=by
 intro i s σ H x y v u Q I B D q;rcases q with q | q
 ·exact h i s σ H x y v u Q I B D q
 ·exact E i s σ H x y v u Q I B D q
theorem zC(b:Expr){f:CmpOp}(h:f≠.In:=by decide)(h2:f≠.NotIn:=by decide):behindInMarks f b=false:=by
 have e1:(f==CmpOp.In)=false:=by cases f<;>first| rfl | exact absurd rfl h
 have e2:(f==CmpOp.NotIn)=false:=by cases f<;>first| rfl | exact absurd rfl h2
 cases b<;>simp[behindInMarks,e1,e2]
theorem qD{i:CmpOp}{r:R2}(G:OpR X (compareOp i) r)(D:PE X a g)(hb:PE X b l)(E:behindInMarks i b=false):PE X (.Compare a [i] [b] w) (tOp r g l):=by
 intro f s σ H Q I h;exact wpAny_Compare1 (zfR D hb I h fun v u s2 x y o B J L q=>G f s2 σ o x y v u Q B J L q) E
def zeb(t:TE):TT:=fun σ H Q=>t σ H fun x f=>IsB x f Q
theorem zE{i:CmpOp}{r:R2}(N:OpR X (compareOp i) r)(L:PE X a g)(hb:PE X b l)(M:behindInMarks i b=false):PT X (.Compare a [i] [b] w) (zeb (tOp r g l)):=by
 intro f s σ H Q I h;refine wpAny_isTrue_Compare1 (thn (L f s σ H _ I h) fun v s1 ⟨x,o,E,O,q1⟩=>thn (hb f s1 σ o _ E q1) fun u s2 ⟨y,B,G,T,q2⟩=>
  thn (N f s2 σ B x y v u _ G O T q2) fun c Y ⟨z,D,J,U,k,e,q3⟩=>?_) M
 subst e;cases U;exact vU ⟨D,J,q3⟩
def zbo(r u:R2)(g l A:TE):TE:=fun σ H Q=>g σ H fun x i=>l σ i fun y o=>r x y o fun z f=>∃k,z=.bl k /\
 (if k=true then A σ f fun B s=>u y B s Q else Q (.bl false) f)
theorem Qe{B i:CmpOp}{r G:R2}(ho:OpR X (compareOp B) r)(o:OpR X (compareOp i) G)(Y:PE X a g)(hb:PE X b l)(hc:PE X c A)
  (hm:lastMarks [B,i] [b,c]=false:=by with_unfolding_all rfl):PE X (.Compare a [B,i] [b,c] w) (zbo r G g l A):=by
 intro f s σ H Q I h;refine Compare_chain (thn (Y f s σ H _ I h) fun v s1 ⟨x,L,O,r1,q1⟩=>chain_link (thn (hb f s1 σ L _ O q1) fun u s2 ⟨y,M,T,J,q2⟩=>
  thn (ho f s2 σ M x y v u _ T r1 J q2) fun d s3 ⟨z,D,E,r3,k,e,q3⟩=>?_)) hm
 subst e;cases r3;refine vU ?_
 cases k with
 | false=>exact ite_ff ⟨.bl false,D,E,rfl,q3⟩
 | true=>exact ite_tt (chain_last (thn (hc f s3 σ D _ E q3) fun w' s4 ⟨z',N,U,r4,q4⟩=>o f s4 σ N y z' u w' Q U J r4 q4))
theorem zb3{B i:CmpOp}{r G:R2}(ho:OpR X (compareOp B) r)(o:OpR X (compareOp i) G)(ha:PE X a g)(hb:PE X b l)(hc:PE X c A)
  (hm:lastMarks [B,i] [b,c]=false:=by with_unfolding_all rfl):PT X (.Compare a [B,i] [b,c] w) (zeb (zbo r G g l A)):=by
 intro f s σ H Q I h;refine isTrue_chain (thn (ha f s σ H _ I h) fun v s1 ⟨x,L,T,r1,q1⟩=>test_link (thn (hb f s1 σ L _ T q1) fun u s2 ⟨y,M,U,J,q2⟩=>
  thn (ho f s2 σ M x y v u _ U r1 J q2) fun d s3 ⟨z,D,E,r3,k,e,q3⟩=>?_)) hm
 subst e;cases r3;refine vU ?_
 cases k with
 | false=>
  obtain⟨k',e',q'⟩:=q3;cases e';exact ite_ff ⟨D,E,q'⟩
 | true=>
  refine ite_tt (test_last (thn (hc f s3 σ D _ E q3) fun w' s4 ⟨z',N,Y,r4,q4⟩=>thn (o f s4 σ N y z' u w' _ Y J r4 q4) fun d' s5 ⟨z2,O,I5,r5,k2,e2,q5⟩=>?_))
  subst e2;cases r5;exact vU ⟨O,I5,q5⟩
theorem yU:(sizeLine:Nat)<2^63:=by rw[sizeLine_eq];decide
inductive yM(x:V)(y:V)(H:Hp)(Q:VK):Prop
 | mk (i j:_) (_:x=.str i) (_:y=.str j) (_:i.length+j.length<=sizeLine) (_:Q (.str (i++j)) H):yM x y H Q
theorem xw:OpR X (binaryOp .Add) (yM):=by
 intro f s σ H x y v u Q I B D h;obtain⟨i,j,rfl,rfl,o,q⟩:=h;obtain⟨t,rfl⟩:=B;obtain⟨E,rfl⟩:=D;exact add_str (fun E G=>⟨.str (i++j),H,I.tok _,⟨_,rfl⟩,q⟩) o
theorem xI{x:V}{f:List Value}(r:Vals [x] f):∃u,f=[u]/\RelV x u:=by
 cases r with
 | cons i o=>cases o;exact⟨_,rfl,i⟩
theorem Ja{x y:V}{f:List Value}(r:Vals [x,y] f):∃u i,f=[u,i]/\RelV x u/\RelV y i:=by
 cases r with
 | cons o s=>
  cases s with
  | cons B D=>cases D;exact⟨_,_,rfl,o,B⟩
inductive QZ(f:List V)(H:Hp)(Q:VK):Prop
 | mk (i:_) (_:f=[.int i]) (_:Q (.int (if i<0 then -i else i)) H):QZ f H Q
theorem VI:CallR X (.builtin "abs") (QZ):=by
 intro f s σ H D B Q I r h;obtain⟨i,rfl,q⟩:=h;obtain⟨u,rfl,t,rfl⟩:=xI r;exact call_abs_int fun u o=>⟨.int (if i<0 then -i else i),H,I.tok _,⟨_,rfl⟩,q⟩
inductive ZO(f:List V)(H:Hp)(Q:VK):Prop
 | mk (i j:_) (_:f=[.int i,.int j]) (_:Q (.int (if j>i then j else i)) H):ZO f H Q
theorem za4(hc:X.calm=true):CallR X (.builtin "max") (ZO):=by
 intro o s σ H L G Q I r h;obtain⟨i,j,rfl,q⟩:=h;obtain⟨u,J,rfl,⟨t,rfl⟩,⟨D,rfl⟩⟩:=Ja r;refine max_two_ints (I.ok.hd hc) fun B E k=>⟨_,H,I.kept k,?_,q⟩
 by_cases f:j>i
 ·rw[zF f,zF f];exact⟨_,rfl⟩
 ·rw[zB f,zB f];exact⟨_,rfl⟩
theorem JE:CallR X (.type "int") (fun f H Q=>(∃i,f=[.int i]/\Q (.int i) H)\/∃k,f=[.bl k]/\Q (.int (if k then 1 else 0)) H):=by
 intro o s σ H f D Q I r h;rcases h with ⟨i,rfl,q⟩ | ⟨k,rfl,q⟩
 ·obtain⟨u,rfl,t,rfl⟩:=xI r
  exact call_int_int ⟨.int i,H,I,⟨_,rfl⟩,q⟩
 ·obtain⟨u,rfl,B⟩:=xI r
  cases B;exact call_int_bool ⟨.int (if k then 1 else 0),H,I.tok _,⟨_,rfl⟩,q⟩
inductive wy(f:List V)(H:Hp)(Q:VK):Prop
 | mk (i:_) (_:f=[.int i]) (_:i.natAbs.log2<1920) (_:Q (.str (toString i)) H):wy f H Q
theorem yG:CallR X (.type "str") (wy):=by
 intro f s σ H D B Q I r h;obtain⟨i,rfl,o,q⟩:=h;obtain⟨u,rfl,t,rfl⟩:=xI r;exact PySem.P.str_of_int o ⟨.str _,H,I.tok _,⟨_,rfl⟩,q⟩
inductive wM(f:List V)(H:Hp)(Q:VK):Prop
 | mk (i j:_) (_:f=[.int i,.int j]) (_:zhn i j) (_:∀p,H p=none->Q (.ref p) (upd H p (.tup [.int (i/j),.int (i % j)]))):wM f H Q
theorem VH:CallR X (.builtin "divmod") (wM):=by
 intro f s σ H J E Q I r h;obtain⟨i,j,rfl,⟨h1,h2⟩,q⟩:=h;obtain⟨u,G,rfl,⟨t,rfl⟩,⟨D,rfl⟩⟩:=Ja r;refine divmod_int (by omega) ?_ (.inl (PyProof.noPylong_small (by omega)))
 rw[zcY i (by omega),zcX i (by omega)]
 have B:H s.heap.objs.size=none:=I.hok.fresh (zi _);refine⟨.ref s.heap.objs.size,_,?_,rfl,q _ B⟩
 refine I.laid (fun b o e=>qw _ e) (zi _) ⟨by simp only[jv,wY];rw[sizeLine_eq];decide,[.int (i/j) s.toks,.int (i % j) (s.toks+1)],.cons ⟨_,rfl⟩ (.cons ⟨_,rfl⟩ .nil),?_⟩
 exact⟨⟨_,qH s.heap rfl,rfl,0,rfl⟩,_,qH s.heap rfl,rfl⟩
end
structure ObjM(h:Heap)(x dx C:Addr)(mA:Str->Option Value):Prop where
 obj:h.get? x=some (PySem.W.instObj C dx)
 ns:h.Ns1 dx mA
 ne:dx≠x
section
variable{c:Program}{w:World}{A:Around}{E:Value->Shared->Prop}{s:Shared}{K:W.Frag}{x g C f:Addr}{i:Str->Option Value}{b:Str}{v:Value}
end
theorem RelO.some_of{v:V}{o:Option Value}(r:RelO (some v) o):∃u,o=some u/\RelV v u:=by
 cases o with
 | none=>exact(show False from r).elim
 | some u=>exact⟨u,rfl,r⟩
section
variable{P:Program}{w:World}{H c:Hp}{h i:Heap}{a C f:Addr}{g b:List (Str×V)}
end
structure Cls(K:W.Frag)(C:Addr):Prop where
 pg:PySem.W.plainGet K C Str.empty=true
 hd:PySem.W.hasDictIn K C=true
 po:PySem.W.plainOver K C=true
 sa:PySem.W.findIn K (.ref C) "__setattr__" = some (some (.builtin "object.__setattr__"))
theorem Cls.get{K:W.Frag}{C:Addr}(c:Cls K C)(f:Str):PySem.W.plainGet K C f=true:=c.pg
structure Con(K:W.Frag)(C:Addr)(f:Str)(v:V)(u:Value):Prop where
 at_:PySem.W.findIn K (.ref C) f=some (some u)
 rel:RelV v u
 get:PySem.W.specialIn K u "__get__" = some none
 cp:PySem.W.copiedNames.contains f=false
structure Meth(K:W.Frag)(C:Addr)(m:Str)(f:Addr):Prop where
 at_:PySem.W.findIn K (.ref C) m=some (some (.ref f))
 fn:PySem.W.isFn K (.ref f)=true
 kp:PySem.W.keepIn K (.ref f)=true
section
variable{X:Cx}{c:List (Addr×Obj)}{σ:St}{H:Hp}{s:Shared}{a C g:Addr}{i:List (Str×V)}{f:Str}{v:V}{A:Around}{E:Value->Shared->Prop}
theorem Inv.made(I:Inv X c σ H s):Inv X c σ (upd (upd H s.heap.objs.size (.own (s.heap.objs.size+1))) (s.heap.objs.size+1) (.ins C s.heap.objs.size []))
  { s with heap:=(s.heap.push PySem.W.emptyDict).push (PySem.W.instObj C s.heap.objs.size) }:=by
 have e1:(s.heap.push PySem.W.emptyDict).get? s.heap.objs.size=some PySem.W.emptyDict:=qH s.heap rfl;have e2:((s.heap.push PySem.W.emptyDict).push (PySem.W.instObj C s.heap.objs.size)).get? (s.heap.objs.size+1)=some (PySem.W.instObj C s.heap.objs.size):=by
  have:=qH (s.heap.push PySem.W.emptyDict) (o:=PySem.W.instObj C s.heap.objs.size) rfl;rwa[xD] at this
 have w:(s.heap.push PySem.W.emptyDict).Ns s.heap.objs.size (fun _=>none):=⟨PySem.W.emptyDict,#[],_,e1,rfl,(fun e B=>absurd B (by simp)),fun _=>rfl⟩
 have l:=I.laid (a:=s.heap.objs.size) (o:=.own (s.heap.objs.size+1)) (h':=s.heap.push PySem.W.emptyDict) (t':=s.toks) (fun b u q=>qw _ q) (zi _) ⟨_,e1⟩
 refine l.laid (a:=s.heap.objs.size+1) (o:=.ins C s.heap.objs.size []) (t':=s.toks) (fun b u q=>qw _ q) (wq (xD _ _)) ?_
 have ne:s.heap.objs.size≠s.heap.objs.size+1:=qz (yJ _);refine⟨by rw[zt ne,zc],zY _,ne,e2,fun _=>none,(Heap.Ns1.of_empty w).at fun o q=>qw _ q,fun _=>True.intro,fun y hy=>absurd rfl hy⟩
end
section
variable{X:Cx}{o e b:Expr}{f:Str}{i c g:Pos}{l s:TE}
end
section
variable{X:Cx}{f:List (Addr×Obj)}{σ:St}{H:Hp}{s:Shared}{A:Around}{E:Value->Shared->Prop}{Q:Value->Shared->Prop}{c:Value}{b:Bool}
inductive QX(K:W.Frag)(H:Hp):V->Value->Prop where
 | non:QX K H .non (.type "NoneType")
 | bl (x:Bool):QX K H (.bl x) (.type "bool")
 | int (i:Int):QX K H (.int i) (.type "int")
 | str (x:Str):QX K H (.str x) (.type "str")
 | flt (x:UInt64):QX K H (.flt x) (.type "float")
 | lst {a:Addr} {l:List V} (e:H a=some (.lst l)):QX K H (.ref a) (.type "list")
 | frz {a:Addr} {o:Obj} {l:List V} (e:H a=some (.frz o (.lst l))):QX K H (.ref a) (.type "list")
 | tup {a:Addr} {l:List V} (e:H a=some (.tup l)):QX K H (.ref a) (.type "tuple")
 | dK {a:Addr} {g:List (Key×V)} (e:H a=some (.dK g)):QX K H (.ref a) (.type "dict")
 | dT {a:Addr} {g:List (List Key×V)} (e:H a=some (.dT g)):QX K H (.ref a) (.type "dict")
 | ins {a C u:Addr} {w:List (Str×V)} (e:H a=some (.ins C u w)) (D:Cls K C) (G:PySem.W.findIn K (.ref C) "__class__" = some (some (.builtin "object.__class__")))
   (J:PySem.W.specialIn K (.builtin "object.__class__") "__get__" = some (some (.builtin "getset_descriptor.__get__"))) (B:PySem.W.takesIn K (.builtin "object.__class__")=some true)
   (I:PySem.W.mroIn K C (.type "object")=some true):QX K H (.ref a) (.ref C)
end
structure Room(k:Nat)(A:Around):Prop where
 hd:A.handled=none
 dp:A.depth+3*k+5<recursionLimit
 un:A.units+16*k+200<cLine
 gd:A.guards=some []
theorem Room.mono{j k:Nat}{A:Around}(r:Room k A)(h:j<=k):Room j A:=⟨r.hd,by have:=r.dp;omega,by have:=r.un;omega,r.gd⟩
theorem Room.m{j k:Nat}{A:Around}(r:Room k A)(h:j<=k:=by decide):Room j A:=r.mono h
theorem Room.deeper{k:Nat}{A:Around}(r:Room (k+1) A)(b:Env):Room k (A.deeper b):=
 ⟨r.hd,by have:=r.dp;show A.depth+1+3*k+5<_;omega,by have:=r.un;show A.units+3+16*k+200<_;omega,r.gd⟩
theorem Room.in1{k:Nat}{A:Around}(r:Room (k+1) A):Room k A.in1:=
 ⟨r.hd,by have:=r.dp;show A.depth+3*k+5<_;omega,by have:=r.un;show A.units+1+16*k+200<_;omega,r.gd⟩
theorem Room.depth{k:Nat}{A:Around}(r:Room k A):A.depth<recursionLimit:=by have:=r.dp;omega
theorem Room.units{k:Nat}{A:Around}(r:Room k A):A.units+64<cLine:=by have:=r.un;omega
theorem Room.units0{k:Nat}{A:Around}(r:Room k A):A.units<cLine:=by have:=r.un;omega
def V0:TA:=fun _ H Q=>Q [] H
def zZ(f:TE)(g:TA):TA:=fun σ H Q=>f σ H fun x b=>g σ b fun i c=>Q (x::i) c
section
variable{X:Cx}{e:Expr}{f:List Expr}{g:TE}{t:TA}{c:Pos}
theorem zb:PA X [] V0:=fun _ _ _ _ H Q I h=>Xu ⟨[],H,I,.nil,h⟩
theorem za(A:PE X e g)(B:PA X f t)(D:starEach (e::f) X.env=(false,eval e X.env)::starEach f X.env:=by rfl):PA X (e::f) (zZ g t):=by
 intro c b s σ H Q I h;rw[D];show wpAny _ _ (spliced ((false,eval e X.env)::backTo c (starEach f X.env))) _ _ s;refine Zr (thn (A b s σ H _ I h) fun u s1 ⟨x,i,o,E,q1⟩=>?_)
 exact thn (B c b s1 σ i _ o q1) fun L s2 ⟨J,l,w,G,q2⟩=>⟨x::J,l,w,.cons E G,q2⟩
def zeS(t:TA):TE:=fun σ H Q=>t σ H fun i b=>i.length<=sizeLine/\∀p,b p=none->Q (.ref p) (upd b p (.tup i))
def zeU(t:TA):TE:=fun σ H Q=>t σ H fun i b=>i.length<=sizeLine/\∀p,b p=none->Q (.ref p) (upd b p (.lst i))
theorem zP{B}(h:PA X f t):PE X (.Tuple f B c) (zeS t):=by
 intro i s σ H Q I hq;refine wpAny_Tuple_spliced (thn (h c i s σ H _ I hq) fun A s1 ⟨D,l,o,r,z,q⟩=>⟨by rw[<- r.length];exact z,?_⟩)
 have w:l s1.heap.objs.size=none:=o.hok.fresh (zi _);refine⟨.ref s1.heap.objs.size,upd l s1.heap.objs.size (.tup D),o.laid (t':=s1.toks) (fun b u e=>qw _ e) (zi _) ?_,rfl,q _ w⟩
 exact⟨z,A,r,⟨_,qH _ rfl,rfl,_,rfl⟩,_,qH _ rfl,rfl⟩
theorem zU(h:PA X f t):PE X (.List f c) (zeU t):=by
 intro i s σ H Q I hq;refine wpAny_List_spliced (thn (h c i s σ H _ I hq) fun A s1 ⟨B,l,o,r,z,q⟩=>⟨by rw[<- r.length];exact z,?_⟩)
 have w:l s1.heap.objs.size=none:=o.hok.fresh (zi _);refine⟨.ref s1.heap.objs.size,upd l s1.heap.objs.size (.lst B),o.laid (t':=s1.toks) (fun b u e=>qw _ e) (zi _) ?_,rfl,q _ w⟩
 exact⟨z,A,0,r,qH _ rfl⟩
end
abbrev Sp:=List V->Hp->VK->XK->Prop
abbrev CXT:=List Env->Hp->Shared->XK->Value->Shared->Prop
structure Env0(P:Program)(w:World)(K:W.Frag)(mg:Str->Option Value)(base:Heap)(A:Around)(outer:List Env)(s:Shared)(H:Hp):Prop where
 frames:A.frames=some outer
 mod:Mod K mg base
 bs:∀b o,base.get? b=some o->s.heap.get? b=some o/\H b=none
 bsz:base.objs.size<=s.heap.objs.size
 funs:s.heap.FunFrames base outer
 frf:∀b∈frs outer,H b=none
 hok:HOk P w H s.heap
 bare:AllBare s.gens
def CE(b:List Env)(P:Program)(w:World)(H:Hp)(s:Shared)(Q:VK)(u:Value)(c:Shared):Prop:=
 ∃v f,c.os=s.os/\AllBare c.gens/\Un (frs b) [] H f s.heap c.heap/\HOk P w f c.heap/\RelV v u/\Q v f
def CR(f:CXT)(b:List Env)(P:Program)(w:World)(H:Hp)(s:Shared)(Q:VK)(E:XK)(r:Result)(c:Shared):Prop:=
 match r with
 | .ok (.ret u)=>CE b P w H s Q u c
 | .ok _=>False
 | .error e=>f b H s E e c
structure FnOk(P:Program)(w:World)(K:W.Frag)(mg:Str->Option Value)(base:Heap)(CX:CXT)(k:Nat)(f:Addr)(fd:FuncData)(ps:List Str)(sp:Sp):Prop where
 len:∀vs H Q E,sp vs H Q E->vs.length=ps.length
 run:∀(A:Around) (outer:List Env) (s:Shared) (H:Hp) (args:Args) (us:List Value) (vs:List V) (Q:VK) (E:XK),Room k A->Env0 P w K mg base A outer s H->BindsTo s fd args (ps.zip us)->Vals vs us->sp vs H Q E ->
  codeAny (model P w) A (.call (.ref f) args) (CR CX outer P w H s Q E) s
theorem FnOk.mono{P:Program}{w:World}{K:W.Frag}{l:Str->Option Value}{b:Heap}{g:CXT}{j k:Nat}{f:Addr}{i:FuncData}{o:List Str}{u:Sp}(F:FnOk P w K l b g j f i o u)(h:j<=k) :
  FnOk P w K l b g k f i o u:=⟨F.len,fun A c s H args D G Q E B=>F.run A c s H args D G Q E (B.mono h)⟩
theorem FnOk.imp{P:Program}{w:World}{K:W.Frag}{u:Str->Option Value}{b:Heap}{l:CXT}{k:Nat}{f:Addr}{o:FuncData}{B:List Str}{D i:Sp}(F:FnOk P w K u b l k f o B D)
  (h:∀g H Q E,i g H Q E->D g H Q E):FnOk P w K u b l k f o B i:=
 ⟨fun g H Q E q=>F.len g H Q E (h _ _ _ _ q),fun A c s H args L g Q E I G hb hv J=>F.run A c s H args L g Q E I G hb hv (h _ _ _ _ J)⟩
theorem Env0.in1{P:Program}{w:World}{K:W.Frag}{f:Str->Option Value}{c:Heap}{A:Around}{b:List Env}{s:Shared}{H:Hp}(e:Env0 P w K f c A b s H) :
  Env0 P w K f c A.in1 b s H:=⟨e.frames,e.mod,e.bs,e.bsz,e.funs,e.frf,e.hok,e.bare⟩
section
variable{X:Cx}{c:List (Addr×Obj)}{σ:St}{H:Hp}{s f:Shared}
theorem Inv.env0(I:Inv X c σ H s):Env0 X.prog X.w X.K X.mg X.base X.A X.stack s H:=
 ⟨I.ok.frames,I.ok.mod,I.bs,qk I.ok.bsz I.sz,I.stack,I.stkFree,I.hok,I.bare⟩
theorem Inv.after{Q:VK}{u:Value}(I:Inv X c σ H s)(h:CE X.stack X.prog X.w H s Q u f):EP X c σ Q u f:=by
 obtain⟨v,w,os,i,un,l,r,q⟩:=h;obtain⟨A,g,d,t,o⟩:=f;obtain rfl:o=s.os:=os;exact⟨v,w,I.call (h':=A) (g':=g) (d':=d) (t':=t) (ch:=[]) un l i (fun b z=>absurd z (by simp)),r,q⟩
end
def zec(f:Sp)(b:List V)(E:XK)(t:TA):TE:=fun σ H Q=>t σ H fun g c=>f (g++b) c Q E
def Binds(K:W.Frag)(f:FuncData)(c:List Str)(ds:List Value):Prop:=
 ∀(s:Shared) (b:List Value),K.In s.heap->(b++ds).length=c.length->BindsTo s f ⟨b,[]⟩ (c.zip (b++ds))
theorem Binds.all{K:W.Frag}{f:FuncData}{c:List Str}(h:∀b:List Value,b.length=c.length->bindArgs f ⟨b,[]⟩=pure (c.zip b)):Binds K f c []:=fun s b _ g=>by
 rw[wg] at g ⊢;exact .of_eq (h b g)
def WW(f:CXT)(X:Cx)(E:XK):Prop:=∀(b:List (Addr×Obj)) (σ:St) (H:Hp) (s:Shared) (e:Value) (c:Shared),Inv X b σ H s->f X.stack H s E e c->X.xe e c
section
variable{X:Cx}{l:CXT}{k:Nat}{f C:Addr}{w:FuncData}{i:List Str}{A:Sp}{b:List V}{ds:List Value}{E:XK}{x m:Str}{p c B:Pos}{e o:Expr}{g:List Expr}{D:TE}{t:TA}
theorem ze2{G:List (Addr×Obj)}{σ:St}{H:Hp}{s:Shared}{Q:VK}{J:List Value}{L:List V}(F:FnOk X.prog X.w X.K X.mg X.base l k f w i A)(U:Room k X.A)(hb:Binds X.K w i ds)(O:Vals b ds)(hx:WW l X E)
  (I:Inv X G σ H s) (r:Vals L J) (h:A (L++b) H Q E):wpAny (model X.prog X.w) X.A (call (.ref f) J) (EP X G σ Q) X.xe s:=by
 have M:Vals (L++b) (J++ds):=r.append O;have T:(J++ds).length=i.length:=by rw[<- M.length];exact F.len _ _ _ _ h
 refine wpAny_call (codeAny_mono (F.run X.A X.stack s H ⟨J,[]⟩ (J++ds) (L++b) Q E U I.env0 (hb s J I.kIn T) M h) fun r Y hq=>?_)
 cases r with
 | error e=>exact hx G σ H s e Y I hq
 | ok N=>
  cases N with
  | ret u=>exact I.after hq
  | next=>exact False.elim hq
  | brk=>exact False.elim hq
  | cont=>exact False.elim hq
theorem zdu(F:FnOk X.prog X.w X.K X.mg X.base l k f w i A)(Y:Room k X.A)(T:Gl X x)(U:X.mg x=some (.ref f))(hk:PySem.W.keepIn X.K (.ref f)=true)(hb:Binds X.K w i ds)(N:Vals b ds)(hx:WW l X E)
  (M:PA X (e::g) t) (G:(x==("__debug__":Str))=false:=by decide) (O:starEach (e::g) X.env=(false,eval e X.env)::starEach g X.env:=by rfl) (J:(backTo c (starEach g X.env)).any (·.1)=false:=by rfl) :
  PE X (.Call (.Name x p) (e::g) [] c) (zec A b E t):=by
 intro u s σ H Q I h;refine wpAny_Call_Name_kw (YK I T U ?_ G)
 refine PySem.W.callWith_K (h₀:=X.base) I.ok.mod.kin hk (thn (M c u s σ H _ I h) fun us s1 ⟨vs,H1,L,r,q⟩=>⟨L.kIn,?_⟩) O J
 exact ze2 F Y hb N hx L r q
structure Mk(K:W.Frag)(C f:Addr):Prop where
 makes:PySem.W.makesIn K C=true
 init:PySem.W.findIn K (.ref C) "__init__" = some (some (.ref f))
 fn:PySem.W.isFn K (.ref f)=true
 kp:PySem.W.keepIn K (.ref C)=true
end
section
variable{X:Cx}{u:CXT}{k:Nat}{f C:Addr}{fd:FuncData}{ps ks:List Str}{B:Sp}{E:XK}{x m:Str}{p l b c:Pos}{e o:Expr}{w:List Expr}{i:List Keyword}{G D:TE}{t H:TA}{A:Option Str}
structure KBinds(K:W.Frag)(fd:FuncData)(ps ks:List Str)(g:List Value->List Value->List Value)(gV:List V->List V->List V):Prop where
 to:∀(s:Shared) (us ws:List Value),K.In s.heap->(g us ws).length=ps.length->BindsTo s fd ⟨us,ks.zip ws⟩ (ps.zip (g us ws))
 rel:∀{vs:List V} {us:List Value} {zs:List V} {ws:List Value},Vals vs us->Vals zs ws->Vals (gV vs zs) (g us ws)
variable{g:List Value->List Value->List Value}{gV:List V->List V->List V}
end
structure zD(N P:List Str)(sc:Scope):Prop where
 kind:sc.kind=.function
 co:sc.isCoroutine=false
 gen:sc.isGenerator=false
 nd:N.Nodup
 pre:N.take P.length=P
 par:∀x∈P,sc.names.lookup x=some .local\/sc.names.lookup x=some .cell
 nofree:∀y∈sc.names,y.2≠.free
theorem JF{kindOf:Str->Option NameKind}{x:Str}:∀{b:List (Str×Value)} {m:Str->Option Value},(∀v,(x,v)∉b)->bindL kindOf b m x=m x
 | [],_,_=>rfl
 | (n,v)::r,m,h=>by
  unfold bindL;rw[JF fun w c=>h w (jh _ c)]
  split
  ·have:x≠n:=by rintro rfl;exact h v jx
   simp[this]
  ·rfl
theorem JH{kindOf:Str->Option NameKind}{x:Str}:∀{b:List (Str×Value)} {m:Str->Option Value},(∀v,(x,v)∉b)->bindC kindOf b m x=m x
 | [],_,_=>rfl
 | (n,v)::r,m,h=>by
  unfold bindC;rw[JH fun w c=>h w (jh _ c)]
  split
  ·rfl
  ·have:x≠n:=by rintro rfl;exact h v jx
   simp[this]
theorem JG{kindOf:Str->Option NameKind}{x:Str}{v:Value}:∀{P:List Str} {b:List Value} {i:Nat} {m:Str->Option Value},P.Nodup->P[i]? =some x->b[i]? =some v->kindOf x=some .local ->
  bindL kindOf (P.zip b) m x=some v
 | [],_,_,_,_,h,_,_=>by simp at h
 | _::_,[],_,_,_,_,h,_=>by simp at h
 | p::P,w::b,0,m,c,h1,h2,hk=>by
  simp at h1 h2;subst h1;subst h2
  show bindL kindOf ((p,w)::P.zip b) m p=_;unfold bindL;rw[JF fun v hv=>(wf.mp c).1 (Wr hv).1,zF hk]
  simp
 | p::P,w::b,i+1,m,c,h1,h2,hk=>by
  show bindL kindOf ((p,w)::P.zip b) m x=_;unfold bindL;exact JG (i:=i) (wf.mp c).2 (by simpa using h1) (by simpa using h2) hk
theorem JI{kindOf:Str->Option NameKind}{x:Str}{v:Value}:∀{P:List Str} {b:List Value} {i:Nat} {m:Str->Option Value},P.Nodup->P[i]? =some x->b[i]? =some v->kindOf x≠some .local ->
  bindC kindOf (P.zip b) m x=some v
 | [],_,_,_,_,h,_,_=>by simp at h
 | _::_,[],_,_,_,_,h,_=>by simp at h
 | p::P,w::b,0,m,c,h1,h2,hk=>by
  simp at h1 h2;subst h1;subst h2
  show bindC kindOf ((p,w)::P.zip b) m p=_;unfold bindC;rw[JH fun v hv=>(wf.mp c).1 (Wr hv).1,zB hk]
  simp
 | p::P,w::b,i+1,m,c,h1,h2,hk=>by
  show bindC kindOf ((p,w)::P.zip b) m x=_;unfold bindC;exact JI (i:=i) (wf.mp c).2 (by simpa using h1) (by simpa using h2) hk
def Zv(N:List Str)(b:List V):St:=b.map some++List.replicate (N.length-b.length) none
def Wl(l:CXT)(P:Program)(w:World)(K:W.Frag)(mg:Str->Option Value)(base:Heap)(N:List Str)(c:Str)(b:Scope)(f:Addr)(i:Value)(A:Around)(outer:List Env)(s:Shared)(H:Hp)(E:XK):Cx where
 prog:=P
 w:=w
 K:=K
 mg:=mg
 base:=base
 A:=A.deeper (envOfC c b s.heap.objs.size f i)
 N:=N
 s₀:=s
 H₀:=H
 env:=envOfC c b s.heap.objs.size f i
 outer:=outer
 stack:=envOfC c b s.heap.objs.size f i::outer
 ex:=[]
 calm:=true
 fn:=fun _=>true
 pn:=[]
 xe:=fun e u=>wpAny (model P w) (A.deeper (envOfC c b s.heap.objs.size f i)) (leaving (envOfC c b s.heap.objs.size f i) e) (fun _ g=>l outer H s E e g) (fun o g=>l outer H s E o g) u
theorem VG{b:Scope}{n:Nat}{x:Str}(h:b.names.lookup x=some .cell):∃c,(cellsFrom n b.names []).lookup x=some c:=by
 have q:=PySem.W.cellsFrom_some b.names n [] (.inl h);exact Option.isSome_iff_exists.mp q
theorem zaQ{U:CXT}{P:Program}{w:World}{K:W.Frag}{Q:Str->Option Value}{B:Heap}{N I:List Str}{o:Str}{g:Scope}{f:Addr}{M:Value}{A:Around}{l:List Env}{s s1:Shared}{H:Hp}{E:XK}{T:List Value}{J:List V}
  (S:zD N I g) (hd:A.handled=none) (D:Env0 P w K Q B A l s H) (hl:J.length=I.length) (r:Vals J T)
  (x:InCallC s s.heap.objs.size (bindL (envOfC o g s.heap.objs.size f M).kindOf (I.zip T) fun _=>none) (cellsFrom (s.heap.objs.size+1) g.names []) (bindC (envOfC o g s.heap.objs.size f M).kindOf (I.zip T) fun _=>none) s1) :
  Inv (Wl U P w K Q B N o g f M A l s H E) [] (Zv N J) H s1:=by
 have a6:I.length<=N.length:=by have:=congrArg List.length S.pre;rw[qI] at this;omega
 obtain⟨h1,tk,rfl,hk⟩:=x.done;have G:∀b:Addr,b∉(Wl U P w K Q B N o g f M A l s H E).ex:=fun b z=>absurd (show b∈([]:List Addr) from z) (by simp)
 refine⟨⟨D.mod,S.kind,rfl,rfl,zi _,fun y z c h1 h2=>?_,fun y hy=>?_,fun y c _ h=>?_,fun _=>hd,Around.frames_deeper D.frames,.inr ⟨rfl,rfl⟩,fun b z=>absurd z (G b),D.bs,D.bsz,fun b _ _=>G b,fun b z=>absurd z (G b),D.funs,D.frf⟩,
  rfl,D.bare,Un.kept hk,⟨_,x.toInCall.ns,fun i y v h1 h2 h3=>?_⟩,fun y c h=>⟨_,x.cell y c h⟩,D.hok.fresh (zi _),fun y c h=>?_,fun p hp=>absurd (show p∈([]:List (Addr×Obj)) from hp) (by simp),D.hok.kept hk,?_⟩
 ·exact name_of_addr x.apart (wJ h1) (wJ h2)
 ·have hy:g.names.lookup y=some .cell\/g.names.lookup y=some .free:=hy
  rcases hy with hy | hy
  ·exact VG hy
  ·exact absurd rfl (S.nofree _ (wJ hy))
 ·exact wU (x.above y c (wJ h))
 ·have O:i<J.length:=by
   unfold Zv at h2;by_cases O:i<J.length
   ·exact O
   ·rw[xF (by simpa using O)] at h2
    rw[List.getElem?_replicate] at h2
    split at h2<;>cases h2
  have Y:J[i]? =some v:=by
   unfold Zv at h2;rw[xq (by simpa using O),jM] at h2
   cases e:J[i]? with
   | none=>rw[e] at h2;cases h2
   | some a=>rw[e] at h2;cases h2;rfl
  obtain⟨u,hu,rv⟩:=r.get Y;have hp:I[i]? =some y:=by
   rw[<- S.pre,List.getElem?_take_of_lt (by omega)];exact h1
  have L:I.Nodup:=by rw[<- S.pre];exact S.nd.sublist (Ww _ _)
  refine⟨u,rv,?_⟩
  rcases S.par y (qY hp) with k | k
  ·exact .inl ⟨k,JG L hp hu k⟩
  ·obtain⟨c,e⟩:=VG (n:=s.heap.objs.size+1) k
   refine .inr ⟨.inl k,c,e,?_⟩
   have q:=x.cell y c e;rw[JI L hp hu (by show g.names.lookup y≠_;rw[k];decide)] at q
   exact q
 ·exact D.hok.fresh (wU (x.above y c (wJ h)))
 ·unfold Zv
  show _=N.length;rw[qR,zv,wK];omega
theorem zg8{CX:CXT}{P:Program}{w:World}{K:W.Frag}{mg:Str->Option Value}{B:Heap}{k:Nat}{f:Addr}{M i:Str}{D:Arguments}{body:List Stmt}{c:Scope}{dV kV Y pm l ct oc:Value}{an od:Option Addr}
  {ab:Array (Option Value)} {N ps:List Str} {sp:Sp} (lk:K.lookup f=some ⟨oc,od,.func (PySem.W.fnOf M i D body c dV kV Y pm an l ct),ab⟩) (a9:PySem.W.codeIn K l i=true) (S:zD N ps c)
  (a8:∀G H Q E,sp G H Q E->G.length=ps.length)
  (O:∀(A:Around) (g:List Env) (s:Shared) (H:Hp) (G:List V) (Q:VK) (E:XK),Room k (A.deeper (envOfC i c s.heap.objs.size f l))->sp G H Q E ->
   ∃t,PSs (Wl CX P w K mg B N i c f l A g s H E) body t/\t { nx:=fun _ L=>Q .non L,rt:=Q } (Zv N G) H) :
  FnOk P w K mg B CX (k+1) f (PySem.W.fnOf M i D body c dV kV Y pm an l ct) ps sp:=by
 refine⟨a8,fun A g s H args us G Q E hr e0 hb r a7=>?_⟩
 have hl:=a8 _ _ _ _ a7;have KX:K.In s.heap:=e0.mod.kin.keeps fun b o e=>(e0.bs b o e).1
 have aa:s.heap.NoLimit:=e0.mod.nolimit.keeps fun b o e=>(e0.bs b o e).1
 have T:∀y∈ps.zip us,c.names.lookup y.1=some .local\/(c.names.lookup y.1=some .cell/\((cellsFrom (s.heap.objs.size+1) c.names []).lookup y.1).isSome=true):=fun ⟨n,v⟩ hy=>by
  rcases S.par n (Wr hy).1 with q | q
  ·exact .inl q
  ·exact .inr ⟨q,PySem.W.cellsFrom_some _ _ _ (.inl q)⟩
 refine codeAny_call_function hr.depth (KX _ _ lk) rfl S.co S.gen rfl (PySem.W.codeRec_of KX a9) (hb _ _ _ _ ?_)
 refine wpAny_newFunctionEnv_cells S.kind T fun ac he s1 x=>?_
 subst he;refine⟨aa.keeps x.toInCall.keep,codeAny_func ?_⟩
 obtain⟨t,ht,hq⟩:=O A g s H G Q E (hr.deeper _) a7;have I:Inv (Wl CX P w K mg B N i c f l A g s H E) [] (Zv N G) H s1:=zaQ S hr.hd e0 hl r x;refine jC (ht [] s1 (Zv N G) H _ I hq) (fun fl s' U=>?_) fun e s' U=>U
 have a6:∀{σ':St} {L:Hp} {v:V} {u:Value},Inv (Wl CX P w K mg B N i c f l A g s H E) [] σ' L s'->RelV v u->Q v L->CE g P w H s Q u s':=
  fun {σ' L v u} J rv q=>⟨v,L,J.os,J.bare,J.base,J.hok,rv,q⟩
 cases fl with
 | ret u=>
  obtain⟨v,σ',L,J,rv,q⟩:=U;exact a6 J rv q
 | next=>
  obtain⟨σ',L,J,q⟩:=U;exact a6 (v:=V.non) (u:=Value.none) J rfl q
 | brk=>
  obtain⟨_,_,_,q⟩:=U;exact False.elim q
 | cont=>
  obtain⟨_,_,_,q⟩:=U;exact False.elim q
section
variable{X:Cx}{x:Str}{p b:Pos}{e:Expr}{c:List Expr}{t:TA}{id T:String}{r:List V->Hp->VK->Prop}
def tCB(r:List V->Hp->VK->Prop)(t:TA):TE:=fun σ H Q=>t σ H fun g f=>r g f Q
theorem zk(hc:CallR X (.builtin id) r)(A:Gl X x)(B:X.mg x=none)(hv:bootBuiltins x=some (.builtin id))(u:PA X (e::c) t)(D:x ≠ "__name__" :=by decide)(g:(x==("__debug__":Str))=false:=by decide)
  (w:starEach (e::c) X.env=(false,eval e X.env)::starEach c X.env:=by rfl) (i:(backTo b (starEach c X.env)).any (·.1)=false:=by rfl):PE X (.Call (.Name x p) (e::c) [] b) (tCB r t):=by
 intro f s σ H Q I h;refine wpAny_Call_Name_kw (vI I A B hv ?_ D g)
 exact PyProof.Rows.callWith_builtin1 (thn (u b f s σ H _ I h) fun G s1 ⟨J,l,o,E,q1⟩=>hc f s1 σ l J G Q o E q1) w i
theorem zX(hc:CallR X (.type T) r)(A:Gl X x)(B:X.mg x=none)(hv:bootBuiltins x=some (.type T))(u:PA X (e::c) t)(D:x ≠ "__name__" :=by decide)(g:(x==("__debug__":Str))=false:=by decide)
  (w:starEach (e::c) X.env=(false,eval e X.env)::starEach c X.env:=by rfl) (i:(backTo b (starEach c X.env)).any (·.1)=false:=by rfl):PE X (.Call (.Name x p) (e::c) [] b) (tCB r t):=by
 intro f s σ H Q I h;refine wpAny_Call_Name_kw (vI I A B hv ?_ D g)
 exact JN (thn (u b f s σ H _ I h) fun G s1 ⟨J,l,o,E,q1⟩=>hc f s1 σ l J G Q o E q1) w i
end
end L2
namespace HT
open PySem PyProof.Rows
section
open PySem.SeqAt
open PySem.AutoSeq1 (wpAny_loadPart')
open PySem.MeetsSeq PySem.MeetsSeq2 PySem.MeetsSeq3
end
section
variable{c:Program}{w:World}{A:Around}{E:Value->Shared->Prop}{s:Shared}
theorem cat_tup{t b:Addr}{i f:List Value}{Q:Value->Shared->Prop}(O:IsTup s.heap t i.toArray)(hb:IsTup s.heap b f.toArray)(hv:i≠[])
  (h1:f=[]->Q (.ref t) s) (h2:f≠[]->Q (.ref s.heap.objs.size) { s with heap:=s.heap.push { cls:=.type "tuple",data:=.seq (i++f).toArray } })
  (H:i.length+f.length<=sizeLine):wpAny (model c w) A (binaryOp .Add (.ref t) (.ref b)) Q E s:=by
 obtain⟨⟨cls,J,data,N⟩,D,hc,n,L⟩:=id O;obtain⟨⟨I,l,data2,B⟩,g,o,M,u⟩:=id hb;simp only at hc L o u;subst hc L o u;have e:i.toArray++f.toArray=(i++f).toArray:=by simp
 by_cases G:f=[]
 ·exact concat_meets ⟨_,D,rfl⟩ ⟨_,g,rfl⟩ noFill_tuple_add seq_tuple_add WO WP (WR _ _)
   (tuple_addW1 t b i.toArray f.toArray n M J l N B (by simpa using hv) (by simp[G])) ⟨D,g,h1 G⟩
 ·refine concat_meets ⟨_,D,rfl⟩ ⟨_,g,rfl⟩ noFill_tuple_add seq_tuple_add WO WP (WR _ _)
   (tuple_addW2 t b i.toArray f.toArray n M J l N B (by simpa using hv) (by simpa using G) (by rw[qt,qt];exact H)) ⟨D,g,?_⟩
  rw[e];exact h2 G
def sIx(n d:Nat):Option Int->Nat
 | none=>d
 | some v=>if v<0 then(v+(n:Int)).toNat else min v.toNat n
theorem sIx_none(n d:Nat):sIx n d none=d:=rfl
theorem sIx_nat(n d k:Nat):sIx n d (some (k:Int))=min k n:=by
 show(if(k:Int)<0 then((k:Int)+(n:Int)).toNat else min (k:Int).toNat n)=min k n
 rw[zB (by omega),Zo]
theorem ze1(n d:Nat)(b:d<=n)(o:Option Int):sIx n d o<=n:=by
 cases o with
 | none=>exact b
 | some v=>
  show(if v<0 then(v+(n:Int)).toNat else min v.toNat n)<=n
  by_cases hv:v<0
  ·rw[zF hv];omega
  ·rw[zB hv];exact Nat.min_le_right _ _
theorem Y1(v:Int)(n d:Nat):(if v<0 then max (v+(n:Int)) 0 else min v (n:Int))=((sIx n d (some v):Nat):Int):=by
 show(if v<0 then max (v+(n:Int)) 0 else min v (n:Int))=(((if v<0 then(v+(n:Int)).toNat else min v.toNat n):Nat):Int)
 by_cases hv:v<0
 ·simp only[zF hv];omega
 ·simp only[zB hv];omega
theorem WV(lo b:Option Int)(n:Nat):Builtin.Slice.sliceAdjust lo b 1 (n:Int)=(((sIx n 0 lo:Nat):Int),((sIx n n b:Nat):Int)):=by
 have h1:¬((1:Int)<0):=by omega
 unfold Builtin.Slice.sliceAdjust;simp only[h1,if_false];refine Zd ?_ ?_
 ·cases lo with
  | none=>rfl
  | some v=>exact Y1 v n 0
 ·cases b with
  | none=>rfl
  | some v=>exact Y1 v n n
theorem V6(i j:Nat):Builtin.Slice.slicePlaces (i:Int) (j:Int) 1=j-i:=by
 unfold Builtin.Slice.slicePlaces;have h1:(1:Int)>0:=by omega
 simp only[h1,if_true,Int.ediv_one];split<;>omega
theorem Z6{v:Value}{o:Option Int}{Q:Option Int->Shared->Prop}(p:IsPart v o)(h:Q o s):wpAny (model c w) A (Builtin.Slice.slicePartIndex v) Q E s:=by
 cases p with
 | none=>exact slicePart_none h
 | int i t=>exact slicePart_int h
theorem sliceApplied_gen{o:Addr}{i l:Value}{lo f:Option Int}{n:Nat}{Q:Int×Int×Nat->Shared->Prop}(B:s.heap.IsSliceOf o i l .none)(D:IsPart i lo)(G:IsPart l f)
  (h:Q (((sIx n 0 lo:Nat):Int),1,sIx n n f-sIx n 0 lo) s):wpAny (model c w) A (Builtin.Slice.sliceApplied (.ref o) (pure (n:Int))) Q E s:=by
 obtain⟨os,g,u,b⟩:=id B;unfold Builtin.Slice.sliceApplied Builtin.Slice.sliceFields;refine zn (zn (xJ g b (x:=i) rfl (zn (xJ g b (x:=l) rfl (zn (xJ g b (x:=.none) rfl (zy ?_)))))))
 refine zn (slicePart_none ?_)
 show wpAny _ _ (if((1:Int)==0)=true then _ else _) _ _ s
 rw[zB (by decide)]
 refine zn (Z6 D (zn (Z6 G (zn (zy ?_)))))
 show wpAny _ _ (match Builtin.Slice.sliceAdjust lo f 1 (n:Int) with | (lo,f)=>pure (lo,(1:Int),Builtin.Slice.slicePlaces lo f 1)) _ _ s
 rw[WV lo f n];show wpAny _ _ (pure (((sIx n 0 lo:Nat):Int),(1:Int),Builtin.Slice.slicePlaces ((sIx n 0 lo:Nat):Int) ((sIx n n f:Nat):Int) 1)) _ _ s;rw[V6];exact zy h
theorem zb6(b:Array Value)(i k:Nat):((List.range k).filterMap fun(m:Nat)=>b[((i:Int)+(m:Int)*1).toNat]?).toArray=((b.toList.drop i).take k).toArray:=by
 have e:(fun(m:Nat)=>b[((i:Int)+(m:Int)*1).toNat]?)=fun m=>b[i+m]?:=by
  funext m
  have:((i:Int)+(m:Int)*1).toNat=i+m:=by omega
  rw[this]
 rw[e];have:=pick_run b i k;rw[List.filterMap_map] at this;have e2:((fun x=>b[x]?)∘fun x=>i+x)=fun m=>b[i+m]?:=rfl
 rw[e2] at this;rw[this]
theorem getItem_tuple_cut{t B:Addr}{items:Array Value}{H I:Value}{lo f:Option Int}{Q:Value->Shared->Prop}(g:IsTup s.heap t items)(D:s.heap.IsSliceOf B H I .none)(N:IsPart H lo)(O:IsPart I f)
  (M:¬(sIx items.size 0 lo=0/\sIx items.size items.size f=items.size))
  (h:Q (.ref s.heap.objs.size) { s with heap:=s.heap.push { cls:=.type "tuple",data:=.seq ((items.toList.drop (sIx items.size 0 lo)).take (sIx items.size items.size f-sIx items.size 0 lo)).toArray } })
  (L:items.size<=sizeLine):wpAny (model c w) A (getItem (.ref t) (.ref B)) Q E s:=by
 have b:sizeOk (.seq ((items.toList.drop (sIx items.size 0 lo)).take (sIx items.size items.size f-sIx items.size 0 lo)).toArray):=by
  show((items.toList.drop (sIx items.size 0 lo)).take (sIx items.size items.size f-sIx items.size 0 lo)).toArray.size<=sizeLine;rw[qt,qI,yf,qX];omega
 have T:sIx items.size items.size f<=items.size:=ze1 _ _ (zi _) f;obtain⟨os,u,l,J⟩:=id D;have i:s.TypeIs (.ref B) "slice" :=⟨os,u,l⟩;unfold getItem;try with_reducible refine jR ?_
 first| refine zn (zy ?_) | skip
 refine zn (wpAny_sequenceKey g.typeIs (by decide) ?_)
 refine zn (QA (name:=Str.ofString "__getitem__") g.typeIs WT
  (vS WT g.typeIs entry_tuple_getitem ?_ (args_tuple_getitem _ _)))
 show wpAny _ _ (Builtin.Tuple.tupleItemsOf (.ref t) >>= _) _ _ s;refine zn (tupleItemsOf_ g ?_)
 refine zn (wpAny_typeOf i ?_)
 rw[zF (by decide)]
 refine zn (sliceApplied_gen D N O ?_)
 have o:¬((((sIx items.size 0 lo:Nat):Int)==0&&(1:Int)==1&&(sIx items.size items.size f-sIx items.size 0 lo)==items.size)=true):=by
  intro q;rw[qQ,qQ] at q;have q1:((sIx items.size 0 lo:Nat):Int)=0:=eq_of_beq q.1.1;have q2:sIx items.size items.size f-sIx items.size 0 lo=items.size:=eq_of_beq q.2;exact M ⟨by omega,by omega⟩
 show wpAny _ _ (if(((sIx items.size 0 lo:Nat):Int)==0&&(1:Int)==1&&(sIx items.size items.size f-sIx items.size 0 lo)==items.size)=true then _ else _) _ _ s
 rw[zB o,zb6];first
  | exact zn (m:=Builtin.Tuple.tupleExact _) (yK (zy ⟨_,rfl,zy h⟩) b)
  | exact zn (m:=Builtin.Tuple.tupleExact _) (yK (zn (zy (zy ⟨_,rfl,zy h⟩))) b)
  | exact zn (zn (m:=Builtin.Tuple.tupleExact _) (yK (zy (zy ⟨_,rfl,zy h⟩)) b))
  | exact zn (zn (m:=Builtin.Tuple.tupleExact _) (yK (zy ⟨_,rfl,zy h⟩) b))
end
end HT
namespace L2
open PySem PySem.Spec PyProof.Rows
abbrev TO:=St->Hp->(Option Int->Hp->Prop)->Prop
def PO(X:Cx)(e:Option Expr)(t:TO):Prop:=
 ∀(b:List (Addr×Obj)) (s:Shared) (σ:St) (H:Hp) (Q:Option Int->Hp->Prop),Inv X b σ H s->t σ H Q ->
  wpAny (model X.prog X.w) X.A (evalPart e X.env) (fun u f=>∃o c,Inv X b σ c f/\IsPart u o/\Q o c) X.xe s
def JT:TO:=fun _ H Q=>Q none H
def zbn(t:TE):TO:=fun σ H Q=>t σ H fun x b=>IsI x b fun i b=>Q (some i) b
section
variable{X:Cx}{e:Expr}{f:TE}{lo c:Option Expr}{B A:TO}{D g:Pos}
theorem qe:PO X none JT:=by
 intro b s σ H Q I h;rw[evalPart_none];exact zy ⟨none,H,I,.none,h⟩
theorem zL(h:PE X e f):PO X (some e) (zbn f):=by
 intro b s σ H Q I w;rw[evalPart_some];refine thn (h b s σ H _ I w) fun u s1 ⟨x,l,o,E,q1⟩=>?_
 obtain⟨i,rfl,q⟩:=q1;obtain⟨t,rfl⟩:=E;exact⟨some i,l,o,.int i t,q⟩
def SlR(X:Cx)(r:V->Option Int->Option Int->Hp->VK->Prop):Prop:=
 ∀(b:List (Addr×Obj)) (s:Shared) (σ:St) (H:Hp) (x:V) (v l o:Value) (lo c:Option Int) (i:Addr) (Q:VK),Inv X b σ H s->RelV x v->s.heap.IsSliceOf i l o .none->IsPart l lo->IsPart o c->r x lo c H Q ->
  ∃T id,typeLookup (.type T) "__getitem__" = pure (some (.builtin id))/\s.TypeIs v T/\wpAny (model X.prog X.w) X.A (getItem v (.ref i)) (EP X b σ Q) X.xe s
theorem SlR.or{r u:V->Option Int->Option Int->Hp->VK->Prop}(h:SlR X r)(L:SlR X u):SlR X (fun x lo c H Q=>r x lo c H Q\/u x lo c H Q):=by
 intro b s σ H x v G J lo c E Q I w i l o q;rcases q with q | q
 ·exact h b s σ H x v G J lo c E Q I w i l o q
 ·exact L b s σ H x v G J lo c E Q I w i l o q
def tSl(r:V->Option Int->Option Int->Hp->VK->Prop)(f:TE)(B A:TO):TE:=fun σ H Q=>f σ H fun x b=>B σ b fun l i=>A σ i fun u o=>r x l u o Q
theorem zK{r:V->Option Int->Option Int->Hp->VK->Prop}(hr:SlR X r)(he:PE X e f)(hl:PO X lo B)(hu:PO X c A):PE X (.Subscript e (.Slice lo c none g) D) (tSl r f B A):=by
 intro i s σ H Q I h;refine Subscript_ (thn (he i s σ H _ I h) fun v s1 ⟨x,J,M,r1,q1⟩=>?_)
 refine wpAny_Slice (thn (hl i s1 σ J _ M q1) fun w s2 ⟨l,L,N,pl,q2⟩=>thn (hu i s2 σ L _ N q2) fun E o ⟨u,G,O,pu,q3⟩=>?_)
 rw[evalPart_none];refine zy ?_
 have U:Inv X i σ G { o with heap:=o.heap.push { cls:=.type "slice",data:=.fields #[w,E,.none] } }:=O.kept (t':=o.toks) fun b ob q=>qw _ q
 obtain⟨T,id,Y,ht,hg⟩:=hr i { o with heap:=o.heap.push { cls:=.type "slice",data:=.fields #[w,E,.none] } } σ G x v w E l u o.heap.objs.size Q U r1 (Heap.IsSliceOf.new ..) pl pu q3;show wpAny (model X.prog X.w) X.A (subscriptTail e (.Slice lo c none g) v (.ref o.heap.objs.size)) (EP X i σ Q) X.xe { o with heap:=o.heap.push { cls:=.type "slice",data:=.fields #[w,E,.none] } };exact tail_any (ops:=[.ref o.heap.objs.size,v]) ht Y hg (by with_unfolding_all rfl)
def qP(b:List V)(lo c:Option Int):List V:=(b.drop (HT.sIx b.length 0 lo)).take (HT.sIx b.length b.length c-HT.sIx b.length 0 lo)
theorem vf(b:List V)(lo c:Option Int):(qP b lo c).length<=b.length:=by
 unfold qP;rw[qI,yf];omega
inductive zgw(K:W.Frag)(x:V)(lo:Option Int)(c:Option Int)(H:Hp)(Q:VK):Prop
 | mk (a b:_) (_:x=.ref a) (_:SqT K H a b) (_:¬(HT.sIx b.length 0 lo=0/\HT.sIx b.length b.length c=b.length)) (_:∀p,H p=none->Q (.ref p) (upd H p (.tup (qP b lo c)))):zgw K x lo c H Q
theorem V4:SlR X (zgw X.K):=by
 intro G s σ H x v vl vu lo c U Q I O J M N h;obtain⟨a,l,rfl,hx,L,q⟩:=h;cases O;obtain⟨u,r,w,E⟩:=I.tuple hx;have i:u.toArray.size=l.length:=by rw[qt];exact r.length.symm
 refine⟨"tuple",_,WT.lookup,w.typeIs,?_⟩
 refine HT.getItem_tuple_cut w J M N (by rw[i];exact L) ?_ (by rw[i];exact E)
 rw[i];refine⟨.ref s.heap.objs.size,_,I.laid (t':=s.toks) (o:=.tup (qP l lo c)) (fun b T q=>qw _ q) (zi _) ?_,rfl,q _ (I.hok.fresh (zi _))⟩
 exact⟨qk (vf l lo c) E,_,(r.drop (HT.sIx l.length 0 lo)).take (HT.sIx l.length l.length c-HT.sIx l.length 0 lo),⟨Ze _ _,_,qH _ rfl,rfl⟩⟩
inductive zbZ(K:W.Frag)(x:V)(y:V)(H:Hp)(Q:VK):Prop
 | mk (a b l i:_) (_:x=.ref a) (_:y=.ref b) (_:SqT K H a l) (_:SqT K H b i) (_:l≠[]) (_:l.length+i.length<=sizeLine) (_:(i=[]->Q (.ref a) H)) (_:(i≠[]->∀p,H p=none->Q (.ref p) (upd H p (.tup (l++i))))):zbZ K x y H Q
theorem Vals.nil_iff{i:List V}{b:List Value}(r:Vals i b):b=[]↔i=[]:=by
 cases r with
 | nil=>simp
 | cons _ _=>simp
theorem YC:OpR X (binaryOp .Add) (zbZ X.K):=by
 intro J s σ H x y v u Q I O T h;obtain⟨a,b,U,Y,rfl,rfl,L,hb,hx,E,q1,q2⟩:=h;cases O;cases T;obtain⟨M,l,N,_⟩:=I.tuple L;obtain⟨G,i,g,_⟩:=I.tuple hb;refine HT.cat_tup N g (fun z=>hx (l.nil_iff.mp z)) (fun z=>⟨.ref a,H,I,rfl,q1 (i.nil_iff.mp z)⟩) (fun z=>?_) (by rw[<- l.length,<- i.length];exact E)
 refine⟨.ref s.heap.objs.size,_,I.laid (t':=s.toks) (o:=.tup (U++Y)) (fun b ob q=>qw _ q) (zi _) ?_,rfl,q2 (fun w=>z (i.nil_iff.mpr w)) _ (I.hok.fresh (zi _))⟩
 exact⟨by rw[qR];exact E,_,l.append i,⟨Ze _ _,_,qH _ rfl,rfl⟩⟩
end
def ixN(n:Nat)(i:Int):Option Nat:=if 0<=i then(if i<n then some i.toNat else none) else if -(n:Int)<=i then some (i+n).toNat else none
def atI{α:Type}(b:List α)(i:Int):Option α:=(ixN b.length i).bind fun j=>b[j]?
theorem YN{n:Nat}{i:Int}{j:Nat}(h:ixN n i=some j):seqIndex? i n=some j/\j<n/\ -(n:Int)<=i/\i<n:=by
 unfold ixN at h;by_cases h0:0<=i
 ·rw[zF h0] at h
  by_cases h1:i<n
  ·rw[zF h1] at h
   have e:i.toNat=j:=j5 h;exact⟨by rw[seqIndex_of h0 h1,e],by omega,by omega,h1⟩
  ·rw[zB h1] at h;cases h
 ·rw[zB h0] at h
  by_cases h1:-(n:Int)<=i
  ·rw[zF h1] at h
   have e:(i+n).toNat=j:=j5 h;exact⟨by rw[seqIndex_neg (by omega) h1,e],by omega,h1,by omega⟩
  ·rw[zB h1] at h;cases h
theorem Xg{α:Type}{b:List α}{i:Int}{v:α}(h:atI b i=some v):∃j,seqIndex? i b.length=some j/\b[j]? =some v/\j<b.length/\ -(b.length:Int)<=i/\i<b.length:=by
 unfold atI at h;cases e:ixN b.length i with
 | none=>rw[e] at h;cases h
 | some j=>
  rw[e] at h;obtain⟨h1,h2,h3,c⟩:=YN e;exact⟨j,h1,h,h2,h3,c⟩
theorem ZX{α:Type}{xs:List α}{j:Nat}{v:α}(h:xs[j]? =some v):atI xs (j:Int)=some v:=by
 have b:j<xs.length:=(qg.mp h).1;have e:ixN xs.length (j:Int)=some j:=by
  unfold ixN;rw[zF (by omega),zF (by omega)];simp
 unfold atI;rw[e];exact h
def zd9(b:Expr):Prop:=∀o i,subscripted b false o i=operate [o,i] (getItem o i)
def IxR(X:Cx)(r:R2):Prop:=
 ∀(f b:Expr) (c:List (Addr×Obj)) (s:Shared) (σ:St) (H:Hp) (x y:V) (v u:Value) (Q:VK),Inv X c σ H s->RelV x v->RelV y u->r x y H Q ->
  subscripted b false v u=operate [v,u] (getItem v u)->wpAny (model X.prog X.w) X.A (subscriptTail f b v u) (EP X c σ Q) X.xe s
def MtR(X:Cx)(id:String)(r:V->List V->Hp->VK->Prop):Prop:=
 ∀(b:List (Addr×Obj)) (s:Shared) (σ:St) (H:Hp) (x:V) (f:List V) (v:Value) (c:List Value) (Q:VK),Inv X b σ H s->RelV x v->Vals f c->r x f H Q ->
  wpAny (model X.prog X.w) X.A (call (.builtin id) (v::c)) (EP X b σ Q) X.xe s
section
variable{X:Cx}{a b:Expr}{J L:TE}{G:Pos}
theorem IxR.or{r w:R2}(h:IxR X r)(N:IxR X w):IxR X (fun x y H Q=>r x y H Q\/w x y H Q):=by
 intro f c i s σ H x y v u Q I A M q l;rcases q with q | q
 ·exact h f c i s σ H x y v u Q I A M q l
 ·exact N f c i s σ H x y v u Q I A M q l
theorem MtR.or{id:String}{r i:V->List V->Hp->VK->Prop}(h:MtR X id r)(A:MtR X id i):MtR X id (fun x f H Q=>r x f H Q\/i x f H Q):=by
 intro c s σ H x f v w Q I u l q;rcases q with q | q
 ·exact h c s σ H x f v w Q I u l q
 ·exact A c s σ H x f v w Q I u l q
theorem zV{r:R2}(w:IxR X r)(l:PE X a J)(hb:PE X b L)(A:zd9 b):PE X (.Subscript a b G) (tOp r J L):=by
 intro c s σ H Q I h;exact Subscript_ (zfR l hb I h fun v u s2 x y f i M N q=>w a b c s2 σ f x y v u Q i M N q (A _ _))
inductive zdl(K:W.Frag)(x:V)(y:V)(H:Hp)(Q:VK):Prop
 | mk (p c i v:_) (_:x=.ref p) (_:y=.int i) (_:SqL K H p c) (_:atI c i=some v) (_:Q v H):zdl K x y H Q
inductive zdk(K:W.Frag)(x:V)(y:V)(H:Hp)(Q:VK):Prop
 | mk (p c i v:_) (_:x=.ref p) (_:y=.int i) (_:SqT K H p c) (_:atI c i=some v) (_:Q v H):zdk K x y H Q
inductive ze4(x:V)(y:V)(H:Hp)(Q:VK):Prop
 | mk (z i c:_) (_:x=.str z) (_:y=.int i) (_:z.length<=sizeLine) (_:atI z.cps.toList i=some c) (_:Q (.str ⟨#[c]⟩) H):ze4  x y H Q
theorem zW:IxR X (zdl X.K):=by
 intro U O c s σ H x y v u Q I rx ry h hs;obtain⟨p,xs,i,z,rfl,rfl,hq,he,q⟩:=h;cases rx;obtain⟨t,rfl⟩:=ry;obtain⟨A,r,M,hz⟩:=I.list hq;obtain⟨j,h1,h2,h3,h4,h5⟩:=Xg he;obtain⟨w,Y,N⟩:=r.get h2;have hl:=r.length;have hn:=yU;have f:EP X c σ Q w s:=⟨z,H,I,N,q⟩;by_cases h0:0<=i
 ·have l:i.toNat=j:=by
   rw[seqIndex_of h0 h5] at h1;exact j5 h1
  exact item_listR M.isList h0 (by omega) (by rw[l];simpa using Y) f hs
 ·have l:(i+(A.toArray.size:Int)).toNat=j:=by
   rw[seqIndex_neg (by omega) h4] at h1
   rw[qt,<- hl];exact j5 h1
  exact subscriptTail_builtinR (x:=w) M.isList.typeIs slot_list_getitem.lookup
   (wpAny_getItem_list_neg (Q:=fun r s'=>r=w/\EP X c σ Q r s') M.isList (by omega) (by rw[qt]<;>omega) (by omega) (by rw[l];simpa using Y) ⟨rfl,f⟩) hs
theorem xc:IxR X (zdk X.K):=by
 intro M A c s σ H x y v u Q I rx ry h hs;obtain⟨p,xs,i,z,rfl,rfl,hq,U,q⟩:=h;cases rx;obtain⟨t,rfl⟩:=ry;obtain⟨a6,r,N,hz⟩:=I.tuple hq;obtain⟨j,h1,h2,h3,h4,h5⟩:=Xg U;obtain⟨w,O,l⟩:=r.get h2;have Y:=r.length;have hn:=yU;have f:EP X c σ Q w s:=⟨z,H,I,l,q⟩;exact subscriptTail_builtinR (x:=w) N.typeIs slot_tuple_getitem.lookup
  (getItem_tuple (j:=j) (Q:=fun r s'=>r=w/\EP X c σ Q r s') N (by omega) (by omega) (by rw[qt,<- Y];exact h1) (by simpa using O) ⟨rfl,f⟩) hs
theorem Wg:IxR X ze4:=by
 intro l f w s σ H x y v u Q I Y ry h U;obtain⟨z,i,c,rfl,rfl,hz,N,q⟩:=h;obtain⟨t,rfl⟩:=Y;obtain⟨t',rfl⟩:=ry;obtain⟨j,h1,h2,h3,A,M⟩:=Xg N;have O:z.cps.toList.length=z.length:=by simp[Str.length]
 rw[O] at h1 A M;have hn:=yU;exact tail_any (typeIs_str s z t) slot_str_getitem.lookup (getItem_str (c:=c) (by
  have e1:decide (i< -(2^63:Int))=false:=qy (by omega)
  have e2:decide (i≥2^63)=false:=qy (by omega)
  rw[e1,e2,Bool.or_false]) (by rw[h1];simpa using h2) ⟨.str ⟨#[c]⟩,H,I.tok _,⟨_,rfl⟩,q⟩) U
def rIx(K:W.Frag):R2:=fun x y H Q=>zdl K x y H Q\/zdk K x y H Q\/ze4 x y H Q
theorem J8:IxR X (rIx X.K):=zW.or (xc.or Wg)
theorem We(c:List Value)(n j:Nat)(u:Value):Obj.mapSeq (·.setIfInBounds j u) { cls:=.type "list",data:=.seq c.toArray n }={ cls:=.type "list",data:=.seq (c.set j u).toArray n }:=by
 simp[Obj.mapSeq]
theorem Inv.lst{f:List (Addr×Obj)}{σ:St}{H:Hp}{s:Shared}{p:Addr}{i:List V}(I:Inv X f σ H s)(h:H p=some (.lst i)) :
  ∃(c:List Value) (n:Nat),Vals i c/\s.heap.get? p=some { cls:=.type "list",data:=.seq c.toArray n }/\i.length<=sizeLine:=by
 obtain⟨z,c,n,r,e⟩:=I.hok p _ h;exact⟨c,n,r,e,z⟩
theorem Inv.lstUpd{i:List (Addr×Obj)}{σ:St}{H:Hp}{s:Shared}{p:Addr}{Q A:List V}{l c:List Value}{n w:Nat}{f:Obj->Obj}(I:Inv X i σ H s)(h:H p=some (.lst Q))
  (N:s.heap.get? p=some { cls:=.type "list",data:=.seq l.toArray n }) (M:f { cls:=.type "list",data:=.seq l.toArray n }={ cls:=.type "list",data:=.seq c.toArray w }) (r:Vals A c) (O:A.length<=sizeLine) (t:Nat) :
  Inv X i σ (upd H p (.lst A)) { s with heap:=s.heap.update p f,toks:=t }:=by
 have e:(s.heap.update p f).get? p=some { cls:=.type "list",data:=.seq c.toArray w }:=by
  rw[ZH f N (by rw[M]<;>rfl),M]
 refine I.write (x:=p) (e:=p) (by rw[h];trivial) (.inl rfl) (fun b u hb q=>(QW _ _ (qA hb)).trans q) ⟨_,e⟩ ?_
 exact⟨O,c,w,r,e⟩
inductive zeC(o:V)(i:V)(v:V)(H:Hp)(Q:Hp->Prop):Prop
 | mk (p c k j:_) (_:o=.ref p) (_:i=.int k) (_:H p=some (.lst c)) (_:ixN c.length k=some j) (_:Q (upd H p (.lst (c.set j v)))):zeC  o i v H Q
theorem yp:zhj X zeC:=by
 intro f s σ H o i v ov iv u Q I Y U rv h;obtain⟨p,xs,k,j,rfl,rfl,hp,N,q⟩:=h;cases Y;obtain⟨t,rfl⟩:=U;obtain⟨c,n,r,w,O⟩:=I.lst hp;obtain⟨h1,h2,h3,M⟩:=YN N;have l:=r.length;have hn:=yU;have A:Inv X f σ (upd H p (.lst (xs.set j v))) { s with heap:=s.heap.update p (Obj.mapSeq (·.setIfInBounds j u)) }:=
  I.lstUpd hp w (We c n j u) (r.set rv j) (by rw[QM];exact O) s.toks
 by_cases h0:0<=k
 ·have hk:k.toNat=j:=by
   rw[seqIndex_of h0 M] at h1;exact j5 h1
  exact PySem.W.ki_setAt w h0 (by omega) (by rw[qt,<- l];exact M) (by rw[hk];exact⟨_,A,q⟩)
 ·have hk:(k+(c.toArray.size:Int)).toNat=j:=by
   rw[seqIndex_neg (by omega) h3] at h1
   rw[qt,<- l];exact j5 h1
  exact PySem.W.ki_setBack w (by omega) (by rw[qt,<- l];exact h3) (by omega) (by rw[hk];exact⟨_,A,q⟩)
theorem JW(lo c:Option Int)(n:Nat):(sliceBounds lo c none n).1=((HT.sIx n 0 lo:Nat):Int)/\(sliceBounds lo c none n).2.1=((HT.sIx n n c:Nat):Int)/\(sliceBounds lo c none n).2.2=1:=by
 refine⟨?_,?_,rfl⟩
 ·cases lo with
  | none=>simp[sliceBounds,HT.sIx]
  | some i=>
   simp only[sliceBounds,HT.sIx,Option.getD_none,show(1:Int)>0 by decide,if_true]
   by_cases h:i<0
   ·simp only[h,if_true]<;>omega
   ·simp only[h,if_false]<;>omega
 ·cases c with
  | none=>simp[sliceBounds,HT.sIx]
  | some i=>
   simp only[sliceBounds,HT.sIx,Option.getD_none,show(1:Int)>0 by decide,if_true]
   by_cases h:i<0
   ·simp only[h,if_true]<;>omega
   ·simp only[h,if_false]<;>omega
theorem Q5(c:List Value)(lo f:Option Int):slicePick c.toArray lo f none=((c.drop (HT.sIx c.length 0 lo)).take (HT.sIx c.length c.length f-HT.sIx c.length 0 lo)).toArray:=by
 obtain⟨h1,h2,h3⟩:=JW lo f c.toArray.size;unfold slicePick;rw[h1,h2,h3];simp only[sliceRange_one,pick_run,qt]<;>rfl
inductive zgx(K:W.Frag)(x:V)(lo:Option Int)(c:Option Int)(H:Hp)(Q:VK):Prop
 | mk (a f:_) (_:x=.ref a) (_:SqL K H a f) (_:∀p,H p=none->Q (.ref p) (upd H p (.lst (qP f lo c)))):zgx K x lo c H Q
theorem jY:SlR X (zgx X.K):=by
 intro u s σ H x v vl vu lo i sl Q I U w N O h;obtain⟨a,c,rfl,hx,q⟩:=h;cases U;obtain⟨M,r,l,A⟩:=I.list hx;have f:=r.length;refine⟨"list",_,slot_list_getitem.lookup,l.isList.typeIs,?_⟩
 refine wpAny_getItem_list_slice l.isList w N O .none (by simp) ?_ (by rw[qt]<;>omega)
 rw[Q5,<- f];refine⟨.ref s.heap.objs.size,_,I.laid (t':=s.toks) (o:=.lst (qP c lo i)) (fun b Y q=>qw _ q) (zi _) ?_,rfl,q _ (I.hok.fresh (zi _))⟩
 exact⟨qk (vf c lo i) A,_,0,(r.drop (HT.sIx c.length 0 lo)).take (HT.sIx c.length c.length i-HT.sIx c.length 0 lo),qH _ rfl⟩
def vO:V->Bool
 | .non=>true
 | .bl _=>true
 | .int _=>true
 | .str _=>true
 | _=>false
def eqV:V->V->Bool
 | .non,.non=>true
 | .bl a,.bl b=>a==b
 | .bl a,.int b=>(if a then 1 else 0)==b
 | .int a,.bl b=>a==(if b then 1 else 0)
 | .int a,.int b=>a==b
 | .str a,.str b=>a==b
 | _,_=>false
theorem zcH{A:Around}{s:Shared}{y x:V}{u v:Value}(l:RelV y u)(c:RelV x v)(w:vO y=true)(i:vO x=true):SeqAt.EqAt A s u v (eqV y x):=by
 cases y with
 | non=>
  cases l;cases x with
  | non=>cases c;exact SeqAt.EqAt.same _
  | bl b=>cases c;exact SeqAt.EqAt.none_bool b
  | int b=>obtain⟨t,rfl⟩:=c;exact SeqAt.EqAt.none_int b t
  | str b=>obtain⟨t,rfl⟩:=c;exact SeqAt.EqAt.none_str b t
  | _=>exact absurd (show false=true from i) jG
 | bl a=>
  cases l;cases x with
  | non=>cases c;exact SeqAt.EqAt.bool_none a
  | bl b=>cases c;exact SeqAt.EqAt.bool_bool a b
  | int b=>obtain⟨t,rfl⟩:=c;exact SeqAt.EqAt.bool_int a b t
  | str b=>obtain⟨t,rfl⟩:=c;exact SeqAt.EqAt.bool_str a b t
  | _=>exact absurd (show false=true from i) jG
 | int a=>
  obtain⟨f,rfl⟩:=l;cases x with
  | non=>cases c;exact SeqAt.EqAt.int_none a f
  | bl b=>cases c;exact SeqAt.EqAt.int_bool a f b
  | int b=>obtain⟨t,rfl⟩:=c;exact SeqAt.EqAt.int_int a f b t
  | str b=>obtain⟨t,rfl⟩:=c;exact SeqAt.EqAt.int_str a f b t
  | _=>exact absurd (show false=true from i) jG
 | str a=>
  obtain⟨f,rfl⟩:=l;cases x with
  | non=>cases c;exact SeqAt.EqAt.str_none a f
  | bl b=>cases c;exact SeqAt.EqAt.str_bool a f b
  | int b=>obtain⟨t,rfl⟩:=c;exact WB a f b t
  | str b=>obtain⟨t,rfl⟩:=c;exact SeqAt.EqAt.str_str a f b t
  | _=>exact absurd (show false=true from i) jG
 | _=>exact absurd (show false=true from w) jG
def eqU(x:V)(u:Value):Bool:=match u with
 | .none=>eqV .non x
 | .bool b=>eqV (.bl b) x
 | .int i _=>eqV (.int i) x
 | .str z _=>eqV (.str z) x
 | _=>false
theorem zcG{x y:V}{u:Value}(r:RelV y u)(f:vO y=true):eqU x u=eqV y x:=by
 cases y with
 | non=>cases r;rfl
 | bl b=>cases r;rfl
 | int i=>obtain⟨t,rfl⟩:=r;rfl
 | str z=>obtain⟨t,rfl⟩:=r;rfl
 | _=>exact absurd (show false=true from f) jG
theorem Xi{x:V}:∀{c:List V} {i:List Value},Vals c i->c.all vO=true->i.any (eqU x)=c.any fun y=>eqV y x
 | _,_,.nil,_=>rfl
 | y::c,u::i,.cons r t,f=>by
  rw[QJ,qQ] at f;rw[vR,vR,zcG r f.1,Xi t f.2]
theorem Ql{A:Around}{s:Shared}{x:V}{v:Value}(w:RelV x v)(l:vO x=true):∀{i:List V} {c:List Value},Vals i c->i.all vO=true->∀u∈c,SeqAt.EqAt A s u v (eqU x u)
 | _,_,.nil,_=>fun u hu=>by cases hu
 | y::i,u::c,.cons r t,f=>fun H hu=>by
  rw[QJ,qQ] at f;rcases z9.mp hu with rfl | hu
  ·rw[zcG r f.1];exact zcH r w f.1 l
  ·exact Ql w l t f.2 H hu
def inV(x:V)(c:List V):Bool:=c.any fun y=>eqV y x
inductive rIn(K:W.Frag)(c:Bool)(x:V)(y:V)(H:Hp)(Q:VK):Prop
 | mk (p f:_) (_:y=.ref p) (_:(SqL K H p f\/SqT K H p f)) (_:vO x=true) (_:f.all vO=true) (_:Q (.bl (if c then !inV x f else inV x f)) H):rIn K c x y H Q
theorem Jn:OpR X (compareOp .In) (rIn X.K false):=by
 intro M s σ H x y v u Q I N U h;obtain⟨p,Y,rfl,hq,A,f,q⟩:=h;cases U;rcases hq with hq | hq
 ·obtain⟨c,r,l,O⟩:=I.list hq
  refine Wq (eqU x) l.isList (fun w i=>Ql N A r f w (by simpa using i)) ⟨.bl _,H,I,rfl,?_⟩
  rw[show c.toArray.any (eqU x)=c.any (eqU x) by simp,Xi r f]
  exact q
 ·obtain⟨c,r,l,O⟩:=I.tuple hq
  refine SeqAt.in_tupleAt (eqU x) l (fun w i=>Ql N A r f w (by simpa using i)) ⟨.bl _,H,I,rfl,?_⟩
  rw[show c.toArray.any (eqU x)=c.any (eqU x) by simp,Xi r f]
  exact q
inductive va(K:W.Frag)(f:List V)(H:Hp)(Q:VK):Prop
 | mk (p c:_) (_:f=[.ref p]) (_:(SqL K H p c\/SqT K H p c)) (_:Q (.int c.length) H):va K f H Q
theorem zo:CallR X (.builtin "len") (va X.K):=by
 intro w s σ H Y U Q I r h;obtain⟨p,A,rfl,hq,q⟩:=h;obtain⟨u,rfl,N⟩:=xI r;cases N;have O:=yU;rcases hq with hq | hq
 ·obtain⟨f,l,i,M⟩:=I.list hq
  have c:=l.length;exact Calls.call_len_list i.isList (by simp only[qt]<;>omega) ⟨.int A.length,H,I.tok _,⟨s.toks+1,by rw[qt,c]⟩,q⟩
 ·obtain⟨f,l,i,M⟩:=I.tuple hq
  have c:=l.length;exact len_tuple i (by simp only[qt]<;>omega) ⟨.int A.length,H,I.tok _,⟨s.toks+1,by rw[qt,c]⟩,q⟩
inductive wz(c:List V)(H:Hp)(Q:VK):Prop
 | mk (z:_) (_:c=[.str z]) (_:z.length<=sizeLine) (_:Q (.int z.length) H):wz c H Q
theorem xP:CallR X (.builtin "len") (wz):=by
 intro c s σ H w l Q I r h;obtain⟨z,rfl,i,q⟩:=h;obtain⟨u,rfl,t,rfl⟩:=xI r;have f:=yU;exact len_str (by omega) ⟨.int z.length,H,I.tok _,⟨_,rfl⟩,q⟩
theorem CallR.or{f:Value}{r l:List V->Hp->VK->Prop}(h:CallR X f r)(A:CallR X f l):CallR X f (fun i H Q=>r i H Q\/l i H Q):=by
 intro c s σ H i w Q I u q;rcases q with q | q
 ·exact h c s σ H i w Q I u q
 ·exact A c s σ H i w Q I u q
inductive x9(K:W.Frag)(f:List V)(H:Hp)(Q:VK):Prop
 | mk (p c:_) (_:f=[.ref p]) (_:(SqL K H p c\/SqT K H p c)) (_:∀l,H l=none->Q (.ref l) (upd H l (.lst c))):x9 K f H Q
theorem xg:CallR X (.type "list") (x9 X.K):=by
 intro O s σ H xs us Q I r h;obtain⟨p,ys,rfl,hq,q⟩:=h;obtain⟨u,rfl,rx⟩:=xI r;cases rx;have w:∀(c:List Value),Vals ys c->ys.length<=sizeLine->∀(f:Heap) (i:Nat),(∀b o',s.heap.get? b=some o'->f.get? b=some o') ->
   f.get? s.heap.objs.size=some { cls:=.type "list",dict:=none,data:=.seq c.toArray i,slots:=#[] }->EP X O σ Q (.ref s.heap.objs.size) { s with heap:=f }:=fun c l M f i N e=>
  ⟨.ref s.heap.objs.size,_,I.laid (t':=s.toks) N (zi _) (show ObjOk X.prog X.w _ f _ (.lst ys) from ⟨M,c,i,l,e⟩),rfl,q _ (I.hok.fresh (zi _))⟩
 rcases hq with hq | hq
 ·obtain⟨c,l,pl,M⟩:=I.list hq
  have A:=l.length;obtain⟨o,Y,hc,n,U⟩:=pl.isList;exact call_list_seq p (.inl rfl) Y hc U (fun f i N e=>w c l M f i N e) (by simp only[qt]<;>omega)
 ·obtain⟨c,l,pl,M⟩:=I.tuple hq
  have A:=l.length;obtain⟨o,Y,hc,n,U⟩:=pl;exact call_list_seq p (.inr rfl) Y hc U (fun f i N e=>w c l M f i N e) (by simp only[qt]<;>omega)
inductive vW(K:W.Frag)(f:List V)(H:Hp)(Q:VK):Prop
 | mk (p c:_) (_:f=[.ref p]) (_:((SqL K H p c/\∀l,H l=none->Q (.ref l) (upd H l (.tup c)))\/(SqT K H p c/\Q (.ref p) H))):vW K f H Q
theorem qM:CallR X (.type "tuple") (vW X.K):=by
 intro c s σ H xs us Q I r h;obtain⟨p,O,rfl,h⟩:=h;obtain⟨u,rfl,rx⟩:=xI r;cases rx;rcases h with ⟨hq,q⟩ | ⟨hq,q⟩
 ·obtain⟨f,w,l,N⟩:=I.list hq
  have M:=w.length;refine call_tuple_list l.isList (fun i Y=>?_) (by simp only[qt]<;>omega)
  have A:Inv X c σ H { s with heap:=i }:=I.kept (t':=s.toks) Y;have U:Inv X c σ (upd H i.objs.size (.tup O)) { s with heap:=i.push { cls:=.type "tuple",data:=.seq f.toArray } }:=
   A.laid (t':=s.toks) (fun b o e=>qw _ e) (zi _) (show ObjOk X.prog X.w _ _ _ (.tup O) from ⟨N,f,w,⟨Ze _ _,_,qH _ rfl,rfl⟩⟩)
  exact⟨.ref i.objs.size,_,U,rfl,q _ (A.hok.fresh (zi _))⟩
 ·obtain⟨f,w,l,N⟩:=I.tuple hq
  exact call_tuple_same l ⟨.ref p,H,I,rfl,q⟩
def tyV(K:W.Frag)(T:String)(x:V)(H:Hp):Prop:=match x with
 | .str _=>T = "str"
 | .int _=>T = "int"
 | .ref p=>(T = "list" /\ ∃f,SqL K H p f)\/(T = "tuple" /\ ∃o,K.lookup p=some o/\o.cls=.type "tuple" /\ o.dict=none) \/
   (T = "dict" /\ ((∃c,H p=some (.dK c))\/∃c,H p=some (.dT c)))\/(T = "set" /\ ∃S n,H p=some (.set S n))
 | _=>False
theorem zeP{l:List (Addr×Obj)}{σ:St}{H:Hp}{s:Shared}{T:String}{x:V}{v:Value}(I:Inv X l σ H s)(r:RelV x v)(ty:tyV X.K T x H) :
  s.TypeIs v T/\∀a,v=.ref a->∃A,s.heap.get? a=some A/\A.dict=none:=by
 cases x with
 | str z=>
  obtain⟨t,rfl⟩:=r;cases(show T = "str" from ty)
  exact⟨typeIs_str s z t,fun _ e=>nomatch e⟩
 | int i=>
  obtain⟨t,rfl⟩:=r;cases(show T = "int" from ty)
  exact⟨typeIs_int s i t,fun _ e=>nomatch e⟩
 | ref p=>
  cases r;rcases ty with ⟨rfl,O,hq⟩ | ⟨rfl,o,hk,hc,u⟩ | ⟨rfl,hk⟩ | ⟨rfl,S,n,hk⟩
  ·obtain⟨N,_,M,_⟩:=I.list hq
   refine⟨M.isList.typeIs,fun a e=>?_⟩
   cases e;obtain⟨o,n,e,c,u,_⟩:=M;exact⟨o,e,u⟩
  ·refine⟨⟨o,I.kIn p o hk,hc⟩,fun a e=>?_⟩
   cases e;exact⟨o,I.kIn _ o hk,u⟩
  ·have z:∃o,s.heap.get? p=some o/\o.ExactDict:=by
    rcases hk with ⟨w,hk⟩ | ⟨w,hk⟩
    ·obtain⟨_,_,_,_,o,_,_,e,f,_⟩:=I.hok p _ hk
     exact⟨o,e,f⟩
    ·obtain⟨_,_,_,_,o,_,_,e,f,_⟩:=I.hok p _ hk
     exact⟨o,e,f⟩
   obtain⟨o,e,f⟩:=z;refine⟨⟨o,e,f.1⟩,fun a e2=>?_⟩
   cases e2;exact⟨o,e,f.2.1⟩
  ·obtain⟨o,_,_,_,e,f,_⟩:=I.hok p _ hk
   refine⟨⟨o,e,f.1⟩,fun a e2=>?_⟩
   cases e2;exact⟨o,e,f.2.1⟩
 | _=>exact False.elim ty
def tBM(K:W.Frag)(T:String)(r:V->List V->Hp->VK->Prop)(to:TE)(t:TA):TE:=fun σ H Q=>to σ H fun x c=>tyV K T x c/\t σ c fun i f=>r x i f Q
variable{o e:Expr}{E:List Expr}{to:TE}{t:TA}{B:Str}{D g:Pos}{T id:String}{r:V->List V->Hp->VK->Prop}
theorem yy(pa:PlainAttrs T)(w:Slot T B id)(A:typeOf (.builtin id)=pure (.type "method_descriptor"))(hm:MtR X id r)(ho:PE X o to)(ha:PA X (e::E) t)
  (i:attributeBase o B X.env (eval o X.env)=eval o X.env:=by rfl)
  (u:((backTo g (starEach (e::E) X.env)).all (fun x=>!x.1)&&(backToKw g (keywordEach [] X.env)).all (fun x=>x.1.isSome)
   && decide ((e::E).length+([]:List Keyword).length+(if([]:List Keyword).isEmpty then 0 else 1)<30))=true:=by rfl)
  (l:(D.endLine==g.line)=true:=by rfl) (hs:starEach (e::E) X.env=(false,eval e X.env)::starEach E X.env:=by rfl) (f:(backTo g (starEach E X.env)).any (·.1)=false:=by rfl) :
  PE X (.Call (.Attribute o B D) (e::E) [] g) (tBM X.K T r to t):=by
 intro c s σ H Q I h;refine wpAny_Call_method_late i u l rfl (thn (ho c s σ H _ I h) fun v s1 ⟨x,U,M,O,ty,q1⟩=>?_)
 obtain⟨h1,h2⟩:=zeP M O ty;refine⟨T,id,pa,w,A,h1,h2,?_⟩
 have N:=ha g c s1 σ U _ M q1;rw[hs] at N ⊢;refine WN (by show(false||(backTo g (starEach E X.env)).any (·.1))=false;rw[f]<;>rfl) (WI ?_)
 exact thn N fun us s2 ⟨vs,Y,I2,r2,q2⟩=>hm c s2 σ Y x vs v us Q I2 O r2 q2
end
def MtM(X:Cx)(id:String)(r:V->List V->Hp->VK->Prop):Prop:=
 ∀(b:List (Addr×Obj)) (s:Shared) (σ:St) (H:Hp) (x:V) (f:List V) (v:Value) (c:List Value) (Q:VK),Inv X b σ H s->RelV x v->Vals f c->r x f H Q ->
  wpAny (model X.prog X.w) X.A (call (.builtin id) (v::c)) (EP X b σ Q) X.xe s
theorem Vals.one:∀{x:V} {b:List Value},Vals [x] b->∃u,b=[u]/\RelV x u
 | _,_,.cons r .nil=>⟨_,rfl,r⟩
theorem Vals.two:∀{x y:V} {b:List Value},Vals [x,y] b->∃u v,b=[u,v]/\RelV x u/\RelV y v
 | _,_,_,.cons r (.cons q .nil)=>⟨_,_,rfl,r,q⟩
theorem Vals.zero:∀{b:List Value},Vals [] b->b=[]
 | _,.nil=>rfl
theorem Vals.dropLast{c:List V}{b:List Value}(h:Vals c b):Vals c.dropLast b.dropLast:=by
 induction h with
 | nil=>exact .nil
 | cons r t f=>
  cases t with
  | nil=>exact .nil
  | cons q g=>exact .cons r f
theorem Vals.reverse{c:List V}{b:List Value}(h:Vals c b):Vals c.reverse b.reverse:=by
 induction h with
 | nil=>exact .nil
 | cons r t f=>rw[List.reverse_cons,List.reverse_cons];exact Vals.append f (.cons r .nil)
theorem Vals.rep{c:List V}{b:List Value}(h:Vals c b):∀k:Nat,Vals (List.replicate k c).flatten (List.replicate k b).flatten
 | 0=>.nil
 | k+1=>by
  rw[ZG,ZG,QR,QR];exact Vals.append h (Vals.rep h k)
theorem JA(c:List Value):∀(k:Nat) (b:List Value),
  List.foldl (fun f g=>f++g) b.toArray (List.replicate k c.toArray)=(b++(List.replicate k c).flatten).toArray
 | 0,b=>by simp
 | k+1,b=>by
  have e:b.toArray++c.toArray=(b++c).toArray:=by simp
  have e2:(b++c)++(List.replicate k c).flatten=b++(List.replicate (k+1) c).flatten:=by
   rw[ZG,QR,QQ]
  rw[<- e2,<- JA c k (b++c),<- e,ZG,wX]
section
variable{X:Cx}{c:List (Addr×Obj)}{σ:St}{H:Hp}{s:Shared}{l b:Addr}{i g o:List V}
theorem Inv.lset{w its':List Value}{n:Nat}{f:Array Value->Array Value}{E:Nat}(I:Inv X c σ H s)(A:H l=some (.lst i))
  (e:s.heap.get? l=some { cls:=.type "list",data:=.seq w.toArray n }) (B:f w.toArray=its'.toArray) (hv:Vals g its') (D:g.length<=sizeLine) :
  Inv X c σ (upd H l (.lst g)) { s with heap:=s.heap.update l (Obj.mapSeq f),toks:=E }:=by
 have q:=PySem.IsL.update e f;rw[B] at q;refine I.write (x:=l) (e:=l) (by rw[A];exact trivial) (.inl rfl) (fun G u hb hu=>(QW s.heap (Obj.mapSeq f) (qA hb)).trans hu) ⟨_,q⟩ ?_
 exact⟨D,its',_,hv,q⟩
theorem Inv.lnew{f:List Value}{t':Nat}(I:Inv X c σ H s)(hv:Vals g f)(u:g.length<=sizeLine) :
  Inv X c σ (upd H s.heap.objs.size (.lst g)) { s with heap:=s.heap.push { cls:=.type "list",data:=.seq f.toArray },toks:=t' }:=
 I.laid (fun _ _ q=>qw _ q) (zi _) ⟨u,f,0,hv,qH _ rfl⟩
theorem Inv.fresh(I:Inv X c σ H s):H s.heap.objs.size=none:=I.hok.fresh (zi _)
theorem Inv.lstM(I:Inv X c σ H s)(u:H l=some (.lst i)):i.length<=sizeLine/\∃(f:List Value) (n:Nat),Vals i f/\i.length=f.length/\s.heap.get? l=some { cls:=.type "list",data:=.seq f.toArray n }:=by
 obtain⟨z,f,n,r,e⟩:=I.hok l _ u;exact⟨z,f,n,r,r.length,e⟩
end
section
variable{X:Cx}
inductive Yv(x:V)(c:List V)(H:Hp)(Q:VK):Prop
 | mk (l b y:_) (_:x=.ref l) (_:c=[y]) (_:H l=some (.lst b)) (_:b.length<sizeLine) (_:Q .non (upd H l (.lst (b++[y])))):Yv  x c H Q
theorem xA:MtM X "list.append" Yv:=by
 intro g s σ H x E v D Q I w o h;obtain⟨l,G,y,rfl,rfl,c,B,q⟩:=h;cases w;obtain⟨u,rfl,i⟩:=o.one;obtain⟨z,b,n,r,A,e⟩:=I.lstM c;refine call_meets F.slot_list_append ⟨_,e,rfl⟩ F.entry_list_append (F.args_list_append_2 _ _) (PySem.list_append l b.toArray n u (by rw[qt];omega)) ⟨e,?_⟩
 refine⟨.non,_,I.lset (its':=b++[u]) c e (by simp) (r.append (.cons i .nil)) ?_,rfl,q⟩
 rw[qR,WK];omega
inductive zgz(x:V)(y:V)(H:Hp)(Q:VK):Prop
 | mk (l b c f:_) (_:x=.ref l) (_:y=.ref b) (_:H l=some (.lst c)) (_:H b=some (.lst f)) (_:c.length+f.length<=sizeLine) (_:∀p,H p=none->Q (.ref p) (upd H p (.lst (c++f)))):zgz  x y H Q
theorem vo:OpR X (binaryOp .Add) zgz:=by
 intro g s σ H x y v u Q I D E h;obtain⟨l,b,N,T,rfl,rfl,w,o,J,q⟩:=h;cases D;cases E;obtain⟨z,f,n,r,G,e⟩:=I.lstM w;obtain⟨O,c,L,B,A,e2⟩:=I.lstM o;refine PySem.P.add_list e e2 ?_ (by rw[qt,qt];omega)
 have i:f.toArray++c.toArray=(f++c).toArray:=by simp
 rw[i];exact⟨.ref _,_,I.lnew (t':=s.toks) (r.append B) (by rw[qR];omega),rfl,q _ I.fresh⟩
theorem YJ{α:Type}(b:List α)(k:Nat):(List.replicate k b).flatten.length=k*b.length:=by
 induction k with
 | zero=>simp
 | succ k c=>rw[ZG,QR,qR,c,QH,Nat.add_comm]
end
section
variable{b:Program}{w:World}{A:Around}{E:Value->Shared->Prop}{s:Shared}
end
section
variable{X:Cx}
end
end L2
namespace Att
open PySem PySem.W PySem.Calls PyProof.Rows
theorem ZT{P:Params}{h:Heap}:∀(c:List Int) (f:List Value),WellAll P h f (c.map WData.int)->IntsAre f c:=by
 intro c;induction c with
 | nil=>
  intro f w;rw[Xj] at w;cases w;exact .nil
 | cons n c g=>
  intro f w;rw[jf] at w;cases w with
  | cons a b=>
   cases a;exact .cons _ _ (g _ b)
theorem zax{l:OpenLaw}{n:Nat}(B:l.most=some n){P:Params}{h:Heap}{args:List WData}{f:List Value}
  (c:l.row.toRowW.claim.pre args=true) (w:WellAll P h f args) :
  ∃a A b,f=[Value.ref a]/\args=[WData.list (b.map WData.int)]/\h.get? a=some { cls:=.type "list",data:=.seq A.toArray }/\IntsAre A b/\b.length<=n:=by
 have u:WShape.hasAll [] args [.list .int]=true:=(pre_splitW c).1;have hc:l.pre.holds [] { args:=args }=true:=(pre_splitW c).2;obtain⟨d,r,rfl,h1,h2⟩:=hasAllW_cons u;obtain rfl:=hasAllW_nil h2;obtain⟨H,rfl,h3⟩:=hasW_list h1;obtain⟨b,rfl⟩:=items_int h3;have i:b.length<=n:=by
  unfold OpenLaw.pre at hc;have o:(WTm.not (.lt (.lit (.int (n:Int))) (.len (.arg 0)))).holds [] { args:=[.list (b.map .int)] }=true:=by
   have o:=(holds_andW hc).1;rw[B] at o;exact o
  have s:=condW_of o (w_not (w_lt w_lit (w_len_list (w_arg rfl))));rw[zv] at s;refine Nat.le_of_not_lt fun q=>?_
  have E:(n:Int)<((b.length:Nat):Int):=by omega
  first
   | (rw[zQ E] at s;exact absurd s (by decide))
   | (simp at s;omega)
 cases w with
 | cons w1 G=>
  cases G;cases w1 with
  | list D g=>exact⟨_,_,b,rfl,rfl,D,ZT b _ g,i⟩
theorem zaB(l:OpenLaw)(args:List WData):l.row.toRowW.claim.post args (.bool true) args=true:=
 postW_of (r:=l.row.toRowW) (X:=(true==true))
  (show WShape.has [] (.bool true) .bool=true by first| rfl | decide | simp[WShape.has,WShape.arms,WShape.armsAll])
  (show(WTm.eq .res (.lit (.bool true))).value [] { args:=args,res:=some (.bool true),after:=args }=some (.bool (true==true)) from w_eq_bool (w_res rfl) w_lit) rfl
theorem attach_call{l:OpenLaw}{n:Nat}{q:Program}{b:List Str}{XP:(Str->Option Value)->Heap->Prop}{YP:World->Heap->Prop}{d:DefRec}
  (hn:l.most=some n) (M:d.params.defaults=[])
  (call:∀(w:World) (U c:Shared) (H Q:Str->Option Value) (u:Addr) (o:Obj) (T E g:Value) (a:Addr) (s:List Value) (I:List Int),
   Ground q b [] XP w U H Q c.heap->YP w c.heap ->
   c.heap.get? u=some o->o.data=.func (docDef d.name d.params d.body d.scope T E g)->c.heap.CodeRec E d.name->H d.name=some (.ref u) ->
   c.heap.get? a=some { cls:=.type "list",data:=.seq s.toArray }->IntsAre s I->I.length<=n->c.gens=#[] ->
   codeAny (model l.prog w) callerA (.call (.ref u) ⟨[.ref a],[]⟩) (fun r J=>r=.ok (.ret (.bool true))/\OldK c.heap J.heap/\J.os=c.os/\AllBare J.gens) c) :
  WalkO q b XP YP l.row.toRowW d [] (fun f s=>PySem.call f s):=by
 intro w U c H Q G Y u o T E g dV kV ho hd L hD N hg args a7 as D a6 a9 O a8;obtain rfl:dV=.none:=Dflts.none hD M;obtain rfl:kV=.none:=Dflts.noKw hD;obtain⟨a,s,I,rfl,rfl,B,i,A⟩:=zax hn D O;refine enter_call (codeAny_mono (call w U c H Q u o T E g a s I G Y ho (fd_plain hd) L N B i A hg) fun r J hq=>?_)
 obtain⟨rfl,h2,h3,h4⟩:=hq;exact⟨.inl ⟨.bool true,.bool true,[],rfl,fun _=>rfl,.bool true,zaB l _,fun _=>⟨List.Pairwise.nil,fun _ hm=>(nomatch hm)⟩⟩,h2,h3,h4⟩
section
variable{b:Program}{w:World}{A:Around}{E:Value->Shared->Prop}{s:Shared}{K:Frag}
def ledger(h:Heap)(L d:Addr):List (Addr×Obj):=(List.range h.objs.size).filterMap fun a=>if a=L\/a=d then none else(h.get? a).map fun o=>(a,o)
end
end Att
namespace L2
open PySem PySem.Spec PyProof.Rows
theorem Q9:∀{c:List Value} {b:List Int},IntsAre c b->Vals (b.map V.int) c
 | _,_,.nil=>.nil
 | _,_,.cons n t h=>.cons ⟨t,rfl⟩ (Q9 h)
def zea(H:Hp):Prop:=∀b,H b=none\/∃o c,H b=some (.frz o (.lst c))
theorem Vq{P:Program}{w:World}{K:W.Frag}{T mb:Str->Option Value}{CX:CXT}{k:Nat}{fa a:Addr}{fd:FuncData}{x:Str}{sp:Sp}{c:Shared}{D:List Value}{U:List Int}
  (KX:K.In c.heap) (M:c.heap.Ns mainGlobals T) (hb:c.heap.Ns builtinsNs mb) (a7:∀x:Str,x ≠ "__name__" -> mb x=bootBuiltins x) (L:c.heap.NoLimit) (hg:c.gens=#[])
  (ha:c.heap.get? a=some { cls:=.type "list",data:=.seq D.toArray }) (hi:IntsAre D U) (hl:U.length<=sizeLine) (hr:Room k callerA)
  (F:∀g:Heap,K.In g->g.Ns mainGlobals T->FnOk P w K T g CX k fa fd [x] sp) (B:∀(s:Shared) (u:Value),BindsTo s fd ⟨[u],[]⟩ [(x,u)])
  (a8:∀H:Hp,zea H->SqL K H a (U.map V.int)->sp [.ref a] H (fun v _=>v=.bl true) fun _ _ _=>False)
  (a6:∀H e i,CX [] H c (fun _ _ _=>False) e i->False) :
  codeAny (model P w) callerA (.call (.ref fa) ⟨[.ref a],[]⟩) (fun r i=>r=.ok (.ret (.bool true))/\OldK c.heap i.heap/\i.os=c.os/\AllBare i.gens) c:=by
 have rv:=Q9 hi;have Q:=hi.length;have A:∀H:Hp,zea H->SqL K H a (U.map V.int)->HOk P w H c.heap->(∀b,H b≠none->b=a)->(H a≠none->K.lookup a=none) ->
   codeAny (model P w) callerA (.call (.ref fa) ⟨[.ref a],[]⟩) (fun r i=>r=.ok (.ret (.bool true))/\OldK c.heap i.heap/\i.os=c.os/\AllBare i.gens) c:=by
  intro H hO hS N hA hK;have f:∀{b:Addr} {o:Obj},c.heap.get? b=some o->H b=none->(J9 c.heap H).get? b=some o:=fun e n=>zcC e n
  have a9:∀{b:Addr} {o:Obj} {I:Array DictEntry} {G:Nat},c.heap.get? b=some o->o.data=.dict I G->H b=none:=fun {b o I G} e d=>by
   cases q:H b with
   | none=>rfl
   | some u=>
    have e':b=a:=hA b (by rw[q];simp)
    subst e';rw[ha] at e;cases e
    have d':Data.seq D.toArray _=Data.dict I G:=d;cases d'
  have l:∀{b:Addr} {m:Str->Option Value},c.heap.Ns b m->(J9 c.heap H).Ns b m:=fun {b m} ⟨o,I,G,e,d,r⟩=>⟨o,I,G,f e (a9 e d),d,r⟩
  have J:K.In (J9 c.heap H):=fun b o e=>f (KX b o e) (by
   cases q:H b with
   | none=>rfl
   | some u=>
    have e':b=a:=hA b (by rw[q];simp)
    subst e';rw[hK (by rw[q];simp)] at e;cases e)
  have hM:Mod K T (J9 c.heap H):=⟨J,l M,⟨mb,l hb,a7⟩,let ⟨mc,h1,h2⟩:=L;⟨mc,l h1,h2⟩⟩
  have e0:Env0 P w K T (J9 c.heap H) callerA [] c H:=⟨rfl,hM,fun b o e=>zdI e,wq (zaR _ _),trivial,fun b hb=>absurd (show b∈([]:List Addr) from hb) (by simp),N,.of_eq hg⟩
  refine codeAny_mono ((F _ J (l M)).run callerA [] c H ⟨[.ref a],[]⟩ [.ref a] [.ref a] _ _ hr e0 (B c (.ref a)) (.cons rfl .nil) (a8 H hO hS)) fun r i h=>?_
  cases r with
  | error e=>exact(a6 H e i h).elim
  | ok fl=>
   cases fl with
   | next=>exact False.elim h
   | brk=>exact False.elim h
   | cont=>exact False.elim h
   | ret u=>
    obtain⟨v,H',os,E,un,O,r',q⟩:=h;have q':v=.bl true:=q;subst q';obtain rfl:u=Value.bool true:=r';refine⟨rfl,OldK.of_keep fun b o e=>?_,os,E⟩
    cases q:H b with
    | none=>exact un.keep b o e q (by intro z;exact absurd (show b∈([]:List Addr) from z) (by simp)) (by simp)
    | some u=>
     rcases hO b with z | ⟨ob,xs,z⟩
     ·rw[q] at z;cases z
     ·have z2:=un.frzs b ob _ z
      obtain⟨e1,_⟩:=N b _ z;obtain⟨e2,_⟩:=O b _ z2;rw[e] at e1;cases e1
      exact e2
 cases hk:K.lookup a with
 | some o=>
  have e:=KX a o hk;rw[ha] at e;cases e;refine A (fun _=>none) (fun _=>.inl rfl) (.inr ⟨_,D.toArray,_,hk,rfl,rfl,rfl,by rw[qt,Q];exact hl,by simpa using rv⟩) (fun b u z=>by have Y:(none:Option HO)=some u:=z;cases Y) (fun b z=>absurd rfl z) fun z=>absurd rfl z
 | none=>
  refine A (fun b=>if b=a then some (.frz { cls:=.type "list",data:=.seq D.toArray } (.lst (U.map V.int))) else none) (fun b=>?_) (.inl (.inr ⟨{ cls:=.type "list",data:=.seq D.toArray },zF rfl⟩)) (fun b u z=>?_) (fun b z=>?_) fun _=>hk
  ·by_cases hb:b=a
   ·exact .inr ⟨_,_,zF hb⟩
   ·exact .inl (zB hb)
  ·by_cases hb:b=a
   ·have Y:=(zF hb).symm.trans z
    cases Y;subst hb;exact⟨ha,by rw[zv];exact hl,D,_,rv,ha⟩
   ·have Y:=(zB hb).symm.trans z
    cases Y
  ·by_cases hb:b=a
   ·exact hb
   ·exact absurd (zB hb) z
abbrev KOf{K:W.Frag}{h:Heap}(_:K.In h):PySem.W.Frag:=K
theorem walk_of{l:PySem.W.OpenLaw}{n k:Nat}{q:Program}{i:List Str}{XP:(Str->Option Value)->Heap->Prop}{YP:World->Heap->Prop}{d:DefRec}{K:Params->PySem.W.Frag}{T:World->CXT}{sp:World->Sp}{x:Str}
  (hn:l.most=some n) (N:n<=sizeLine) (L:d.params.defaults=[]) (hr:Room k callerA)
  (hY:∀(w:World) (h:Heap),YP w h->(K w.params).In h)
  (F:∀(w:World) (A:Str->Option Value) (D:Addr) (h:Heap),(K w.params).In h->h.Ns mainGlobals A->A d.name=some (.ref D) ->
   ∃I:FuncData,(∀(s:Shared) (u:Value),BindsTo s I ⟨[u],[]⟩ [(x,u)]) /\
    ∀b:Heap,(K w.params).In b->b.Ns mainGlobals A->FnOk l.prog w (K w.params) A b (T w) k D I [x] (sp w))
  (O:∀(w:World) (H:Hp) (a:Addr) (E:List Int),E.length<=n->zea H->SqL (K w.params) H a (E.map V.int)->sp w [.ref a] H (fun v _=>v=.bl true) fun _ _ _=>False)
  (J:∀(w:World) (H:Hp) (s:Shared) (e:Value) (Q:Shared),T w [] H s (fun _ _ _=>False) e Q->False) :
  PySem.W.WalkO q i XP YP l.row.toRowW d [] (fun f vs=>PySem.call f vs):=by
 refine Att.attach_call hn L fun w s₀ s₁ A mb D o pm cd a6 a vs E G Y ho hd a7 M B g c hg=>?_
 have U:=hY w _ Y;obtain⟨I,hb,hF⟩:=F w A D _ U G.T.g M;exact Vq U G.T.g G.T.b G.T.builtins G.T.nolimit hg B g (qk c N) hr hF hb (fun H hO hS=>O w H a E c hO hS) fun H e Q=>J w H s₁ e Q
def yE(s:Stmt):Arguments:=match s with
 | .FunctionDef _ a _ _ _ _ _ _ _ _=>a
 | _=>{ posonlyargs:=[],args:=[],vararg:=none,kwonlyargs:=[],kw_defaults:=[],kwarg:=none,defaults:=[] }
def vJ(s:Stmt):List Stmt:=match s with
 | .FunctionDef _ _ b _ _ _ _ _ _ _=>b
 | _=>[]
def zr(s:Stmt):Scope:=match s with
 | .FunctionDef _ _ _ _ _ _ b _ _ _=>b
 | _=>{ kind:=.function,names:=[],isGenerator:=false,isCoroutine:=false }
abbrev CX0:CXT:=fun _ _ _ _ _ _=>False
abbrev E0:XK:=fun _ _ _=>False
theorem zgF{X:Cx}:WW CX0 X E0:=fun _ _ _ _ _ _ _ h=>h.elim
structure Fun(K:W.Frag)(x qual:Str)(st:Stmt)(f:Addr)(fd:FuncData):Prop where
 ex:∃(oc:Value) (od:Option Addr) (kV doc pm:Value) (an:Option Addr) (cdv ct:Value) (osl:Array (Option Value)),
  fd=PySem.W.fnOf x qual (yE st) (vJ st) (zr st) .none kV doc pm an cdv ct/\K.lookup f=some ⟨oc,od,.func fd,osl⟩/\PySem.W.codeIn K cdv qual=true
 kp:PySem.W.keepIn K (.ref f)=true
section
variable{P:Program}{w:World}{K:W.Frag}{c:Str->Option Value}{b:Heap}
theorem Fun.ok{x i:Str}{st:Stmt}{f:Addr}{L:FuncData}{N I:List Str}{k:Nat}{J:Sp}(F:Fun K x i st f L)(S:zD N I (zr st))(G:∀u H Q E,J u H Q E->u.length=I.length)
  (o:∀(l:Value) (A:Around) (g:List Env) (s:Shared) (H:Hp) (u:List V) (Q:VK) (E:XK),Room k (A.deeper (envOfC i (zr st) s.heap.objs.size f l))->J u H Q E ->
   ∃t,PSs (Wl CX0 P w K c b N i (zr st) f l A g s H E).nox (vJ st) t/\t { nx:=fun _ M=>Q .non M,rt:=Q } (Zv N u) H):FnOk P w K c b CX0 (k+1) f L I J:=by
 obtain⟨oc,od,kV,O,pm,an,l,ct,Y,rfl,U,B⟩:=F.ex;refine zg8 U B S G fun A g s H u Q E T D=>?_
 obtain⟨t,h,q⟩:=o l A g s H u Q E T D;exact⟨t,h.nox,q⟩
theorem Fun.binds{x g:Str}{st:Stmt}{f:Addr}{B:FuncData}{u:List Str}(F:Fun K x g st f B)
  (h:∀(kV l s:Value) (o:Option Addr) (i ct:Value) (A:List Value),A.length=u.length->bindArgs (PySem.W.fnOf x g (yE st) (vJ st) (zr st) .none kV l s o i ct) ⟨A,[]⟩=pure (u.zip A)):Binds K B u []:=by
 obtain⟨H,I,kV,l,s,o,i,ct,E,rfl,G,D⟩:=F.ex;exact .all (h kV l s o i ct)
end
theorem Vw{A:Around}{k:Nat}(b:Room k A):A.units+1<cLine:=ZE (WE (by decide:1<=64) _) b.units
theorem zau{n:Nat}(h:n<=1000):n<sizeLine:=ZE h (by decide)
section
variable{X:Cx}
theorem pv(i:Nat){x:Str}{c:Pos}(f:X.N[i]? =some x:=by rfl)(hv:Vis X.env.scope x:=by first| exact Or.inl rfl | exact Or.inr (Or.inl rfl) | exact Or.inr (Or.inr rfl))(g:(x==("__debug__":Str))=false:=by decide)
  (b:(x==("__classdict__":Str))=false:=by decide):PE X (.Name x c) (JS i):=zfb f hv g b
end
theorem zR{c A B:Prop}[Decidable c](h1:c->A)(h2:¬c->B):if c then A else B:=by
 by_cases h:c
 ·rw[zF h]
  exact h1 h
 ·rw[zB h]
  exact h2 h
def Same(H c:Hp):Prop:=∀b o,H b=some o->c b=some o
theorem Same.refl(H:Hp):Same H H:=fun _ _ h=>h
def u4:=@Same.refl
theorem Same.trans{H f g:Hp}(a:Same H f)(b:Same f g):Same H g:=fun c o h=>b c o (a c o h)
theorem Same.free{H b:Hp}(e:Same H b){l:Addr}(h:b l=Option.none):H l=Option.none:=by
 cases q:H l with
 | none=>rfl
 | some o=>
  rw[e l o q] at h;cases h
theorem Same.seq{K:W.Frag}{H b:Hp}{a:Addr}{c:List V}(e:Same H b)(h:SqL K H a c):SqL K b a c:=by
 rcases h with(h | ⟨o,h⟩) | h
 ·exact .inl (.inl (e _ _ h))
 ·exact .inl (.inr ⟨o,e _ _ h⟩)
 ·exact .inr h
end L2
namespace L2
inductive Ex1{b:Sort _}(P:b->Prop):Prop
 | mk (a1:b) (h:P a1):Ex1 P
inductive Ex2{b:Sort _}{c:Sort _}(P:b->c->Prop):Prop
 | mk (a1:b) (a2:c) (h:P a1 a2):Ex2 P
inductive Ex3{b:Sort _}{c:Sort _}{f:Sort _}(P:b->c->f->Prop):Prop
 | mk (a1:b) (a2:c) (a3:f) (h:P a1 a2 a3):Ex3 P
inductive Ex4{b:Sort _}{c:Sort _}{f:Sort _}{g:Sort _}(P:b->c->f->g->Prop):Prop
 | mk (a1:b) (a2:c) (a3:f) (a4:g) (h:P a1 a2 a3 a4):Ex4 P
inductive Ex6{b:Sort _}{c:Sort _}{f:Sort _}{g:Sort _}{i:Sort _}{l:Sort _}(P:b->c->f->g->i->l->Prop):Prop
 | mk (a1:b) (a2:c) (a3:f) (a4:g) (a5:i) (o:l) (h:P a1 a2 a3 a4 a5 o):Ex6 P
inductive An2(b c:Prop):Prop
 | mk (h1:b) (h2:c):An2 b c
inductive An3(b c f:Prop):Prop
 | mk (h1:b) (h2:c) (h3:f):An3 b c f
inductive An4(b c f g:Prop):Prop
 | mk (h1:b) (h2:c) (h3:f) (i:g):An4 b c f g
inductive An5(b c f g i:Prop):Prop
 | mk (h1:b) (h2:c) (h3:f) (l:g) (o:i):An5 b c f g i
inductive An6(b c f g i l:Prop):Prop
 | mk (h1:b) (h2:c) (h3:f) (o:g) (s:i) (u:l):An6 b c f g i l
inductive An8(b c f g i l o s:Prop):Prop
 | mk (h1:b) (h2:c) (h3:f) (u:g) (w:i) (A:l) (B:o) (D:s):An8 b c f g i l o s
theorem zgZ{α:Type _}{b:List α}(h:b.length=1):∃a0,b=[a0]:=
 match b,h with
 | [a0],_=>⟨a0,rfl⟩
theorem zgY{α:Type _}{b:List α}(h:b.length=2):∃a0 a1,b=[a0,a1]:=
 match b,h with
 | [a0,a1],_=>⟨a0,a1,rfl⟩
theorem zgX{α:Type _}{b:List α}(h:b.length=3):∃a0 a1 a2,b=[a0,a1,a2]:=
 match b,h with
 | [a0,a1,a2],_=>⟨a0,a1,a2,rfl⟩
theorem zgW{α:Type _}{b:List α}(h:b.length=4):∃a0 a1 a2 a3,b=[a0,a1,a2,a3]:=
 match b,h with
 | [a0,a1,a2,a3],_=>⟨a0,a1,a2,a3,rfl⟩
theorem zgV{α:Type _}{b:List α}(h:b.length=5):∃a0 a1 a2 a3 a4,b=[a0,a1,a2,a3,a4]:=
 match b,h with
 | [a0,a1,a2,a3,a4],_=>⟨a0,a1,a2,a3,a4,rfl⟩
theorem zgU{α:Type _}{b:List α}(h:b.length=6):∃a0 a1 a2 a3 a4 a5,b=[a0,a1,a2,a3,a4,a5]:=
 match b,h with
 | [a0,a1,a2,a3,a4,a5],_=>⟨a0,a1,a2,a3,a4,a5,rfl⟩
end L2
set_option maxHeartbeats 4000000
namespace L2
open PySem PySem.Spec PyProof.Rows
def xf(c:List (Str×Addr)):List (Str×NameKind)->List (Str×Addr)->List (Str×Addr)
 | [],b=>b
 | (n,k)::r,b=>xf c r (if(k==NameKind.free)=true then(n,(c.lookup n).getD 0)::b else b)
theorem zcN{env:Env}(names:List (Str×NameKind)):∀(b:List (Str×Addr)),(∀y∈names,y.2=NameKind.free->∃c,env.cells.lookup y.1=some c) ->
  (forIn names b fun(x:Str×NameKind) (g:List (Str×Addr))=>
   (if(x.2==NameKind.free)=true then(cellOf env x.1 >>= fun a=>(pure (ForInStep.yield ((x.1,a)::g)):Sem (ForInStep (List (Str×Addr))))) else pure (ForInStep.yield g)))=(pure (xf env.cells names b):Sem (List (Str×Addr))):=by
 induction names with
 | nil=>intro b _;rfl
 | cons y r i=>
  intro b h;obtain⟨n,k⟩:=y;rw[wW];by_cases hk:(k==NameKind.free)=true
  ·obtain⟨c,hc⟩:=h (n,k) jx (by simpa using hk)
   have e1:cellOf env n=pure c:=by
    unfold cellOf;rw[show env.cells.lookup n=some c from hc]
   simp only[hk,if_true,e1,pure_bind];rw[i _ fun z f=>h z (jh _ f)]
   show _=pure (xf env.cells r (if(k==NameKind.free)=true then(n,(env.cells.lookup n).getD 0)::b else b))
   rw[zF hk,show env.cells.lookup n=some c from hc]
   all_goals rfl
  ·simp only[hk,pure_bind]
   simp only[qW,if_false,pure_bind];rw[i _ fun z f=>h z (jh _ f)]
   show _=pure (xf env.cells r (if(k==NameKind.free)=true then(n,(env.cells.lookup n).getD 0)::b else b))
   rw[zB hk]
theorem Y0{f:Env}{b:Scope}(h:∀y∈b.names,y.2=NameKind.free->∃c,f.cells.lookup y.1=some c):closureFor b f=pure (xf f.cells b.names []):=by
 have e:=zcN (env:=f) b.names [] h;unfold closureFor;refine Eq.trans ?_ (Eq.trans (congrArg (fun m=>m >>= fun g=>(pure g:Sem (List (Str×Addr)))) e) ?_)
 ·rfl
 ·simp
theorem vK{g:List (Str×Addr)}{x:Str}:∀(names:List (Str×NameKind)) (b:List (Str×Addr)),(xf g names b).lookup x=(if(names.any fun y=>y.2==NameKind.free&&x==y.1)=true then some ((g.lookup x).getD 0) else b.lookup x)
 | [],b=>by simp[xf]
 | (n,k)::r,b=>by
  unfold xf;rw[vK r];by_cases c:(r.any fun y=>y.2==NameKind.free&&x==y.1)=true
  ·rw[zF c,zF (by rw[vR,c,Bool.or_true])]
  ·rw[zB c]
   by_cases hk:(k==NameKind.free)=true
   ·rw[zF hk]
    by_cases hx:(x==n)=true
    ·rw[zF (by rw[vR];simp only[hk,hx,Bool.and_self,Bool.true_or])]
     have e:x=n:=by simpa using hx
     subst e;simp[xZ]
    ·rw[zB (by rw[vR];simp only[hk,hx,qF,Bool.false_or];exact c)]
     have f:(x==n)=false:=by simpa using hx
     simp[xZ,f]
   ·rw[zB hk,zB (by rw[vR];simp only[hk,vg,Bool.false_or];exact c)]
abbrev qE(X:Cx)(c:List Str)(b:Scope)(C:Addr)(s:Shared)(H:Hp)(ex:List Addr):Cx where
 prog:=X.prog
 w:=X.w
 K:=X.K
 mg:=X.mg
 base:=X.base
 A:=X.A
 N:=c
 s₀:=s
 H₀:=H
 env:=compEnvC b (xf X.env.cells b.names []) C X.env
 outer:=X.stack
 stack:=X.stack
 ex:=ex
 fn:=fun _=>false
 calm:=X.calm
 pn:=[]
 xe:=fun _ _=>False
abbrev ym(f:List Expr)(b:Env):Sem Bool:=
 forIn f true fun(c:Expr) (r:Bool)=>if r=true then(isTrue c b (eval c b) >>= fun ok=>(pure (ForInStep.yield ok):Sem (ForInStep Bool))) else pure (ForInStep.yield r)
theorem zcT{b:Program}{w:World}{A:Around}{R:Result->Shared->Prop}{s:Shared}{i N l:Expr}{o:List Expr}{f:Scope}{D:Pos}{H g:Value}{c:Env}(J:Nat->Shared->Prop)
  (G:∀n s,J n s->wpAny (model b w) A (pyNext H) (fun r s1=>match r with
   | none=>R (.ok .next) s1
   | some v=>wpAny (model b w) A (letOwnedTupleGo N H v) (fun _ s2=>wpAny (model b w) A (assign N c v) (fun _ U=>
     wpAny (model b w) A (ym o c) (fun ok I=>
      if ok=true then wpAny (model b w) A (eval i c) (fun x L=>
       wpAny (model b w) A (call (.builtin "list.append") [g,x]) (fun _ M=>∃m,m<n/\J m M) (fun _ _=>False) L) (fun _ _=>False) I
      else ∃m,m<n/\J m I) (fun _ _=>False) U) (fun _ _=>False) s2) (fun _ _=>False) s1) (fun _ _=>False) s)
  (n:Nat) (h:J n s):codeAny (model b w) A (.compLoop (.ListComp i [⟨N,l,o,0⟩] f D) 0 H g c) R s:=by
 have B:∀{α:Type} {t:Sem α} {Q:α->Shared->Prop} {E:Value->Shared->Prop} {s:Shared},wpAny (model b w) A t Q (fun _ _=>False) s->wpAny (model b w) A t Q E s:=fun x=>jC x (fun _ _ q=>q) fun _ _ q=>q.elim
 refine codeAny_loop rfl J (fun k u hJ=>?_) n h
 show wpAny _ A ((compTurn (.ListComp i [⟨N,l,o,0⟩] f D) 0 H g c).onRaise (fun x=>do noteFrame x c;theTreesLotGoes x)) _ _ u
 refine wpAny_noted ?_
 rw[compTurn_list];refine zn (wV (zn (B (jC (G k u hJ) (fun r s1 h1=>?_) fun _ _ q=>q))))
 cases r with
 | none=>exact zy h1
 | some v=>
  refine zn (B (jC h1 (fun _ s2 h2=>zn (B (jC h2 (fun _ U h3=>zn (B (jC h3 (fun ok I T=>?_) fun _ _ q=>q))) fun _ _ q=>q))) fun _ _ q=>q))
  cases ok with
  | false=>exact zy ⟨rfl,T⟩
  | true=>
   have O:wpAny (model b w) A (eval i c) (fun x L=>wpAny (model b w) A (call (.builtin "list.append") [g,x]) (fun _ M=>∃m,m<k/\J m M) (fun _ _=>False) L) (fun _ _=>False) I:=T
   refine zn (zn (B (jC O (fun x L Y=>zn (B (jC Y (fun _ M h6=>zy (zy ⟨rfl,h6⟩)) fun _ _ q=>q))) fun _ _ q=>q)))
def PF(X:Cx)(c:List Expr)(t:TT):Prop:=
 ∀(b:List (Addr×Obj)) (s:Shared) (σ:St) (H:Hp) (Q:Bool->Hp->Prop),Inv X b σ H s->t σ H Q->wpAny (model X.prog X.w) X.A (ym c X.env) (TP X b σ Q) X.xe s
def zha:TT:=fun _ H Q=>Q true H
theorem qN{X:Cx}:PF X [] zha:=fun b s σ H Q I h=>zy ⟨H,I,h⟩
theorem J2{X:Cx}{c:Expr}{t:TT}(hc:PT X c t):PF X [c] t:=by
 intro b s σ H Q I h;unfold ym;simp only[wW,Zi,if_true];refine zn (zn (thn (hc b s σ H Q I h) fun ok s1 q=>zy (zy q)))
theorem YQ{P:Program}{w:World}{H:Hp}{h f:Heap}{C:Addr}(x:HOk P w H h)(g:H C=none)(k:∀b o,b≠C->h.get? b=some o->f.get? b=some o):HOk P w H f:=fun b u e=>by
 refine(x b u e).stay (fun c v hc q=>k c v ?_ q) (fun _ q=>q) fun _ _ q=>q
 rcases hc with z | z
 ·rw[z];exact zp e g
 ·exact zp z g
theorem Jv{P:Program}{w:World}{H:Hp}{h:Heap}{a:Addr}{o:HO}(x:HOk P w H h)(g:H a=none)(f:ObjOk P w (upd H a o) h a o):HOk P w (upd H a o) h:=fun b u e=>by
 by_cases hb:b=a
 ·subst hb;rw[zc] at e;cases e;exact f
 ·rw[zt hb] at e
  exact(x b u e).stay (fun c v _ q=>q) (fun c q=>by rw[zt (zp q g)];exact q) fun c i q=>by rw[zt (zp q g)];exact q
theorem XJ{l c:List Addr}{H i:Hp}{h s:Heap}{a:Addr}{o:HO}(u:Un l c H i h s)(w:a∈c)(f:H a=none):Un l c H (upd i a o) h s where
 keep:=u.keep
 slot:=u.slot
 free:=fun b g q n hx=>by
  have hb:b≠a:=fun z=>hx (by rw[z];exact w)
  rw[zt hb];exact u.free b g q n hx
 there:=u.there
 tups:=fun b B q=>by rw[zt (zp q f)];exact u.tups b B q
 frzs:=fun b g v q=>by rw[zt (zp q f)];exact u.frzs b g v q
 tbls:=fun b A q=>by rw[zt (zp q f)];exact u.tbls b A q
theorem zbj{i g:List Addr}{H f:Hp}{h h1 h2:Heap}{C:Addr}(u:Un i g H f h h1)(c:h.objs.size<=C)(k:∀b o,b≠C->h1.get? b=some o->h2.get? b=some o):Un i g H f h h2 where
 keep:=fun b o q n hb hx=>k b o (qz (jS (zO q) c)) (u.keep b o q n hb hx)
 slot:=fun b o q n hb hx=>let ⟨s,e⟩:=u.slot b o q n hb hx;⟨s,k b _ (qz (jS (zO q) c)) e⟩
 free:=u.free
 there:=fun b o q hx=>let ⟨l,e⟩:=u.there b o q hx;⟨l,k b _ (qz (jS (zO q) c)) e⟩
 tups:=u.tups
 frzs:=u.frzs
 tbls:=u.tbls
def Qw(sn on:List (Str×NameKind))(N b:List Str)(c:List Nat):Bool:=
 sn.all (fun y=>y.2 != .cell&&(y.2 != .local||sn.lookup y.1==some .local)&&(y.2 != .free||(on.lookup y.1==some .cell||on.lookup y.1==some .free)))&&b.length==c.length
  && (b.zip c).all fun p=>sn.lookup p.1==some .free&&N[p.2]? ==some p.1
structure zc7(sn on:List (Str×NameKind))(N fr:List Str)(js:List Nat):Prop where
 cell:∀y∈sn,y.2≠NameKind.cell
 loc:∀y∈sn,y.2=NameKind.local->sn.lookup y.1=some .local
 free:∀y∈sn,y.2=NameKind.free->on.lookup y.1=some .cell\/on.lookup y.1=some .free
 len:fr.length=js.length
 fr:∀(k:Nat) (x:Str),fr[k]? =some x->sn.lookup x=some .free/\∃j:Nat,js[k]? =some j/\N[j]? =some x
theorem VN{sn on:List (Str×NameKind)}{N c:List Str}{b:List Nat}(h:Qw sn on N c b=true):zc7 sn on N c b:=by
 unfold Qw at h;rw[qQ,qQ,jw,jw] at h;obtain⟨⟨h1,h2⟩,h3⟩:=h;have f:c.length=b.length:=by simpa using h2
 refine⟨fun y hy=>?_,fun y hy e=>?_,fun y hy e=>?_,f,fun k x e=>?_⟩
 ·have:=h1 y hy
  simp only[qQ,bne_iff_ne] at this;exact this.1.1
 ·have:=h1 y hy
  simp only[qQ,Bool.or_eq_true,bne_iff_ne,xi] at this;exact this.1.2.resolve_left fun z=>z e
 ·have:=h1 y hy
  simp only[qQ,Bool.or_eq_true,bne_iff_ne,xi] at this;exact this.2.resolve_left fun z=>z e
 ·have hk:k<c.length:=(qg.mp e).1
  have g:k<b.length:=by omega
  have l:(x,b[k])∈c.zip b:=by
   refine qY (i:=k) ?_
   rw[WS];exact⟨e,by simp[g]⟩
  have:=h3 _ l;simp only[qQ,xi] at this;exact⟨this.1,b[k],by simp[g],this.2⟩
def upS(n:Nat)(b:List Nat)(σ:St):St:=List.replicate n none++b.map fun j=>(σ[j]?).join
def tLC(O:TI)(n:Nat)(w:List Nat)(g:TG)(M:TT)(L:TE):TE:=fun σ H Q=>O σ H fun J E=>
 ∃W:Nat->Nat->List V->Hp->Prop,(∃m,W 0 m [] E)/\∀i m f c,W i m f c ->
  (J.stop i c/\f.length<=sizeLine/\∀D,c D=none->Q (.ref D) (upd c D (.lst f))) \/
  (J.go i c/\∃N:List V->Hp->Prop,(∀B o,N B o->∃A,A<m/\W (i+1) A B o)/\∀x s,J.yld i c x s->g x (upS n w σ) s fun l G=>l.drop n=(upS n w σ).drop n/\M l G fun b u=>
   if b=true then L l u fun y I=>f.length<sizeLine/\N (f++[y]) I else N f u)
theorem v0{b:Env}{x:Str}{f:NameKind}:∀{names:List (Str×NameKind)},(names.map fun(n,k)=>if(k==NameKind.free&&b.scope.kind==.function&&b.kindOf n==some .cell) then(n,NameKind.cell) else(n,k)).lookup x=some f ->
  ∃k,names.lookup x=some k/\(f=k\/(k=.free/\f=.cell))
 | [],h=>by simp at h
 | (n,k)::r,h=>by
  by_cases hx:(x==n)=true
  ·refine⟨k,by simp[xZ,hx],?_⟩
   have h:List.lookup x ((if(k==NameKind.free&&b.scope.kind==.function&&b.kindOf n==some .cell)=true then(n,NameKind.cell) else(n,k))::_)=some f:=h
   by_cases hc:(k==NameKind.free&&b.scope.kind==.function&&b.kindOf n==some .cell)=true
   ·rw[zF hc,xZ,hx] at h
    simp only[qQ,xi] at hc;exact .inr ⟨hc.1.1,(j5 h).symm⟩
   ·rw[zB hc,xZ,hx] at h
    exact .inl (j5 h).symm
  ·have c:(x==n)=false:=by simpa using hx
   have h:List.lookup x ((if(k==NameKind.free&&b.scope.kind==.function&&b.kindOf n==some .cell)=true then(n,NameKind.cell) else(n,k))::_)=some f:=h
   have h2:(r.map fun(n,k)=>if(k==NameKind.free&&b.scope.kind==.function&&b.kindOf n==some .cell) then(n,NameKind.cell) else(n,k)).lookup x=some f:=by
    by_cases hc:(k==NameKind.free&&b.scope.kind==.function&&b.kindOf n==some .cell)=true
    ·rw[zF hc,xZ,c] at h;exact h
    ·rw[zB hc,xZ,c] at h;exact h
   obtain⟨k0,e,z⟩:=v0 h2;exact⟨k0,by rw[xZ,c];exact e,z⟩
theorem wP{env:Env}{x:Str}:∀{names:List (Str×NameKind)},names.lookup x=some .free->∃b,(names.map fun(n,k)=>if(k==NameKind.free&&env.scope.kind==.function&&env.kindOf n==some .cell) then(n,NameKind.cell) else(n,k)).lookup x=some b/\(b=.cell\/b=.free)
 | [],h=>by simp at h
 | (n,k)::r,h=>by
  by_cases hx:(x==n)=true
  ·rw[xZ,hx] at h
   cases(j5 h);show ∃b,List.lookup x ((if(NameKind.free==NameKind.free&&env.scope.kind==.function&&env.kindOf n==some .cell)=true then(n,NameKind.cell) else(n,NameKind.free))::_)=some b/\_
   by_cases hc:(NameKind.free==NameKind.free&&env.scope.kind==.function&&env.kindOf n==some .cell)=true
   ·rw[zF hc];exact⟨.cell,by simp[xZ,hx],.inl rfl⟩
   ·rw[zB hc];exact⟨.free,by simp[xZ,hx],.inr rfl⟩
  ·have c:(x==n)=false:=by simpa using hx
   rw[xZ,c] at h;obtain⟨b,e,z⟩:=wP (env:=env) (names:=r) h;refine⟨b,?_,z⟩
   show List.lookup x ((if(k==NameKind.free&&env.scope.kind==.function&&env.kindOf n==some .cell)=true then(n,NameKind.cell) else(n,k))::_)=some b
   by_cases hc:(k==NameKind.free&&env.scope.kind==.function&&env.kindOf n==some .cell)=true
   ·rw[zF hc,xZ,c];exact e
   ·rw[zB hc,xZ,c];exact e
theorem qJ{b:List (Str×Addr)}{names:List (Str×NameKind)}{x:Str}{c:Addr}(h:(xf b names []).lookup x=some c)(i:∀y∈names,y.2=NameKind.free->∃c,b.lookup y.1=some c):b.lookup x=some c:=by
 rw[vK] at h;by_cases f:(names.any fun y=>y.2==NameKind.free&&x==y.1)=true
 ·rw[zF f] at h
  obtain⟨y,hy,e⟩:=yI.mp f;simp only[qQ,xi] at e;obtain⟨l,g⟩:=i y hy e.1;rw[<- e.2] at g;rw[g] at h ⊢;exact h
 ·rw[zB f] at h
  cases h
theorem wE{b:List (Str×Addr)}{names:List (Str×NameKind)}{x:Str}(h:names.lookup x=some .free):(xf b names []).lookup x=some ((b.lookup x).getD 0):=by
 rw[vK,zF];exact yI.mpr ⟨(x,.free),wJ h,by simp⟩
theorem yk{n:Nat}{b:List Nat}{σ:St}{i:Nat}{v:V}(h:(upS n b σ)[i]? =some (some v)):n<=i/\((upS n b σ).drop n)[i-n]? =some (some v)/\∃j:Nat,b[i-n]? =some j/\σ[j]? =some (some v):=by
 unfold upS at h ⊢;by_cases g:i<n
 ·rw[xq (by simpa using g),List.getElem?_replicate] at h
  split at h<;>cases h
 ·have e:(List.replicate n (none:Option V)++b.map fun j=>(σ[j]?).join).drop n=b.map fun j=>(σ[j]?).join:=by
   rw[List.drop_append_of_le_length (by simp)];simp
  rw[xF (by simpa using g),wK] at h
  refine⟨by omega,by rw[e];exact h,?_⟩
  rw[jM] at h;cases c:b[i-n]? with
  | none=>rw[c] at h;cases h
  | some j=>
   rw[c] at h;have h:(σ[j]?).join=some v:=j5 h;refine⟨j,rfl,?_⟩
   cases f:σ[j]? with
   | none=>rw[f] at h;cases h
   | some o=>rw[f] at h;exact congrArg some h
theorem W0{n:Nat}{b:List Nat}{σ:St}:(upS n b σ).length=n+b.length:=by unfold upS;simp
section
variable{X:Cx}{A G w:Expr}{E:List Expr}{f:Scope}{L:Pos}{U:TI}{g:TG}{O:TT}{M:TE}
theorem za8{N:List (Addr×Obj)}{σ:St}{H:Hp}{s:Shared}{fp:List Addr}(own fr:List Str)(js:List Nat)(I:Inv X N σ H s)(B:zc7 f.names X.env.scope.names X.N fr js)(hk:f.kind=.function)
  (f2:∀b∈fp,vc X N H b) (fl:∀b∈fp,b<s.heap.objs.size) {D C:Addr} (hD:D=s.heap.objs.size) {h3 h1:Heap} (e3:h3=s.heap.push { cls:=.type "list",dict:=none,data:=.seq ([]:List Value).toArray }) (hC:C=h3.objs.size)
  {m:Str->Option Value} (aa:h1.Ns C m) (k4:∀b o,h3.get? b=some o->h1.get? b=some o) {t4:Nat} :
  Inv (qE X (own++fr) f C { s with heap:=h3 } H (D::fp)) [] (upS own.length js σ) H { s with heap:=h1,toks:=t4 }:=by
 have k3:∀b o,s.heap.get? b=some o->h3.get? b=some o:=fun b o e=>by rw[e3];exact qw _ e
 have Y:Inv X N σ H { s with heap:=h3 }:=I.kept (t':=s.toks) k3;have hz:h3.objs.size=s.heap.objs.size+1:=by rw[e3,xD]
 have J:∀y∈f.names,y.2=NameKind.free->∃c,X.env.cells.lookup y.1=some c:=fun y hy e=>I.ok.has y.1 (B.free y hy e)
 have Q:∀x c,X.env.cells.lookup x=some c->c<s.heap.objs.size:=fun x c e=>by
  obtain⟨v,q⟩:=I.cell x c e;exact q.lt
 refine⟨⟨I.ok.mod,hk,I.ok.glob,I.ok.blt,wq hC.symm,fun x y c e1 e2=>?_,fun x hx=>?_,fun x c hf=>(nomatch hf),fun hc=>I.ok.hd hc,I.ok.frames,.inl rfl,fun b hb=>?_,Y.bs,qk I.ok.bsz Y.sz,fun b o e hb=>?_,fun b hb hf=>?_,Y.stack,Y.stkFree⟩,
  rfl,I.bare,Un.kept k4,⟨m,aa,fun i x v e1 e2 ab=>?_⟩,fun x c e=>?_,?_,fun x c e=>?_,fun p hp=>absurd (show p∈([]:List (Addr×Obj)) from hp) (by simp),Y.hok.kept k4,?_⟩
 ·exact I.ok.inj x y c (qJ e1 J) (qJ e2 J)
 ·obtain⟨k,e,z⟩:∃k,f.names.lookup x=some k/\(k=.free):=by
   rcases hx with hx | hx
   ·obtain⟨k,e,z⟩:=v0 hx
    rcases z with z | z
    ·subst z;exact absurd rfl (B.cell _ (wJ e))
    ·exact⟨k,e,z.1⟩
   ·obtain⟨k,e,z⟩:=v0 hx
    rcases z with z | z
    ·subst z;exact⟨_,e,rfl⟩
    ·exact⟨k,e,z.1⟩
  subst z;exact⟨_,wE e⟩
 ·rcases z9.mp hb with z | hb
  ·subst z
   refine⟨by rw[hD,hC,hz];exact qz (yJ _),fun x c e=>?_⟩
   have:=Q x c (qJ e J);rw[hD];exact qz this
  ·refine⟨by rw[hC,hz];exact qz (QP (fl b hb)),fun x c e=>?_⟩
   exact(f2 b hb).2.2.2.2.1 x c (qJ e J)
 ·rcases z9.mp hb with z | hb
  ·have:=zO (I.bk b o e)
   rw[z,hD] at this;exact xK _ this
  ·rcases(f2 b hb).2.2.2.1 with z | z
   ·exact I.ok.noex b o e z
   ·exact absurd (jS (zO (I.ok.bs b o e).1) z) (xK _)
 ·have a7:=z9.mp (I.stkSub b hf)
  rcases z9.mp hb with z | hb
  ·rcases a7 with y | y
   ·have:=I.lt
    rw[<- y,z,hD] at this;exact xK _ this
   ·exact I.nofs (a:=b) (by rw[z,hD];exact zi _) y
  ·rcases a7 with y | y
   ·exact(f2 b hb).2.1 y
   ·exact(f2 b hb).2.2.1 y
 ·obtain⟨hn,_,j,ej,es⟩:=yk e2
  have ex:fr[i-own.length]? =some x:=by rw[xF hn] at e1;exact e1
  obtain⟨T,j',a6,eN⟩:=B.fr _ x ex;have:j'=j:=by rw[ej] at a6;exact(j5 a6).symm
  subst this;have a8:=B.free _ (wJ T) rfl;obtain⟨m0,_,hl⟩:=I.loc;obtain⟨u,r,l⟩:=hl j' x v eN es (by rcases a8 with z | z;exact .inr (.inl z);exact .inr (.inr z))
  refine⟨u,r,.inr ?_⟩
  rcases l with ⟨kl,_⟩ | ⟨_,c,ec,o,eo,ed⟩
  ·have a9:X.env.scope.names.lookup x=some .local:=kl
   rcases a8 with z | z
   ·exact absurd (z.symm.trans a9) (by decide)
   ·exact absurd (z.symm.trans a9) (by decide)
  ·obtain⟨k',e',z⟩:=wP (env:=X.env) T
   have eq:(xf X.env.cells f.names []).lookup x=some c:=by rw[wE T,ec];rfl
   refine⟨?_,c,eq,o,k4 c o (k3 c o eo),ed⟩
   rcases z with z | z
   ·subst z;exact .inl e'
   ·subst z;exact .inr e'
 ·obtain⟨v,o,eo,ed⟩:=I.cell x c (qJ e J)
  exact⟨v,o,k4 c o (k3 c o eo),ed⟩
 ·exact Y.hok.fresh (wq hC.symm)
 ·exact I.freeC x c (qJ e J)
 ·rw[W0,<- B.len]
  show _=(own++fr).length;rw[qR]
inductive LcJ(Y:Cx)(D:Addr)(B:Nat->Heap->Prop)(u:List Addr)(c:List (Addr×Obj))(σ:St)(W:Nat->Nat->List V->Hp->Prop)(n:Nat)(s:Shared):Prop
 | mk (i:Nat) (H:List V) (l:List Value) (o:Hp) (z:Nat) (_:Inv Y c σ o s) (_:B i s.heap) (_:∀b∈u,o b=none) (_:o D=none) (_:s.heap.get? D=some { cls:=.type "list",data:=.seq l.toArray z }) (_:Vals H l) (_:W i n H o):LcJ Y D B u c σ W n s
inductive LcE(Y:Cx)(D:Addr)(b:List (Addr×Obj))(σ:St)(N:List V->Hp->Prop)(s:Shared):Prop
 | mk (l:List V) (c:List Value) (i:Hp) (z:Nat) (_:Inv Y b σ i s) (_:i D=none) (_:s.heap.get? D=some { cls:=.type "list",data:=.seq c.toArray z }) (_:Vals l c) (_:N l i):LcE Y D b σ N s
theorem zdQ{Y:Cx}{D it:Addr}{B:List Addr}{tn:Nat->Heap->Prop}{J:It}{c:List (Addr×Obj)}{σ4:St}{Kp:St->Prop}{W:Nat->Nat->List V->Hp->Prop}{N:List V->Hp->Prop}{n:Nat}{Q:Shared}
  (hc:Y.calm=true) (hx:Y.xe=fun _ _=>False) (hg:PG Y G g) (hf:PF Y E O) (he:PE Y A M) (T:Q7 Y.prog Y.w Y.K G J B it tn)
  (fD:∀s:Hp,s D=none->vc Y c s D) (f2:∀b∈B,∀s:Hp,s b=none->vc Y c s b) (nD:∀b∈B,D≠b) (bk:∀σ9 s s',Inv Y c σ9 s s'->Kp σ9->Inv Y c σ4 s s')
  (am:∀i m zs H7,W i m zs H7->(J.stop i H7/\N zs H7)\/(J.go i H7/\∃N2:List V->Hp->Prop,(∀zs s,N2 zs s->∃m',m'<m/\W (i+1) m' zs s)/\∀x H8,J.yld i H7 x H8->g x σ4 H8 fun σ9 H9=>Kp σ9/\O σ9 H9 fun b a7=>
    if b=true then M σ9 a7 fun y an=>zs.length<sizeLine/\N2 (zs++[y]) an else N2 zs a7)) (j:LcJ Y D tn B c σ4 W n Q) :
  wpAny (model Y.prog Y.w) Y.A (pyNext (.ref it)) (fun r s1=>match r with
   | none=>LcE Y D c σ4 N s1
   | some v=>wpAny (model Y.prog Y.w) Y.A (letOwnedTupleGo G (.ref it) v) (fun _ s2=>wpAny (model Y.prog Y.w) Y.A (assign G Y.env v) (fun _ s3=>
     wpAny (model Y.prog Y.w) Y.A (ym E Y.env) (fun ok s4=>
      if ok=true then wpAny (model Y.prog Y.w) Y.A (eval A Y.env) (fun x Q=>
       wpAny (model Y.prog Y.w) Y.A (call (.builtin "list.append") [.ref D,x]) (fun _ s6=>∃m,m<n/\LcJ Y D tn B c σ4 W m s6) (fun _ _=>False) Q) (fun _ _=>False) s4
      else ∃m,m<n/\LcJ Y D tn B c σ4 W m s4) (fun _ _=>False) s3) (fun _ _=>False) s2) (fun _ _=>False) s1) (fun _ _=>False) Q:=by
 unfold PG at hg;unfold PF at hf;unfold PE at he
 rw[hx] at hg hf he;obtain⟨i,ys,H,H5,z5,I5,al,ah,aq,ak,a9,w5⟩:=j;have ag:=I5.pinned (fp:=[D]) (fun b hb=>by rw[qv.mp hb];exact fD _ aq) (fun b hb=>by rw[qv.mp hb];exact⟨_,ak,fun v q=>nomatch q⟩)
 have mD:(D,({ cls:=.type "list",data:=.seq H.toArray z5 }:Obj))∈c++jg [D] Q.heap:=jT _ (xB (qv.mpr rfl) ak);have ae:∀{s:Hp},(∀b∈B,s b=none)->∀b∈B,vc Y (c++jg [D] Q.heap) s b:=fun hn b hb=>by
  obtain⟨a1,a2,a3,a4,a5,a6⟩:=f2 b hb _ (hn b hb);refine⟨a1,a2,a3,a4,a5,fun p hp=>?_⟩
  rcases ju.mp hp with q | q
  ·exact a6 p (vm _ q)
  ·rcases ju.mp q with q | q
   ·exact a6 p (jT _ q)
   ·rw[qv.mp (yQ q).1];exact nD b hb
 rcases am i n ys H5 w5 with ⟨stop,q⟩ | ⟨go,N2,hN,step⟩
 ·refine thn (T.done Y rfl rfl rfl hc i _ Q _ H5 _ ag (ae ah) al stop) fun r s6 ⟨hr,I6⟩=>?_
  subst hr;obtain⟨o6,au,_⟩:=I6.pin (D,_) (jT _ mD);exact⟨ys,H,H5,z5,I6.unpinned,au,o6,a9,q⟩
 ·refine thn (T.item Y rfl rfl rfl hc i _ Q _ H5 _ ag (ae ah) al go) fun r s6 ⟨u,hr,h6⟩=>?_
  subst hr;refine thn h6 fun _ s7 ⟨x,H7,I7,r7,y7,aa,ap⟩=>?_
  refine thn (hg _ s7 _ H7 x u _ (I7.pinned (ae ap) (T.obj _ _ aa)) r7 (step x H7 y7)) fun _ s8 ⟨σ8,H8,I8,ar,q8⟩=>?_
  refine thn (hf _ s8 σ8 H8 _ I8 q8) fun ok s9 ⟨H9,I9,q9⟩=>?_
  have af:=jT Y.pn (vm (jg B s7.heap) mD);have mF:∀b∈B,∀o,s7.heap.get? b=some o->(b,o)∈Y.pn++((c++jg [D] Q.heap)++jg B s7.heap):=fun b hb o e=>jT _ (jT _ (xB hb e))
  generalize hP:(c++jg [D] Q.heap)++jg B s7.heap=P at I9 af mF he;have ac:∀{s:Hp} {s':Shared},Inv Y P σ8 s s'->Inv Y c σ4 s s':=fun {s s'} J=>by subst hP;exact bk _ _ _ (J.unpinned).unpinned ar
  have ai:∀{s:Hp} {s':Shared},Inv Y P σ8 s s'->∀b∈B,s b=none:=fun {s s'} J b hb=>by
   obtain⟨o,e,_⟩:=T.obj _ _ aa b hb;exact(J.pin (b,o) (mF b hb o e)).2.1
  cases ok with
  | false=>
   obtain⟨m',hm,w'⟩:=hN _ _ (show N2 ys H9 by simpa using q9)
   obtain⟨o9,av,_⟩:=I9.pin (D,_) af;exact⟨m',hm,i+1,ys,H,H9,z5,ac I9,T.keep _ _ _ aa fun b hb o e=>(I9.pin (b,o) (mF b hb o e)).1,ai I9,av,o9,a9,w'⟩
  | true=>
   refine thn (he _ s9 σ8 H9 (fun y H6=>ys.length<sizeLine/\N2 (ys++[y]) H6) I9 (by simpa using q9)) fun yv ay ⟨y,a7,a8,ax,as,az⟩=>?_
   obtain⟨m',hm,w'⟩:=hN _ _ az;obtain⟨aw,I,_⟩:=a8.pin (D,_) af;refine wpAny_list_append_plain (l:=D) (items:=H.toArray) (hsz:=by rw[qt,<- a9.length];exact wU as) ⟨_,aw⟩ fun b4 aj ab=>?_
   obtain⟨b0,ao⟩:=aj;obtain⟨d0,d1,d2,d3,d4,d5⟩:=fD _ I;refine⟨m',hm,i+1,ys++[y],H++[yv],a7,b0,?_,T.keep _ _ _ aa fun b hb o e=>ab.extBut b o (qA (nD b hb)) (a8.pin (b,o) (mF b hb o e)).1,ai a8,I,?_,a9.append (.cons ax .nil),w'⟩
   ·exact(ac a8).turned (t':=ay.toks) (it:=D) (fun b o hb e=>ab.extBut b o hb e) I d1 d3 d4 d5
   ·rw[ao];simp
theorem zhe{use:Option (Value->Sem Unit)}{Qx:Value->Shared->Prop}{cp:Pos}{rest:List Comprehension}{i:List (Addr×Obj)}{s:Shared}{σ:St}{H:Hp}{Q:VK}{Tl:It->(Nat->Nat->List V->Hp->Prop)->Prop}(own fr:List Str)(js:List Nat)(hk:f.kind=.function)(hb:Qw f.names X.env.scope.names X.N fr js=true)(hi:PI X G w U)
  (hs:∀x,foldedSetIterable w X.env x=pure x) (I:Inv X i σ H s) (h:U σ H fun J H1=>∃W:Nat->Nat->List V->Hp->Prop,(∃m,W 0 m [] H1)/\Tl J W)
  (ac:∀(C D it:Addr) (l:List Addr) (tn:Nat->Heap->Prop) (J:It) (W:Nat->Nat->List V->Hp->Prop) (u:Hp) (s3 s4:Shared) (m0:Nat) (R:Result->Shared->Prop),(∀b∈D::l,∀H':Hp,H' b=none->vc (qE X (own++fr) f C s3 u (D::l)) [] H' b)->(∀b∈l,D≠b) ->
   Q7 X.prog X.w X.K G J l it tn->Tl J W->LcJ (qE X (own++fr) f C s3 u (D::l)) D tn l [] (upS own.length js σ) W m0 s4 ->
   (∀N,LcE (qE X (own++fr) f C s3 u (D::l)) D [] (upS own.length js σ) (fun ys H5=>ys.length<=sizeLine/\∀D,H5 D=none->Q (.ref D) (upd H5 D (.lst ys))) N->R (.ok .next) N) ->
   codeAny (model X.prog X.w) X.A (.compLoop (.ListComp A (⟨G,w,E,0⟩::rest) f L) 0 (.ref it) (.ref D) (compEnvC f (xf X.env.cells f.names []) C X.env)) R s4)
  (af:∀(N:Shared) (D C:Addr) (H6:Hp) (m:Str->Option Value),N.heap.Ns C m->(∀h7:Heap,(∀b o,b≠C->N.heap.get? b=some o->h7.get? b=some o)->Inv X i σ H6 { N with heap:=h7 })->vc X i H6 C->Q (.ref D) H6->compPost (model X.prog X.w) X.A X.xe use Qx (.ref D) C (.ok .next) N) :
  wpAny (model X.prog X.w) X.A (comprehension (.ListComp A (⟨G,w,E,0⟩::rest) f L) f X.env cp (newList []) false (eval w X.env) use) Qx X.xe s:=by
 have B:=VN hb;have Y:∀y∈f.names,y.2=NameKind.free->∃c,X.env.cells.lookup y.1=some c:=fun y hy e=>I.ok.has y.1 (B.free y hy e)
 refine wpAny_comprehension_free rfl hs (Y0 Y) hk (fun y hy e=>B.loc y hy e) (thn (hi i s σ H _ I h) fun v s1 h1=>thn h1 fun an s2 h2=>?_)
 obtain⟨it,l,tn,J,u,e,I2,T,a9,f2,W,⟨m0,w0⟩,tl⟩:=h2;subst e;have fl:∀b∈l,b<s2.heap.objs.size:=fun b hb=>let ⟨o,e,_⟩:=T.obj _ _ a9 b hb;zO e
 refine yK (wpAny_newFunctionEnv B.cell (by intro y hy;simp at hy) (fun h1 a7 a8=>?_) hk)
 dsimp only at a7 a8 ⊢;generalize e3:s2.heap.push { cls:=.type "list",dict:=none,data:=.seq ([]:List Value).toArray }=h3 at a7 a8 ⊢;have k3:∀b o,s2.heap.get? b=some o->h3.get? b=some o:=fun b o e=>by rw[<- e3];exact qw _ e
 have k4:∀b o,h3.get? b=some o->h1.get? b=some o:=fun b o e=>a8.extBut b o (qz (zO e)) (qw _ e)
 have I4:Inv (qE X (own++fr) f h3.objs.size { s2 with heap:=h3 } u (s2.heap.objs.size::l)) [] (upS own.length js σ) u { s2 with heap:=h1,toks:=s2.toks+([]:List (Str×Value)).length }:=
  za8 own fr js I2 B hk f2 fl rfl e3.symm rfl a7 k4
 have I3:Inv X i σ u { s2 with heap:=h3 }:=I2.kept (t':=s2.toks) k3;have hz:h3.objs.size=s2.heap.objs.size+1:=by rw[<- e3,xD]
 have a6:s2.heap.objs.size≠h3.objs.size:=by rw[hz];exact qz (yJ _)
 have aa:h1.get? s2.heap.objs.size=some { cls:=.type "list",data:=.seq ([]:List Value).toArray }:=k4 _ _ (by rw[<- e3];exact qH _ rfl)
 have ah:=(I3.fpOk (b:=h3.objs.size) (zi _) (I3.hok.fresh (zi _))).2;have dN:u s2.heap.objs.size=none:=I2.hok.fresh (zi _);have dO:=I2.fpOk (b:=s2.heap.objs.size) (zi _) dN;have fD:∀b∈l,s2.heap.objs.size≠b:=fun b hb=>wt (fl b hb)
 generalize s2.heap.objs.size=D at *
 generalize eC:h3.objs.size=C at *
 have hx:∀b,vc X i u b->∀x c,(xf X.env.cells f.names []).lookup x=some c->c≠b:=fun b hb x c e=>hb.2.2.2.2.1 x c (qJ e Y)
 have al:∀b∈D::l,b∉frs X.stack:=I4.ok.exfs;have nC:∀b∈D::l,b≠C:=fun b hb=>by
  rcases z9.mp hb with z | hb
  ·rw[z];exact a6
  ·exact(I4.ok.exf b (jh _ hb)).1
 have all:∀b∈D::l,vc X i u b:=fun b hb=>by
  rcases z9.mp hb with z | hb
  ·rw[z];exact dO
  ·exact f2 b hb
 have ag:∀b∈D::l,∀H':Hp,H' b=none->vc (qE X (own++fr) f C { s2 with heap:=h3 } u (D::l)) [] H' b:=fun b hb H' hn=>
  ⟨hn,nC b hb,al b hb,.inl hb,fun x c e=>hx b (all b hb) x c e,fun p h=>absurd h (by simp)⟩
 have go:∀s4:Shared,s4={ s2 with heap:=h1,toks:=s2.toks+([]:List (Str×Value)).length } ->
   codeAny (model X.prog X.w) X.A (.compLoop (.ListComp A (⟨G,w,E,0⟩::rest) f L) 0 (.ref it) (.ref D) (compEnvC f (xf X.env.cells f.names []) C X.env)) (compPost (model X.prog X.w) X.A X.xe use Qx (.ref D) C) s4:=by
  intro s4 e4;subst e4;refine ac C D it l tn J W u _ _ m0 _ ag fD T tl ⟨0,[],[],u,0,I4,T.keep _ _ _ a9 fun b hb o e=>k4 b o (k3 b o e),fun b hb=>(f2 b hb).1,dN,aa,.nil,w0⟩ fun N h6=>?_
  obtain⟨ys,ak,H5,z5,I6,ae,o6,am,ab,q⟩:=h6;obtain⟨m6,aj,_⟩:=I6.loc;have ai:upd H5 D (.lst ys) C=none:=by rw[zt (qA a6)];exact I6.free
  refine af N D C (upd H5 D (.lst ys)) m6 aj (fun h7 k7=>?_) ⟨ai,ah⟩ (q D ae)
  refine I3.call' (s':={ N with heap:=h7 }) (ch:=D::l) I6.os (XJ (zbj I6.base (wq eC) k7) jx dN) (Jv (YQ I6.hok I6.free k7) ae ⟨ab,ak,z5,am,k7 D _ a6 o6⟩) I6.bare fun b hb=>?_
  obtain⟨_,g1,_,g3,g4,g5⟩:=all b hb;exact⟨g3,g1,g4,g5⟩
 exact codeAny_compStart_list (go _ rfl) (T.self X.A 0 _ _ _ (T.keep _ _ _ a9 fun b hb o e=>k4 b o (k3 b o e)) (go _ rfl))
theorem zbi{Y:Cx}{b:List (Addr×Obj)}{n:Nat}{c:List Nat}{σ o:St}{i:Hp}{l:Shared}(u:(upS n c σ).length=Y.N.length)(J:Inv Y b o i l)(s:o.drop n=(upS n c σ).drop n):Inv Y b (upS n c σ) i l:=by
 refine J.weak (u.trans J.len.symm) fun k v e=>?_
 obtain⟨B,e1,_⟩:=yk e;rw[<- s,List.getElem?_drop] at e1
 rw[<- e1];congr 1
 omega
theorem zdR{C D it:Addr}{c:List Addr}{tn:Nat->Heap->Prop}{J:It}{W:Nat->Nat->List V->Hp->Prop}{H2:Hp}{s3 s4:Shared}{m0 n:Nat}{R:Result->Shared->Prop}{B:List Nat}{σ:St}{l:List Str}{N:List V->Hp->Prop}(hc:X.calm=true)
  (hg:∀C s H ex,PG (qE X l f C s H ex) G g) (hf:∀C s H ex,PF (qE X l f C s H ex) E O) (he:∀C s H ex,PE (qE X l f C s H ex) A M) (a6:∀b∈D::c,∀u:Hp,u b=none->vc (qE X l f C s3 H2 (D::c)) [] u b) (fD:∀b∈c,D≠b) (T:Q7 X.prog X.w X.K G J c it tn)
  (a7:∀i m o H7,W i m o H7->(J.stop i H7/\N o H7)\/(J.go i H7/\∃N2:List V->Hp->Prop,(∀o u,N2 o u->∃m',m'<m/\W (i+1) m' o u)/\∀x H8,J.yld i H7 x H8->g x (upS n B σ) H8 fun σ9 H9=>σ9.drop n=(upS n B σ).drop n/\O σ9 H9 fun b Q=>
    if b=true then M σ9 Q fun y a8=>o.length<sizeLine/\N2 (o++[y]) a8 else N2 o Q))
  (j:LcJ (qE X l f C s3 H2 (D::c)) D tn c [] (upS n B σ) W m0 s4) (a9:∀s6,LcE (qE X l f C s3 H2 (D::c)) D [] (upS n B σ) N s6->R (.ok .next) s6) :
  codeAny (model X.prog X.w) X.A (.compLoop (.ListComp A [⟨G,w,E,0⟩] f L) 0 (.ref it) (.ref D) (compEnvC f (xf X.env.cells f.names []) C X.env)) R s4:=by
 have hl:=(let ⟨_,_,_,_,_,I,_,_,_,_,_,_⟩:=j;I.len:(upS n B σ).length=l.length)
 refine zcT (LcJ (qE X l f C s3 H2 (D::c)) D tn c [] (upS n B σ) W) (fun k s5 j=>jC (zdQ (Y:=qE X l f C s3 H2 (D::c)) hc rfl (hg _ _ _ _) (hf _ _ _ _) (he _ _ _ _) T (a6 D jx) (fun b hb=>a6 b (jh _ hb)) fD (fun σ9 u s' J hd=>zbi hl J hd) a7 j) (fun r s6 h6=>?_) fun _ _ q=>q) m0 j
 cases r with
 | some v=>exact h6
 | none=>exact a9 s6 h6
theorem zeE(own i:List Str)(B:List Nat)(hc:X.calm=true)(hk:f.kind=.function)(hb:Qw f.names X.env.scope.names X.N i B=true)(hi:PI X G w U)
  (hg:∀C s H c,PG (qE X (own++i) f C s H c) G g) (hf:∀C s H c,PF (qE X (own++i) f C s H c) E O) (he:∀C s H c,PE (qE X (own++i) f C s H c) A M)
  (hs:∀x,foldedSetIterable w X.env x=pure x:=by intro _;rfl):PE X (.ListComp A [⟨G,w,E,0⟩] f L) (tLC U own.length B g O M):=by
 intro N s σ H Q I h;rw[eval_ListComp];exact zhe (rest:=[]) own i B hk hb hi hs I h (fun C D it fp tn J W H2 s3 s4 m0 R a b T tl j l=>zdR hc hg hf he a b T tl j l) fun s6 D C Y m hn all _ q=>⟨m,hn,fun h7 u=>⟨.ref D,Y,all h7 fun b o hb e=>u.extBut b o hb e,rfl,q⟩⟩
end
section
variable{X:Cx}{f:List (Addr×Obj)}{σ:St}{H:Hp}{s:Shared}
theorem YO{ch:List Addr}{h':Heap}{t':Nat}{T:Addr}{l:List V}{its:List Value}(I:Inv X f σ H s)(i:∀b∈ch,vc X f H b)(w:s.heap.objs.size<=T)
  (k:∀b o,b∉ch->s.heap.get? b=some o->h'.get? b=some o) (M:l.length<=sizeLine) (U:Vals l its) (Q:TupX h' T its.toArray) :
  Inv X f σ (upd H T (.tup l)) { s with heap:=h',toks:=t' }:=by
 have g:H T=none:=I.hok.fresh w;have ne:∀b o,s.heap.get? b=some o->b≠T:=fun b o e=>qz (jS (zO e) w)
 have A:∀b u,H b=some u->b∉ch:=fun b u e hb=>by rw[(i b hb).1] at e;cases e
 refine I.step (g':=s.gens) (d':=s.drawn) (ch:=ch) (fun b hb=>?_) (fun b o _ _ hc e _=>k b o hc e) (fun b o _ _ hc e _=>⟨o.slots,k b o hc e⟩) (fun b o _ e n=>by rw[zt (ne b o e)];exact n) (fun b o hc e=>⟨o,k b o hc e⟩)
  (fun b Y e=>by rw[zt (zp e g)];exact e) (fun b o u e=>by rw[zt (zp e g)];exact e) (fun b ps e=>⟨#[],by rw[zt (zp e g),e];simp⟩) (fun m N=>?_) (fun b u e=>?_) I.bare
 ·obtain⟨_,E,_,G,J,L⟩:=i b hb
  exact⟨G,E,J,L⟩
 ·obtain⟨o,D,B,O,r⟩:=N
  exact⟨o,D,B,k _ o (fun z=>(i _ z).2.1 rfl) O,r⟩
 ·by_cases hb:b=T
  ·subst hb
   rw[zc] at e;cases e;exact⟨M,its,U,Q⟩
  ·rw[zt hb] at e
   refine(I.hok b u e).stay (fun c v hc q=>k c v ?_ q) (fun c q=>by rw[zt (zp q g)];exact q) fun c Y q=>by rw[zt (zp q g)];exact q
   rcases hc with z | z
   ·rw[z];exact A b u e
   ·exact A c _ z
end
def Ite(K:W.Frag)(a:Addr):It:=
 ⟨fun i H=>∃b x,SqL K H a b/\b[i]? =some x,fun i H x c=>∃T y,x=.ref T/\H T=none/\c=upd H T (.tup [.int i,y])/\∀b,SqL K H a b->b[i]? =some y,fun i H=>∃b,SqL K H a b/\b.length<=i⟩
theorem zap{P:Program}{w:World}{K:W.Frag}{O:List Expr}{kk:Nat}{ah:Pos}(a e l:Addr)(L:e≠l) :
  Q7 P w K (.Tuple O kk ah) (Ite K a) [e,l] e (fun i h=>(∃G,IsEnum h e l i G)/\h.IsListIter l a i) where
 mem:=by simp
 obj:=fun i h st b hb=>by
  obtain⟨⟨G,f⟩,⟨o,ho,c,d⟩⟩:=st;rcases z9.mp hb with z | z
  ·subst z;exact⟨_,f,fun v q=>nomatch q⟩
  ·rw[qv.mp z];exact⟨o,ho,fun v q=>by rw[d] at q;cases q⟩
 keep:=fun i h h' st k=>by
  obtain⟨⟨G,f⟩,hi⟩:=st;exact⟨⟨G,k e (by simp) _ f⟩,hi.at fun o q=>k l (by simp) o q⟩
 item:=by
  intro X hP hw hK hc i a6 s σ H E I hf st hg;subst hP hw hK;obtain⟨⟨G,f⟩,g⟩:=st;obtain⟨xs,x,hq,hx⟩:=hg;obtain⟨B,rv,p,hz⟩:=I.list hq;obtain⟨u,hu,ru⟩:=rv.get hx;have N:=p.isList;have Q:a≠l:=fun z=>by
   obtain⟨o,e1,J,_⟩:=N;obtain⟨o',e2,c2,_⟩:=g;rw[z,e2] at e1;cases e1;rw[c2] at J;exact absurd (QL J) (by decide)
  have a8:e≠a:=fun z=>by
   obtain⟨o,e1,J,_⟩:=N;rw[<- z,f] at e1;cases e1;exact absurd (QL J) (by decide)
  have D:=Draws.list (prog:=X.prog) (w:=X.w) (A:=X.A.in1) (I.ok.hd hc) l a Q B.toArray;have hi:i<B.toArray.size:=by
   have h1:=(qg.mp hu).1;simpa using h1
  refine wpAny_pyNext_enum_itemD D f ⟨g,N⟩ hi L (by simp[L,a8]) fun x' h' tk a7 U Y hT ak hk=>?_
  have ex:x'=u:=by
   have h2:B[i]? =some x':=by simpa using a7
   rw[hu] at h2;exact(j5 h2).symm
  subst ex;refine⟨_,rfl,wpAny_letOwnedTupleGo_enum U fun h2 ac M=>?_⟩
  have eT:s.heap.objs.size≠e:=wt (zO f);have k2:∀b o,b∉[e,l]->s.heap.get? b=some o->h2.get? b=some o:=fun b o hb q=>by
   have n1:b≠e:=fun z=>hb (by simp[z])
   have n2:b≠l:=fun z=>hb (by simp[z])
   exact(M.2 b n1).trans (hk b o n1 n2 q)
  have ag:h2.IsListIter l a (i+1):=Y.1.extBut M.extBut (qA L);refine⟨.ref s.heap.objs.size,upd H s.heap.objs.size (.tup [.int i,x]),?_,rfl,⟨_,x,rfl,I.hok.fresh (zi _),rfl,fun ys hy=>by rw[I.list_inj hy hq];exact hx⟩,⟨⟨_,by simpa using ac⟩,ag⟩,fun b hb=>?_⟩
  ·refine YO (s:=s) (h':=h2) (t':=tk+1) (its:=[.int i tk,x']) I hf (zi _) k2 (by rw[sizeLine_eq];exact(by decide:2<=16777216)) (.cons ⟨tk,rfl⟩ (.cons ru .nil)) (TupX.by ((M.2 _ eT).trans hT))
  ·have a9:b<s.heap.objs.size:=by
    rcases z9.mp hb with z | z
    ·rw[z];exact zO f
    ·rw[qv.mp z]
     obtain⟨o',e',_⟩:=g;exact zO e'
   rw[zt (qz a9)];exact(hf b hb).1
 done:=by
  intro X hP hw hK hc i a6 s σ H E I hf st hg;subst hP hw hK;obtain⟨⟨G,f⟩,g⟩:=st;obtain⟨xs,hq,hx⟩:=hg;obtain⟨B,rv,p,hz⟩:=I.list hq;have N:=p.isList;have Q:a≠l:=fun z=>by
   obtain⟨o,e1,J,_⟩:=N;obtain⟨o',e2,c2,_⟩:=g;rw[z,e2] at e1;cases e1;rw[c2] at J;exact absurd (QL J) (by decide)
  obtain⟨f0,f1,f2,f3,f4,f5⟩:=hf l (by simp)
  have ae:B.toArray.size<=i:=by
   have:=rv.length;simp only[qt];omega
  have hT:s.TypeIs (.ref e) "enumerate" :=⟨_,f,rfl⟩;unfold pyNext;refine zn (wpAny_attempt (QA (name:=Str.ofString "__next__") hT F.slot_enumerate_next (vS F.slot_enumerate_next hT F.entry_enumerate_next ?_ (F.args_enumerate_next_1 _))))
  show wpAny _ _ (field (.ref e) 2 >>= _) _ _ _;refine zn (xJ f rfl (x:=.ref l) rfl (zn (wpAny_nextOf_list_end (I.ok.hd hc) g N (by simpa using ae) fun h' x ab af=>?_)))
  obtain⟨o,ho,aa⟩:=af;refine zn (ye (T:= "StopIteration") (b:=true) ⟨o,ho,aa⟩ isSubtype_stop ?_)
  exact zy ⟨rfl,I.turned (t':=s.toks) (fun b o hb q=>ab b o hb q) f0 f1 f3 f4 f5⟩
 self:=fun _ _ _ _ _ st h=>let ⟨⟨_,f⟩,_⟩:=st;wpAny_pyIter_enum f h
section
variable{X:Cx}
def zg6(K:W.Frag)(c:TA):TI:=fun σ H R=>c σ H fun f b=>∃a,f=[.ref a]/\(∃g,SqL K b a g)/\R (Ite K a) b
theorem zds{l:Expr}{B:TA}{p i tp:Pos}{f:List Expr}{T:Nat}(J:Gl X "enumerate")(M:X.mg "enumerate" = none)(G:PA X [l] B)(N:starEach [l] X.env=[(false,eval l X.env)]:=by rfl) :
  PI X (.Tuple f T tp) (.Call (.Name "enumerate" p) [l] [] i) (zg6 X.K B):=by
 intro c s σ H R I h;refine Call_ (vI I J M boot_enumerate (JN (thn (G i c s σ H _ I h) fun us s1 ⟨vs,w,o,Y,q1⟩=>?_) N rfl))
 obtain⟨a,e,⟨xs,hq⟩,q⟩:=q1;subst e;obtain⟨u,rfl,ru⟩:=xI Y;cases ru;obtain⟨Q,rv,U,hz⟩:=o.list hq;refine call_enumerate_list U.isList fun E A L O hk=>wpAny_pyIter_enum A ?_
 have D:Inv X c σ w { s1 with heap:=E }:=o.kept (t':=s1.toks) hk;refine⟨s1.heap.objs.size+1,[s1.heap.objs.size+1,s1.heap.objs.size],_,_,w,rfl,D,zap a _ _ (Nat.succ_ne_self _),⟨⟨_,A⟩,L⟩,fun b hb=>?_,q⟩
 have g:s1.heap.objs.size<=b:=by
  rcases z9.mp hb with z | z
  ·rw[z];exact Nat.le_succ _
  ·rw[qv.mp z];exact zi _
 exact o.fpOk g (o.hok.fresh g)
theorem zcF{K:W.Frag}{a:Addr}{xs:List V}{g:TG}{u:TS}{D:XF}{σ:St}{H:Hp}(Pv:Nat->St->Hp->Prop)(h0:Pv 0 σ H)(E:∀i σ H,i<=xs.length->Pv i σ H->SqL K H a xs)
  (G:∀i x σ H T,xs[i]? =some x->Pv i σ H->H T=none->g (.ref T) σ (upd H T (.tup [.int i,x])) fun o f=>u { D with nx:=Pv (i+1),ct:=Pv (i+1),bk:=D.nx } o f) (A:∀σ H,Pv xs.length σ H->D.nx σ H) :
  ∃W:Nat->Nat->St->Hp->Prop,(∃m,W 0 m σ H)/\∀i m σ H,W i m σ H ->
   ((Ite K a).stop i H/\D.nx σ H)\/((Ite K a).go i H/\∃N:St->Hp->Prop,(∀l b,N l b->∃s,s<m/\W (i+1) s l b)/\∀x b,(Ite K a).yld i H x b->g x σ b fun o f=>u { D with nx:=N,ct:=N,bk:=D.nx } o f):=by
 refine⟨fun i m σ H=>m=xs.length-i/\i<=xs.length/\Pv i σ H,⟨xs.length,by simp,zY _,h0⟩,?_⟩
 rintro i m σ H ⟨rfl,B,p⟩;have q:=E i σ H B p;by_cases c:i<xs.length
 ·refine .inr ⟨⟨xs,xs[i],q,by simp[c]⟩,Pv (i+1),fun l b I=>⟨xs.length-(i+1),by omega,rfl,c,I⟩,fun x b y=>?_⟩
  obtain⟨T,z,e1,w,e2,y⟩:=y;subst e1 e2;exact G i z σ H T (y xs q) p w
 ·have e:i=xs.length:=by omega
  subst e;exact .inl ⟨⟨xs,q,zi _⟩,A σ H p⟩
inductive ZR(K:W.Frag)(c:List V)(H:Hp)(Q:VK):Prop
 | mk (p:Addr) (b:List Bool) (_:c=[.ref p]) (_:SqL K H p (b.map V.bl)) (_:Q (.bl (b.all id)) H):ZR K c H Q
theorem qK(hc:X.calm=true):CallR X (.builtin "all") (ZR X.K):=by
 intro N s σ H xs us Q I r h;obtain⟨p,c,rfl,hq,q⟩:=h;obtain⟨u,rfl,J⟩:=xI r;cases J;obtain⟨f,L,pl,hz⟩:=I.list hq;have E:=pl.isList;have G:p≠s.heap.objs.size:=by
  obtain⟨o,e,_⟩:=E;exact qz (zO e)
 refine call_all_walk (wpAny_pyIter_list E ?_)
 refine⟨s.heap.objs.size,_,_,_,_,_,fun i=>c.getD i true,rfl,Walks.list (prog:=X.prog) (w:=X.w) (A:=X.A.in1) (I.ok.hd hc) _ p G f.toArray,⟨⟨_,qH _ rfl,rfl,rfl⟩,E.push _⟩,?_,fun h' tk hk=>?_⟩
 ·intro i v s' T E' D hQ
  have D:f.toArray[i]? =some v:=D;have e1:f[i]? =some v:=by simpa using D
  have g:i<c.length:=by
   have h1:=(qg.mp e1).1;have h2:=L.length;rw[zv] at h2;omega
  have e2:(c.map V.bl)[i]? =some (.bl c[i]):=by simp[g]
  obtain⟨u',M,J⟩:=L.get e2;rw[e1] at M;cases M;cases J;have U:c.getD i true=c[i]:=by simp[g]
  have l:T (c.getD i true) s':=hQ;rw[U] at l;exact vU l
 ·have k:∀b o,s.heap.get? b=some o->h'.get? b=some o:=fun b o e=>hk b o (by simp;exact qz (zO e)) (qw _ e)
  have Y:(List.range f.toArray.size).all (fun i=>c.getD i true)=c.all id:=by
   have B:f.toArray.size=c.length:=by
    have:=L.length;rw[zv] at this;simp only[qt];omega
   rw[B,vh,jw,jw];constructor
   ·intro h b hb
    obtain⟨i,g,rfl⟩:=WH.mp hb;have:=h i (jF.mpr g);simpa [g] using this
   ·intro h i g
    have g:=jF.mp g;have:=h c[i] (yc g);simpa [g] using this
  exact⟨.bl (c.all id),H,I.kept k,by rw[Y];rfl,q⟩
end
def SqK(K:W.Frag)(c:Bool)(H:Hp)(a:Addr)(b:List V):Prop:=match c with
 | true=>SqL K H a b
 | false=>SqT K H a b
def SeqK(c:Bool)(h:Heap)(a:Addr)(b:Array Value):Prop:=match c with
 | true=>h.IsList a b
 | false=>h.IsTuple a b
def ItrK(c:Bool)(h:Heap)(b a:Addr)(i:Nat):Prop:=match c with
 | true=>h.IsListIter b a i
 | false=>h.IsTupleIter b a i
theorem SeqK.at{kd:Bool}{h c:Heap}{a:Addr}{b:Array Value}(x:SeqK kd h a b)(k:∀o,h.get? a=some o->c.get? a=some o):SeqK kd c a b:=by
 cases kd with
 | true=>exact Heap.IsList.at x k
 | false=>obtain⟨o,e,r⟩:=(show h.IsTuple a b from x);exact⟨o,k o e,r⟩
theorem ItrK.at{kd:Bool}{h c:Heap}{b a:Addr}{i:Nat}(x:ItrK kd h b a i)(k:∀o,h.get? b=some o->c.get? b=some o):ItrK kd c b a i:=by
 cases kd with
 | true=>exact Heap.IsListIter.at x k
 | false=>obtain⟨o,e,r⟩:=(show h.IsTupleIter b a i from x);exact⟨o,k o e,r⟩
theorem ItrK.obj{f:Bool}{h:Heap}{b a:Addr}{i:Nat}(x:ItrK f h b a i):∃o,h.get? b=some o/\(o.cls=.type "list_iterator" \/ o.cls=.type "tuple_iterator")/\∀v,o.data≠.cell v:=by
 cases f with
 | true=>obtain⟨o,e,c,d⟩:=(show h.IsListIter b a i from x);exact⟨o,e,.inl c,fun v q=>by rw[d] at q;cases q⟩
 | false=>obtain⟨o,e,c,d⟩:=(show h.IsTupleIter b a i from x);exact⟨o,e,.inr c,fun v q=>by rw[d] at q;cases q⟩
theorem SeqK.cls{f:Bool}{h:Heap}{a:Addr}{b:Array Value}(x:SeqK f h a b):∃o,h.get? a=some o/\(o.cls=.type "list" \/ o.cls=.type "tuple")/\∃n,o.data=.seq b n:=by
 cases f with
 | true=>obtain⟨o,e,c,n,d⟩:=(show h.IsList a b from x);exact⟨o,e,.inl c,n,d⟩
 | false=>obtain⟨o,e,c,n,d⟩:=(show h.IsTuple a b from x);exact⟨o,e,.inr c,n,d⟩
section
variable{l:Program}{w:World}{A:Around}{E:Value->Shared->Prop}{s:Shared}
theorem vF{kd:Bool}{c a:Addr}{i:Nat}{f:Array Value}{x:Value}{Q:Value->Shared->Prop}(I:ItrK kd s.heap c a i)(J:SeqK kd s.heap a f)(hx:f[i]? =some x)
  (H:∀B,ItrK kd B c a (i+1)->Heap.SameBut c s.heap B->Q x { s with heap:=B }):wpAny (model l w) A (Builtin.SmallTypes.nextOf (.ref c)) Q E s:=by
 cases kd with
 | true=>exact wpAny_nextOf_list_item I J hx H
 | false=>
  have b:s.heap.IsTupleIter c a i:=I;obtain⟨o,u,hc,g⟩:=id b;obtain⟨M,G,_,nl,D⟩:=(show s.heap.IsTuple a f from J)
  unfold Builtin.SmallTypes.nextOf;refine zn (QA (name:=Str.ofString "__next__") b.typeIs XC (vS XC b.typeIs zc0 ?_ (zc3 _)))
  show wpAny _ _ (field (.ref c) 0 >>= _) _ _ _;refine zn (xJ u g (x:=.ref a) rfl ?_)
  show wpAny _ _ (if(Value.ref a==Value.none)=true then _ else _) _ _ _;rw[zB (show ¬((Value.ref a==Value.none)=true) from jG)]
  show wpAny _ _ (field (.ref c) 1 >>= _) _ _ _;refine zn (xJ u g (x:=.int i 0) rfl ?_)
  show wpAny _ _ (seqItems? (.ref a) >>= _) _ _ _;refine zn (xY G D ?_);simp only[Zo,hx]
  refine zn (wpAny_setField u g (by simp) (zy ⟨x,rfl,zy (H _ (show Heap.IsTupleIter _ _ _ _ from ?_) (Zt ..))⟩))
  refine⟨_,ZH _ u (Obj.isFreed_of_fields (Obj.data_mapFields g _)),(Obj.cls_mapFields ..).trans hc,?_⟩;rw[Obj.data_mapFields g];simp[rawInt]
theorem yS{kd:Bool}{f a:Addr}{i:Nat}{c:Array Value}{Q:Value->Shared->Prop}(D:A.handled=none)(J:ItrK kd s.heap f a i)(L:SeqK kd s.heap a c)(hx:c[i]? =none)
  (I:∀g e,Heap.ExtBut f s.heap g->(∃o,g.get? e=some o/\o.cls=.type "StopIteration")->E (.ref e) { s with heap:=g }):wpAny (model l w) A (Builtin.SmallTypes.nextOf (.ref f)) Q E s:=by
 cases kd with
 | true=>exact wpAny_nextOf_list_end D J L hx I
 | false=>
  have b:s.heap.IsTupleIter f a i:=J;obtain⟨o,G,hc,u⟩:=id b;obtain⟨N,H,_,nl,B⟩:=(show s.heap.IsTuple a c from L)
  unfold Builtin.SmallTypes.nextOf;refine zn (QA (name:=Str.ofString "__next__") b.typeIs XC (vS XC b.typeIs zc0 ?_ (zc3 _)))
  show wpAny _ _ (field (.ref f) 0 >>= _) _ _ _;refine zn (xJ G u (x:=.ref a) rfl ?_)
  show wpAny _ _ (if(Value.ref a==Value.none)=true then _ else _) _ _ _;rw[zB (show ¬((Value.ref a==Value.none)=true) from jG)]
  show wpAny _ _ (field (.ref f) 1 >>= _) _ _ _;refine zn (xJ G u (x:=.int i 0) rfl ?_)
  show wpAny _ _ (seqItems? (.ref a) >>= _) _ _ _;refine zn (xY H B ?_);simp only[Zo,hx]
  refine zn (vC (zn (wpAny_setField G u (by simp) ?_)));show wpAny _ _ (newExc (.type "StopIteration") [] >>= _) _ _ _
  refine zn ?_;simp only[newExc,newTuple];refine zn (yK ?_ (by size_fits))
  refine zn (m:=firstArgMember _ _) (wpAny_of_eq (a:=Value.none) (by first| rfl | (simp only[firstArgMember];rfl)) (yK ?_ (by size_fits)))
  simp only[raiseNew];refine zn (wpAny_handled ?_);first| rw[show A.in1.handled=none from D] | rw[D]
  exact zn (zy (wpAny_throw (I _ _ (((Zt ..).extBut.push _).push _) ⟨_,qH _ rfl,rfl⟩)))
structure JO(k1 k2:Bool)(h:Heap)(z TI TO i1 i2 a1 a2:Addr)(i:Nat):Prop where
 zz:IsZip h z TI TO .none
 ti:IsPair h TI (.ref i1) (.ref i2)
 to:∃a b,IsPair h TO a b
 r1:ItrK k1 h i1 a1 i
 r2:ItrK k2 h i2 a2 i
structure Y3(z TI TO i1 i2:Addr):Prop where
 a:TI≠z
 b:TO≠z
 c:i1≠z
 d:i2≠z
 e:TI≠TO
 f:TI≠i1
 g:TI≠i2
 h:TO≠i1
 i:TO≠i2
 j:i1≠i2
theorem Y5{k1 k2:Bool}{z TI TO u I a1 a2:Addr}{i:Nat}{xs ys:Array Value}{x y:Value}{Q:Option Value->Shared->Prop}(N:Y3 z TI TO u I)(Z:JO k1 k2 s.heap z TI TO u I a1 a2 i)
  (l1:SeqK k1 s.heap a1 xs) (l2:SeqK k2 s.heap a2 ys) (m1:∀b∈[z,TO,u,I],a1≠b) (m2:∀b∈[z,TO,u,I],a2≠b) (hx:xs[i]? =some x) (hy:ys[i]? =some y)
  (hQ:∀J,IsZip J z TI TO (rawInt s.heap.objs.size)->IsPair J TI (.ref u) (.ref I)->(∃a b,IsPair J TO a b)->ItrK k1 J u a1 (i+1)->ItrK k2 J I a2 (i+1)->IsPair J s.heap.objs.size x y->J.objs.size=s.heap.objs.size+1 ->
   (∀c o,c∉[z,TO,u,I]->s.heap.get? c=some o->J.get? c=some o)->Q (some (.ref s.heap.objs.size)) { s with heap:=J }):wpAny (model l w) A (pyNext (.ref z)) Q E s:=by
 obtain⟨hz,ab,⟨a,b,ag⟩,h1,h2⟩:=Z;have hT:s.TypeIs (.ref z) "zip" :=⟨_,hz,rfl⟩;unfold pyNext;refine zn (wpAny_attempt (QA (name:=Str.ofString "__next__") hT Xo (vS Xo hT F.entry_zip_next ?_ (F.args_zip_next_1 _))))
 show wpAny _ _ (field (.ref z) 2 >>= _) _ _ _;refine zn (xJ hz rfl (x:=.bool false) rfl ?_)
 show wpAny _ _ (field (.ref z) 3 >>= _) _ _ _;refine zn (xJ hz rfl (x:=.ref TI) rfl (zn (xY ab rfl ?_)))
 show wpAny _ _ (Builtin.SmallTypes.ownedTupleIsFree (.ref z) >>= _) _ _ _;refine zn ?_
 unfold Builtin.SmallTypes.ownedTupleIsFree;refine zn (xJ hz rfl (x:=.none) rfl (zy ?_));simp only[if_true]
 refine zn (vC (zn (xJ hz rfl (x:=.ref TO) rfl (zn (Zq hz (by simp) fun g1 a8 D=>?_)))))
 replace a8:IsZip g1 z TI TO .ellipsis:=a8
 refine zn ?_;simp only[List.zipIdx_cons,List.zipIdx_nil,wW,Zi]
 refine zn (zn (wpAny_onRaise ?_));show wpAny _ _ (Builtin.SmallTypes.nextOf (.ref u) >>= _) _ _ _
 refine zn (vF (h1.at fun o e=>D.extBut _ o N.c e) (l1.at fun o e=>D.extBut _ o (m1 z (by simp)) e) hx fun g2 ae L=>zy ?_)
 have T:IsPair g2 TO a b:=L.extBut _ _ N.h (D.extBut _ _ N.b ag);refine zn (xY T rfl (zn (wpAny_updateSeq_pair T fun g3 B M=>?_)))
 replace B:IsPair g3 TO x b:=B
 refine zn (wT (zy ?_));refine zn (zn (wpAny_onRaise ?_));show wpAny _ _ (Builtin.SmallTypes.nextOf (.ref I) >>= _) _ _ _
 have Y:∀c o,c∉[z,TO,u]->s.heap.get? c=some o->g3.get? c=some o:=fun c o hc e=>M.extBut _ o (fun q=>hc (by simp[q])) (L.extBut _ o (fun q=>hc (by simp[q])) (D.extBut _ o (fun q=>hc (by simp[q])) e))
 refine zn (vF (h2.at fun o e=>Y _ o (by simp[N.d,qA N.i,qA N.j]) e) (l2.at fun o e=>Y _ o (by simp[m2 z (by simp),m2 TO (by simp),m2 u (by simp)]) e) hy fun g4 af G=>zy ?_)
 have U:IsPair g4 TO x b:=G.extBut _ _ N.i B;refine zn (xY U rfl (zn (wpAny_updateSeq_pair U fun f g H=>?_)))
 replace g:IsPair f TO x y:=g
 refine zn (wT (zy (zy (zn (xY g rfl (zn (wpAny_newTuple ?_)))))))
 have zs:f.objs.size=s.heap.objs.size:=by rw[H.1,G.1,M.1,L.1,D.1]
 have ac:IsZip f z TI TO .ellipsis:=H.extBut _ _ (qA N.b) (G.extBut _ _ (qA N.d) (M.extBut _ _ (qA N.b) (L.extBut _ _ (qA N.c) a8)));have k5:∀c o,c∉[z,TO,u,I]->s.heap.get? c=some o->f.get? c=some o:=fun c o hc e=>H.extBut _ o (fun q=>hc (by simp[q])) (G.extBut _ o (fun q=>hc (by simp[q])) (Y c o (fun q=>hc (by simp at q ⊢;rcases q with q | q | q<;>simp[q])) e))
 have r1:ItrK k1 f u a1 (i+1):=ae.at fun o e=>H.extBut _ o (qA N.h) (G.extBut _ o N.j (M.extBut _ o (qA N.h) e))
 have r2:ItrK k2 f I a2 (i+1):=af.at fun o e=>H.extBut _ o (qA N.i) e
 have zl:z<f.objs.size:=zO ac;show wpAny _ _ (Builtin.SmallTypes.ownedTupleHandOut (.ref z) (.ref f.objs.size) >>= _) _ _ _;refine zn ?_;unfold Builtin.SmallTypes.ownedTupleHandOut
 have ah:IsZip (f.push { cls:=.type "tuple",data:=.seq #[x,y] }) z TI TO .ellipsis:=qw _ ac;refine zn (Zq ah (by simp) fun g7 a9 a6=>?_)
 replace a9:IsZip g7 z TI TO (rawInt f.objs.size):=a9
 refine Zq a9 (by simp) fun g8 O a7=>?_
 replace O:IsZip g8 z TI TO (rawInt f.objs.size):=O
 have up:∀c o,c≠z->f.get? c=some o->g8.get? c=some o:=fun c o c1 e=>a7.extBut _ o c1 (a6.extBut _ o c1 (qw _ e))
 have aa:IsPair g8 f.objs.size x y:=a7.extBut _ _ (wt zl) (a6.extBut _ _ (wt zl) (qH _ rfl));have z8:g8.objs.size=f.objs.size+1:=by rw[a7.1,a6.1,xD]
 rw[zs] at O aa z8;refine zy ⟨_,rfl,zy ?_⟩;show Q (some (.ref f.objs.size)) _;rw[zs]
 exact hQ g8 O (up _ _ N.a (k5 _ _ (by simp[N.a,N.e,N.f,N.g]) ab)) ⟨_,_,up _ _ N.b g⟩ (r1.at fun o e=>up _ o N.c e) (r2.at fun o e=>up _ o N.d e) aa z8 fun c o hc e=>up c o (fun q=>hc (by simp[q])) (k5 c o hc e)
theorem zbf{k1 k2:Bool}{z TI TO I O a1 a2:Addr}{i:Nat}{xs ys:Array Value}{Q:Option Value->Shared->Prop}(hh:A.handled=none)(N:Y3 z TI TO I O)(Z:JO k1 k2 s.heap z TI TO I O a1 a2 i)
  (l1:SeqK k1 s.heap a1 xs) (l2:SeqK k2 s.heap a2 ys) (m1:∀b∈[z,TO,I,O],a1≠b) (m2:∀b∈[z,TO,I,O],a2≠b) (U:xs[i]? =none\/ys[i]? =none)
  (hQ:∀h',(∀c o,c∉[z,TO,I,O]->s.heap.get? c=some o->h'.get? c=some o)->Q none { s with heap:=h' }):wpAny (model l w) A (pyNext (.ref z)) Q E s:=by
 obtain⟨M,a9,⟨a,b,aa⟩,h1,h2⟩:=Z;have hT:s.TypeIs (.ref z) "zip" :=⟨_,M,rfl⟩;unfold pyNext;refine zn (wpAny_attempt (QA (name:=Str.ofString "__next__") hT Xo (vS Xo hT F.entry_zip_next ?_ (F.args_zip_next_1 _))))
 show wpAny _ _ (field (.ref z) 2 >>= _) _ _ _;refine zn (xJ M rfl (x:=.bool false) rfl ?_)
 show wpAny _ _ (field (.ref z) 3 >>= _) _ _ _;refine zn (xJ M rfl (x:=.ref TI) rfl (zn (xY a9 rfl ?_)))
 show wpAny _ _ (Builtin.SmallTypes.ownedTupleIsFree (.ref z) >>= _) _ _ _;refine zn ?_
 unfold Builtin.SmallTypes.ownedTupleIsFree;refine zn (xJ M rfl (x:=.none) rfl (zy ?_));simp only[if_true]
 refine zn (vC (zn (xJ M rfl (x:=.ref TO) rfl (zn (Zq M (by simp) fun g1 G g=>?_)))))
 replace G:IsZip g1 z TI TO .ellipsis:=G
 refine zn ?_;simp only[List.zipIdx_cons,List.zipIdx_nil,wW,Zi]
 refine zn (zn (wpAny_onRaise ?_));show wpAny _ _ (Builtin.SmallTypes.nextOf (.ref I) >>= _) _ _ _
 cases hx:xs[i]? with
 | none=>
  refine zn (yS hh (h1.at fun o e=>g.extBut _ o N.c e) (l1.at fun o e=>g.extBut _ o (m1 z (by simp)) e) hx fun g2 e u he=>?_)
  obtain⟨oe,f,B⟩:=he;have a7:IsZip g2 z TI TO .ellipsis:=u _ _ (qA N.c) G;have L:e≠z:=fun q=>by subst q;rw[a7] at f;cases f;exact absurd (QL B) (by decide)
  refine Zq a7 (by simp) fun g3 af D=>?_
  refine zn (ye (T:= "StopIteration") (b:=true) ⟨oe,D.extBut _ _ L f,B⟩ isSubtype_stop (zy (hQ _ fun c o hc q=>?_)))
  exact D.extBut _ o (fun q=>hc (by simp[q])) (u _ o (fun q=>hc (by simp[q])) (g.extBut _ o (fun q=>hc (by simp[q])) q))
 | some x=>
  have hy:ys[i]? =none:=by rcases U with q | q;rw[hx] at q;cases q;exact q
  refine zn (vF (h1.at fun o e=>g.extBut _ o N.c e) (l1.at fun o e=>g.extBut _ o (m1 z (by simp)) e) hx fun g2 ae u=>zy ?_)
  have H:IsPair g2 TO a b:=u.extBut _ _ N.h (g.extBut _ _ N.b aa);refine zn (xY H rfl (zn (wpAny_updateSeq_pair H fun g3 ab D=>?_)))
  have J:∀c o,c∉[z,TO,I]->s.heap.get? c=some o->g3.get? c=some o:=fun c o hc e=>D.extBut _ o (fun q=>hc (by simp[q])) (u.extBut _ o (fun q=>hc (by simp[q])) (g.extBut _ o (fun q=>hc (by simp[q])) e))
  refine zn (wT (zy ?_));refine zn (zn (wpAny_onRaise ?_));show wpAny _ _ (Builtin.SmallTypes.nextOf (.ref O) >>= _) _ _ _
  refine zn (yS hh (h2.at fun o e=>J _ o (by simp[N.d,qA N.i,qA N.j]) e) (l2.at fun o e=>J _ o (by simp[m2 z (by simp),m2 TO (by simp),m2 I (by simp)]) e) hy fun g4 e Y he=>?_)
  obtain⟨oe,f,B⟩:=he;have a8:IsZip g4 z TI TO .ellipsis:=Y _ _ (qA N.d) (D.extBut _ _ (qA N.b) (u.extBut _ _ (qA N.c) G));have L:e≠z:=fun q=>by subst q;rw[a8] at f;cases f;exact absurd (QL B) (by decide)
  refine Zq a8 (by simp) fun g5 ag a6=>?_
  refine zn (ye (T:= "StopIteration") (b:=true) ⟨oe,a6.extBut _ _ L f,B⟩ isSubtype_stop (zy (hQ _ fun c o hc q=>?_)))
  exact a6.extBut _ o (fun q=>hc (by simp[q])) (Y _ o (fun q=>hc (by simp[q])) (J c o (fun q=>hc (by simp at q ⊢;rcases q with q | q | q<;>simp[q])) q))
abbrev zh(h:Heap)(b c:Obj):Heap:=((((h.push b).push c).push { cls:=.type "tuple",data:=.seq #[.ref h.objs.size,.ref (h.push b).objs.size] }).push { cls:=.type "tuple",data:=.seq #[.none,.none] }).push
 { cls:=.type "zip",data:=.fields #[.none,.bool false,.bool false,.ref ((h.push b).push c).objs.size,.ref (((h.push b).push c).push { cls:=.type "tuple",data:=.seq #[.ref h.objs.size,.ref (h.push b).objs.size] }).objs.size] }
theorem zf3{D G:Bool}{a1 a2:Addr}{h:Heap}{b f:Obj}(M:∀g:Heap,g.get? h.objs.size=some b->ItrK D g h.objs.size a1 0)(N:∀(g:Heap) (n:Addr),g.get? n=some f->ItrK G g n a2 0)(J:b.isFreed=false)(L:f.isFreed=false) :
  JO D G (zh h b f) (h.objs.size+4) (h.objs.size+2) (h.objs.size+3) h.objs.size (h.objs.size+1) a1 a2 0/\(∀c o,h.get? c=some o->(zh h b f).get? c=some o)/\(zh h b f).objs.size=h.objs.size+5:=by
 have i:(h.push b).objs.size=h.objs.size+1:=xD ..;have u:((h.push b).push f).objs.size=h.objs.size+2:=by rw[xD,i]
 have B:(((h.push b).push f).push { cls:=.type "tuple",data:=.seq #[.ref h.objs.size,.ref (h.push b).objs.size] }).objs.size=h.objs.size+3:=by rw[xD,u]
 have I:((((h.push b).push f).push { cls:=.type "tuple",data:=.seq #[.ref h.objs.size,.ref (h.push b).objs.size] }).push { cls:=.type "tuple",data:=.seq #[.none,.none] }).objs.size=h.objs.size+4:=by rw[xD,B]
 have H:(zh h b f).get? (h.objs.size+4)=some _:=I▸qH _ rfl;have q4:(zh h b f).get? (h.objs.size+3)=some _:=B▸qw _ (qH _ rfl);have q3:(zh h b f).get? (h.objs.size+2)=some _:=u▸qw _ (qw _ (qH _ rfl));have q2:(zh h b f).get? (h.objs.size+1)=some f:=i▸qw _ (qw _ (qw _ (qH _ L)));have q1:(zh h b f).get? h.objs.size=some b:=qw _ (qw _ (qw _ (qw _ (qH _ J))));rw[u,B] at H;rw[i] at q3;exact⟨⟨H,q3,⟨_,_,q4⟩,M _ q1,N _ _ q2⟩,fun c o e=>qw _ (qw _ (qw _ (qw _ (qw _ e)))),by rw[xD,I]⟩
theorem zbe{k1 k2:Bool}{a1 a2:Addr}{xs ys:Array Value} :
  PySem.Meets (Builtin.«zip.__new__» ⟨[.type "zip",.ref a1,.ref a2],[]⟩) (fun _ R s=>SeqK k1 s.heap a1 xs/\SeqK k2 s.heap a2 ys /\
   ∀I,JO k1 k2 I (s.heap.objs.size+4) (s.heap.objs.size+2) (s.heap.objs.size+3) s.heap.objs.size (s.heap.objs.size+1) a1 a2 0->(∀c o,s.heap.get? c=some o->I.get? c=some o)->I.objs.size=s.heap.objs.size+5->R (.ok (.ret (.ref (s.heap.objs.size+4)))) { s with heap:=I }):=
 .of_wp fun l w A R s hq=>by
  obtain⟨hp,g,d,u,os⟩:=s;obtain⟨H,f,N⟩:=hq;have J:=sub_zip;have b:∀{i D:Obj},(∀g:Heap,g.get? hp.objs.size=some i->ItrK k1 g hp.objs.size a1 0)->(∀(g:Heap) (n:Addr),g.get? n=some D->ItrK k2 g n a2 0)->i.isFreed=false->D.isFreed=false ->
    R (.ok (.ret (.ref ((((hp.push i).push D).push { cls:=.type "tuple",data:=.seq #[.ref hp.objs.size,.ref (hp.push i).objs.size] }).push { cls:=.type "tuple",data:=.seq #[.none,.none] }).objs.size))) ⟨zh hp i D,g,d,u,os⟩:=fun {i D} O Q L M=>by
   obtain⟨A,B,C⟩:=zf3 O Q L M;have e:((((hp.push i).push D).push { cls:=.type "tuple",data:=.seq #[.ref hp.objs.size,.ref (hp.push i).objs.size] }).push { cls:=.type "tuple",data:=.seq #[.none,.none] }).objs.size=hp.objs.size+4:=by
    rw[xD,xD,xD,xD]
   rw[e];exact N _ A B C
  cases k1 with
  | true=>
   have G:Heap.IsList (Shared.heap ⟨hp,g,d,u,os⟩) a1 xs:=H;cases k2 with
   | true=>
    have L2:Heap.IsList (Shared.heap ⟨hp.push { cls:=.type "list_iterator",data:=.fields #[.ref a1,.int 0 0] },g,d,u,os⟩) a2 ys:=Heap.IsList.push f _;wp_walk using wpAny_pyIter_list G,wpAny_pyIter_list L2
    exact⟨_,rfl,b (fun g e=>⟨_,e,rfl,rfl⟩) (fun g n e=>⟨_,e,rfl,rfl⟩) rfl rfl⟩
   | false=>
    have L2:Heap.IsTuple (Shared.heap ⟨hp.push { cls:=.type "list_iterator",data:=.fields #[.ref a1,.int 0 0] },g,d,u,os⟩) a2 ys:=Heap.IsTuple.push f _;wp_walk using wpAny_pyIter_list G,wpAny_pyIter_tuple L2
    exact⟨_,rfl,b (fun g e=>⟨_,e,rfl,rfl⟩) (fun g n e=>⟨_,e,rfl,rfl⟩) rfl rfl⟩
  | false=>
   have G:Heap.IsTuple (Shared.heap ⟨hp,g,d,u,os⟩) a1 xs:=H;cases k2 with
   | true=>
    have L2:Heap.IsList (Shared.heap ⟨hp.push { cls:=.type "tuple_iterator",data:=.fields #[.ref a1,.int 0 0] },g,d,u,os⟩) a2 ys:=Heap.IsList.push f _;wp_walk using wpAny_pyIter_tuple G,wpAny_pyIter_list L2
    exact⟨_,rfl,b (fun g e=>⟨_,e,rfl,rfl⟩) (fun g n e=>⟨_,e,rfl,rfl⟩) rfl rfl⟩
   | false=>
    have L2:Heap.IsTuple (Shared.heap ⟨hp.push { cls:=.type "tuple_iterator",data:=.fields #[.ref a1,.int 0 0] },g,d,u,os⟩) a2 ys:=Heap.IsTuple.push f _;wp_walk using wpAny_pyIter_tuple G,wpAny_pyIter_tuple L2
    exact⟨_,rfl,b (fun g e=>⟨_,e,rfl,rfl⟩) (fun g n e=>⟨_,e,rfl,rfl⟩) rfl rfl⟩
theorem za1{f g:Bool}{a1 a2:Addr}{u B:Array Value}{Q:Value->Shared->Prop}(h1:SeqK f s.heap a1 u)(h2:SeqK g s.heap a2 B)
  (h:∀b,JO f g b (s.heap.objs.size+4) (s.heap.objs.size+2) (s.heap.objs.size+3) s.heap.objs.size (s.heap.objs.size+1) a1 a2 0->(∀c o,s.heap.get? c=some o->b.get? c=some o)->b.objs.size=s.heap.objs.size+5 ->
   Q (.ref (s.heap.objs.size+4)) { s with heap:=b }):wpAny (model l w) A (call (.type "zip") [.ref a1,.ref a2]) Q E s:=by
 refine callType_new F.called_zip (by decide) (F.typeCall_zip_2 _ _) (F.newCall_zip_2 _ _) (fun i=>F.args_object_init_3 i _ _) F.entry_zip_new (zbe (k1:=f) (k2:=g) (xs:=u) (ys:=B)) ⟨h1,h2,fun b Z k z=>?_⟩
 exact⟨⟨_,Z.zz,rfl⟩,h b Z k z⟩
end
theorem Inv.seqK{X:Cx}{c:List (Addr×Obj)}{σ:St}{H:Hp}{s:Shared}{f:Bool}{a:Addr}{g:List V}(I:Inv X c σ H s)(h:SqK X.K f H a g):∃b:List Value,Vals g b/\SeqK f s.heap a b.toArray/\g.length<=sizeLine:=by
 cases f with
 | true=>obtain⟨b,r,p,z⟩:=I.list h;exact⟨b,r,p.isList,z⟩
 | false=>obtain⟨b,r,p,z⟩:=I.tuple h;exact⟨b,r,p,z⟩
theorem Inv.seqK_inj{X:Cx}{b:List (Addr×Obj)}{σ:St}{H:Hp}{s:Shared}{c:Bool}{a:Addr}{g i:List V}(I:Inv X b σ H s)(h:SqK X.K c H a g)(f:SqK X.K c H a i):g=i:=by
 cases c with
 | true=>exact I.list_inj h f
 | false=>exact I.tuple_inj h f
theorem SqK.ne_fp{X:Cx}{c:List (Addr×Obj)}{σ:St}{H:Hp}{s:Shared}{l:Bool}{a b:Addr}{g:List V}(I:Inv X c σ H s)(h:SqK X.K l H a g)(f:vc X c H b):a≠b:=fun z=>by
 have u:∀o,X.K.lookup a=some o->False:=fun o e=>by
  have i:=I.mod.kin a o e;rcases f.2.2.2.1 with q | q
  ·exact I.ok.noex a o i (by rw[z];exact q)
  ·have:=zO (I.ok.bs a o i).1
   rw[z] at this;exact xK _ (jS this q)
 cases l with
 | true=>
  rcases(show SqL X.K H a g from h) with(q | ⟨o,q⟩) | ⟨o,_,_,q,_⟩
  ·rw[z,f.1] at q;cases q
  ·rw[z,f.1] at q;cases q
  ·exact u o q
 | false=>
  rcases(show SqT X.K H a g from h) with(q | ⟨o,q⟩) | ⟨o,_,_,q,_⟩
  ·rw[z,f.1] at q;cases q
  ·rw[z,f.1] at q;cases q
  ·exact u o q
def Itz(K:W.Frag)(f g:Bool)(a1 a2:Addr):It:=
 ⟨fun i H=>∃b c x y,SqK K f H a1 b/\SqK K g H a2 c/\b[i]? =some x/\c[i]? =some y,
  fun i H x l=>∃T u v,x=.ref T/\H T=none/\l=upd H T (.tup [u,v])/\(∀b,SqK K f H a1 b->b[i]? =some u)/\∀c,SqK K g H a2 c->c[i]? =some v,
  fun i H=>∃b c,SqK K f H a1 b/\SqK K g H a2 c/\(b.length<=i\/c.length<=i)⟩
theorem zbk{P:Program}{w:World}{K:W.Frag}{M:List Expr}{kk:Nat}{ac:Pos}{k1 k2:Bool}{a1 a2 z TI TO B D:Addr}(N:Y3 z TI TO B D) :
  Q7 P w K (.Tuple M kk ac) (Itz K k1 k2 a1 a2) [z,TI,TO,B,D] z (fun i h=>JO k1 k2 h z TI TO B D a1 a2 i) where
 mem:=by simp
 obj:=fun i h Z b hb=>by
  obtain⟨a,U,q⟩:=Z.to;have e1:=Z.r1.obj;have e2:=Z.r2.obj;simp only[z9,ZD,or_false] at hb;rcases hb with r | r | r | r | r
  ·subst r;exact⟨_,Z.zz,fun v q=>nomatch q⟩
  ·subst r;exact⟨_,Z.ti,fun v q=>nomatch q⟩
  ·subst r;exact⟨_,q,fun v q=>nomatch q⟩
  ·subst r;obtain⟨o,e,_,d⟩:=e1;exact⟨o,e,d⟩
  ·subst r;obtain⟨o,e,_,d⟩:=e2;exact⟨o,e,d⟩
 keep:=fun i h L Z k=>by
  obtain⟨a,U,q⟩:=Z.to;exact⟨k _ (by simp) _ Z.zz,k _ (by simp) _ Z.ti,⟨a,U,k _ (by simp) _ q⟩,Z.r1.at fun o e=>k _ (by simp) o e,Z.r2.at fun o e=>k _ (by simp) o e⟩
 item:=by
  intro X hP hw Y hc i T s σ H E I A Z hg;subst hP hw Y;obtain⟨xs,ys,x,y,f,g,hx,hy⟩:=hg;obtain⟨O,G,p1,aa⟩:=I.seqK f;obtain⟨Q,J,p2,ab⟩:=I.seqK g;obtain⟨u1,a8,ae⟩:=G.get hx;obtain⟨u2,a9,af⟩:=J.get hy;have sub:∀b∈[z,TO,B,D],b∈[z,TI,TO,B,D]:=fun b hb=>by
   simp only[z9,ZD,or_false] at hb ⊢;rcases hb with r | r | r | r<;>simp[r]
  refine Y5 N Z p1 p2 (fun b hb=>f.ne_fp I (A b (sub b hb))) (fun b hb=>g.ne_fp I (A b (sub b hb))) (by simpa using a8) (by simpa using a9) fun h1 zz ti to r1 r2 hT ah hk=>?_
  refine⟨_,rfl,wpAny_letOwnedTupleGo_zip zz fun h2 ag l=>?_⟩
  have zl:z<s.heap.objs.size:=zO Z.zz;obtain⟨ta,tb,to⟩:=to;refine⟨.ref s.heap.objs.size,upd H s.heap.objs.size (.tup [x,y]),?_,rfl,⟨_,x,y,rfl,I.hok.fresh (zi _),rfl,fun aj L=>by rw[I.seqK_inj L f];exact hx,fun ak L=>by rw[I.seqK_inj L g];exact hy⟩,
   ⟨ag,l.extBut _ _ N.a ti,⟨ta,tb,l.extBut _ _ N.b to⟩,r1.at fun o e=>l.extBut _ o N.c e,r2.at fun o e=>l.extBut _ o N.d e⟩,fun b hb=>?_⟩
  ·exact YO (s:=s) (h':=h2) (t':=s.toks) (ch:=[z,TO,B,D]) (its:=[u1,u2]) I (fun b hb=>A b (sub b hb)) (zi _) (fun b o hb e=>l.extBut _ o (fun q=>hb (by simp[q])) (hk b o hb e)) (by rw[sizeLine_eq];exact(by decide:2<=16777216)) (.cons ae (.cons af .nil))
    (TupX.by (l.extBut _ _ (wt zl) hT))
  ·have a6:b<s.heap.objs.size:=by
    have e1:=Z.r1.obj;have e2:=Z.r2.obj;obtain⟨a,U,q⟩:=Z.to;simp only[z9,ZD,or_false] at hb;rcases hb with r | r | r | r | r
    ·subst r;exact zl
    ·subst r;exact zO Z.ti
    ·subst r;exact zO q
    ·subst r;obtain⟨o,e,_⟩:=e1;exact zO e
    ·subst r;obtain⟨o,e,_⟩:=e2;exact zO e
   rw[zt (qz a6)];exact(A b hb).1
 done:=by
  intro X hP hw Y hc i T s σ H E I A Z hg;subst hP hw Y;obtain⟨xs,ys,f,g,a7⟩:=hg;obtain⟨O,G,p1,aa⟩:=I.seqK f;obtain⟨Q,J,p2,ab⟩:=I.seqK g;have sub:∀b∈[z,TO,B,D],b∈[z,TI,TO,B,D]:=fun b hb=>by
   simp only[z9,ZD,or_false] at hb ⊢;rcases hb with r | r | r | r<;>simp[r]
  have tr:∀b u,H b=some u->b∉[z,TO,B,D]:=fun b u e hb=>by rw[(A b (sub b hb)).1] at e;cases e
  refine zbf (I.ok.hd hc) N Z p1 p2 (fun b hb=>f.ne_fp I (A b (sub b hb))) (fun b hb=>g.ne_fp I (A b (sub b hb))) ?_ fun L hk=>⟨rfl,?_⟩
  ·have l1:=G.length
   have l2:=J.length;rcases a7 with q | q
   ·exact .inl (by simp;omega)
   ·exact .inr (by simp;omega)
  ·refine I.step (g':=s.gens) (d':=s.drawn) (t':=s.toks) (ch:=[z,TO,B,D]) (fun b hb=>?_) (fun b o _ _ hc e _=>hk b o hc e) (fun b o _ _ hc e _=>⟨o.slots,hk b o hc e⟩) (fun _ _ _ _ n=>n) (fun b o hc e=>⟨o,hk b o hc e⟩)
    (fun _ _ e=>e) (fun _ _ _ e=>e) (fun b ps e=>⟨#[],by rw[e];simp⟩) (fun m hm=>?_) (fun b u e=>?_) I.bare
   ·obtain⟨_,g1,_,g3,g4,g5⟩:=A b (sub b hb)
    exact⟨g3,g1,g4,g5⟩
   ·obtain⟨o,es,ep,ho,r⟩:=hm
    exact⟨o,es,ep,hk _ o (fun z=>(A _ (sub _ z)).2.1 rfl) ho,r⟩
   ·refine(I.hok b u e).stay (fun c v hc q=>hk c v ?_ q) (fun _ q=>q) fun _ _ q=>q
    rcases hc with z | z
    ·rw[z];exact tr b u e
    ·exact tr c _ z
 self:=fun _ _ _ _ _ Z h=>wpAny_pyIter_zip Z.zz h
section
variable{X:Cx}
def zhF(K:W.Frag)(g:TA):TI:=fun σ H R=>g σ H fun i b=>∃c f a1 a2,i=[.ref a1,.ref a2]/\(∃l,SqK K c b a1 l)/\(∃o,SqK K f b a2 o)/\R (Itz K c f a1 a2) b
theorem ze9{l m:Expr}{L:TA}{p w tp:Pos}{g:List Expr}{kk:Nat}(T:Gl X "zip")(U:X.mg "zip" = none)(Q:PA X [l,m] L)(Y:starEach [l,m] X.env=[(false,eval l X.env),(false,eval m X.env)]:=by rfl)(o:starEach [m] X.env=[(false,eval m X.env)]:=by rfl) :
  PI X (.Tuple g kk tp) (.Call (.Name "zip" p) [l,m] [] w) (zhF X.K L):=by
 intro c s σ H R I h;refine Call_ (vI I T U boot_zip (JN (thn (Q w c s σ H _ I h) fun us s1 ⟨vs,E,f,r1,q1⟩=>?_) (by rw[Y,o]) (by rw[o];rfl)))
 obtain⟨k1,k2,a1,a2,e,⟨xs,A⟩,⟨ys,B⟩,q⟩:=q1;subst e;obtain⟨u,u',rfl,ru,D⟩:=Ja r1;cases ru;cases D;obtain⟨G,a9,p1,a7⟩:=f.seqK A;obtain⟨J,aa,p2,a8⟩:=f.seqK B;refine za1 p1 p2 fun O Z hk a6=>wpAny_pyIter_zip Z.zz ?_
 have M:Inv X c σ E { s1 with heap:=O }:=f.kept (t':=s1.toks) hk;have N:Y3 (s1.heap.objs.size+4) (s1.heap.objs.size+2) (s1.heap.objs.size+3) s1.heap.objs.size (s1.heap.objs.size+1):=by
  constructor<;>(intro e;have e':(_:Nat)=_:=e;omega)
 refine⟨s1.heap.objs.size+4,_,_,_,E,rfl,M,zbk N,Z,fun b hb=>?_,q⟩
 have i:s1.heap.objs.size<=b:=by
  simp only[z9,ZD,or_false] at hb;rcases hb with r | r | r | r | r<;>(rw[r];first| exact Nat.le_add_right _ _ | exact zi _)
 exact f.fpOk i (f.hok.fresh i)
end
def TyN(K:W.Frag)(H:Hp)(x:V)(T:String):Prop:=match x with
 | .non=>T = "NoneType"
 | .bl _=>T = "bool"
 | .int _=>T = "int"
 | .str _=>T = "str"
 | .ref a=>(T = "list" /\ ∃b,SqL K H a b)\/(T = "tuple" /\ ∃b,SqT K H a b)
 | _=>False
def xn(T C:String):Bool:=T==C||(T == "bool" && C == "int")
def ZU:List String:=["NoneType","bool","int","str","list","tuple"]
def yF:List String:=["bool","int","str","list","tuple","dict"]
theorem YM{K:W.Frag}:∀T∈ZU,∀C∈yF,PySem.W.kitOne K (.type T) (.type C)=some (xn T C):=by
 intro T c C b;simp only[ZU,yF,z9,ZD,or_false] at c b;rcases c with rfl | rfl | rfl | rfl | rfl | rfl<;>rcases b with rfl | rfl | rfl | rfl | rfl | rfl<;>kernel_rfl
theorem Vs{K:W.Frag}{T:String}(b:T∈ZU):∀{Cs:List String},(∀C∈Cs,C∈yF)->PySem.W.kitAny K (.type T) (Cs.map Value.type)=some (Cs.any fun C=>xn T C)
 | [],_=>rfl
 | C::r,h=>by
  have g:=Vs (K:=K) b (Cs:=r) fun c f=>h c (jh _ f)
  show(match PySem.W.kitOne K (.type T) (.type C) with | some true=>some true | some false=>PySem.W.kitAny K (.type T) (r.map Value.type) | none=>none)=_
  rw[YM T b C (h C jx),vR];cases xn T C with
  | true=>rfl
  | false=>rw[g];rfl
theorem TyN.mem{K:W.Frag}{H:Hp}{x:V}{T:String}(h:TyN K H x T):T∈ZU:=by
 cases x with
 | non=>cases(show T=_ from h);decide
 | bl _=>cases(show T=_ from h);decide
 | int _=>cases(show T=_ from h);decide
 | str _=>cases(show T=_ from h);decide
 | ref a=>rcases(show _\/_ from h) with ⟨e,_⟩ | ⟨e,_⟩<;>(subst e;decide)
 | _=>exact(show False from h).elim
section
variable{X:Cx}{b:List (Addr×Obj)}{σ:St}{H:Hp}{s:Shared}
theorem YL{x:V}{u:Value}{T:String}(I:Inv X b σ H s)(c:RelV x u)(ty:TyN X.K H x T):∃P:Heap->Prop,P s.heap/\PySem.W.KitX X.K u (.type T) P/\u≠.builtin "__main__.__loader__#opaque" :=by
 cases x with
 | non=>cases(show u=Value.none from c);cases(show T=_ from ty);exact⟨_,True.intro,PySem.W.kitx_none,fun z=>nomatch z⟩
 | bl y=>cases(show u=Value.bool y from c);cases(show T=_ from ty);exact⟨_,True.intro,PySem.W.kitx_bool,fun z=>nomatch z⟩
 | int i=>obtain⟨t,q⟩:=(show ∃t,u=Value.int i t from c);cases q;cases(show T=_ from ty);exact⟨_,True.intro,PySem.W.kitx_int,fun z=>nomatch z⟩
 | str y=>obtain⟨t,q⟩:=(show ∃t,u=Value.str y t from c);cases q;cases(show T=_ from ty);exact⟨_,True.intro,PySem.W.kitx_str,fun z=>nomatch z⟩
 | ref a=>
  cases(show u=Value.ref a from c)
  rcases(show _\/_ from ty) with ⟨e,g,hx⟩ | ⟨e,g,hx⟩
  ·subst e
   obtain⟨f,r,⟨o,n,e1,e2,_⟩,_⟩:=I.list hx;exact⟨_,⟨o,e1,e2⟩,PySem.W.kitx_list,fun z=>nomatch z⟩
  ·subst e
   obtain⟨f,r,⟨o,e1,e2,_⟩,_⟩:=I.tuple hx;exact⟨_,⟨o,e1,e2⟩,PySem.W.kitx_tuple,fun z=>nomatch z⟩
 | _=>exact(show False from ty).elim
end
section
variable{X:Cx}
theorem WY:∀{c:List String} {b:List Value},Vals (c.map V.ty) b->b=c.map Value.type
 | [],b,r=>by cases r;rfl
 | C::r,b,h=>by
  cases h with
  | cons h1 h2=>rw[WY h2,show _=Value.type C from h1];rfl
inductive yj(K:W.Frag)(b:List V)(H:Hp)(Q:VK):Prop
 | mk (x T C:_) (_:b=[x,.ty C]) (_:TyN K H x T) (_:C∈yF) (_:Q (.bl (xn T C)) H):yj K b H Q
theorem zN:CallR X (.builtin "isinstance") (yj X.K):=by
 intro c s σ H B A Q I r h;obtain⟨x,T,C,rfl,ty,f,q⟩:=h;obtain⟨u,w,rfl,l,b⟩:=Ja r;cases(show w=Value.type C from b)
 obtain⟨P,g,Z,i⟩:=YL I l ty;exact PySem.W.kia_one Z I.kIn g (YM T ty.mem C f) i fun o=>⟨.bl _,H,I.tok o,rfl,q⟩
inductive ZP(K:W.Frag)(c:List V)(H:Hp)(Q:VK):Prop
 | mk (x:V) (T:String) (p:Addr) (b:List String) (_:c=[x,.ref p]) (_:TyN K H x T) (_:H p=some (.tup (b.map V.ty))) (_:(∀C∈b,C∈yF)) (_:Q (.bl (b.any fun C=>xn T C)) H):ZP K c H Q
theorem Zb:CallR X (.builtin "isinstance") (ZP X.K):=by
 intro i s σ H U O Q I r h;obtain⟨x,T,p,L,rfl,ty,hp,w,q⟩:=h;obtain⟨u,J,rfl,E,g⟩:=Ja r;cases(show J=Value.ref p from g)
 obtain⟨P,A,Z,B⟩:=YL I E ty;obtain⟨f,D,⟨o,e1,e2,n,b⟩,_⟩:=I.tuple (u5 hp);obtain⟨c,M,l,N⟩:=o;have e2:c=.type "tuple" :=e2;have b:l=.seq f.toArray n:=b;subst e2 b;rw[WY D] at e1;exact PySem.W.kia_tup Z I.kIn A e1 (Vs ty.mem w) B fun G=>⟨.bl _,H,I.tok G,rfl,q⟩
end
inductive Dat where
 | non | bl (b:Bool) | int (i:Int) | str (x:Str) | lst (ds:List Dat) | tup (ds:List Dat)
mutual
def Rep(K:W.Frag)(H:Hp):Dat->V->Prop
 | .non,v=>v=.non
 | .bl b,v=>v=.bl b
 | .int i,v=>v=.int i
 | .str x,v=>v=.str x
 | .lst ds,v=>∃a c,v=.ref a/\SqL K H a c/\Reps K H ds c
 | .tup ds,v=>∃a c,v=.ref a/\SqT K H a c/\Reps K H ds c
def Reps(K:W.Frag)(H:Hp):List Dat->List V->Prop
 | [],b=>b=[]
 | d::ds,b=>∃x r,b=x::r/\Rep K H d x/\Reps K H ds r
end
mutual
def Dat.dp:Dat->Nat
 | .lst ds=>Dat.dps ds+1
 | .tup ds=>Dat.dps ds+1
 | _=>0
def Dat.dps:List Dat->Nat
 | []=>0
 | d::ds=>max d.dp (Dat.dps ds)
end
theorem Same.sqT{K:W.Frag}{H b:Hp}{a:Addr}{c:List V}(e:Same H b)(h:SqT K H a c):SqT K b a c:=by
 rcases h with(h | ⟨o,h⟩) | h
 ·exact .inl (.inl (e _ _ h))
 ·exact .inl (.inr ⟨o,e _ _ h⟩)
 ·exact .inr h
mutual
theorem Rep.same{K:W.Frag}{H f:Hp}(e:Same H f):∀{d:Dat} {v:V},Rep K H d v->Rep K f d v
 | .non,_,h=>h
 | .bl _,_,h=>h
 | .int _,_,h=>h
 | .str _,_,h=>h
 | .lst _,_,h=>by
  obtain⟨a,c,e1,e2,b⟩:=h;exact⟨a,c,e1,e.seq e2,Reps.same e b⟩
 | .tup _,_,h=>by
  obtain⟨a,c,e1,e2,b⟩:=h;exact⟨a,c,e1,e.sqT e2,Reps.same e b⟩
theorem Reps.same{K:W.Frag}{H b:Hp}(e:Same H b):∀{ds:List Dat} {c:List V},Reps K H ds c->Reps K b ds c
 | [],_,h=>h
 | _::_,_,h=>by
  obtain⟨x,r,e1,e2,f⟩:=h;exact⟨x,r,e1,Rep.same e e2,Reps.same e f⟩
end
theorem Reps.len{K:W.Frag}{H:Hp}:∀{ds:List Dat} {b:List V},Reps K H ds b->b.length=ds.length
 | [],_,h=>by rw[show _=_ from h];rfl
 | _::_,_,h=>by
  obtain⟨x,r,e1,e2,c⟩:=h;rw[e1,jv,jv,Reps.len c]
theorem Reps.get{K:W.Frag}{H:Hp}:∀{ds:List Dat} {b:List V} {i:Nat} {x:V},Reps K H ds b->b[i]? =some x->∃d,ds[i]? =some d/\Rep K H d x
 | [],_,_,_,h,e=>by rw[show _=_ from h] at e;simp at e
 | d::ds,_,i,x,h,e=>by
  obtain⟨y,r,e1,e2,f⟩:=h;subst e1;cases i with
  | zero=>simp at e;subst e;exact⟨d,rfl,e2⟩
  | succ i=>
   obtain⟨c,q1,q2⟩:=Reps.get (i:=i) f (by simpa using e)
   exact⟨c,by simpa using q1,q2⟩
theorem zd{H:Hp}{a:Addr}{o:HO}(h:H a=none):Same H (upd H a o):=fun b u e=>by rw[zt (zp e h)];exact e
def zaV:List V->List V->Bool
 | [],[]=>true
 | x::b,y::c=>eqV x y&&zaV b c
 | _,_=>false
theorem Qo:∀(b c:List V),(((List.range (min b.length c.length)).all fun j=>eqV (b.getD j .non) (c.getD j .non))&&(b.length==c.length))=zaV b c
 | [],[]=>rfl
 | [],y::c=>by simp[zaV]
 | x::b,[]=>by simp[zaV]
 | x::b,y::c=>by
  have f:=Qo b c;have e1:min (x::b).length (y::c).length=min b.length c.length+1:=by simp only[jv];omega
  rw[e1,List.range_succ_eq_map,QJ,vv];unfold zaV;rw[<- f,Bool.and_assoc];congr 1
  have e2:((x::b).length==(y::c).length)=(b.length==c.length):=by
   rw[vh];simp
  rw[e2];congr 1
section
variable{X:Cx}
end
structure Dfn(P:Program)(w:World)(K:W.Frag)(mg:Str->Option Value)(base:Heap)(x:Str)(k:Nat)(ps:List Str)(sp:Sp):Prop where
 ex:∃f fd,FnOk P w K mg base CX0 k f fd ps sp/\mg x=some (.ref f)/\PySem.W.keepIn K (.ref f)=true/\Binds K fd ps []
theorem Dfn.imp{P:Program}{w:World}{K:W.Frag}{g:Str->Option Value}{b:Heap}{x:Str}{k:Nat}{i:List Str}{l c:Sp}(D:Dfn P w K g b x k i l)(h:∀o H Q E,c o H Q E->l o H Q E):Dfn P w K g b x k i c:=by
 obtain⟨f,s,F,r⟩:=D.ex;exact⟨f,s,F.imp h,r⟩
section
variable{X:Cx}{x:Str}{k:Nat}{i:List Str}{g:Sp}{p c:Pos}{e:Expr}{b:List Expr}{t:TA}
theorem zg(D:Dfn X.prog X.w X.K X.mg X.base x k i g)(A:Room k X.A)(u:Gl X x)(o:PA X (e::b) t)(s:(x==("__debug__":Str))=false:=by decide)
  (B:starEach (e::b) X.env=(false,eval e X.env)::starEach b X.env:=by rfl) (l:(backTo c (starEach b X.env)).any (·.1)=false:=by rfl):PE X (.Call (.Name x p) (e::b) [] c) (zec g [] E0 t):=by
 obtain⟨f,E,F,w,hk,hb⟩:=D.ex;exact zdu F A u w hk hb .nil zgF o s B l
end
theorem ifT{b:Bool}{A B:Prop}(h:b=true)(q:A):if b=true then A else B:=by rw[zF h];exact q
theorem ifF{b:Bool}{A B:Prop}(h:b=false)(q:B):if b=true then A else B:=by rw[zB (by rw[h];exact jG)];exact q
theorem zcv{K:W.Frag}{k1 k2:Bool}{a1 a2:Addr}{xs ys:List V}{g:TG}{J:TT}{I:TE}{s:St}{n:Nat}{R:List V->Hp->Prop}{H:Hp}(Pv:Nat->List V->Hp->Prop)(h0:Pv 0 [] H)
  (h1:∀i c H,Pv i c H->SqK K k1 H a1 xs/\SqK K k2 H a2 ys)
  (O:∀i x y c H T,xs[i]? =some x->ys[i]? =some y->Pv i c H->H T=none->g (.ref T) s (upd H T (.tup [x,y])) fun l B=>l.drop n=s.drop n/\J l B fun b o=>
   if b=true then I l o fun v D=>c.length<sizeLine/\Pv (i+1) (c++[v]) D else Pv (i+1) c o)
  (M:∀c H,Pv (min xs.length ys.length) c H->c.length<=sizeLine/\R c H) :
  ∃W:Nat->Nat->List V->Hp->Prop,(∃m,W 0 m [] H)/\∀i m c f,W i m c f ->
   ((Itz K k1 k2 a1 a2).stop i f/\c.length<=sizeLine/\R c f) \/
   ((Itz K k1 k2 a1 a2).go i f/\∃N:List V->Hp->Prop,(∀c w,N c w->∃G,G<m/\W (i+1) G c w)/\∀x A,(Itz K k1 k2 a1 a2).yld i f x A->g x s A fun l B=>l.drop n=s.drop n/\J l B fun b o=>
    if b=true then I l o fun y D=>c.length<sizeLine/\N (c++[y]) D else N c o):=by
 refine⟨fun i m c f=>m=min xs.length ys.length-i/\i<=min xs.length ys.length/\Pv i c f,⟨_,rfl,zY _,h0⟩,?_⟩
 rintro i m c f ⟨rfl,hi,p⟩;obtain⟨q1,q2⟩:=h1 i c f p;by_cases E:i<min xs.length ys.length
 ·have Q:i<xs.length:=by omega
  have U:i<ys.length:=by omega
  refine .inr ⟨⟨xs,ys,xs[i],ys[i],q1,q2,by simp[Q],by simp[U]⟩,Pv (i+1),fun a6 w Y=>⟨_,by omega,rfl,E,Y⟩,fun x A y=>?_⟩
  obtain⟨T,u,v,e1,L,e2,y1,y2⟩:=y;subst e1 e2;exact O i u v c f T (y1 xs q1) (y2 ys q2) p L
 ·have e:i=min xs.length ys.length:=by omega
  subst e;obtain⟨z1,z2⟩:=M c f p;exact .inl ⟨⟨xs,ys,q1,q2,by omega⟩,z1,z2⟩
theorem wa{lo:Int}{N n:Nat}{g:TG}{I:TT}{G:TE}{u:St}{R:List V->Hp->Prop}{H:Hp}(Pv:Nat->List V->Hp->Prop)(h0:Pv 0 [] H)
  (L:∀i c H,i<N->Pv i c H->g (.int (lo+i)) u H fun o B=>o.drop n=u.drop n/\I o B fun b s=>if b=true then G o s fun v D=>c.length<sizeLine/\Pv (i+1) (c++[v]) D else Pv (i+1) c s)
  (J:∀c H,Pv N c H->c.length<=sizeLine/\R c H) :
  ∃W:Nat->Nat->List V->Hp->Prop,(∃m,W 0 m [] H)/\∀i m c f,W i m c f ->
   ((Itr lo N).stop i f/\c.length<=sizeLine/\R c f) \/
   ((Itr lo N).go i f/\∃M:List V->Hp->Prop,(∀c w,M c w->∃E,E<m/\W (i+1) E c w)/\∀x A,(Itr lo N).yld i f x A->g x u A fun o B=>o.drop n=u.drop n/\I o B fun b s=>
    if b=true then G o s fun y D=>c.length<sizeLine/\M (c++[y]) D else M c s):=by
 refine⟨fun i m c f=>m=N-i/\i<=N/\Pv i c f,⟨_,rfl,zY _,h0⟩,?_⟩
 rintro i m c f ⟨rfl,Y,p⟩;by_cases l:i<N
 ·refine .inr ⟨l,Pv (i+1),fun U w O=>⟨_,by omega,rfl,l,O⟩,fun x A y=>?_⟩
  obtain⟨e1,e2⟩:=y;subst e1 e2;exact L i c _ l p
 ·have e:i=N:=by omega
  subst e;obtain⟨Q,T⟩:=J c f p;exact .inl ⟨zi _,Q,T⟩
def Qv(sn on:List (Str×NameKind))(N own b:List Str)(c:List Nat):Bool:=
 Qw sn on N b c&&own.all (fun x=>sn.lookup x==some .local)&&decide (own++b).Nodup
theorem Zc{sn on:List (Str×NameKind)}{N own b:List Str}{c:List Nat}(h:Qv sn on N own b c=true):Qw sn on N b c=true/\(∀x∈own,sn.lookup x=some .local)/\(own++b).Nodup:=by
 unfold Qv at h;rw[qQ,qQ,jw] at h;exact⟨h.1.1,fun x hx=>by simpa using h.1.2 x hx,qB h.2⟩
section
variable{X:Cx}{f c:Expr}{g:List Expr}{b:Scope}{l o D E:Pos}{A:TI}{w:TT}{u:TE}{x y:Str}{B:Nat}
theorem J1{G:List Str}{C:Addr}{s:Shared}{H:Hp}{I:List Addr}{i:Nat}(J:b.names.lookup x=some .local)(M:G.Nodup)(L:G[i]? =some x):PG (qE X G b C s H I) (.Name x o) (ZB i):=
 zG (X:=qE X G b C s H I) M L (.inl (lookup_relabel_local J)) (.inr (lookup_relabel_local J))
theorem qS(G:List Str)(I:List Nat)(hc:X.calm=true)(hk:b.kind=.function)(hb:Qv b.names X.env.scope.names X.N [x] G I=true)(M:PI X (.Name x o) c A)
  (L:∀C s H i,PF (qE X ([x]++G) b C s H i) g w) (J:∀C s H i,PE (qE X ([x]++G) b C s H i) f u)
  (N:∀x,foldedSetIterable c X.env x=pure x:=by intro _;rfl):PE X (.ListComp f [⟨.Name x o,c,g,0⟩] b l) (tLC A 1 I (ZB 0) w u):=by
 obtain⟨h1,h2,h3⟩:=Zc hb;exact zeE [x] G I hc hk h1 M (fun C s H i=>J1 (h2 x (by simp)) h3 rfl) L J N
theorem Qd(G:List Str)(I:List Nat)(hc:X.calm=true)(hk:b.kind=.function)(hb:Qv b.names X.env.scope.names X.N [x,y] G I=true)(M:PI X (.Tuple [.Name x o,.Name y D] B E) c A)
  (L:∀C s H i,PF (qE X ([x,y]++G) b C s H i) g w) (J:∀C s H i,PE (qE X ([x,y]++G) b C s H i) f u)
  (N:∀x,foldedSetIterable c X.env x=pure x:=by intro _;rfl):PE X (.ListComp f [⟨.Tuple [.Name x o,.Name y D] B E,c,g,0⟩] b l) (tLC A 2 I (zfJ X.K 2 (YT (ZB 0) (YT (ZB 1) zg7))) w u):=by
 obtain⟨h1,h2,h3⟩:=Zc hb;refine zeE [x,y] G I hc hk h1 M (fun C s H i=>?_) L J N
 exact xH (X:=qE X ([x,y]++G) b C s H i) hc (zI (J1 (h2 x (by simp)) h3 rfl) (zI (J1 (h2 y (by simp)) h3 rfl) jZ))
end
def tWk(t:TS):TS:=fun D σ H=>∃J:St->Hp->Prop,t { D with nx:=J } σ H/\∀c b,J c b->D.nx c b
theorem j7{X:Cx}{st:Stmt}{t:TS}(h:PS X st t):PS X st (tWk t):=by
 intro b s σ H D I l;obtain⟨J,q1,q2⟩:=l;refine thn (h b s σ H _ I q1) fun f s1 q=>?_
 cases f with
 | next=>obtain⟨g,c,i,z⟩:=q;exact⟨g,c,i,q2 g c z⟩
 | brk=>exact q
 | cont=>exact q
 | ret u=>exact q
def Dat.ok:Nat->Dat->Prop
 | n+1,.lst ds=>ds.length<=1000000/\∀d∈ds,Dat.ok n d
 | n+1,.tup ds=>ds.length<=1000000/\∀d∈ds,Dat.ok n d
 | 0,.lst _=>False
 | 0,.tup _=>False
 | _,_=>True
def Dat.tyN:Dat->String
 | .non=> "NoneType" | .bl _=> "bool" | .int _=> "int" | .str _=> "str" | .lst _=> "list" | .tup _=> "tuple"
theorem Rep.ty{K:W.Frag}{H:Hp}{d:Dat}{v:V}(h:Rep K H d v):TyN K H v d.tyN:=by
 cases d with
 | non=>rw[show v=_ from h];exact rfl
 | bl b=>rw[show v=_ from h];exact rfl
 | int b=>rw[show v=_ from h];exact rfl
 | str b=>rw[show v=_ from h];exact rfl
 | lst ds=>obtain⟨a,c,rfl,e,_⟩:=h;exact .inl ⟨rfl,c,e⟩
 | tup ds=>obtain⟨a,c,rfl,e,_⟩:=h;exact .inr ⟨rfl,c,e⟩
mutual
def Dat.py:Dat->PyData
 | .non=>.none
 | .bl b=>.bool b
 | .int i=>.int i
 | .str x=>.str x
 | .lst ds=>.list (Dat.pys ds)
 | .tup ds=>.tuple (Dat.pys ds)
def Dat.pys:List Dat->List PyData
 | []=>[]
 | d::ds=>d.py::Dat.pys ds
end
mutual
def Dat.shw:Dat->Bool
 | .int i=>decide (i.natAbs<1000000000000)
 | .str x=>x.cps.toList.all fun c=>decide (c<1000000)
 | .lst ds=>Dat.shws ds
 | .tup ds=>Dat.shws ds
 | _=>true
def Dat.shws:List Dat->Bool
 | []=>true
 | d::ds=>d.shw&&Dat.shws ds
end
mutual
def Dat.blk:Dat->Nat
 | .str x=>x.cps.size
 | .lst ds=>Dat.blks ds
 | .tup ds=>Dat.blks ds
 | _=>0
def Dat.blks:List Dat->Nat
 | []=>0
 | d::ds=>d.blk+1+Dat.blks ds
end
mutual
theorem Dat.py_blk:∀d:Dat,d.py.bulk=d.blk
 | .non=>rfl
 | .bl _=>rfl
 | .int _=>rfl
 | .str _=>rfl
 | .lst ds=>Dat.pys_blk ds
 | .tup ds=>Dat.pys_blk ds
theorem Dat.pys_blk:∀ds:List Dat,PyData.bulkAll (Dat.pys ds)=Dat.blks ds
 | []=>rfl
 | d::ds=>by
  show PyData.bulk d.py+1+PyData.bulkAll (Dat.pys ds)=d.blk+1+Dat.blks ds;rw[Dat.py_blk d,Dat.pys_blk ds]
end
theorem J5{n:Nat}(h:n<1000000000000):n.log2<1920:=by
 by_cases h0:n=0
 ·rw[h0];decide
 ·exact QG ((Nat.log2_lt h0).mpr (QG h (by decide:1000000000000<2^40))) (by decide)
mutual
theorem Dat.py_short:∀d:Dat,d.shw=true->d.py.leavesShort 13=true/\d.py.showable=true/\d.py.hasDict=false
 | .non,_=>⟨rfl,rfl,rfl⟩
 | .bl _,_=>⟨rfl,rfl,rfl⟩
 | .int i,h=>by
  have b:i.natAbs<1000000000000:=qB h;refine⟨zQ (PyData.shown_int_le b),zQ (J5 b),rfl⟩
 | .str x,h=>by
  refine⟨?_,rfl,rfl⟩
  have b:(x.cps.toList.all fun c=>decide (c<1000000))=true:=h
  show(x.cps.toList.all fun c=>decide (c<16^8))=true
  rw[jw] at b ⊢;intro c hc;have:=qB (b c hc);exact zQ (by omega)
 | .lst ds,h=>Dat.pys_short ds h
 | .tup ds,h=>Dat.pys_short ds h
theorem Dat.pys_short:∀ds:List Dat,Dat.shws ds=true->PyData.leavesShortAll 13 (Dat.pys ds)=true/\PyData.showableAll (Dat.pys ds)=true/\PyData.hasDictAll (Dat.pys ds)=false
 | [],_=>⟨rfl,rfl,rfl⟩
 | d::ds,h=>by
  have b:(d.shw&&Dat.shws ds)=true:=h;rw[qQ] at b;obtain⟨a1,a2,a3⟩:=Dat.py_short d b.1;obtain⟨b1,b2,b3⟩:=Dat.pys_short ds b.2;refine⟨?_,?_,?_⟩
  ·show(PyData.leavesShort 13 d.py&&PyData.leavesShortAll 13 (Dat.pys ds))=true
   rw[a1,b1];rfl
  ·show(PyData.showable d.py&&PyData.showableAll (Dat.pys ds))=true
   rw[a2,b2];rfl
  ·show(PyData.hasDict d.py||PyData.hasDictAll (Dat.pys ds))=false
   rw[a3,b3];rfl
end
mutual
theorem Rep.reads{X:Cx}{f:List (Addr×Obj)}{σ:St}{H:Hp}{s:Shared}(I:Inv X f σ H s):∀{d:Dat} {v:V} {u:Value},Rep X.K H d v->RelV v u->∃g,Reads s.heap u d.py g
 | .non,v,u,h,r=>by cases(show v=_ from h);cases(show u=_ from r);exact⟨_,.none⟩
 | .bl b,v,u,h,r=>by cases(show v=_ from h);cases(show u=_ from r);exact⟨_,.bool b⟩
 | .int i,v,u,h,r=>by cases(show v=_ from h);obtain⟨t,rfl⟩:=r;exact⟨_,.int i t⟩
 | .str x,v,u,h,r=>by cases(show v=_ from h);obtain⟨t,rfl⟩:=r;exact⟨_,.str x t⟩
 | .lst ds,v,u,h,r=>by
  obtain⟨a,E,rfl,hx,w⟩:=h;cases(show u=_ from r)
  obtain⟨A,B,D,_⟩:=I.list hx;obtain⟨o,e,c,n,l⟩:=D.isList;obtain⟨g,q⟩:=Reps.reads I w B;exact⟨_,.list e c l (by simpa using q)⟩
 | .tup ds,v,u,h,r=>by
  obtain⟨a,E,rfl,hx,w⟩:=h;cases(show u=_ from r)
  obtain⟨A,B,⟨o,e,c,n,l⟩,_⟩:=I.tuple hx;obtain⟨g,q⟩:=Reps.reads I w B;exact⟨_,.tuple e c l (by simpa using q)⟩
theorem Reps.reads{X:Cx}{b:List (Addr×Obj)}{σ:St}{H:Hp}{s:Shared}(I:Inv X b σ H s):∀{ds:List Dat} {c:List V} {f:List Value},Reps X.K H ds c->Vals c f->∃g,ReadsAll s.heap f (Dat.pys ds) g
 | [],c,f,h,r=>by cases(show c=_ from h);cases r;exact⟨_,.nil⟩
 | d::ds,c,f,h,r=>by
  obtain⟨x,u,rfl,h1,h2⟩:=h;cases r with
  | cons i l=>
   obtain⟨g,q1⟩:=Rep.reads I h1 i;obtain⟨o,q2⟩:=Reps.reads I h2 l;exact⟨_,.cons q1 q2⟩
end
section
variable{X:Cx}
inductive ZL(K:W.Frag)(b:List V)(H:Hp)(Q:VK):Prop
 | mk (a:Addr) (d:Dat) (_:b=[.ref a]) (_:Rep K H d (.ref a)) (_:d.shw=true) (_:d.blk<=1048576) (_:d.py.depth<=60) (_:Q (.str d.py.shown) H):ZL K b H Q
theorem JC(f:X.A.guards=some [])(hu:X.A.units+64<cLine):CallR X (.type "str") (ZL X.K):=by
 intro b s σ H D A Q I r h;obtain⟨a,d,rfl,g,h1,h2,h3,q⟩:=h;obtain⟨u,rfl,c⟩:=xI r;obtain⟨l,q1⟩:=g.reads I c;cases(show u=_ from c)
 obtain⟨s1,s2,i⟩:=Dat.py_short d h1;refine str_of_reads q1 s2 (PyData.noDict_hsm i) f (by omega) (fun _ _ e=>e) (fun o u w hk=>⟨.str d.py.shown,H,I.kept hk,⟨u,rfl⟩,q⟩) ?_
 exact PyData.shown_fits_bulk (B:=13) (by decide) (by decide) s1 (by rw[Dat.py_blk];exact h2)
inductive ZJ(x:V)(y:V)(H:Hp)(Q:VK):Prop
 | mk (i j:_) (_:x=.str i) (_:y=.str j) (_:Q (.bl (!decide (j.cps.toList<i.cps.toList))) H):ZJ x y H Q
theorem Jm:OpR X (compareOp .LtE) (ZJ):=by
 intro b s σ H x y v u Q I c f h;obtain⟨i,j,rfl,rfl,q⟩:=h;obtain⟨t,rfl⟩:=c;obtain⟨g,rfl⟩:=f;exact P.le_str (z7 I q rfl)
theorem Qn(b:Array Nat):∀(n:Nat) (a:Array Nat),((List.replicate n b).foldl (·++ ·) a).size=a.size+n*b.size
 | 0,a=>by simp
 | n+1,a=>by
  rw[ZG,wX,Qn b n,Wv,QH];omega
theorem zdM(x:Str)(n:Int):(Txt.mul x n).length<=n.toNat*x.length:=by
 unfold Txt.mul;split
 ·exact zY _
 ·rename_i h
  split
  ·rename_i h2
   have:n=1\/x.length=0:=by simpa using h2
   rcases this with e | e
   ·rw[e];simp
   ·rw[e];simp
  ·show((List.replicate n.toNat x.cps).foldl (·++ ·) #[]).size<=_
   rw[Qn];simp[Str.length]
end
def Its(x:Str):It:=⟨fun i _=>i<x.cps.size,fun i H v b=>b=H/\∃c,x.cps[i]? =some c/\v=.str ⟨#[c]⟩,fun i _=>x.cps.size<=i⟩
theorem XM{P:Program}{w:World}{K:W.Frag}{tg:Expr}(l:Addr)(x:Str)(t:Tok)(ty:String)(D:ty = "str_ascii_iterator" \/ ty = "str_iterator"):Q7 P w K tg (Its x) [l] l (fun i h=>h.IsStrIter l ty x t i) where
 mem:=by simp
 obj:=fun i h st b hb=>by
  have e:b=l:=by simpa using hb
  subst e;obtain⟨o,e,c,d⟩:=st;exact⟨o,e,fun v z=>by rw[d] at z;cases z⟩
 keep:=fun i h A st k=>let ⟨o,e,r⟩:=st;⟨o,k l (by simp) o e,r⟩
 item:=by
  intro X hP hw hK hc i f s σ H E I O st U;subst hP hw hK;obtain⟨G,J,f2,L,M,N⟩:=O l (by simp)
  rcases D with rfl | rfl
  ·refine(Walks.strAscii (prog:=X.prog) (w:=X.w) (I.ok.hd hc) l x t).item i s _ _ U st fun v A T hv g kk=>?_
   obtain⟨c,u,B,rfl⟩:=hv;have Y:Inv X f σ H { s with heap:=A,toks:=T }:=I.turned (fun b o hb e=>kk b o (by simpa using hb) e) G J L M N
   obtain⟨o,e,c1,d⟩:=id g;exact⟨_,rfl,Vz (s:={ s with heap:=A,toks:=T }) e c1 d (by decide) ⟨.str ⟨#[c]⟩,H,Y,⟨u,rfl⟩,⟨rfl,c,B,rfl⟩,g,fun b hb=>(O b hb).1⟩⟩
  ·refine(Walks.strWide (prog:=X.prog) (w:=X.w) (I.ok.hd hc) l x t).item i s _ _ U st fun v A T hv g kk=>?_
   obtain⟨c,u,B,rfl⟩:=hv;have Y:Inv X f σ H { s with heap:=A,toks:=T }:=I.turned (fun b o hb e=>kk b o (by simpa using hb) e) G J L M N
   obtain⟨o,e,c1,d⟩:=id g;exact⟨_,rfl,Vz (s:={ s with heap:=A,toks:=T }) e c1 d (by decide) ⟨.str ⟨#[c]⟩,H,Y,⟨u,rfl⟩,⟨rfl,c,B,rfl⟩,g,fun b hb=>(O b hb).1⟩⟩
 done:=by
  intro X hP hw hK hc i f s σ H E I O st U;subst hP hw hK;obtain⟨G,J,f2,L,M,N⟩:=O l (by simp)
  have hn:x.cps[i]? =none:=WM U;rcases D with rfl | rfl
  ·exact wpAny_pyNext_ascii_end (I.ok.hd hc) st hn fun A eb=>⟨rfl,I.turned (t':=s.toks) (fun b o hb e=>eb b o hb e) G J L M N⟩
  ·exact wpAny_pyNext_wide_end (I.ok.hd hc) st hn fun A eb=>⟨rfl,I.turned (t':=s.toks) (fun b o hb e=>eb b o hb e) G J L M N⟩
 self:=fun _ _ _ _ _ st h=>by
  rcases D with rfl | rfl
  ·exact wpAny_pyIter_striter_ascii st h
  ·exact wpAny_pyIter_striter_wide st h
section
variable{X:Cx}{c:Expr}
def zhG(f:TE):TI:=fun σ H R=>f σ H fun v b=>∃x,v=.str x/\R (Its x) b
theorem zb8{l:Expr}{w:TE}(A:PE X l w):PI X c l (zhG w):=by
 intro g s σ H R I h;refine thn (A g s σ H _ I h) fun v s1 ⟨y,i,f,B,q1⟩=>?_
 obtain⟨x,e,q⟩:=q1;subst e;obtain⟨t,rfl⟩:=B;cases u:x.cps.all (·<128)
 ·refine wpAny_pyIter_wide u ?_
  refine⟨s1.heap.objs.size,[s1.heap.objs.size],_,_,i,rfl,f.kept (t':=s1.toks) fun b o e=>qw _ e,XM _ x t "str_iterator" (.inr rfl),⟨_,qH _ rfl,rfl,rfl⟩,fun b hb=>?_,q⟩
  have e:b=s1.heap.objs.size:=by simpa using hb
  subst e;exact f.fpOk (zi _) (f.hok.fresh (zi _))
 ·refine wpAny_pyIter_ascii u ?_
  refine⟨s1.heap.objs.size,[s1.heap.objs.size],_,_,i,rfl,f.kept (t':=s1.toks) fun b o e=>qw _ e,XM _ x t "str_ascii_iterator" (.inl rfl),⟨_,qH _ rfl,rfl,rfl⟩,fun b hb=>?_,q⟩
  have e:b=s1.heap.objs.size:=by simpa using hb
  subst e;exact f.fpOk (zi _) (f.hok.fresh (zi _))
end
theorem zcw{x:Str}{n:Nat}{g:TG}{J:TT}{I:TE}{w:St}{R:List V->Hp->Prop}{H:Hp}(Pv:Nat->List V->Hp->Prop)(h0:Pv 0 [] H)
  (O:∀i c f H,x.cps[i]? =some c->Pv i f H->g (.str ⟨#[c]⟩) w H fun o D=>o.drop n=w.drop n/\J o D fun b s=>if b=true then I o s fun v E=>f.length<sizeLine/\Pv (i+1) (f++[v]) E else Pv (i+1) f s)
  (N:∀f H,Pv x.cps.size f H->f.length<=sizeLine/\R f H) :
  ∃W:Nat->Nat->List V->Hp->Prop,(∃m,W 0 m [] H)/\∀i m f l,W i m f l ->
   ((Its x).stop i l/\f.length<=sizeLine/\R f l) \/
   ((Its x).go i l/\∃M:List V->Hp->Prop,(∀f A,M f A->∃G,G<m/\W (i+1) G f A)/\∀v B,(Its x).yld i l v B->g v w B fun o D=>o.drop n=w.drop n/\J o D fun b s=>
    if b=true then I o s fun y E=>f.length<sizeLine/\M (f++[y]) E else M f s):=by
 refine⟨fun i m f l=>m=x.cps.size-i/\i<=x.cps.size/\Pv i f l,⟨_,rfl,zY _,h0⟩,?_⟩
 rintro i m f l ⟨rfl,hi,p⟩;by_cases u:i<x.cps.size
 ·refine .inr ⟨u,Pv (i+1),fun Y A Q=>⟨_,by omega,rfl,u,Q⟩,fun v B y=>?_⟩
  obtain⟨e1,c,e2,L⟩:=y;subst e1 L;exact O i c f _ e2 p
 ·have e:i=x.cps.size:=by omega
  subst e;obtain⟨T,U⟩:=N f l p;exact .inl ⟨zi _,T,U⟩
section
variable{X:Cx}
inductive Yu(x:V)(o:List V)(H:Hp)(Q:VK):Prop
 | mk (l:Addr) (b:List V) (i:Int) (y:V) (_:x=.ref l) (_:o=[.int i,y]) (_:H l=some (.lst b)) (_:0<=i) (_:i<2^62) (_:b.length<sizeLine) (_:Q .non (upd H l (.lst (b.take i.toNat++y::b.drop i.toNat)))):Yu  x o H Q
theorem Jp:MtM X "list.insert" Yu:=by
 intro E s σ H x vs v us Q I M L h;obtain⟨l,xs,i,y,rfl,rfl,A,T,U,O,q⟩:=h;cases M;obtain⟨Y,u,rfl,G,J⟩:=Ja L;obtain⟨t,rfl⟩:=G;obtain⟨z,b,n,r,N,e⟩:=I.lstM A;have B:=r.length;refine call_meets F.slot_list_insert ⟨_,e,rfl⟩ F.entry_list_insert (F.args_list_insert_3 _ _ _) (AutoListH.list_insert_list_int_val_1 l b.toArray n i t u ?_ (by rw[qt];omega)) ⟨e,?_⟩
 ·unfold Builtin.List.listFitsIndex
  simp;omega
 refine⟨.non,_,I.lset (its':=b.take i.toNat++u::b.drop i.toNat) A e ?_ ((r.take _).append (.cons J (r.drop _))) ?_,rfl,q⟩
 ·show(have k:=if i<0 then(i+((b.toArray.size:Nat):Int)).toNat else min i.toNat b.toArray.size;(b.toArray.extract 0 k).push u++b.toArray.extract k)=_
  have hk:(if i<0 then(i+((b.toArray.size:Nat):Int)).toNat else min i.toNat b.toArray.size)=min i.toNat b.length:=by
   rw[zB (by omega),qt]
  simp only[hk];apply Array.toList_inj.mp
  simp;by_cases o:i.toNat<=b.length
  ·have h1:(b.drop i.toNat).take (b.length-i.toNat)=b.drop i.toNat:=JL (by rw[yf];omega)
   rw[Nat.min_eq_left o,h1]
  ·have h1:b.length<=i.toNat:=by omega
   rw[Nat.min_eq_right h1,JL h1,List.drop_of_length_le h1];simp
 ·simp only[qR,qI,jv,yf]
  omega
theorem Q8{l:List V}{b:List Value}(r:Vals l b):∀i:List Nat,Vals (i.filterMap (l[·]?)) (i.filterMap (b[·]?))
 | []=>.nil
 | j::i=>by
  have o:=Q8 r i;have B:=r.length;cases h:l[j]? with
  | none=>
   have s:b[j]? =none:=by
    rw[List.getElem?_eq_none_iff] at h ⊢;omega
   rw[List.filterMap_cons_none h,List.filterMap_cons_none s];exact o
  | some x=>
   obtain⟨u,e,A⟩:=r.get h;rw[List.filterMap_cons_some h,List.filterMap_cons_some e];exact .cons A o
variable{e st:Expr}{g:TE}{w:TO}{c f:Pos}
theorem zaC(he:PE X e g)(hk:PO X (some st) w):PE X (.Subscript e (.Slice none none (some st) f) c) (fun σ H Q=>g σ H fun x E=>w σ E fun k G=>∃a B,x=.ref a/\k≠some 0/\SqL X.K G a B /\
  ∀L p,(∀y∈L,y∈B)->L.length<=B.length->G p=none->Q (.ref p) (upd G p (.lst L))):=by
 intro i s σ H Q I h;refine Subscript_ (thn (he i s σ H _ I h) fun v s1 ⟨x,E,I1,r1,q1⟩=>?_)
 refine wpAny_Slice ?_
 rw[evalPart_none];refine zy (zy ?_)
 refine thn (hk i s1 σ E _ I1 q1) fun U A ⟨k,Y,I3,pk,q3⟩=>?_
 obtain⟨a,B,rfl,k0,hx,q⟩:=q3;cases r1;have J:Inv X i σ Y { A with heap:=A.heap.push { cls:=.type "slice",data:=.fields #[.none,.none,U] } }:=I3.kept (t':=A.toks) fun b ob q=>qw _ q
 obtain⟨l,r,N,hz⟩:=J.list hx;have M:=r.length;show wpAny (model X.prog X.w) X.A (subscriptTail e (.Slice none none (some st) f) (.ref a) (.ref A.heap.objs.size)) (EP X i σ Q) X.xe { A with heap:=A.heap.push { cls:=.type "slice",data:=.fields #[.none,.none,U] } };refine tail_any (ops:=[.ref a,.ref A.heap.objs.size]) (T:= "list") N.isList.typeIs slot_list_getitem.lookup ?_ (by with_unfolding_all rfl)
 refine wpAny_getItem_list_slice (lo:=none) (hi:=none) (st:=k) N.isList (Heap.IsSliceOf.new ..) .none .none pk k0 ?_ (by rw[qt]<;>omega)
 have u:=slicePick_size_le l.toArray none none k;unfold slicePick at u ⊢;generalize (sliceRange (sliceBounds none none k l.toArray.size).1 (sliceBounds none none k l.toArray.size).2.1 (sliceBounds none none k l.toArray.size).2.2)=D at u ⊢;have e1:D.filterMap (l.toArray[·]?)=D.filterMap (l[·]?):=by simp
 rw[e1] at u ⊢;have O:=Q8 r D;have a6:=O.length;simp only[qt] at u;refine⟨.ref _,_,J.laid (t':=A.toks) (o:=.lst (D.filterMap (B[·]?))) (fun b ob q=>qw _ q) (zi _) ?_,rfl,q _ _ (fun y hy=>?_) (by omega) (J.hok.fresh (zi _))⟩
 ·exact⟨by omega,_,0,O,qH _ rfl⟩
 ·obtain⟨j,_,hj⟩:=ZF.mp hy
  exact qY hj
end
theorem yA{K:W.Frag}{a:Addr}{xs:List V}{g:TG}{I:TT}{G:TE}{u:St}{n:Nat}{R:List V->Hp->Prop}{H:Hp}(Pv:Nat->List V->Hp->Prop)(h0:Pv 0 [] H)
  (h1:∀i c H,Pv i c H->SqL K H a xs)
  (L:∀i x c H,xs[i]? =some x->Pv i c H->g x u H fun l B=>l.drop n=u.drop n/\I l B fun b o=>
   if b=true then G l o fun v D=>c.length<sizeLine/\Pv (i+1) (c++[v]) D else Pv (i+1) c o)
  (J:∀c H,Pv xs.length c H->c.length<=sizeLine/\R c H) :
  ∃W:Nat->Nat->List V->Hp->Prop,(∃m,W 0 m [] H)/\∀i m c f,W i m c f ->
   ((Itl K a).stop i f/\c.length<=sizeLine/\R c f) \/
   ((Itl K a).go i f/\∃N:List V->Hp->Prop,(∀c w,N c w->∃E,E<m/\W (i+1) E c w)/\∀x A,(Itl K a).yld i f x A->g x u A fun l B=>l.drop n=u.drop n/\I l B fun b o=>
    if b=true then G l o fun y D=>c.length<sizeLine/\N (c++[y]) D else N c o):=by
 refine⟨fun i m c f=>m=xs.length-i/\i<=xs.length/\Pv i c f,⟨_,rfl,zY _,h0⟩,?_⟩
 rintro i m c f ⟨rfl,U,p⟩;have q:=h1 i c f p;by_cases s:i<xs.length
 ·refine .inr ⟨⟨xs,xs[i],q,by simp[s]⟩,Pv (i+1),fun T w M=>⟨_,by omega,rfl,s,M⟩,fun x A y=>?_⟩
  obtain⟨e,y⟩:=y;subst e;exact L i x c _ (y xs q) p
 ·have e:i=xs.length:=by omega
  subst e;obtain⟨O,Q⟩:=J c f p;exact .inl ⟨⟨xs,q,zi _⟩,O,Q⟩
theorem jW{K:W.Frag}{a:Addr}{xs:List V}{g:TG}{I:TT}{G:TE}{u:St}{n:Nat}{R:List V->Hp->Prop}{H:Hp}(Pv:Nat->List V->Hp->Prop)(h0:Pv 0 [] H)
  (h1:∀i c H,Pv i c H->SqT K H a xs)
  (L:∀i x c H,xs[i]? =some x->Pv i c H->g x u H fun l B=>l.drop n=u.drop n/\I l B fun b o=>
   if b=true then G l o fun v D=>c.length<sizeLine/\Pv (i+1) (c++[v]) D else Pv (i+1) c o)
  (J:∀c H,Pv xs.length c H->c.length<=sizeLine/\R c H) :
  ∃W:Nat->Nat->List V->Hp->Prop,(∃m,W 0 m [] H)/\∀i m c f,W i m c f ->
   ((Itt K a).stop i f/\c.length<=sizeLine/\R c f) \/
   ((Itt K a).go i f/\∃N:List V->Hp->Prop,(∀c w,N c w->∃E,E<m/\W (i+1) E c w)/\∀x A,(Itt K a).yld i f x A->g x u A fun l B=>l.drop n=u.drop n/\I l B fun b o=>
    if b=true then G l o fun y D=>c.length<sizeLine/\N (c++[y]) D else N c o):=by
 refine⟨fun i m c f=>m=xs.length-i/\i<=xs.length/\Pv i c f,⟨_,rfl,zY _,h0⟩,?_⟩
 rintro i m c f ⟨rfl,U,p⟩;have q:=h1 i c f p;by_cases s:i<xs.length
 ·refine .inr ⟨⟨xs,xs[i],q,by simp[s]⟩,Pv (i+1),fun T w M=>⟨_,by omega,rfl,s,M⟩,fun x A y=>?_⟩
  obtain⟨e,y⟩:=y;subst e;exact L i x c _ (y xs q) p
 ·have e:i=xs.length:=by omega
  subst e;obtain⟨O,Q⟩:=J c f p;exact .inl ⟨⟨xs,q,zi _⟩,O,Q⟩
inductive DV(K:W.Frag)(F:Hp)(n:Nat):V->Prop
 | non:DV K F n .non
 | bl (b:Bool):DV K F n (.bl b)
 | int (i:Int) (h:i.natAbs<=10000000000+n):DV K F n (.int i)
 | str (x:Str) (h:x.length<=n):DV K F n (.str x)
 | lst (a:Addr) (c:List V) (h:SqL K F a c) (f:c.length<=n) (all:∀x∈c,DV K F n x):DV K F n (.ref a)
 | tup (a:Addr) (c:List V) (h:SqT K F a c) (f:c.length<=n) (all:∀x∈c,DV K F n x):DV K F n (.ref a)
theorem DV.up{K:W.Frag}{F g:Hp}{n m:Nat}{v:V}(h:DV K F n v)(s:Same F g)(o:n<=m):DV K g m v:=by
 induction h with
 | non=>exact .non
 | bl b=>exact .bl b
 | int i h=>exact .int i (by omega)
 | str x h=>exact .str x (by omega)
 | lst a f h l all c=>exact .lst a f (s.seq h) (by omega) c
 | tup a f h l all c=>exact .tup a f (s.sqT h) (by omega) c
def WX(b:List Addr)(H:Hp):Hp:=fun c=>if c∈b then none else H c
theorem WX.le{b:List Addr}{H:Hp}:Same (WX b H) H:=fun c o e=>by
 unfold WX at e;split at e
 ·cases e
 ·exact e
theorem WX.new{b:List Addr}{H:Hp}{p:Addr}{o:HO}(h:H p=none):Same (WX b H) (WX b (upd H p o)):=fun c u e=>by
 unfold WX at e ⊢;split at e
 ·cases e
 ·rename_i hc
  rw[zB hc,zt (zp e h)];exact e
theorem WX.same{f:List Addr}{H b:Hp}(h:Same H b):Same (WX f H) (WX f b):=fun c u e=>by
 unfold WX at e ⊢;split at e
 ·cases e
 ·rename_i hc
  rw[zB hc];exact h c u e
theorem WX.cons{b:List Addr}{H:Hp}{m:Addr}:Same (WX (m::b) H) (WX b H):=fun c u e=>by
 unfold WX at e ⊢;split at e
 ·cases e
 ·rename_i hc
  rw[zB (fun z=>hc (jh _ z))]
  exact e
theorem WX.fresh{b:List Addr}{H:Hp}{m:Addr}(h:H m=none)(o:HO):Same (WX b H) (WX (m::b) (upd H m o)):=fun c u e=>by
 unfold WX at e ⊢;split at e
 ·cases e
 ·rename_i hc
  have f:c≠m:=zp e h;rw[zB (fun z=>(z9.mp z).elim f hc),zt f]
  exact e
theorem WX.put{b:List Addr}{H:Hp}{m:Addr}{o:HO}(h:m∈b):Same (WX b H) (WX b (upd H m o)):=fun c u e=>by
 unfold WX at e ⊢;split at e
 ·cases e
 ·rename_i hc
  rw[zB hc,zt (show c≠m from fun z=>hc (by rw[z];exact h))]
  exact e
theorem WX.at{b:List Addr}{H:Hp}{c:Addr}{o:HO}(h:c∉b)(e:H c=some o):WX b H c=some o:=by
 unfold WX;rw[zB h];exact e
theorem Wh{i:Int}(h:i.natAbs<1000000000000):(Str.ofString (toString i)).length<=13:=PyData.shown_int_le h
def Vi:Expr->Bool
 | .Starred _ _=>false
 | _=>true
theorem zx{e:Expr}{c:List Expr}{b:Env}(h:Vi e=true):starEach (e::c) b=(false,eval e b)::starEach c b:=by
 cases e<;>first| rfl | cases h
theorem pa5{X:Cx}{c e1 e2 f g:Expr}{i l o s u:TE}(h0:PE X c i)(h1:PE X e1 l)(h2:PE X e2 o)(h3:PE X f s)(w:PE X g u)(h:([c,e1,e2,f,g]).all Vi=true:=by rfl):PA X [c,e1,e2,f,g] (zZ i (zZ l (zZ o (zZ s (zZ u V0))))):=by
 have b:=jw.mp h;exact(za h0 (za h1 (za h2 (za h3 (za w zb (zx (b _ (by simp)))) (zx (b _ (by simp)))) (zx (b _ (by simp)))) (zx (b _ (by simp)))) (zx (b _ (by simp))))
theorem zhB{X:Cx}{g e1 e2 i l o s u w A c:Expr}{D E G H I J L M N O f:TE}(h0:PE X g D)(h1:PE X e1 E)(h2:PE X e2 G)(h3:PE X i H)(Q:PE X l I)(T:PE X o J)(U:PE X s L)(Y:PE X u M)(h8:PE X w N)(h9:PE X A O)(B:PE X c f)(h:([g,e1,e2,i,l,o,s,u,w,A,c]).all Vi=true:=by rfl):PA X [g,e1,e2,i,l,o,s,u,w,A,c] (zZ D (zZ E (zZ G (zZ H (zZ I (zZ J (zZ L (zZ M (zZ N (zZ O (zZ f V0))))))))))):=by
 have b:=jw.mp h;exact(za h0 (za h1 (za h2 (za h3 (za Q (za T (za U (za Y (za h8 (za h9 (za B zb (zx (b _ (by simp)))) (zx (b _ (by simp)))) (zx (b _ (by simp)))) (zx (b _ (by simp)))) (zx (b _ (by simp)))) (zx (b _ (by simp)))) (zx (b _ (by simp)))) (zx (b _ (by simp)))) (zx (b _ (by simp)))) (zx (b _ (by simp)))) (zx (b _ (by simp))))
theorem zhA{X:Cx}{J e1 e2 L M N O Q T U c f g i l o s u:Expr}{t0 t1 t2 t3 t4 t5 t6 t7 t8 t9 w A B D E G H I:TE}(h0:PE X J t0)(h1:PE X e1 t1)(h2:PE X e2 t2)(h3:PE X L t3)(h4:PE X M t4)(h5:PE X N t5)(h6:PE X O t6)(h7:PE X Q t7)(h8:PE X T t8)(h9:PE X U t9)(Y:PE X c w)(a6:PE X f A)(a7:PE X g B)(a8:PE X i D)(a9:PE X l E)(aa:PE X o G)(ab:PE X s H)(ac:PE X u I)(h:([J,e1,e2,L,M,N,O,Q,T,U,c,f,g,i,l,o,s,u]).all Vi=true:=by rfl):PA X [J,e1,e2,L,M,N,O,Q,T,U,c,f,g,i,l,o,s,u] (zZ t0 (zZ t1 (zZ t2 (zZ t3 (zZ t4 (zZ t5 (zZ t6 (zZ t7 (zZ t8 (zZ t9 (zZ w (zZ A (zZ B (zZ D (zZ E (zZ G (zZ H (zZ I V0)))))))))))))))))):=by
 have b:=jw.mp h;exact(za h0 (za h1 (za h2 (za h3 (za h4 (za h5 (za h6 (za h7 (za h8 (za h9 (za Y (za a6 (za a7 (za a8 (za a9 (za aa (za ab (za ac zb (zx (b _ (by simp)))) (zx (b _ (by simp)))) (zx (b _ (by simp)))) (zx (b _ (by simp)))) (zx (b _ (by simp)))) (zx (b _ (by simp)))) (zx (b _ (by simp)))) (zx (b _ (by simp)))) (zx (b _ (by simp)))) (zx (b _ (by simp)))) (zx (b _ (by simp)))) (zx (b _ (by simp)))) (zx (b _ (by simp)))) (zx (b _ (by simp)))) (zx (b _ (by simp)))) (zx (b _ (by simp)))) (zx (b _ (by simp)))) (zx (b _ (by simp))))
section
variable{X:Cx}{f u c:Expr}{i:List Expr}{b:Scope}{l:Pos}{w:TI}{g:TG}{s:TT}{o:TE}
end
theorem Vals.mem{u:Value}:∀{b:List V} {c:List Value},Vals b c->u∈c->∃x∈b,RelV x u
 | _,_,.nil,h=>by cases h
 | x::b,v::g,.cons r t,h=>by
  rcases z9.mp h with e | h
  ·rw[e];exact⟨x,jx,r⟩
  ·obtain⟨y,hy,f⟩:=Vals.mem t h
   exact⟨y,jh _ hy,f⟩
section
variable{X:Cx}
inductive QY(K:W.Frag)(x:V)(y:V)(H:Hp)(Q:VK):Prop
 | mk (a b:Addr) (c:List V) (_:x=.ref a) (_:y=.ref b) (_:SqL K H a c) (_:SqL K H b []) (_:Q (.bl (!c.isEmpty)) H):QY K x y H Q
theorem zcf(hu:X.A.units<cLine):OpR X (compareOp .NotEq) (QY X.K):=by
 intro l s σ H x y v u Q I A B h;obtain⟨a,b,D,rfl,rfl,hx,hy,q⟩:=h;cases A;cases B;obtain⟨c,o,g,E⟩:=I.list hx;obtain⟨f,w,i,G⟩:=I.list hy;cases w;cases o with
 | nil=>exact SeqAt.RcNeAt.lists (e:=fun _=>true) g.isList i.isList rfl hu (fun j h1 _=>by simp at h1) _ _ _ _ ⟨.bl _,H,I,rfl,q⟩
 | cons r t=>exact SeqAt.RcNeAt.lists_lengths g.isList i.isList (by simp) hu _ _ _ _ ⟨.bl _,H,I,rfl,q⟩
theorem XH:∀{b:List Value} {n k:Nat},b.length=n->(∀j v,b[j]? =some v->∃t,v=Value.int ((k+j:Nat):Int) t)->Vals ((List.range' k n).map fun i:Nat=>V.int (i:Int)) b
 | [],0,k,_,_=>.nil
 | v::b,n+1,k,f,h=>by
  rw[List.range'_succ,jf];obtain⟨t,e⟩:=h 0 v rfl;refine .cons ⟨t,by rw[e];rfl⟩ (XH (by simpa using f) fun j w g=>?_)
  obtain⟨l,c⟩:=h (j+1) w (by simpa using g)
  exact⟨l,by rw[c,show k+(j+1)=k+1+j by omega]⟩
theorem yx{a:Expr}{N:TA}{p E G c:Pos}(hc:X.calm=true)(hg:Gl X "list")(hm:X.mg "list" = none)(B:Gl X "range")(D:X.mg "range" = none)(hv:bootBuiltins "list" = some (.type "list"))(ha:PA X [a] N)(hs:starEach [a] X.env=[(false,eval a X.env)]:=by rfl)
  (L:starEach [.Call (.Name "range" E) [a] [] c] X.env=[(false,eval (.Call (.Name "range" E) [a] [] c) X.env)]:=by rfl) :
  PE X (.Call (.Name "list" p) [.Call (.Name "range" E) [a] [] c] [] G) (fun σ H Q=>N σ H fun O A=>∃j:Int,O=[.int j]/\0<=j/\j<=1000000/\∀l,A l=none->Q (.ref l) (upd A l (.lst ((List.range j.toNat).map fun i:Nat=>V.int (i:Int))))):=by
 intro g s σ H Q I h;refine wpAny_Call_Name_kw (vI I hg hm hv ?_ (by decide) (by decide))
 refine JN ?_ L rfl
 rw[L];refine Zr ?_
 refine Call_ (vI I B D boot_range (JN (thn (ha c g s σ H _ I h) fun us s1 ⟨O,A,T,r1,q1⟩=>?_) hs rfl))
 obtain⟨j,e,j0,j1,q⟩:=q1;subst e;cases r1 with
 | cons r rr=>
  cases rr;obtain⟨t,rfl⟩:=r;refine call_range_1 (Xu ?_)
  have J:Inv X g σ A { s1 with heap:=s1.heap.push { cls:=.type "range",data:=.fields #[.int 0 s1.toks,.int j t,.int 1 (s1.toks+1)] },toks:=s1.toks+1+1 }:=T.kept fun b o e=>qw _ e
  have f:=bGe;refine call_list_range (n:=j.toNat) (I.ok.hd hc) (IsRange.new ..) (small_one (by rw[f];omega) (by rw[f];omega) (by rw[f];omega) (by rw[f];omega)) (by rw[rangeSize_one];split<;>omega) (by omega) fun h' tk u U w get items=>?_
  refine⟨.ref _,_,J.laid (t':=tk) (o:=.lst ((List.range j.toNat).map fun i:Nat=>V.int (i:Int))) w (zi _) ?_,rfl,q _ (J.hok.fresh (zi _))⟩
  refine⟨by rw[zv,wm,sizeLine_eq];omega,u.toList,U,?_,by rw[Array.toArray_toList];exact get⟩
  rw[List.range_eq_range'];refine XH (by rw[qX];exact items.1) fun i v hv=>?_
  obtain⟨M,Y⟩:=items.2 i v (by simpa using hv)
  exact⟨M,by rw[Y];congr 1;omega⟩
end
section
variable{b:Program}{w:World}{A:Around}{E:Value->Shared->Prop}{s:Shared}
end
def Tups(H:Hp)(c f:List V)(b:List Addr):Prop:=∀(j:Nat) (T:Addr),b[j]? =some T->∃x y,c[j]? =some x/\f[j]? =some y/\H T=some (.tup [x,y])
theorem Tups.same{H f:Hp}{i l:List V}{g:List Addr}(h:Tups H i l g)(s:Same H f):Tups f i l g:=fun j T e=>let ⟨x,y,a,b,c⟩:=h j T e;⟨x,y,a,b,s _ _ c⟩
theorem Tups.snoc{H:Hp}{c f:List V}{b:List Addr}{T:Addr}{x y:V}(h:Tups H c f b)(hx:c[b.length]? =some x)(hy:f[b.length]? =some y)(g:H T=some (.tup [x,y])):Tups H c f (b++[T]):=fun j U e=>by
 by_cases i:j<b.length
 ·rw[xq i] at e
  exact h j U e
 ·rw[xF (by omega)] at e
  have:j=b.length:=by
   have:=(qg.mp e).1;simp at this;omega
  subst this;simp at e;subst e;exact⟨x,y,hx,hy,g⟩
section
variable{X:Cx}{A:Around}{R:Result->Shared->Prop}
end
section
variable{X:Cx}
theorem Vt{K:W.Frag}(h:X.K=K):IxR X (zdl K):=by rw[<- h];exact zW
theorem ZV{K:W.Frag}(h:X.K=K):IxR X (zdk K):=by rw[<- h];exact xc
theorem vq{K:W.Frag}(h:X.K=K):CallR X (.builtin "len") (va K):=by rw[<- h];exact zo
theorem za5{K:W.Frag}(h:X.K=K):CallR X (.builtin "isinstance") (yj K):=by rw[<- h];exact zN
theorem Qk{K:W.Frag}(h:X.K=K):OpR X (compareOp .In) (rIn K false):=by rw[<- h];exact Jn
inductive JQ(x:V)(y:V)(H:Hp)(Q:VK):Prop
 | mk (a b:_) (_:x=.bl a) (_:y=.bl b) (_:Q (.bl (!decide (a=b))) H):JQ x y H Q
theorem Yy:OpR X (compareOp .IsNot) (JQ):=by
 intro c s σ H x y v u Q I f g h;obtain⟨a,b,rfl,rfl,q⟩:=h;cases f;cases g;refine wpAny_isNot_plain (by cases a<;>cases b<;>rfl) (z7 I q ?_)
 cases a<;>cases b<;>rfl
end
section
open AutoSeq1 (wpAny_loadPart')
end
section
variable{b:Program}{w:World}{A:Around}{E:Value->Shared->Prop}{s:Shared}
theorem Draws.tuple{b:Program}{w:World}{A:Around}(J:A.handled=none)(g l:Addr)(B:l≠g)(items:Array Value) :
  Draws b w A g [g,l] items.size (fun i v=>items[i]? =some v) (fun i h=>h.IsTupleIter g l i/\h.IsTuple l items) where
 live:=fun _ _ st=>let ⟨o,L,_⟩:=st.1;⟨o,L⟩
 frame:=fun _ _ _ st hk=>⟨ItrK.at (kd:=false) st.1 fun o e=>hk g (by simp) o e,SeqK.at (kd:=false) st.2 fun o e=>hk l (by simp) o e⟩
 item:=fun i s Q E D st I=>by
  refine vF (kd:=false) st.1 st.2 (x:=items[i]) (by simp[D]) fun G c f=>?_
  exact I _ G s.toks (by simp[D]) ⟨c,SeqK.at (kd:=false) st.2 fun o e=>f.extBut l o B e⟩ f
 done:=fun s Q E st H=>yS (kd:=false) J st.1 st.2 (by simp) H
end
section
variable{X:Cx}
end
end L2
namespace L2
open PySem PySem.Spec PyProof.Rows
section
variable{b:Program}{w:World}{A:Around}{R:Result->Shared->Prop}{s:Shared}
end
def Sub:St->St->Prop
 | [],[]=>True
 | none::r,_::b=>Sub r b
 | some v::r,x::b=>x=some v/\Sub r b
 | _,_=>False
theorem Sub.len:∀{a b:St},Sub a b->a.length=b.length
 | [],[],_=>rfl
 | [],_::_,h=>h.elim
 | none::_,[],h=>h.elim
 | some _::_,[],h=>h.elim
 | none::r,_::c,h=>by rw[jv,jv,Sub.len (a:=r) (b:=c) h]
 | some _::r,_::c,h=>by rw[jv,jv,Sub.len (a:=r) (b:=c) h.2]
theorem Sub.get:∀{a b:St} {i:Nat} {v:V},Sub a b->a[i]? =some (some v)->b[i]? =some (some v)
 | [],[],_,_,_,e=>e
 | [],_::_,_,_,h,_=>h.elim
 | none::_,[],_,_,h,_=>h.elim
 | some _::_,[],_,_,h,_=>h.elim
 | none::r,_::c,0,v,h,e=>by simp at e
 | none::r,_::c,i+1,v,h,e=>by
  rw[List.getElem?_cons_succ] at e ⊢
  exact Sub.get (a:=r) (b:=c) h e
 | some _::r,_::c,0,v,h,e=>by
  rw[List.getElem?_cons_zero] at e ⊢
  rw[h.1];exact e
 | some _::r,_::c,i+1,v,h,e=>by
  rw[List.getElem?_cons_succ] at e ⊢
  exact Sub.get (a:=r) (b:=c) h.2 e
section
variable{X:Cx}{l w b:Expr}{f:List Expr}{G i:Expr}{o:List Expr}{c:Scope}{s:Pos}{H A:TI}{g B:TG}{E u:TT}{D:TE}
end
section
variable{X:Cx}
inductive ZQ(K:W.Frag)(c:List V)(H:Hp)(Q:VK):Prop
 | mk (p:Addr) (b:List Bool) (_:c=[.ref p]) (_:SqL K H p (b.map V.bl)) (_:Q (.bl (b.any id)) H):ZQ K c H Q
theorem za6(hc:X.calm=true):CallR X (.builtin "any") (ZQ X.K):=by
 intro N s σ H xs us Q I r h;obtain⟨p,c,rfl,hq,q⟩:=h;obtain⟨u,rfl,J⟩:=xI r;cases J;obtain⟨f,L,pl,hz⟩:=I.list hq;have E:=pl.isList;have G:p≠s.heap.objs.size:=by
  obtain⟨o,e,_⟩:=E;exact qz (zO e)
 refine call_any_walk (wpAny_pyIter_list E ?_)
 refine⟨s.heap.objs.size,_,_,_,_,_,fun i=>c.getD i false,rfl,Walks.list (prog:=X.prog) (w:=X.w) (A:=X.A.in1) (I.ok.hd hc) _ p G f.toArray,⟨⟨_,qH _ rfl,rfl,rfl⟩,E.push _⟩,?_,fun h' tk hk=>?_⟩
 ·intro i v s' T E' D hQ
  have D:f.toArray[i]? =some v:=D;have e1:f[i]? =some v:=by simpa using D
  have g:i<c.length:=by
   have h1:=(qg.mp e1).1;have h2:=L.length;rw[zv] at h2;omega
  have e2:(c.map V.bl)[i]? =some (.bl c[i]):=by simp[g]
  obtain⟨u',M,J⟩:=L.get e2;rw[e1] at M;cases M;cases J;have U:c.getD i false=c[i]:=by simp[g]
  have l:T (c.getD i false) s':=hQ;rw[U] at l;exact vU l
 ·have k:∀b o,s.heap.get? b=some o->h'.get? b=some o:=fun b o e=>hk b o (by simp;exact qz (zO e)) (qw _ e)
  have Y:(List.range f.toArray.size).any (fun i=>c.getD i false)=c.any id:=by
   have B:f.toArray.size=c.length:=by
    have:=L.length;rw[zv] at this;simp only[qt];omega
   rw[B,vh,yI,yI];constructor
   ·rintro⟨i,g,e⟩
    have g:=jF.mp g;exact⟨c[i],yc g,by simpa [g] using e⟩
   ·rintro⟨b,hb,e⟩
    obtain⟨i,g,rfl⟩:=WH.mp hb;exact⟨i,jF.mpr g,by simpa [g] using e⟩
  exact⟨.bl (c.any id),H,I.kept k,by rw[Y];rfl,q⟩
theorem zcS:bootBuiltins "any" = some (.builtin "any"):=by decide +kernel
end
section
variable{X:Cx}{i b:Expr}{f:List Expr}{g:Expr}{l:List Expr}{c:Scope}{s:Pos}{L A:TI}{I u:TT}{H:TE}{x y z:Str}{D E G J w:Pos}{B o:Nat}
end
section
variable{X:Cx}
theorem zdr{K:W.Frag}(h:X.K=K){f l:Expr}{b:TE}(c:PE X l b):PI X f l (zg3 K b):=by rw[<- h];exact jI c
def tLT(K:W.Frag)(t:TE):TT:=fun σ H Q=>t σ H fun x b=>∃a c,x=.ref a/\SqL K b a c/\Q (!c.isEmpty) b
theorem zdm{e:Expr}{t:TE}(h:PE X e t)(u:∀b,isTrue e X.env b=(do let v<-b;standAt e.pos;holding [v] (truthy v)):=by intro _;rfl):PT X e (tLT X.K t):=by
 intro c s σ H Q I A;refine isTrue_plain (thn (h c s σ H _ I A) fun v s1 ⟨x,l,f,E,q1⟩=>?_) (u _)
 obtain⟨a,o,rfl,hq,q⟩:=q1;cases(show v=_ from E)
 obtain⟨g,i,D,B⟩:=f.list hq;have w:=i.length;refine wpAny_truthy_list D.isList (by rw[qt,<- w];rw[sizeLine_eq] at B;omega) ?_
 have e:(!o.isEmpty)=(!g.toArray.isEmpty):=by
  cases o with
  | nil=>cases i;rfl
  | cons y G=>cases i;rfl
 first
  | exact⟨l,f.tok _,by rw[e] at q;simpa using q⟩
  | exact⟨l,f,by rw[e] at q;simpa using q⟩
end
section
variable{X:Cx}{l A b:Expr}{f:List Expr}{M i:Expr}{o:List Expr}{c:Scope}{u:Pos}{O D:TI}{g E:TG}{L w:TT}{J:TE}{x z:Str}{H I N B:Pos}{G s:Nat}
end
def Jy:Nat->List Obj->PySem.W.Frag
 | _,[]=>[]
 | n,o::r=>match o.data with
  | .freed=>Jy (n+1) r
  | _=>(n,o)::Jy (n+1) r
def Xb(h:Heap):PySem.W.Frag:=Jy 0 h.objs.toList
theorem VA:∀{l:List Obj} {n a:Nat} {o:Obj},(Jy n l).lookup a=some o->n<=a/\l[a-n]? =some o/\o.data≠.freed
 | [],n,a,o,h=>by cases h
 | x::r,n,a,o,h=>by
  have b:(Jy (n+1) r).lookup a=some o->n<=a/\(x::r)[a-n]? =some o/\o.data≠.freed:=fun h=>by
   obtain⟨h1,h2,h3⟩:=VA h;refine⟨by omega,?_,h3⟩
   rw[show a-n=(a-(n+1))+1 by omega];exact h2
  unfold Jy at h;split at h
  ·exact b h
  ·rename_i c
   rw[xZ] at h;split at h
   ·rename_i e
    cases h;have:=xi.mp e;subst this;exact⟨zi _,by simp,c⟩
   ·exact b h
theorem zaS(h:Heap):(Xb h).In h:=fun a o e=>by
 obtain⟨_,h2,h3⟩:=VA e;have h2:h.objs[a]? =some o:=by simpa using h2
 unfold Heap.get?;rw[h2];obtain⟨c,d,b,f⟩:=o;cases b<;>first| rfl | exact absurd rfl h3
inductive Fd(K:W.Frag)(b:Str)(st:Stmt):Prop
 | mk (f:Addr) (c:FuncData) (a:PySem.W.nsIn K mainGlobals b=some (some (.ref f))) (F:Fun K b b st f c):Fd K b st
def zg2:Value->Bool
 | .none=>true
 | _=>false
def Xd(K:W.Frag)(c:Str):Option (Arguments×FuncBody×Scope×Bool):=match PySem.W.nsIn K mainGlobals c with
 | some (some (.ref f))=>(match K.lookup f with
  | some ⟨_,_,.func b,_⟩=>some (b.params,b.body,b.scope,b.name==c&&(b.qualname==c&&(b.globals==mainGlobals&&(b.closure.isEmpty&&(zg2 b.defaults&&(b.builtins==builtinsNs&&PySem.W.codeIn K b.code c))))))
  | _=>none)
 | _=>none
def YV(st:Stmt):Option (Arguments×FuncBody×Scope×Bool):=some (yE st,.stmts (vJ st),zr st,true)
theorem zg9{K:W.Frag}{D:Str}{st:Stmt}(e:Xd K D=YV st):Fd K D st:=by
 unfold Xd YV at e;split at e
 ·rename_i f H
  split at e
  ·rename_i c d G sl A
   simp only[QO,Xk,qQ] at e;obtain⟨e1,e2,w,b,g,i,l,o,s,B⟩:=e;obtain⟨I,Y,T,L,sc,O,N,u,Q,E,U,J,M,ct,bl⟩:=G;dsimp only at e1 e2 w b g i l o s B;have b:=xi.mp b;have g:=xi.mp g;have i:=xi.mp i;have l:=List.isEmpty_iff.mp l;have s:=xi.mp s;have o:u=.none:=by cases u<;>first| rfl | exact Bool.noConfusion o
   subst e1 e2 w b g i l o s;exact⟨f,_,H,⟨⟨_,_,_,_,_,_,_,_,_,rfl,A,B⟩,by unfold PySem.W.keepIn;dsimp only;rw[A]⟩⟩
  ·cases e
 ·cases e
theorem zfK{K:W.Frag}{l:List (Str×Stmt)}(e:l.map (fun x=>Xd K x.1)=l.map fun x=>YV x.2)(i:Nat){b:Str}{st:Stmt}(h:l[i]? =some (b,st)):Fd K b st:=by
 have:=congrArg (fun z=>z[i]?) e
 simp only[jM,h,wv,QO] at this;exact zg9 this
theorem zd3{K:W.Frag}{l:List Str}(e:l.map (fun x=>PySem.W.nsIn K mainGlobals x)=l.map fun _=>some none){x:Str}(i:Nat)(h:l[i]? =some x):PySem.W.nsIn K mainGlobals x=some none:=by
 have:=congrArg (fun z=>z[i]?) e
 simpa only[jM,h,wv,QO] using this
def zdb:List Value->Option (List Str)
 | []=>some []
 | .str x _::r=>(zdb r).map (x:: ·)
 | _=>none
def VR(K:W.Frag)(c:Str):Option (List Str×Bool):=match PySem.W.nsIn K mainGlobals c with
 | some (some (.ref a))=>(match K.lookup a with
  | some ⟨.type t,_,.seq b _,_⟩=>(zdb b.toList).map fun l=>(l,t == "tuple" && decide (b.size<=1000))
  | _=>none)
 | _=>none
theorem Jc:∀{b:List Value} {l:List Str},zdb b=some l->Vals (l.map V.str) b
 | [],l,h=>by cases h;exact .nil
 | v::r,l,h=>by
  cases v<;>first| (cases h;done) | skip
  simp only[zdb] at h;obtain⟨c,h1,rfl⟩:=jN.mp h;exact .cons ⟨_,rfl⟩ (Jc h1)
theorem zf4{K:W.Frag}{b:Str}{l:List Str}(e:VR K b=some (l,true)):∃a:Addr,PySem.W.nsIn K mainGlobals b=some (some (.ref a))/\∀H,SqT K H a (l.map V.str):=by
 unfold VR at e;split at e
 ·rename_i a f
  split at e
  ·rename_i t _ s n o g
   obtain⟨i,h1,h2⟩:=jN.mp e;simp only[Xk,qQ,decide_eq_true_eq] at h2;obtain⟨rfl,h3,c⟩:=h2;have h3:=xi.mp h3;subst h3;exact⟨a,f,fun H=>.inr ⟨_,_,_,g,rfl,rfl,wU (zau c),Jc h1⟩⟩
  ·cases e
 ·cases e
def zfz(ds:List (Str×Stmt))(b:List Str)(c:List (Str×List Str))(K:W.Frag):List (Option (Arguments×FuncBody×Scope×Bool))×List (Option (Option Value))×List (Option (List Str×Bool)):=
 (ds.map fun x=>Xd K x.1,b.map fun x=>PySem.W.nsIn K mainGlobals x,c.map fun x=>VR K x.1)
def zfM(ds:List (Str×Stmt))(b:List Str)(c:List (Str×List Str)):List (Option (Arguments×FuncBody×Scope×Bool))×List (Option (Option Value))×List (Option (List Str×Bool)):=
 (ds.map fun x=>YV x.2,b.map fun _=>some none,c.map fun x=>some (x.2,true))
def zfN(s:Stmt):Pos:=match s with
 | .FunctionDef _ _ _ _ _ _ _ _ _ p=>p
 | _=>⟨0,0,0,0⟩
def defRec(x:Str)(s:Stmt):DefRec:=⟨x,yE s,vJ s,zr s,zfN s⟩
structure Tp(P:Program)(w:World)(K:W.Frag)(mg:Str->Option Value)(base h:Heap)(ds:List (Str×Stmt))(bs:List Str)(ts:List (Str×List Str)):Prop where
 x:K.In h
 g:h.Ns mainGlobals mg
 e:zfz ds bs ts K=zfM ds bs ts
section
variable{P:Program}{w:World}{K:W.Frag}{g:Str->Option Value}{c h:Heap}{ds:List (Str×Stmt)}{o:List Str}{s:List (Str×List Str)}
theorem Tp.fd(Z:Tp P w K g c h ds o s)(i:Nat){b:Str}{st:Stmt}(f:ds[i]? =some (b,st)):Fd K b st:=zfK (congrArg Prod.fst Z.e) i f
theorem Tp.bl(Z:Tp P w K g c h ds o s)(i:Nat){x:Str}(b:o[i]? =some x):g x=none:=PySem.W.mg_none_of Z.x Z.g (zd3 (congrArg (fun z=>z.2.1) Z.e) i b)
theorem Tp.tx(Z:Tp P w K g c h ds o s)(i:Nat){x:Str}{l:List Str}(b:s[i]? =some (x,l)):∃a:Addr,g x=some (.ref a)/\∀H,SqT K H a (l.map V.str):=by
 have:=congrArg (fun z=>z.2.2[i]?) Z.e
 simp only[zfz,zfM,jM,b,wv,QO] at this;obtain⟨a,h1,h2⟩:=zf4 this;exact⟨a,QI Z.x Z.g h1,h2⟩
theorem Tp.dfn(Z:Tp P w K g c h ds o s)(i:Nat){u:Str}{st:Stmt}{k:Nat}{A:List Str}{G:Sp}(I:ds[i]? =some (u,st))
  (ok:∀f fd,Fun K u u st f fd->g u=some (.ref f)->Binds K fd A []->FnOk P w K g c CX0 k f fd A G)
  (hb:∀(kV E J:Value) (H:Option Addr) (D ct:Value) (B:List Value),B.length=A.length->bindArgs (PySem.W.fnOf u u (yE st) (vJ st) (zr st) .none kV E J H D ct) ⟨B,[]⟩=pure (A.zip B):=by
   intro _ _ _ _ _ _ B l;first| (obtain⟨_,rfl⟩:=zgZ l;rfl) | (obtain⟨_,_,rfl⟩:=zgY l;rfl) | (obtain⟨_,_,_,rfl⟩:=zgX l;rfl) | (obtain⟨_,_,_,_,rfl⟩:=zgW l;rfl) | (obtain⟨_,_,_,_,_,rfl⟩:=zgV l;rfl) | (obtain⟨_,_,_,_,_,_,rfl⟩:=zgU l;rfl) | (exact match B,l with | [],_=>rfl)) :
  Dfn P w K g c u k A G:=by
 obtain⟨f,fd,a,F⟩:=Z.fd i I;have b:=F.binds hb;have m:=QI Z.x Z.g a;exact⟨f,fd,ok f fd F m b,m,F.kp,b⟩
end
inductive Seen{β:Type}(f:PySem.W.Frag->β)(v:β)(w:World)(h:Heap):Prop
 | mk (K:W.Frag) (k:K.In h) (e:f K=v):Seen f v w h
theorem Seen.keeps{β:Type}{f:PySem.W.Frag->β}{v:β}(w:World)(h c:Heap)(s:Seen f v w h)(k:∀b o,h.get? b=some o->c.get? b=some o):Seen f v w c:=by
 obtain⟨K,x,e⟩:=s;exact⟨K,x.keeps k,e⟩
theorem walkS{l:PySem.W.OpenLaw}{n k:Nat}{q:Program}{i:List Str}{T:(Str->Option Value)->Heap->Prop}{β:Type}{f:PySem.W.Frag->β}{v:β}{d:DefRec}{sp:PySem.W.Frag->Sp}{x:Str}
  (hn:l.most=some n) (M:n<=sizeLine) (J:d.params.defaults=[]) (hr:Room k callerA)
  (F:∀(w:World) (A:Str->Option Value) (D:Addr) (K:W.Frag) (h:Heap),K.In h->f K=v->h.Ns mainGlobals A->A d.name=some (.ref D) ->
   ∃I:FuncData,(∀(s:Shared) (u:Value),BindsTo s I ⟨[u],[]⟩ [(x,u)]) /\
    ∀b:Heap,K.In b->b.Ns mainGlobals A->FnOk l.prog w K A b CX0 k D I [x] (sp K))
  (N:∀(K:W.Frag) (H:Hp) (a:Addr) (E:List Int),E.length<=n->zea H->SqL K H a (E.map V.int)->sp K [.ref a] H (fun v _=>v=.bl true) fun _ _ _=>False) :
  PySem.W.WalkO q i T (Seen f v) l.row.toRowW d [] (fun f Q=>PySem.call f Q):=by
 refine Att.attach_call hn J fun w s₀ s₁ A mb D o pm cd U a Q E G Y ho hd a6 L B g c hg=>?_
 obtain⟨K,O,e⟩:=Y;obtain⟨I,hb,hF⟩:=F w A D K _ O e G.T.g L;exact Vq O G.T.g G.T.b G.T.builtins G.T.nolimit hg B g (qk c M) hr hF hb (fun H hO hS=>N K H a E c hO hS) fun H e s' z=>z
theorem ownHead{l:PySem.W.OpenLaw}{q:Program}{b:List Str}{β:Type}{f:PySem.W.Frag->β}{v:β}{d:DefRec}(N:Nat)
  (g:l.wellSaid=true)
  (left:∀w,(PySem.W.openEnds treeTable l.prog w N).map (fun s=>(PySem.W.openSeen q b (importedModules l.prog.main.body) (fun _=>true) true s,f (Xb s.heap)))=some (PySem.W.openGood q b,v))
  (c:PySem.W.defOf q l.name=some (d,[])) (hp:l.prog.theDef l.name=some (d.params,d.body,d.scope)) (hk:PySem.W.kwWritten? d.params.kwonlyargs d.params.kw_defaults=some [])
  (ok:(PySem.W.chainsOk q&&PySem.W.opensWell l.prog&&(PySem.W.frees l.row.toRowW&&l.row.within.isEmpty))=true) (hb:l.prog.bare) (i:l.row.toRowW.promised)
  (call:PySem.W.WalkO q b (fun _ _=>True) (Seen f v) l.row.toRowW d [] fun f u=>PySem.call f u):l.Holds:=
 PySem.W.holds_law g fun o=>PySem.W.holds_open (r:=l.row) (Yf:=fun s=>f (Xb s.heap)) (Ya:=fun _=>v) left (fun _ s e=>⟨_,zaS s.heap,e⟩) Seen.keeps (fun _ _=>trivial) (fun _ _ _ _ _=>trivial) c hp hk (fun _ _=>PySem.W.recFacts_nil rfl) (Bool.or_true _) o ok hb i call
def y9(K:W.Frag)(b:Str):Option (Sum Int Str):=match PySem.W.nsIn K mainGlobals b with
 | some (some (.int i _))=>some (.inl i)
 | some (some (.str s _))=>some (.inr s)
 | _=>none
theorem zfQ{K:W.Frag}{b:Str}{i:Int}(e:y9 K b=some (.inl i)):∃t,PySem.W.nsIn K mainGlobals b=some (some (.int i t)):=by
 unfold y9 at e;split at e
 ·rename_i t h
  cases e;exact⟨t,h⟩
 ·cases e
 ·cases e
theorem zfP{K:W.Frag}{b:Str}{s:Str}(e:y9 K b=some (.inr s)):∃t,PySem.W.nsIn K mainGlobals b=some (some (.str s t)):=by
 unfold y9 at e;split at e
 ·cases e
 ·rename_i t h
  cases e;exact⟨t,h⟩
 ·cases e
def zaK(ds:List (Str×Stmt))(b:List Str)(f:List (Str×List Str))(c:List (Str×Sum Int Str))(K:W.Frag):=(zfz ds b f K,c.map fun x=>y9 K x.1)
def zaX(ds:List (Str×Stmt))(b:List Str)(f:List (Str×List Str))(c:List (Str×Sum Int Str)):(List (Option (Arguments×FuncBody×Scope×Bool))×List (Option (Option Value))×List (Option (List Str×Bool)))×List (Option (Sum Int Str)):=(zfM ds b f,c.map fun x=>some x.2)
section
variable{K:W.Frag}{l:Str->Option Value}{h:Heap}{ds:List (Str×Stmt)}{f:List Str}{g:List (Str×List Str)}{b:List (Str×Sum Int Str)}
theorem zeL(e:zaK ds f g b K=zaX ds f g b)(i:Nat){x:Str}{c:Sum Int Str}(o:b[i]? =some (x,c)):y9 K x=some c:=by
 have:=congrArg (fun z=>z.2[i]?) e
 simpa only[zaK,zaX,jM,o,wv,QO] using this
theorem cnI(X:K.In h)(G:h.Ns mainGlobals l)(e:zaK ds f g b K=zaX ds f g b)(i:Nat){x:Str}{n:Int}(c:b[i]? =some (x,.inl n)):∃t,l x=some (.int n t):=
 let ⟨t,o⟩:=zfQ (zeL e i c)
 ⟨t,QI X G o⟩
theorem cnS(X:K.In h)(G:h.Ns mainGlobals l)(e:zaK ds f g b K=zaX ds f g b)(i:Nat){x s:Str}(c:b[i]? =some (x,.inr s)):∃t,l x=some (.str s t):=
 let ⟨t,o⟩:=zfP (zeL e i c)
 ⟨t,QI X G o⟩
end
def topL(i:Nat):Stmt:=PySem.Challenge.pw_pickboard_k04_jobs_or_not.main.body.getD i (.Pass ⟨0,0,0,0⟩)
structure Blt(mg:Str->Option Value):Prop where
 abs:mg "abs" = none
 all:mg "all" = none
 divmod:mg "divmod" = none
 enumerate:mg "enumerate" = none
 int:mg "int" = none
 isinstance:mg "isinstance" = none
 len:mg "len" = none
 list:mg "list" = none
 max:mg "max" = none
 min:mg "min" = none
 range:mg "range" = none
 str:mg "str" = none
 tuple:mg "tuple" = none
 bool:mg "bool" = none
 zip:mg "zip" = none
 sum:mg "sum" = none
 any:mg "any" = none
 repr:mg "repr" = none
 sorted:mg "sorted" = none
 dict:mg "dict" = none
 set:mg "set" = none
theorem VL:bootBuiltins "abs" = some (.builtin "abs"):=by decide +kernel
theorem zcR:bootBuiltins "max" = some (.builtin "max"):=by decide +kernel
theorem zcQ:bootBuiltins "min" = some (.builtin "min"):=by decide +kernel
theorem VJ:bootBuiltins "divmod" = some (.builtin "divmod"):=by decide +kernel
theorem wc:bootBuiltins "int" = some (.type "int"):=by decide +kernel
theorem jd:bootBuiltins "list" = some (.type "list"):=by decide +kernel
theorem zJ:bootBuiltins "tuple" = some (.type "tuple"):=by decide +kernel
theorem xh:bootBuiltins "str" = some (.type "str"):=by decide +kernel
theorem vB:bootBuiltins "bool" = some (.type "bool"):=by decide +kernel
theorem zcP:bootBuiltins "set" = some (.type "set"):=by decide +kernel
def zbb(i:Int):Int:=if i<0 then -i else i
def zaz:Str:= "abcdefghijklmnopqrstuvwxyz"
def xO(c:Nat):Bool:=decide (97<=c)&&decide (c<=122)
theorem Vn:zaz.cps.toList=List.range' 97 26:=by decide +kernel
def Wj:List (Str×Stmt):=[(("is_number":Str),topL 4),(("is_number_within":Str),topL 5),(("is_name":Str),topL 6),(("is_place":Str),topL 7),(("is_tuple_of":Str),topL 14),(("is_tuple_upto":Str),topL 15),(("is_feeder":Str),topL 16),(("are_feeders":Str),topL 17),(("is_part":Str),topL 18),(("are_parts":Str),topL 19),(("is_ahead":Str),topL 20),(("are_aheads":Str),topL 21),(("is_job":Str),topL 22),(("turned":Str),topL 23),(("next_by":Str),topL 24),(("steps_from":Str),topL 25),(("nearest_of":Str),topL 26),(("ring_by":Str),topL 27),(("ring_in":Str),topL 28),(("_law_box":Str),topL 30),(("_law_take":Str),topL 31),(("_law_folded":Str),topL 32),(("_law_same":Str),topL 33),(("_law_spelled":Str),topL 34),(("_law_name":Str),topL 35),(("_law_names":Str),topL 36),(("_law_place":Str),topL 37),(("_law_places":Str),topL 38),(("_law_shuffled":Str),topL 39),(("_law_feeders":Str),topL 40),(("_law_aheads":Str),topL 41),(("_law_job":Str),topL 42),(("_law_is_number":Str),topL 43),(("_law_is_name":Str),topL 44),(("_law_is_place":Str),topL 45),(("_law_odd":Str),topL 46),(("_law_bent_word":Str),topL 47),(("_law_bent_number":Str),topL 48),(("_law_bent_row":Str),topL 49),(("_law_bent":Str),topL 50),(("_law_goes_round":Str),topL 51),(("_law_is_feeder":Str),topL 52),(("_law_is_part":Str),topL 53),(("_law_is_pair":Str),topL 54),(("_law_due":Str),topL 55),(("_law_near":Str),topL 56),(("_law_at_bounds":Str),topL 57),(("_law_right":Str),topL 58),(("law":Str),topL 59)]
def za7:List Str:=[("abs":Str),("all":Str),("divmod":Str),("enumerate":Str),("int":Str),("isinstance":Str),("len":Str),("list":Str),("max":Str),("min":Str),("range":Str),("str":Str),("tuple":Str),("bool":Str),("zip":Str),("sum":Str),("any":Str),("repr":Str),("sorted":Str),("dict":Str),("set":Str)]
def zao:List (Str×List Str):=[]
def zd1:List (Str×Sum Int Str):=[(("LETTERS":Str),.inr ("abcdefghijklmnopqrstuvwxyz":Str)),(("LONGEST_NAME":Str),.inl 8),(("FARTHEST":Str),.inl 1000),(("MOST_HEADS":Str),.inl 4),(("MOST_FEEDERS":Str),.inl 20),(("MOST_IN_FEEDER":Str),.inl 400),(("MOST_PARTS":Str),.inl 60),(("MOST_AHEADS":Str),.inl 200)]
def zge:List Str:=Wj.dropLast.map (·.1)++[("FARTHEST":Str),("LETTERS":Str),("LONGEST_NAME":Str),("MOST_AHEADS":Str),("MOST_FEEDERS":Str),("MOST_HEADS":Str),("MOST_IN_FEEDER":Str),("MOST_PARTS":Str),("__name__":Str)]
def ze0:Program:={ PySem.Challenge.pw_pickboard_k04_jobs_or_not with main:={ PySem.Challenge.pw_pickboard_k04_jobs_or_not.main with body:=[topL 59] } }
theorem head1:PySem.Challenge.rw_pickboard_k04_jobs_or_not.wellSaid=true:=by kernel_rfl
theorem head2:∀w,(PySem.W.openEnds treeTable PySem.Challenge.pw_pickboard_k04_jobs_or_not w 9999).map (fun s=>(PySem.W.openSeen ze0 zge (importedModules PySem.Challenge.pw_pickboard_k04_jobs_or_not.main.body) (fun _=>true) true s,zaK Wj za7 zao zd1 (Xb s.heap)))=some (PySem.W.openGood ze0 zge,zaX Wj za7 zao zd1):=fun w=>by kernel_rfl
theorem head3:(PySem.W.chainsOk ze0&&PySem.W.opensWell PySem.Challenge.pw_pickboard_k04_jobs_or_not&&(PySem.W.frees PySem.Challenge.rw_pickboard_k04_jobs_or_not.row.toRowW&&PySem.Challenge.rw_pickboard_k04_jobs_or_not.row.within.isEmpty))=true:=by kernel_rfl
section
variable{κ:Type}[DecidableEq κ]
def qO(b:List (κ×V))(k:κ):Option V:=(b.find? fun c=>decide (c.1=k)).map (·.2)
def xo(b:List (κ×V))(k:κ)(v:V):List (κ×V):=
 if(b.any fun c=>decide (c.1=k))=true then b.map (fun c=>if c.1=k then(c.1,v) else c) else b++[(k,v)]
def zeK(b:List (κ×V))(k:κ):List (κ×V):=b.filter fun c=>decide (c.1≠k)
theorem ji{p:κ×V}{r:List (κ×V)}{k:κ}(e:p.1=k):qO (p::r) k=some p.2:=by simp[qO,Zl,e]
theorem jk{p:κ×V}{r:List (κ×V)}{k:κ}(e:¬p.1=k):qO (p::r) k=qO r k:=by simp[qO,Zl,e]
theorem vY(k:κ):∀b:List (κ×V),(b.any fun c=>decide (c.1=k))=(qO b k).isSome
 | []=>rfl
 | p::r=>by
  rw[vR];by_cases e:p.1=k
  ·simp only[ji e,zQ e,Bool.true_or,Option.isSome_some]
  ·rw[jk e,qy e,Bool.false_or];exact vY k r
theorem XI(k j:κ)(y:V):∀b:List (κ×V),qO (b.map fun c=>if c.1=k then(c.1,y) else c) j=(qO b j).map fun x=>if j=k then y else x
 | []=>rfl
 | p::r=>by
  have f:=XI k j y r;rw[jf];by_cases h:p.1=k
  ·rw[zF h]
   by_cases e:p.1=j
   ·rw[ji (p:=(p.1,y)) e,ji e,wv,zF (e.symm.trans h)]
   ·rw[jk (p:=(p.1,y)) e,jk e,f]
  ·rw[zB h]
   by_cases e:p.1=j
   ·rw[ji (p:=p) e,ji e,wv,zB (fun z=>h (e.trans z))]
   ·rw[jk (p:=p) e,jk e,f]
theorem Jb(k j:κ)(y:V):∀b:List (κ×V),qO b k=none->qO (b++[(k,y)]) j=if j=k then some y else qO b j
 | [],_=>by
  by_cases e:k=j
  ·rw[zF e.symm];exact ji (p:=(k,y)) e
  ·rw[zB (fun z=>e z.symm)];exact jk (p:=(k,y)) e
 | p::r,c=>by
  rw[List.cons_append];have hk:¬p.1=k:=fun z=>by rw[ji z] at c;cases c
  rw[jk hk] at c;have f:=Jb k j y r c;by_cases e:p.1=j
  ·rw[ji e,ji e,zB (fun z=>hk (e.trans z))]
  ·rw[jk e,jk e,f]
theorem ZY(b:List (κ×V))(k j:κ)(y:V):qO (xo b k y) j=if j=k then some y else qO b j:=by
 unfold xo;by_cases a:(b.any fun c=>decide (c.1=k))=true
 ·rw[zF a,XI]
  rw[vY] at a;by_cases e:j=k
  ·obtain⟨x,hx⟩:=Option.isSome_iff_exists.mp a
   rw[zF e,e,hx,wv,zF rfl]
  ·rw[zB e]
   cases qO b j with
   | none=>rfl
   | some x=>rw[wv,zB e]
 ·rw[zB a]
  refine Jb k j y b ?_
  rw[vY] at a;cases q:qO b k with
  | none=>rfl
  | some x=>rw[q] at a;exact(a rfl).elim
theorem xC(b:List (κ×V))(k:κ)(v:V):(xo b k v).length<=b.length+1:=by
 unfold xo;split
 ·rw[zv];omega
 ·rw[qR,jv,wY];omega
theorem zb1{b:List (κ×V)}{k:κ}(v:V)(h:qO b k=none):xo b k v=b++[(k,v)]:=by
 unfold xo;rw[vY,h];exact zB (by decide)
theorem RelO.isSome_eq{o:Option V}{u:Option Value}(r:RelO o u):o.isSome=u.isSome:=by
 cases o with
 | none=>cases u with
  | none=>rfl
  | some _=>exact(show False from r).elim
 | some _=>cases u with
  | none=>exact(show False from r).elim
  | some _=>rfl
theorem RelO.getD{o:Option V}{u:Option Value}{d:V}{b:Value}(r:RelO o u)(c:RelV d b):RelV (o.getD d) (u.getD b):=by
 cases o with
 | none=>cases u with
  | none=>exact c
  | some _=>exact(show False from r).elim
 | some _=>cases u with
  | none=>exact(show False from r).elim
  | some _=>exact r
theorem KV.val{c:List (κ×V)}{i:List (κ×Value)}(r:KV c i)(k:κ):RelO (qO c k) (valueAt i k):=by
 unfold KV at r;induction r with
 | nil=>exact True.intro
 | @cons p q o g h t l=>
  obtain⟨h1,h2⟩:=h;by_cases e:p.1=k
  ·have f:q.1=k:=h1.symm.trans e
   have b:valueAt (q::g) k=some q.2:=by simp[valueAt,Zl,f]
   rw[ji e,b];exact h2
  ·have f:¬q.1=k:=fun z=>e (h1.trans z)
   have b:valueAt (q::g) k=valueAt g k:=by simp[valueAt,Zl,f]
   rw[jk e,b];exact l
theorem KV.any{b:List (κ×V)}{f:List (κ×Value)}(r:KV b f)(k:κ):(b.any fun c=>decide (c.1=k))=f.any fun c=>decide (c.1=k):=by
 unfold KV at r;induction r with
 | nil=>rfl
 | cons h t g=>rw[vR,vR,g,h.1]
theorem KV.repl{c:List (κ×V)}{f:List (κ×Value)}(r:KV c f)(k:κ){y:V}{u:Value}(i:RelV y u) :
  KV (c.map fun b=>if b.1=k then(b.1,y) else b) (f.map fun b=>if b.1=k then(b.1,u) else b):=by
 unfold KV at r ⊢;induction r with
 | nil=>exact .nil
 | @cons p q l o h t g=>
  rw[jf,jf];refine .cons ?_ g
  obtain⟨h1,h2⟩:=h;by_cases e:p.1=k
  ·rw[zF e,zF (h1.symm.trans e)];exact⟨h1,i⟩
  ·rw[zB e,zB (fun z=>e (h1.trans z))];exact⟨h1,h2⟩
theorem KV.put{b:List (κ×V)}{c:List (κ×Value)}(r:KV b c)(k:κ){y:V}{u:Value}(f:RelV y u):KV (xo b k y) (stored c k u):=by
 unfold xo stored;rw[r.any k];by_cases e:(c.any fun g=>decide (g.1=k))=true
 ·rw[zF e,zF e];exact r.repl k f
 ·rw[zB e,zB e];exact Paired.snoc r ⟨rfl,f⟩
theorem KV.drop{c:List (κ×V)}{g:List (κ×Value)}(r:KV c g)(k:κ):KV (zeK c k) (without g k):=by
 unfold KV at r ⊢;unfold zeK without;induction r with
 | nil=>exact .nil
 | @cons p q l o h t f=>
  obtain⟨h1,h2⟩:=h;rw[List.filter_cons,List.filter_cons];by_cases e:p.1=k
  ·have a:¬decide (p.1≠k)=true:=by simp[e]
   have b:¬decide (q.1≠k)=true:=by simp[h1.symm.trans e]
   rw[zB a,zB b];exact f
  ·have i:¬q.1=k:=fun z=>e (h1.trans z)
   have a:decide (p.1≠k)=true:=by simp[e]
   have b:decide (q.1≠k)=true:=by simp[i]
   rw[zF a,zF b];exact .cons ⟨h1,h2⟩ f
theorem KV.keys{b:List (κ×V)}{c:List (κ×Value)}(r:KV b c):b.map (·.1)=c.map (·.1):=by
 unfold KV at r;induction r with
 | nil=>rfl
 | cons h t f=>rw[jf,jf,f,h.1]
theorem KV.length{b:List (κ×V)}{c:List (κ×Value)}(r:KV b c):b.length=c.length:=Xl r
end
theorem wG{P:Program}{w:World}{k:Key}{u:Value}(r:RelV (kV k) u):(qL P w).is k u=true:=by
 cases k with
 | inl i=>obtain⟨t,e⟩:=(show ∃t,u=Value.int i t from r);subst e;exact Vk P w i t
 | inr x=>obtain⟨t,e⟩:=(show ∃t,u=Value.str x t from r);subst e;exact Vj P w x t
theorem yW{P:Program}{w:World}:∀{b:List Key} {c:List Value},Vals (b.map kV) c->ItemsAre (qL P w) b c
 | [],_,r=>by rw[Xj] at r;cases r;exact .nil
 | k::b,_,r=>by
  rw[jf] at r;cases r with
  | cons h t=>exact .cons (wG h) (yW t)
abbrev KT(H:Hp):List (List Key×V)->List (List Key×Addr×Value)->Prop:=Paired fun p q=>p.1=q.1/\H q.2.1=some (.tup (p.1.map kV))/\RelV p.2 q.2.2
theorem KT.val{H:Hp}{c:List (List Key×V)}{i:List (List Key×Addr×Value)}(r:KT H c i)(k:List Key):RelO (qO c k) ((atKey i k).map (·.2)):=by
 induction r with
 | nil=>exact True.intro
 | @cons p q o g h t l=>
  obtain⟨h1,_,h2⟩:=h;by_cases e:p.1=k
  ·have f:q.1=k:=h1.symm.trans e
   have b:atKey (q::g) k=some q.2:=by simp[atKey,Zl,f]
   rw[ji e,b];exact h2
  ·have f:¬q.1=k:=fun z=>e (h1.trans z)
   have b:atKey (q::g) k=atKey g k:=by simp[atKey,Zl,f]
   rw[jk e,b];exact l
theorem KT.repl{H:Hp}{b:List (List Key×V)}{f:List (List Key×Addr×Value)}(r:KT H b f)(k:List Key){y:V}{u:Value}(i:RelV y u) :
  KT H (b.map fun c=>if c.1=k then(c.1,y) else c) (f.map (putAt k u)):=by
 induction r with
 | nil=>exact .nil
 | @cons p q l o h t g=>
  rw[jf,jf];refine .cons ?_ g
  obtain⟨h1,h2,h3⟩:=h;unfold putAt;by_cases e:p.1=k
  ·rw[zF e,zF (h1.symm.trans e)];exact⟨h1,h2,i⟩
  ·rw[zB e,zB (fun z=>e (h1.trans z))];exact⟨h1,h2,h3⟩
theorem KT.put{H:Hp}{c:List (List Key×V)}{f:List (List Key×Addr×Value)}(r:KT H c f)(k:List Key){b:Addr}{y:V}{u:Value}(hb:H b=some (.tup (k.map kV)))(g:RelV y u) :
  KT H (xo c k y) (storedH f k b u):=by
 have e:(c.any fun i=>decide (i.1=k))=(atKey f k).isSome:=by
  rw[vY,(r.val k).isSome_eq,Wu]
 unfold xo storedH;rw[e];by_cases q:(atKey f k).isSome=true
 ·rw[zF q,zF q];exact r.repl k g
 ·rw[zB q,zB q];exact Paired.snoc r ⟨rfl,hb,g⟩
theorem KT.keeps{H f:Hp}{c:List (List Key×V)}{g:List (List Key×Addr×Value)}(r:KT H c g)(l:∀b i,H b=some (.tup i)->f b=some (.tup i)):KT f c g:=
 Paired.mapP r fun _ _ z=>⟨z.1,l _ _ z.2.1,z.2.2⟩
section
variable{P:Program}{w:World}{H:Hp}{h:Heap}{a:Addr}
theorem zeB{u:HO}(ok:HOk P w H h)(e:Rd H a u):ObjOk P w H h a u:=e.ok ok
theorem Qq{b:List (Key×V)}(ok:HOk P w H h)(e:Rd H a (.dK b)):b.length<=sizeLine/\(a==sysModules)=false/\∃c,KV b c/\h.DictOf (qL P w) a c:=
 show ObjOk P w H h a (.dK b) from zeB ok e
theorem zcI{b:List (Key×V)}(ok:HOk P w H h)(e:H a=some (.dK b)):b.length<=sizeLine/\(a==sysModules)=false/\∃c,KV b c/\h.DictOf (qL P w) a c:=Qq ok (.inl e)
theorem yV{c:List Key}(ok:HOk P w H h)(e:H a=some (.tup (c.map kV))):(tupleKind (qL P w)).is h c a:=by
 obtain⟨_,b,r,⟨o,h1,h2,n,h3⟩,_⟩:=(show ObjOk P w H h a (.tup (c.map kV)) from ok a _ e)
 exact⟨o,b.toArray,n,h1,h2,h3,by simpa using yW r⟩
theorem Qp{b:List (List Key×V)}(ok:HOk P w H h)(e:Rd H a (.dT b)):b.length<=sizeLine/\(a==sysModules)=false /\
  ∃c,KT H b c/\h.DictOfH (tupleKind (qL P w)) a c:=by
 obtain⟨z,y,c,r,o,g,f,h1,h2,h3,i,s⟩:=(show ObjOk P w H h a (.dT b) from zeB ok e)
 refine⟨z,y,c,r,o,g,f,h1,h2,h3,i,fun x hx=>?_,s⟩
 have all:∀{l:List (List Key×V)} {m:List (List Key×Addr×Value)},KT H l m->∀x∈m,(tupleKind (qL P w)).is h x.1 x.2.1:=by
  intro l m q;induction q with
  | nil=>intro x hx;exact nomatch hx
  | @cons p q A B hq t u=>
   intro x hx;rcases z9.mp hx with e | hx
   ·subst e
    exact yV ok (by rw[<- hq.1];exact hq.2.1)
   ·exact u x hx
 exact all r x hx
theorem zhc{b:List (List Key×V)}(ok:HOk P w H h)(e:H a=some (.dT b)):b.length<=sizeLine/\(a==sysModules)=false /\
  ∃c,KT H b c/\h.DictOfH (tupleKind (qL P w)) a c:=Qp ok (.inl e)
end
def DGet(H:Hp)(a:Addr)(y:V)(r:Option V):Prop:=
 (∃c k,Rd H a (.dK c)/\y=kV k/\r=qO c k)\/∃c k b,Rd H a (.dT c)/\y=.ref b/\H b=some (.tup (k.map kV))/\r=qO c k
def DPut(H:Hp)(a:Addr)(y v:V)(f:Hp):Prop:=
 (∃c k,H a=some (.dK c)/\y=kV k/\c.length<sizeLine/\f=upd H a (.dK (xo c k v))) \/
 ∃c k b,H a=some (.dT c)/\y=.ref b/\H b=some (.tup (k.map kV))/\c.length<sizeLine/\f=upd H a (.dT (xo c k v))
theorem DGet.k{H:Hp}{a:Addr}{b:List (Key×V)}{k:Key}(e:H a=some (.dK b)):DGet H a (kV k) (qO b k):=.inl ⟨b,k,.inl e,rfl,rfl⟩
theorem DGet.t{H:Hp}{a b:Addr}{c:List (List Key×V)}{k:List Key}(e:H a=some (.dT c))(f:H b=some (.tup (k.map kV))):DGet H a (.ref b) (qO c k):=.inr ⟨c,k,b,.inl e,rfl,f,rfl⟩
theorem DPut.k{H:Hp}{a:Addr}{b:List (Key×V)}{k:Key}{v:V}(e:H a=some (.dK b))(c:b.length<sizeLine):DPut H a (kV k) v (upd H a (.dK (xo b k v))):=.inl ⟨b,k,e,rfl,c,rfl⟩
theorem DPut.t{H:Hp}{a b:Addr}{c:List (List Key×V)}{k:List Key}{v:V}(e:H a=some (.dT c))(f:H b=some (.tup (k.map kV)))(g:c.length<sizeLine) :
  DPut H a (.ref b) v (upd H a (.dT (xo c k v))):=.inr ⟨c,k,b,e,rfl,f,g,rfl⟩
section
variable{X:Cx}{f:List (Addr×Obj)}{σ:St}{H:Hp}{s:Shared}{a:Addr}{y v:V}{u r:Value}{o:Option V}{A:Around}{E:Value->Shared->Prop}
theorem Inv.big(I:Inv X f σ H s):sysModules<s.heap.objs.size:=by
 have h:mainGlobals<s.heap.objs.size:=(I.mod.glob.keeps I.bk).lt;exact QG (by decide) h
theorem zaZ{Q:Value->Shared->Prop}(hu:A.units+1<cLine)(I:Inv X f σ H s)(g:DGet H a y (some v))(M:RelV y u)(h:∀w N,Inv X f σ H N->RelV v w->Q w N) :
  wpAny (model X.prog X.w) A (getItem (.ref a) u) Q E s:=by
 rcases g with ⟨L,k,e,D,l⟩ | ⟨L,k,b,e,D,O,l⟩
 ·subst D
  obtain⟨z,T,U,c,B⟩:=Qq I.hok e;obtain⟨w,J,i⟩:=RelO.some_of (v:=v) (o:=valueAt U k) (by rw[l];exact c.val k)
  exact wpAny_getItem_of (wG M) B.mapOf J (h w _ (I.tok _) i)
 ·subst D
  cases(show u=Value.ref b from M)
  obtain⟨z,T,Y,c,B⟩:=Qp I.hok e;obtain⟨w,J,i⟩:=RelO.some_of (v:=v) (o:=(atKey Y k).map (·.2)) (by rw[l];exact c.val k)
  obtain⟨p,hp,G⟩:=jN.mp J;refine wpAny_getItem_heap (tupleKind_room_in1 hu) (yV I.hok O) B hp ?_
  rw[G];exact h w _ (I.tok _) i
theorem zhK{Q:Value->Shared->Prop}(hu:A.units+1<cLine)(I:Inv X f σ H s)(g:DGet H a y o)(G:RelV y u)(h:∀J,Inv X f σ H J->Q (.bool o.isSome) J) :
  wpAny (model X.prog X.w) A (compareOp .In u (.ref a)) Q E s:=by
 rcases g with ⟨D,k,e,w,l⟩ | ⟨D,k,b,e,w,L,l⟩
 ·subst w
  obtain⟨z,B,M,c,i⟩:=Qq I.hok e;refine wpAny_in_of (wG G) B i.mapOf ?_
  rw[<- (c.val k).isSome_eq,<- l];exact h _ (I.tok _)
 ·subst w
  cases(show u=Value.ref b from G)
  obtain⟨z,B,N,c,i⟩:=Qp I.hok e;refine wpAny_in_heap (tupleKind_room_in1 hu) (yV I.hok L) B i ?_
  have q:=(c.val k).isSome_eq;rw[Wu] at q;rw[<- q,<- l];exact h _ (I.tok _)
theorem zdY{Q:Value->Shared->Prop}(hu:A.units+1<cLine)(I:Inv X f σ H s)(g:DGet H a y o)(G:RelV y u)(h:∀J,Inv X f σ H J->Q (.bool (!o.isSome)) J) :
  wpAny (model X.prog X.w) A (compareOp .NotIn u (.ref a)) Q E s:=by
 rcases g with ⟨D,k,e,w,l⟩ | ⟨D,k,b,e,w,L,l⟩
 ·subst w
  obtain⟨z,B,M,c,i⟩:=Qq I.hok e;refine wpAny_notIn_of (wG G) B i.mapOf ?_
  rw[<- (c.val k).isSome_eq,<- l];exact h _ (I.tok _)
 ·subst w
  cases(show u=Value.ref b from G)
  obtain⟨z,B,N,c,i⟩:=Qp I.hok e;refine wpAny_notIn_heap (tupleKind_room_in1 hu) (yV I.hok L) B i ?_
  have q:=(c.val k).isSome_eq;rw[Wu] at q;rw[<- q,<- l];exact h _ (I.tok _)
theorem ZW{c:Heap}{D:Nat}{i:HO}(I:Inv X f σ H s)(B:Mut (H a))(w:Heap.SameBut a s.heap c)(l:∃q,c.get? a=some q)(g:ObjOk X.prog X.w (upd H a i) c a i) :
  Inv X f σ (upd H a i) { s with heap:=c,toks:=D }:=
 I.write (x:=a) (e:=a) B (.inl rfl) (fun b q hb z=>(w.2 b hb).trans z) l g
theorem Wi{P:Program}{w:World}{l:Hp}{i:Heap}{b:List (Key×V)}{g:List (Key×Value)}(z:b.length<=sizeLine)(D:(a==sysModules)=false)(c:KV b g)(B:i.DictOf (qL P w) a g) :
  ObjOk P w l i a (.dK b):=⟨z,D,g,c,B⟩
theorem zaY{U:Hp}{Q:Unit->Shared->Prop}(hu:A.units+1<cLine)(I:Inv X f σ H s)(g:DPut H a y v U)(ry:RelV y u)(rv:RelV v r)(h:∀s',Inv X f σ U s'->Q () s') :
  wpAny (model X.prog X.w) A (setItem (.ref a) u r) Q E s:=by
 rcases g with ⟨i,k,e,J,l,G⟩ | ⟨i,k,b,e,J,Y,l,G⟩
 ·subst J G
  obtain⟨z,L,vs,w,D⟩:=zcI I.hok e;have T:vs.length<=sizeLine:=by rw[<- w.length];exact z
  have M:(xo i k v).length<=sizeLine:=by have:=xC i k v;omega
  refine wpAny_setItem_pairs (hsz:=T) (wG ry) D fun h' B N=>h _ ?_
  have he:∃q,h'.get? a=some q:=let ⟨q,_,_,hq,_⟩:=B;⟨q,hq⟩
  exact ZW I (by rw[e];exact True.intro) N he (Wi M L (w.put k rv) B)
 ·subst J G
  cases(show u=Value.ref b from ry)
  obtain⟨z,L,xs,w,D⟩:=zhc I.hok e;have T:xs.length<=sizeLine:=by rw[<- Xl w];exact z
  have M:(xo i k v).length<=sizeLine:=by have:=xC i k v;omega
  refine wpAny_setItem_heap (hsz:=T) (tupleKind_room_in1 hu) (yV I.hok Y) D fun h' B N=>h _ ?_
  obtain⟨q,es,ep,hq,h2,h3,h4,_,h5⟩:=B;refine ZW I (by rw[e];exact True.intro) N ⟨q,hq⟩ ⟨M,L,_,(w.put k Y rv).keeps fun c ys ec=>?_,q,es,ep,hq,h2,h3,h4,h5⟩
  rw[zt (Vh ec e (fun z=>nomatch z))]
  exact ec
end
section
variable{X:Cx}{b:List (Addr×Obj)}{σ:St}{H:Hp}{s:Shared}{a:Addr}{c:List (Key×V)}{k:Key}{u:Value}{A:Around}{E:Value->Shared->Prop}
end
def zhk(i:Expr):Prop:=∀c b,subscripted i false c b=operate [c,b] (getItem c b)
theorem zde{b:Program}{w:World}{A:Around}{E:Value->Shared->Prop}{s:Shared}{g:Env}{f c:Expr}{D:Pos}{T id:String}{Q:Value->Shared->Prop}
  (J:typeLookup (.type T) "__getitem__" = pure (some (.builtin id))) (L:zhk c)
  (h:wpAny (model b w) A (eval f g) (fun o H=>wpAny (model b w) A (eval c g) (fun i u=>u.TypeIs o T/\wpAny (model b w) A (getItem o i) Q E u) E H) E s) :
  wpAny (model b w) A (eval (.Subscript f c D) g) Q E s:=by
 refine Subscript_ (jC h (fun o H M=>jC M (fun i u B=>?_) fun _ _ x=>x) fun _ _ x=>x)
 obtain⟨G,B⟩:=B;unfold subscriptTail;refine zn ?_
 rw[getitemInPython_of_ne G.not_modules];refine zn (Zk G J ?_)
 have l:wpAny (model b w) A (subscripted c false o i) (fun r I=>wpAny (model b w) A (letTemporaryGo f o r >>= fun _=>pure r) Q E I) E u:=by
  rw[L o i];exact wpAny_operating (jC B (fun r I N=>zn (wpAny_letTemporaryGo (zy N))) fun _ _ x=>x)
 first
  | exact zy (zn l)
  | exact zn (zy (zn l))
  | exact zn l
theorem VE{X:Cx}{c:List (Addr×Obj)}{σ:St}{H:Hp}{s:Shared}{a:Addr}{y:V}{o:Option V}(I:Inv X c σ H s)(g:DGet H a y o):s.TypeIs (.ref a) "dict" :=by
 rcases g with ⟨i,k,e,_,_⟩ | ⟨i,k,b,e,_,_,_⟩
 ·obtain⟨_,_,l,_,f⟩:=Qq I.hok e
  exact f.typeIs
 ·obtain⟨_,_,u,_,f⟩:=Qp I.hok e
  exact f.typeIs
def zf9(f ty:TE):TE:=fun σ H Q=>f σ H fun x c=>ty σ c fun y b=>∃a v,x=.ref a/\DGet b a y (some v)/\Q v b
def zhv(ty f:TE):TE:=fun σ H Q=>ty σ H fun y c=>f σ c fun x b=>∃a o,x=.ref a/\DGet b a y o/\Q (.bl o.isSome) b
def zdc(ty f:TE):TE:=fun σ H Q=>ty σ H fun y c=>f σ c fun x b=>∃a o,x=.ref a/\DGet b a y o/\Q (.bl (!o.isSome)) b
def zgt(i ty l:TE):TS:=fun D σ H=>l σ H fun v c=>i σ c fun x f=>ty σ f fun y g=>∃a b,x=.ref a/\DPut g a y v b/\D.nx σ b
section
variable{X:Cx}{o i e b:Expr}{l c w:Pos}{f ty A:TE}
theorem J4(hu:X.A.units+1<cLine)(T:PE X o f)(O:PE X i ty)(U:zhk i):PE X (.Subscript o i l) (zf9 f ty):=by
 intro B s σ H Q I h;refine zde PySem.F.slot_dict_getitem.lookup U (thn (T B s σ H _ I h) fun u s1 ⟨x,G,L,Y,q1⟩=>thn (O B s1 σ G _ L q1) fun iv s2 ⟨y,J,E,ry,a,v,N,g,q2⟩=>?_)
 subst N;obtain rfl:u=Value.ref a:=Y;exact⟨VE E g,zaZ hu E g ry fun w' s3 M D=>⟨v,J,M,D,q2⟩⟩
theorem zfe(hu:X.A.units+1<cLine)(N:PE X i ty)(O:PE X o f):PC X .In i o (zhv ty f):=by
 intro B s σ H Q I h;refine thn (N B s σ H _ I h) fun iv s1 ⟨y,D,G,Y,q1⟩=>thn (O B s1 σ D _ G q1) fun u s2 ⟨x,E,J,U,a,T,M,g,q2⟩=>?_
 subst M;obtain rfl:u=Value.ref a:=U;exact zhK hu J g Y fun s3 L=>⟨.bl T.isSome,E,L,rfl,q2⟩
theorem zaD(hu:X.A.units+1<cLine)(N:PE X i ty)(O:PE X o f):PC X .NotIn i o (zdc ty f):=by
 intro B s σ H Q I h;refine thn (N B s σ H _ I h) fun iv s1 ⟨y,D,G,Y,q1⟩=>thn (O B s1 σ D _ G q1) fun u s2 ⟨x,E,J,U,a,T,M,g,q2⟩=>?_
 subst M;obtain rfl:u=Value.ref a:=U;exact zdY hu J g Y fun s3 L=>⟨.bl (!T.isSome),E,L,rfl,q2⟩
theorem zdn(hu:X.A.units+1<cLine)(U:PE X o f)(T:PE X i ty)(hv:PE X b A)(Y:swapsWith b (some (.Subscript o i c)) l.line X.env=pure false) :
  PS X (.Assign [.Subscript o i c] b l) (zgt f ty A):=by
 intro B s σ H D I h;refine wpAny_Assign_Subscript (thn (hv B s σ H _ I h) fun r s1 ⟨v,E,L,rv,q1⟩=>thn (U B s1 σ E _ L q1) fun u s2 ⟨x,G,M,rx,q2⟩=>thn (T B s2 σ G _ M q2) fun iv s3 ⟨y,H3,N,ry,a,J,Q,g,q3⟩=>?_) Y
 subst Q;obtain rfl:u=Value.ref a:=rx;exact zaY hu N g ry rv fun s4 O=>⟨σ,J,O,q3⟩
end
theorem VD{P:Program}{w:World}{H:Hp}(h:Heap)(hb:sysModules<h.objs.size):ObjOk P w H (h.push { cls:=.type "dict",data:=.dict #[] }) h.objs.size (.dK []):=
 ⟨zY _,beq_eq_false_iff_ne.mpr (qA (qz hb)),[],.nil,Heap.DictOf.new h⟩
def zeV:TE:=fun _ H Q=>∀p,H p=none->Q (.ref p) (upd H p (.dK []))
section
variable{X:Cx}{b:Pos}
theorem zca:PE X (.Dict [] [] b) zeV:=fun c s σ H Q I h=>
 wpAny_Dict_empty ⟨.ref s.heap.objs.size,_,I.laid (a:=s.heap.objs.size) (o:=.dK []) (t':=s.toks) (fun _ _ q=>qw _ q) (zi _) (VD s.heap I.big),rfl,h _ (I.hok.fresh (zi _))⟩
end
def VZ:List (TE×TE)->St->Hp->(List (V×V)->Hp->Prop)->Prop
 | [],_,H,Q=>Q [] H
 | (i,l)::r,σ,H,Q=>i σ H fun x b=>l σ b fun y c=>VZ r σ c fun g f=>Q ((x,y)::g) f
abbrev VV:List (V×V)->List (Value×Value)->Prop:=Paired fun p q=>RelV p.1 q.1/\RelV p.2 q.2
def PPs(X:Cx)(g:Pos)(f:List (Option Expr))(b:List Expr)(i:List (TE×TE)):Prop:=
 ∀(c:List (Addr×Obj)) (s:Shared) (σ:St) (H:Hp) (Q:List (V×V)->Hp->Prop),Inv X c σ H s->VZ i σ H Q ->
  wpAny (model X.prog X.w) X.A (evalPairs (pairTrees f b X.env g)) (fun w u=>∃o l,Inv X c σ l u/\VV o w/\Q o l) X.xe s
theorem zdo{X:Cx}{b:Pos}:PPs X b [] [] []:=fun c s σ H Q I h=>pairTrees_nil_walk ⟨[],H,I,.nil,h⟩
theorem zb4{X:Cx}{c:Pos}{k v:Expr}{i:List (Option Expr)}{w:List Expr}{l o:TE}{f:List (TE×TE)}(hk:PE X k l)(hv:PE X v o)(L:PPs X c i w f) :
  PPs X c (some k::i) (v::w) ((l,o)::f):=fun b s σ H Q I h=>
 pairTrees_cons_walk (thn (hk b s σ H _ I h) fun u s1 ⟨x,A,E,N,q1⟩=>thn (hv b s1 σ A _ E q1) fun U s2 ⟨y,B,G,O,q2⟩=>
  thn (L b s2 σ B _ G q2) fun Y T ⟨M,D,J,g,q3⟩=>⟨(x,y)::M,D,J,.cons ⟨N,O⟩ g,q3⟩)
def vG(c more:List (Key×V)):List (Key×V):=more.foldl (fun b f=>xo b f.1 f.2) c
theorem KV.merge:∀{more:List (Key×V)} {f:List (Key×Value)} {b:List (Key×V)} {c:List (Key×Value)},KV more f->KV b c->KV (vG b more) (merged c f):=by
 intro more f b c r;unfold KV at r;induction r generalizing b c with
 | nil=>intro q;exact q
 | @cons p q l o h t g=>
  intro i;have e:KV (xo b p.1 p.2) (stored c q.1 q.2):=by
   have:=i.put p.1 h.2;rw[<- h.1];exact this
  exact g e
theorem wF:∀(more b:List (Key×V)),(vG b more).length<=b.length+more.length
 | [],b=>by show b.length<=b.length+0;omega
 | p::r,b=>by
  have h1:=wF r (xo b p.1 p.2);have h2:=xC b p.1 p.2;show(vG (xo b p.1 p.2) r).length<=_;rw[jv];omega
theorem Qs{P:Program}{w:World}:∀{f:List (Key×V)} {l:List (Value×Value)},VV (f.map fun i=>(kV i.1,i.2)) l->∃g,Carries (qL P w) l g/\KV f g
 | [],_,r=>by rw[Xj] at r;cases r;exact⟨[],True.intro,.nil⟩
 | p::f,_,r=>by
  rw[jf] at r;cases r with
  | @cons a b o s h t=>
   obtain⟨g,c,q⟩:=Qs (P:=P) (w:=w) t;obtain⟨b1,b2⟩:=b;exact⟨(p.1,b2)::g,⟨wG h.1,rfl,c⟩,.cons ⟨rfl,h.2⟩ q⟩
def zf8(c:List (TE×TE)):TE:=fun σ H Q=>∀p,H p=none->VZ c σ (upd H p (.dK [])) fun i f=>f p=some (.dK [])/\∃b:List (Key×V),i=b.map (fun g=>(kV g.1,g.2))/\b.length<=15/\Q (.ref p) (upd f p (.dK (vG [] b)))
theorem zdt{X:Cx}{A:Pos}{b:List (Option Expr)}{f:List Expr}{B:List (TE×TE)}(h:PPs X A b f B)(i:b.all (·.isSome)=true)(U:b.length=f.length)(h0:b≠[])
  (D:b.length<=15):PE X (.Dict b f A) (zf8 B):=by
 intro u s σ H Q I q;have Y:=I.hok.fresh (zi s.heap.objs.size);have L:=I.laid (a:=s.heap.objs.size) (o:=.dK []) (h':=s.heap.push { cls:=.type "dict",data:=.dict #[] }) (t':=s.toks) (fun _ _ q=>qw _ q) (zi _) (VD s.heap I.big)
 refine wpAny_Dict_walk (knd:=qL X.prog X.w) i U h0 D (thn (h u _ σ _ _ L (q _ Y)) fun ws s2 ⟨ps,H2,G,E,e,l,N,lk,q2⟩=>?_)
 subst N;obtain⟨rs,c,rk⟩:=Qs (P:=X.prog) (w:=X.w) E;obtain⟨z,O,a7,r0,M⟩:=zcI G.hok e;cases r0;refine⟨rs,c,M,fun J g hs=>⟨.ref s.heap.objs.size,_,?_,rfl,q2⟩⟩
 have hz:(vG [] l).length<=sizeLine:=by
  have h1:=wF l [];rw[wY] at h1;rw[sizeLine_eq];omega
 have T:∃q,J.get? s.heap.objs.size=some q:=let ⟨q,_,_,hq,_⟩:=g;⟨q,hq⟩
 exact ZW G (by rw[e];exact True.intro) hs T (Wi hz O (rk.merge .nil) g)
structure M1(X:Cx)(o:Expr)(m:Str)(apos:Pos)(e:Expr)(cpos:Pos):Prop where
 base:attributeBase o m X.env (eval o X.env)=eval o X.env
 few:((backTo cpos (starEach [e] X.env)).all (fun x=>!x.1)&&(backToKw cpos (keywordEach [] X.env)).all (fun x=>x.1.isSome)
  && decide (([e]:List Expr).length+([]:List Keyword).length+(if([]:List Keyword).isEmpty then 0 else 1)<30))=true
 line:(apos.endLine==cpos.line)=true
 trees:backTo cpos (starEach [e] X.env)=[(false,eval e X.env)]
structure M2(X:Cx)(o:Expr)(m:Str)(apos:Pos)(e f:Expr)(cpos:Pos):Prop where
 base:attributeBase o m X.env (eval o X.env)=eval o X.env
 few:((backTo cpos (starEach [e,f] X.env)).all (fun x=>!x.1)&&(backToKw cpos (keywordEach [] X.env)).all (fun x=>x.1.isSome)
  && decide (([e,f]:List Expr).length+([]:List Keyword).length+(if([]:List Keyword).isEmpty then 0 else 1)<30))=true
 line:(apos.endLine==cpos.line)=true
 trees:backTo cpos (starEach [e,f] X.env)=[(false,eval e X.env),(false,eval f X.env)]
def IsD(H:Hp)(a:Addr):Prop:=(∃b,Rd H a (.dK b))\/∃b,Rd H a (.dT b)
theorem zcz{X:Cx}{g:List (Addr×Obj)}{σ:St}{H:Hp}{s:Shared}{a:Addr}(I:Inv X g σ H s)(d:IsD H a) :
  s.TypeIs (.ref a) "dict" /\ (∀b,Value.ref a=.ref b->∃c,s.heap.get? b=some c/\c.dict=none)/\(a==sysModules)=false:=by
 rcases d with ⟨l,e⟩ | ⟨l,e⟩
 ·obtain⟨_,i,o,_,f⟩:=Qq I.hok e
  refine⟨f.typeIs,fun b q=>?_,i⟩
  cases q;obtain⟨c,_,_,h1,h2,_⟩:=f;exact⟨c,h1,h2.2.1⟩
 ·obtain⟨_,i,u,_,f⟩:=Qp I.hok e
  refine⟨f.typeIs,fun b q=>?_,i⟩
  cases q;obtain⟨c,_,_,h1,h2,_⟩:=f;exact⟨c,h1,h2.2.1⟩
section
variable{X:Cx}{c:List (Addr×Obj)}{σ:St}{H:Hp}{s:Shared}{a:Addr}{y d:V}{u r:Value}{o:Option V}{A:Around}{E:Value->Shared->Prop}
theorem zfO{Q:Value->Shared->Prop}(hu:A.units+1<cLine)(I:Inv X c σ H s)(g:DGet H a y o)(J:RelV y u)(G:RelV d r)(h:∀M L,Inv X c σ H L->RelV (o.getD d) M->Q M L) :
  wpAny (model X.prog X.w) A (call (.builtin "dict.get") [.ref a,u,r]) Q E s:=by
 rcases g with ⟨D,k,e,w,l⟩ | ⟨D,k,b,e,w,N,l⟩
 ·subst w
  obtain⟨z,B,T,f,i⟩:=Qq I.hok e;refine call_meetsIn WJ i.typeIs PySem.F.entry_dict_get (PySem.F.args_dict_get_3 _ _ _) (meets_dict_get_default (qL X.prog X.w) a (wG J) B r) ⟨_,i.mapOf,h _ _ (I.tok _) ?_⟩
  rw[l];exact(f.val k).getD G
 ·subst w
  cases(show u=Value.ref b from J)
  obtain⟨z,B,O,f,i⟩:=Qp I.hok e;refine call_meetsIn WJ i.typeIs PySem.F.entry_dict_get (PySem.F.args_dict_get_3 _ _ _) (meetsH_dict_get_default (tupleKind (qL X.prog X.w)) a b B r) ⟨tupleKind_room_in1 hu,k,O,yV I.hok N,i,h _ _ (I.tok _) ?_⟩
  rw[l];exact(f.val k).getD G
end
def zeW(g ty i:TE):TE:=fun σ H Q=>g σ H fun x b=>∃a,x=.ref a/\IsD b a/\ty σ b fun y f=>i σ f fun z c=>∃o,DGet c a y o/\Q (o.getD z) c
section
variable{X:Cx}{o e f:Expr}{b c:Pos}{i ty l:TE}
theorem Vd(hu:X.A.units+1<cLine)(U:PE X o i)(O:PE X e ty)(T:PE X f l)(m:M2 X o "get" b e f c):PE X (.Call (.Attribute o "get" b) [e,f] [] c) (zeW i ty l):=by
 intro w s σ H Q I h;refine wpAny_Call_method m.base m.few m.line PySem.F.plainAttrs_dict WJ PySem.F.type_dict_get (thn (U w s σ H _ I h) fun u s1 ⟨x,D,B,Y,a,N,d,q1⟩=>?_)
 subst N;obtain rfl:u=Value.ref a:=Y;obtain⟨t1,t2,_⟩:=zcz B d;refine⟨t1,t2,?_⟩
 rw[m.trees];refine WN rfl (WI (Zr (thn (O w s1 σ D _ B q1) fun iv s2 ⟨y,E,J,ry,q2⟩=>
  Zr (thn (T w s2 σ E _ J q2) fun fv s3 ⟨z,G,L,rz,ov,g,q3⟩=>Xu ?_))))
 exact zfO hu L g ry rz fun w' s4 M A=>⟨_,G,M,A,q3⟩
end
section
variable{X:Cx}{b:List (Addr×Obj)}{σ:St}{H:Hp}{s:Shared}{a:Addr}{c:List (Key×V)}{A:Around}{E:Value->Shared->Prop}
end
section
variable{X:Cx}{b:List (Addr×Obj)}{σ:St}{H:Hp}{s:Shared}{a:Addr}{y:V}{u:Value}{A:Around}{E:Value->Shared->Prop}
end
end L2
namespace PySem
open PySem PySem.W PySem.Calls PyProof.Rows PyProof.V PySem.Spec
end PySem
namespace L2
open PySem PySem.Spec PyProof.Rows
section
variable{X:Cx}
end
section
variable{X:Cx}{b:Expr}
end
section
variable{X:Cx}
end
section
variable{X:Cx}
variable{e st:Expr}{f:TE}{g:TO}{b c:Pos}
end
end L2
namespace PySem
def RawD(h:Heap)(d:Addr)(c:Array DictEntry)(b:Nat):Prop:=∃o,h.get? d=some o/\o.ExactDict/\o.data=.dict c b
theorem RawD.at{h g:Heap}{d:Addr}{f:Array DictEntry}{c:Nat}(x:RawD h d f c)(e:∀o,h.get? d=some o->g.get? d=some o):RawD g d f c:=let ⟨o,a,b⟩:=x;⟨o,e _ a,b⟩
section
variable{b:Program}{w:World}{A:Around}{E:Value->Shared->Prop}{s:Shared}{d g:Addr}{f:Array DictEntry}{c i:Nat}
end
end PySem
namespace L2
open PySem PySem.Spec PyProof.Rows
section
variable{X:Cx}{b:Expr}
end
section
variable{b:Program}{w:World}{A:Around}{R:Result->Shared->Prop}{s:Shared}
end
def DPutT(H:Hp)(D:Addr)(y v:V)(f:Hp):Prop:=∃c k b,H D=some (.dT c)/\y=.ref b/\H b=some (.tup (k.map kV))/\c.length<sizeLine/\f=upd H D (.dT (xo c k v))
theorem DPutT.t{H:Hp}{a b:Addr}{c:List (List Key×V)}{k:List Key}{v:V}(e:H a=some (.dT c))(f:H b=some (.tup (k.map kV)))(g:c.length<sizeLine):DPutT H a (.ref b) v (upd H a (.dT (xo c k v))):=⟨c,k,b,e,rfl,f,g,rfl⟩
section
variable{X:Cx}{O vx L w:Expr}{A:List Expr}{T D:Expr}{E:List Expr}{f:Scope}{G:Pos}{wi M:TI}{g N:TG}{Q J:TT}{U Y:TE}
theorem Wn{a7:List (Addr×Obj)}{σ:St}{H:Hp}{s:Shared}{fp:List Addr}(own fr:List Str)(js:List Nat)(I:Inv X a7 σ H s)(B:zc7 f.names X.env.scope.names X.N fr js)(hk:f.kind=.function)
  (f2:∀b∈fp,vc X a7 H b) (fl:∀b∈fp,b<s.heap.objs.size) {C:Addr} (hC:C=s.heap.objs.size) {h1:Heap} {m:Str->Option Value} (ac:h1.Ns C m) (k4:∀b o,s.heap.get? b=some o->h1.get? b=some o) {t4:Nat} :
  Inv (qE X (own++fr) f C s H fp) [] (upS own.length js σ) H { s with heap:=h1,toks:=t4 }:=by
 have a6:∀y∈f.names,y.2=NameKind.free->∃c,X.env.cells.lookup y.1=some c:=fun y hy e=>I.ok.has y.1 (B.free y hy e)
 refine⟨⟨I.ok.mod,hk,I.ok.glob,I.ok.blt,wq hC.symm,fun x y c e1 e2=>?_,fun x hx=>?_,fun x c hf=>(nomatch hf),fun hc=>I.ok.hd hc,I.ok.frames,.inl rfl,fun b hb=>?_,I.bs,qk I.ok.bsz I.sz,fun b o e hb=>?_,fun b hb hf=>?_,I.stack,I.stkFree⟩,
  rfl,I.bare,Un.kept k4,⟨m,ac,fun i x v e1 e2 ae=>?_⟩,fun x c e=>?_,?_,fun x c e=>?_,fun p hp=>absurd (show p∈([]:List (Addr×Obj)) from hp) (by simp),I.hok.kept k4,?_⟩
 ·exact I.ok.inj x y c (qJ e1 a6) (qJ e2 a6)
 ·obtain⟨k,e,z⟩:∃k,f.names.lookup x=some k/\(k=.free):=by
   rcases hx with hx | hx
   ·obtain⟨k,e,z⟩:=v0 hx
    rcases z with z | z
    ·subst z;exact absurd rfl (B.cell _ (wJ e))
    ·exact⟨k,e,z.1⟩
   ·obtain⟨k,e,z⟩:=v0 hx
    rcases z with z | z
    ·subst z;exact⟨_,e,rfl⟩
    ·exact⟨k,e,z.1⟩
  subst z;exact⟨_,wE e⟩
 ·refine⟨by rw[hC];exact qz (fl b hb),fun x c e=>?_⟩
  exact(f2 b hb).2.2.2.2.1 x c (qJ e a6)
 ·rcases(f2 b hb).2.2.2.1 with z | z
  ·exact I.ok.noex b o e z
  ·exact absurd (jS (zO (I.ok.bs b o e).1) z) (xK _)
 ·rcases z9.mp (I.stkSub b hf) with y | y
  ·exact(f2 b hb).2.1 y
  ·exact(f2 b hb).2.2.1 y
 ·obtain⟨hn,_,j,ej,es⟩:=yk e2
  have ex:fr[i-own.length]? =some x:=by rw[xF hn] at e1;exact e1
  obtain⟨a8,j',a9,eN⟩:=B.fr _ x ex;have:j'=j:=by rw[ej] at a9;exact(j5 a9).symm
  subst this;have aa:=B.free _ (wJ a8) rfl;obtain⟨m0,_,hl⟩:=I.loc;obtain⟨u,r,l⟩:=hl j' x v eN es (by rcases aa with z | z;exact .inr (.inl z);exact .inr (.inr z))
  refine⟨u,r,.inr ?_⟩
  rcases l with ⟨kl,_⟩ | ⟨_,c,ec,o,eo,ed⟩
  ·have ab:X.env.scope.names.lookup x=some .local:=kl
   rcases aa with z | z
   ·exact absurd (z.symm.trans ab) (by decide)
   ·exact absurd (z.symm.trans ab) (by decide)
  ·obtain⟨k',e',z⟩:=wP (env:=X.env) a8
   have eq:(xf X.env.cells f.names []).lookup x=some c:=by rw[wE a8,ec];rfl
   refine⟨?_,c,eq,o,k4 c o eo,ed⟩
   rcases z with z | z
   ·subst z;exact .inl e'
   ·subst z;exact .inr e'
 ·obtain⟨v,o,eo,ed⟩:=I.cell x c (qJ e a6)
  exact⟨v,o,k4 c o eo,ed⟩
 ·exact I.hok.fresh (wq hC.symm)
 ·exact I.freeC x c (qJ e a6)
 ·rw[W0,<- B.len]
  show _=(own++fr).length;rw[qR]
end
structure BlkOkC(sn on:List (Str×NameKind))(N:List Str)(x:Str)(fr:List Str)(js:List Nat):Prop where
 one:(sn.filter fun y=>y.2==.cell)=[(x,.cell)]
 lk:sn.lookup x=some .cell
 nd:([x]++fr).Nodup
 loc:∀y∈sn,y.2=NameKind.local->sn.lookup y.1=some .local
 free:∀y∈sn,y.2=NameKind.free->on.lookup y.1=some .cell\/on.lookup y.1=some .free
 len:fr.length=js.length
 fr:∀(k:Nat) (x:Str),fr[k]? =some x->sn.lookup x=some .free/\∃j:Nat,js[k]? =some j/\N[j]? =some x
theorem BlkOkC.is{sn on:List (Str×NameKind)}{N:List Str}{x:Str}{b:List Str}{c:List Nat}(B:BlkOkC sn on N x b c){y:Str×NameKind}(h:y∈sn)(e:y.2=.cell):y.1=x:=by
 have:y∈sn.filter fun y=>y.2==.cell:=wI.mpr ⟨h,by rw[e];rfl⟩
 rw[B.one,qv] at this;rw[this]
section
variable{X:Cx}{f u c:Expr}{i:List Expr}{b:Scope}{l:Pos}{w:TI}{g:TG}{s:TT}{o:TE}{x:Str}
end
end L2
namespace L2
end L2
namespace L2
open PySem PySem.W PySem.Spec PyProof.Rows
abbrev bmV:List Value:=[.type "ValueError",.type "Exception",.type "BaseException",.type "object"]
def zho(K:Frag)(C:Addr)(c:Option Value):Bool:=match K.lookup C with
 | some ⟨.type "type",_,.cls b,i⟩=>(match b.mro with
  | .ref f::g=>(match i.toList with
   | [_,_,_,_,some (.builtin n),_]=>f==C&&(n == "ValueError.__new__" && (!b.hasDel&&(tailIn K bmV g&&(nsOkIn K b.ns&&nsIn K b.ns "__init__" == some c))))
   | _=>false)
  | _=>false)
 | _=>false
structure Xc(h:Heap)(C:Addr)(ini:Option Value):Prop where
 is:∃(bm:List Value) (N:Addr) (nm qn:Str) (bs:List Value) (hd:Bool) (sn:List Str) (sub:List Value) (ab:Bool) (col:Option Bool) (dd:Option Addr) (k0 k1 k2 k3 k5:Option Value) (mN:Str->Option Value),
  h.get? C=some (excClassObj nm qn C N bs bm hd sn sub ab col dd k0 k1 k2 k3 k5 "ValueError.__new__")/\h.Ns N mN/\mN "__init__" = ini/\OwnTail h bmV bm
end L2
namespace L2
open PySem PySem.W PySem.Spec PyProof.Rows
section
variable{P:Program}{w:World}{H:Hp}{h b:Heap}{a:Addr}{o:HO}
theorem ObjOk.has(x:ObjOk P w H h a o):∃u,h.get? a=some u:=by
 cases o with
 | lst i=>obtain⟨_,_,_,_,e⟩:=x;exact⟨_,e⟩
 | tup i=>obtain⟨_,_,_,⟨u,e,_⟩,_⟩:=x;exact⟨u,e⟩
 | dK c=>obtain⟨_,_,_,_,u,_,_,e,_⟩:=x;exact⟨u,e⟩
 | dT c=>obtain⟨_,_,_,_,u,_,_,e,_⟩:=x;exact⟨u,e⟩
 | set S n=>obtain⟨u,_,_,_,e,_⟩:=x;exact⟨u,e⟩
 | ins C l g=>obtain⟨_,_,_,e,_⟩:=x;exact⟨_,e⟩
 | own y=>obtain⟨u,e⟩:=x;exact⟨u,e⟩
 | xd g=>obtain⟨_,⟨u,_,_,e,_⟩,_⟩:=x;exact⟨u,e⟩
 | rng lo s=>obtain⟨_,_,_,e⟩:=x;exact⟨_,e⟩
 | frz A u=>obtain⟨e,_⟩:=x;exact⟨_,e⟩
 | tbl B=>exact⟨_,show h.get? a=some _ from x⟩
 | met f y=>exact⟨_,show h.get? a=some _ from x⟩
 | ext φ=>obtain⟨_,⟨u,e⟩,_⟩:=x;exact⟨u,e⟩
end
section
variable{X:Cx}{b:List (Addr×Obj)}{σ:St}{H:Hp}{s:Shared}{c:Heap}
end
section
variable{b:Program}{w:World}{A:Around}{E:Value->Shared->Prop}{h:Heap}{g:Array GenState}{d:Drawn}{t:Nat}{os:OsState}{C:Addr}
end
section
variable{c:Program}{w:World}{A:Around}{E:Value->Shared->Prop}{h:Heap}{g:Array GenState}{d:Drawn}{t:Nat}{os:OsState}
variable{H q:Str}{C N:Addr}{o l:List Value}{b:Bool}{sn:List Str}{sub:List Value}{i:Bool}{f:Option Bool}{s:Option Addr}{k0 u B D G:Option Value}
end
end L2
namespace L2
open PySem PySem.W PySem.Spec PyProof.Rows
structure XK2(K:Frag)(C:Addr)(ini:Option Value):Prop where
 cls:zho K C ini=true
 sa:findIn K (.ref C) "__setattr__" = some (some (.builtin "object.__setattr__"))
 ga:findIn K (.ref C) "__getattribute__" = some (some (.builtin "BaseException.__getattribute__"))
 gh:findIn K (.ref C) "__getattr__" = some none
 ob:mroIn K C (.type "object")=some true
 be:mroIn K C (.type "BaseException")=some true
 hd:hasDictIn K C=true
section
variable{b:Program}{w:World}{A:Around}{E:Value->Shared->Prop}{h:Heap}{g:Array GenState}{d:Drawn}{t:Nat}{os:OsState}{K:Frag}{C e i:Addr}{c:Option Value}{f:Str}{v:Value}
end
end L2
namespace L2
open PySem PySem.W PySem.Spec PyProof.Rows
section
variable{b:Program}{w:World}{A:Around}{E:Value->Shared->Prop}{h:Heap}{g:Array GenState}{d:Drawn}{t:Nat}{os:OsState}{K:Frag}{C e s i:Addr}{o:Option Addr}{c:Option Value}{f:Str}{v:Value}{l:Str->Option Value}
end
end L2
namespace L2
open PySem PySem.W PySem.Spec PyProof.Rows
structure XKc(K:Frag)(C:Addr):Prop where
 lk:findIn K (.ref C) "__class__" = some (some (.builtin "object.__class__"))
 gt:specialIn K (.builtin "object.__class__") "__get__" = some (some (.builtin "getset_descriptor.__get__"))
 tk:takesIn K (.builtin "object.__class__")=some true
section
variable{b:Program}{w:World}{A:Around}{E:Value->Shared->Prop}{h:Heap}{g:Array GenState}{d:Drawn}{t:Nat}{os:OsState}{K:Frag}{C f e o:Addr}{i:Option Addr}{c:Option Value}{l:Option Obj}
end
end L2
namespace L2
open PySem PySem.W PySem.Spec PyProof.Rows
structure XOk(K:Frag)(C:Addr)(ini:Option Value):Prop where
 k:XK2 K C ini
 c:XKc K C
 kp:keepIn K (.ref C)=true
 ty:typeIn K (.ref C)=some (.type "type")
 cd:∃cd,clsIn K C=some cd
 ve:mroIn K C (.type "ValueError")=some true
section
variable{X:Cx}{s:CXT}{k:Nat}{f C:Addr}{w:FuncData}{A:List Str}{ds:List Value}{g:List V}{B:Sp}{E:XK}{x m:Str}{p l c:Pos}{e o b:Expr}{u:List Expr}{t:TA}{D G:TE}{i:Option Value}
end
end L2
namespace L2
open PySem PySem.W PySem.Spec PyProof.Rows
section
variable{X:Cx}
end
structure Xs(K:Frag)(mg:Str->Option Value)(x:Str)(C:Addr)(ini:Option Value):Prop where
 ok:XOk K C ini
 gl:mg x=some (.ref C)
structure XsI(P:Program)(w:World)(K:Frag)(mg:Str->Option Value)(base:Heap)(x:Str)(C f:Addr)(k:Nat)(ps:List Str)(sp:Sp):Prop extends Xs K mg x C (some (.ref f)) where
 ex:∃fd oF,FnOk P w K mg base CX0 k f fd ps sp/\K.lookup f=some oF/\oF.cls=.type "function" /\ Binds K fd ps []
section
variable{X:Cx}{x:Str}{k:Nat}{C f:Addr}{g:List Str}{i:Sp}{p b:Pos}{e:Expr}{c:List Expr}{t:TA}
end
end L2
namespace L2
open PySem PySem.Spec PyProof.Rows
section
variable{X:Cx}
end
section
variable{f:Program}{w:World}{κ:Type}[DecidableEq κ]{c:PySem.KeyKind f w κ}{A:Around}{E:Value->Shared->Prop}{s:Shared}
theorem zbJ{d:Addr}{g:List (κ×Value)}{k:κ}{T dflt:Value}{Q:Value->Shared->Prop}(u:c.is k T=true)(hm:s.heap.DictOf c d g)(ac:g.length<=sizeLine)
  (H:∀v,valueAt g k=some v->Q v { s with toks:=s.toks+1 })
  (N:valueAt g k=none->∀h',h'.DictOf c d (stored g k dflt)->Heap.SameBut d s.heap h'->Q dflt { s with heap:=h',toks:=s.toks+1 }) :
  wpAny (model f w) A (dictSetDefault d T dflt) Q E s:=by
 obtain⟨o,B,ep,O,hc,I,hk,hp,hn⟩:=id hm;obtain⟨o',aa,a9,G,-,L,-,hf⟩:=hm.mapOf;rw[O] at G;injection G with G;subst G;rw[I] at L;injection L with a7 ab;subst a7;have a8:B.size<=sizeLine:=by
  have e1:=hp.length;have e2:B.toList.length=B.size:=by simp
  omega
 have Y:(B.findIdx? fun en=>c.is k en.key)=g.findIdx? fun p=>decide (p.1=k):=by
  obtain⟨l⟩:=B;rw[<- hp.findIdx k];simp
 unfold dictSetDefault;refine jR (zn (c.pyHash u (zn (wpAny_dictFind_of (s:={ s with toks:=s.toks+1 }) u O I hk ?_))))
 cases U:B.findIdx? fun en=>c.is k en.key with
 | some i=>
  have M:i<B.size:=(Array.findIdx?_eq_some_iff_findIdx_eq.mp U).1
  have D:valueAt g k=(B[i]?).map (·.val):=by rw[<- hf k,findBy_of_findIdx?,U]
  rw[xE M] at D;refine zn (wpAny_dictEntries (s:={ s with toks:=s.toks+1 }) O I ?_)
  rw[xE M];exact zn (vC (zy (H _ D)))
 | none=>
  have fresh:k∉g.map (·.1):=not_mem_of_findIdx_none (Y▸U)
  have J:¬(g.any fun kv=>decide (kv.1=k))=true:=fun z=>by
   obtain⟨kv,h1,h2⟩:=yI.mp z;exact fresh (qr.mpr ⟨kv,h1,qB h2⟩)
  have D:valueAt g k=none:=by rw[<- hf k,findBy_of_findIdx?,U]
  have a6:stored g k dflt=g++[(k,dflt)]:=by rw[stored,zB J]
  refine zn (vC (zn (wpAny_updateDictKeys (s:={ s with toks:=s.toks+1 }) (hz:=a8) O I (zy (N D _ ?_ (Zt ..))))))
  rw[a6];refine⟨_,_,ep+1,ZH _ O (Obj.isFreed_of_dict (Obj.data_mapDictKeys I _)),hc.mapDictKeys _,Obj.data_mapDictKeys I _,hk.push u _,?_,?_⟩
  ·have z:=hp.append u (c.hash k) dflt
   obtain⟨l⟩:=B;simpa using z
  ·rw[qm,Zn]
   refine⟨hn,by simp,fun a ha b hb z=>fresh ?_⟩
   rw[show List.map (·.1) [(k,dflt)]=[k] from rfl,qv] at hb
   rw[<- hb,<- z];exact ha
end
section
variable{b:Program}{w:World}{κ:Type}[DecidableEq κ]{knd:PySem.KeyKind b w κ}
theorem zcp{d:Addr}{k:κ}{f x:Value}(i:knd.is k f=true)(E:(d==sysModules)=false) :
  MeetsIn b w (Builtin.«dict.setdefault» ⟨[.ref d,f,x],[]⟩) (fun _ R s=>∃c,s.heap.DictOf knd d c/\c.length<=sizeLine/\(∀v,valueAt c k=some v->R (.ok (.ret v)) { s with toks:=s.toks+1 }) /\
   (valueAt c k=none->∀g,g.DictOf knd d (stored c k x)->Heap.SameBut d s.heap g->R (.ok (.ret x)) { s with heap:=g,toks:=s.toks+1 })):=
 .of_wp fun A R s ⟨c,B,G,h1,h2⟩=>by
  delta Builtin.«dict.setdefault» Builtin.Dict.keyAndDefault;refine zn (zn (wpAny_notOrdered_dict B.typeIs (zy (a:=(d,f,some x)) ?_)))
  have u:¬(d==sysModules)=true:=by rw[E];exact jG
  refine(show wpAny _ _ (if(d==sysModules)=true then _ else(dictSetDefault d f x >>= _)) _ _ _ from ?_)
  rw[zB u];exact zn (zbJ i B G (fun v hv=>zy ⟨v,rfl,h1 v hv⟩) fun D g l o=>zy ⟨x,rfl,h2 D g l o⟩)
end
section
variable{X:Cx}{g ty i:TE}{o e f:Expr}{b c:Pos}
def zhu(g ty i:TE):TE:=fun σ H Q=>g σ H fun x u=>∃a,x=.ref a/\IsD u a/\ty σ u fun y w=>i σ w fun z s=>∃l k,s a=some (.dK l)/\y=kV k/\l.length<sizeLine /\
 (∀v,qO l k=some v->Q v s)/\(qO l k=none->Q z (upd s a (.dK (xo l k z))))
theorem zfd(ho:PE X o g)(he:PE X e ty)(hf:PE X f i)(m:M2 X o "setdefault" b e f c):PE X (.Call (.Attribute o "setdefault" b) [e,f] [] c) (zhu g ty i):=by
 intro A s σ H Q I h;refine wpAny_Call_method m.base m.few m.line PySem.F.plainAttrs_dict zc2 PySem.F.type_dict_setdefault (thn (ho A s σ H _ I h) fun u s1 ⟨x,H1,M,rx,a,ex,d,q1⟩=>?_)
 subst ex;obtain rfl:u=Value.ref a:=rx;obtain⟨t1,t2,_⟩:=zcz M d;refine⟨t1,t2,?_⟩
 rw[m.trees];refine WN rfl (WI (Zr (thn (he A s1 σ H1 _ M q1) fun iv s2 ⟨y,H2,I2,ry,q2⟩=>
  Zr (thn (hf A s2 σ H2 _ I2 q2) fun fv s3 ⟨z,H3,J,U,w,k,O,ey,l,g1,g2⟩=>Xu ?_))))
 subst ey;obtain⟨zz,T,Y,B,N⟩:=zcI J.hok O;have hz:Y.length<=sizeLine:=by rw[<- B.length];exact zz
 refine call_meetsIn zc2 N.typeIs PySem.F.entry_dict_setdefault (PySem.F.args_dict_setdefault_3 _ _ _) (zcp (knd:=qL X.prog X.w) (wG ry) T) ⟨Y,N,hz,fun v hv=>?_,fun hn h' G hs=>?_⟩
 ·have D:=B.val k
  rw[hv] at D;cases E:qO w k with
  | none=>rw[E] at D;exact D.elim
  | some L=>
   rw[E] at D;exact⟨L,H3,J.tok _,D,g1 L E⟩
 ·have D:=B.val k
  rw[hn] at D;have E:qO w k=none:=by
   cases E:qO w k with
   | none=>rfl
   | some L=>rw[E] at D;exact D.elim
  have hl:(xo w k z).length<=sizeLine:=by have:=xC w k z;omega
  have ee:∃q,h'.get? a=some q:=let ⟨q,_,_,hq,_⟩:=G;⟨q,hq⟩
  exact⟨z,_,ZW J (by rw[O];exact True.intro) hs ee (Wi hl T (B.put k U) G),U,g2 E⟩
end
theorem KV.get:∀{b:List (Key×V)} {c:List (Key×Value)} {j:Nat} {q:Key×Value},KV b c->c[j]? =some q->∃p,b[j]? =some p/\p.1=q.1/\RelV p.2 q.2
 | _,_,j,_,.nil,e=>by simp at e
 | _,_,0,_,.cons h _,e=>by simp at e;subst e;exact⟨_,rfl,h⟩
 | _,_,j+1,_,.cons _ t,e=>by
  obtain⟨p,e1,r⟩:=KV.get (j:=j) t (by simpa using e)
  exact⟨p,by simpa using e1,r⟩
section
variable{X:Cx}
end
section
variable{X:Cx}{f ty:TE}{o e:Expr}{b c:Pos}
end
section
variable{X:Cx}
end
theorem KV.back:∀{b:List (Key×V)} {c:List (Key×Value)} {j:Nat} {p:Key×V},KV b c->b[j]? =some p->∃q,c[j]? =some q/\p.1=q.1
 | _,_,j,_,.nil,e=>by simp at e
 | _,_,0,_,.cons h _,e=>by simp at e;subst e;exact⟨_,rfl,h.1⟩
 | _,_,j+1,_,.cons _ t,e=>by
  obtain⟨q,e1,r⟩:=KV.back (j:=j) t (by simpa using e)
  exact⟨q,by simpa using e1,r⟩
section
variable{X:Cx}{c:Expr}
def zhH(K:W.Frag)(g:TE):TI:=fun σ H R=>g σ H fun x b=>∃a,x=.ref a/\(((∃f,SqL K b a f)/\R (Itl K a) b)\/((∃f,SqT K b a f)/\R (Itt K a) b))
theorem zfa{l:Expr}{A:TE}(B:PE X l A):PI X c l (zhH X.K A):=by
 intro i s σ H R I h;refine thn (B i s σ H _ I h) fun v s1 ⟨x,u,f,E,q1⟩=>?_
 obtain⟨a,e,q⟩:=q1;subst e;cases E;have w:∀b∈[s1.heap.objs.size],_:=fun b hb=>by
  have e:b=s1.heap.objs.size:=by simpa using hb
  subst e;exact f.fpOk (zi _) (f.hok.fresh (zi _))
 rcases q with ⟨⟨L,hq⟩,q⟩ | ⟨⟨L,hq⟩,q⟩
 ·obtain⟨g,G,p,D⟩:=f.list hq
  refine wpAny_pyIter_list p.isList ⟨s1.heap.objs.size,[s1.heap.objs.size],_,_,u,rfl,f.kept (t':=s1.toks) fun b o e=>qw _ e,Jd a _,⟨_,qH _ rfl,rfl,rfl⟩,?_,q⟩
  exact w
 ·obtain⟨g,G,p,D⟩:=f.tuple hq
  refine wpAny_pyIter_tuple (show s1.heap.IsTuple a g.toArray from p) ⟨s1.heap.objs.size,[s1.heap.objs.size],_,_,u,rfl,f.kept (t':=s1.toks) fun b o e=>qw _ e,ZZ a _,⟨_,qH _ rfl,rfl,rfl⟩,?_,q⟩
  exact w
end
open Sem (wp)
section
variable{b:Program}{w:World}{A:Around}{E:Value->Shared->Prop}{s:Shared}
end
section
variable{b:Program}{w:World}{A:Around}{E:Value->Shared->Prop}{h:Heap}{g:Array GenState}{d:Drawn}{t:Nat}{os:OsState}{a:Addr}{n:Nat}{c:Array Value}
end
end L2
namespace L2
open PySem PySem.Spec PyProof.Rows
section
variable{b:Program}{w:World}{K:Type}[DecidableEq K]{f:KeyKind b w K}{A:Around}{R:Result->Shared->Prop}{g l D:Addr}{items:Array Value}{c:List (K×Value)}{res:Value}
end
section
variable{b:Program}{w:World}{K:Type}[DecidableEq K]{c:KeyKind b w K}{A:Around}{E:Value->Shared->Prop}{s:Shared}
end
def PrsL(H:Hp)(c:List V)(b:List (Key×V)):Prop:=c.length=b.length/\∀(j:Nat) (x:V),c[j]? =some x->∃(T:Addr) (k:Key) (v:V),x=.ref T/\H T=some (.tup [kV k,v])/\b[j]? =some (k,v)
theorem PrsL.nil{H:Hp}:PrsL H [] []:=⟨rfl,fun j x e=>by simp at e⟩
theorem PrsL.same{H g:Hp}{i:List V}{f:List (Key×V)}(h:PrsL H i f)(s:Same H g):PrsL g i f:=⟨h.1,fun j x e=>let ⟨T,k,v,a,b,c⟩:=h.2 j x e;⟨T,k,v,a,s _ _ b,c⟩⟩
theorem PrsL.snoc{H:Hp}{i:List V}{g:List (Key×V)}{T:Addr}{k:Key}{v:V}(h:PrsL H i g)(e:H T=some (.tup [kV k,v])):PrsL H (i++[.ref T]) (g++[(k,v)]):=by
 refine⟨by rw[qR,qR,h.1];rfl,fun j x f=>?_⟩
 have l:=h.1;by_cases s:j<i.length
 ·rw[xq s] at f
  obtain⟨o,u,w,a,b,c⟩:=h.2 j x f;exact⟨o,u,w,a,b,by rw[xq (by omega)];exact c⟩
 ·rw[xF (by omega)] at f
  have:j=i.length:=by
   have:=(qg.mp f).1;simp at this;omega
  subst this;simp at f;subst f;exact⟨T,k,v,rfl,e,by rw[l,xF (zi _)];simp⟩
theorem Vals.at:∀{b:List V} {c:List Value} {i:Nat} {u:Value},Vals b c->c[i]? =some u->∃x,b[i]? =some x/\RelV x u:=fun {b c i u} r e=>by
 have l:=Vals.length r;have h:=(qg.mp e).1;obtain⟨v,e1,f⟩:=r.get (i:=i) (x:=b[i]'(by omega)) (xL _)
 rw[e] at e1;cases e1;exact⟨_,xL _,f⟩
section
variable{X:Cx}
end
section
variable{X:Cx}{f B c:Expr}{i:List Expr}{b:Scope}{l:Pos}{E:TI}{g:TG}{A:TT}{w:TE}{x:Str}
variable{y:Str}{s u D:Pos}{o:Nat}
end
def Up(b:Array Nat):Prop:=b.toList.Pairwise (·< ·)
theorem Up.lt{f:Array Nat}(h:Up f){i j:Nat}{a b:Nat}(g:f[i]? =some a)(l:f[j]? =some b)(c:i<j):a<b:=by
 have h1:=ZI.mp g;have h2:=ZI.mp l;obtain⟨o,e1⟩:=h1;obtain⟨s,e2⟩:=h2;have:=List.pairwise_iff_getElem.mp h i j (by simpa using o) (by simpa using s) c
 simpa [e1,e2] using this
theorem Qy(f:Array Nat)(j:Nat):∀(fuel lo b:Nat),b-lo<=fuel->lo<=b->b<=f.size->Up f->(∀i a,i<lo->f[i]? =some a->a<j)->(∀i a,b<=i->f[i]? =some a->j<=a) ->
  SetTable.below.go f j fuel lo b<=f.size/\(∀i a,i<SetTable.below.go f j fuel lo b->f[i]? =some a->a<j)/\∀i a,SetTable.below.go f j fuel lo b<=i->f[i]? =some a->j<=a
 | 0,lo,b,h1,h2,h3,u,a1,a2=>by
  have e:b=lo:=by omega
  subst e;exact⟨h3,a1,a2⟩
 | fuel+1,lo,b,h1,h2,h3,u,a1,a2=>by
  unfold SetTable.below.go;by_cases c:lo<b
  ·rw[zF c]
   dsimp only;have l:(lo+b)/2<f.size:=by omega
   have g:f[(lo+b)/2]? =some (f[(lo+b)/2]'l):=xE l;have s:f.getD ((lo+b)/2) j=f[(lo+b)/2]'l:=by rw[QD,g];rfl
   rw[s];by_cases d:f[(lo+b)/2]'l<j
   ·rw[zF d]
    refine Qy f j fuel _ b (by omega) (by omega) h3 u (fun i a o e=>?_) a2
    by_cases q:i=(lo+b)/2
    ·subst q;rw[g] at e;cases e;exact d
    ·have:=u.lt e g (by omega)
     omega
   ·rw[zB d]
    refine Qy f j fuel lo _ (by omega) (by omega) (by omega) u a1 fun i a o e=>?_
    by_cases q:i=(lo+b)/2
    ·subst q;rw[g] at e;cases e;omega
    ·have:=u.lt g e (by omega)
     omega
  ·rw[zB c]
   have e:b=lo:=by omega
   subst e;exact⟨h3,a1,a2⟩
theorem VO{b:Array Nat}(u:Up b)(j:Nat):SetTable.below b j<=b.size/\(∀i a,i<SetTable.below b j->b[i]? =some a->a<j)/\∀i a,SetTable.below b j<=i->b[i]? =some a->j<=a:=by
 unfold SetTable.below;exact Qy b j b.size 0 b.size (by omega) (zY _) (zi _) u (fun i a h=>absurd h (Zj _)) fun i a h e=>absurd (ZI.mp e).1 (by omega)
theorem zan{c:Array Nat}(u:Up c){j:Nat}(B:c[SetTable.below c j]?≠some j):Up (SetTable.insertAt c (SetTable.below c j) j):=by
 obtain⟨b1,b2,b3⟩:=VO u j;unfold Up SetTable.insertAt;generalize SetTable.below c j=p at *
 have w:((c.extract 0 p).push j++c.extract p c.size).toList=c.toList.take p++(j::c.toList.drop p):=by
  simp[WG,List.extract_eq_drop_take];exact JL (by simp)
 rw[w,List.pairwise_append];have s:c.toList.Pairwise (·< ·):=u
 refine⟨s.sublist (Ww _ _),List.pairwise_cons.mpr ⟨fun a i=>?_,s.sublist (List.drop_sublist _ _)⟩,fun a i b hb=>?_⟩
 ·obtain⟨k,hk,e⟩:=zcV.mp i
  have f:c[k+p]? =some a:=by rw[<- xp,qg];exact⟨by omega,by rw[<- e];congr 1;omega⟩
  have:=b3 (k+p) a (by omega) f
  by_cases q:k=0
  ·subst q
   rw[QF] at f;exact Nat.lt_of_le_of_ne this fun z=>B (by rw[f,z])
  ·have hp:p<c.size:=by rw[qX] at hk;omega
   have:=b3 p _ (zi _) (xE hp);have:=u.lt (xE hp) f (by omega)
   omega
 ·obtain⟨k,hk,e⟩:=List.mem_take_iff_getElem.mp i
  have f:c[k]? =some a:=by rw[<- xp,qg];exact⟨by omega,e⟩
  have l:=b2 k a (by omega) f
  rcases z9.mp hb with z | z
  ·rw[z];exact l
  ·obtain⟨o,A,e2⟩:=zcV.mp z
   have g:c[o+p]? =some b:=by rw[<- xp,qg];exact⟨by omega,by rw[<- e2];congr 1;omega⟩
   have:=b3 (o+p) b (by omega) g
   omega
structure TabOk(b:Bool)(t:SetTable):Prop where
 up:Up t.place
 no:t.dummies=#[]
 led:t.led=b
theorem Vy(j:Nat):SetTable.has #[] j=false:=by
 unfold SetTable.has;rw[show(#[]:Array Nat)[SetTable.below #[] j]? =none from WM (by simp)]
 rfl
theorem vw{t:SetTable}(h:t.dummies=#[])(j:Nat):(t.slot j=.empty/\t.place[SetTable.below t.place j]?≠some j)\/∃i,t.slot j=.live i:=by
 unfold SetTable.slot;rw[h,Vy];dsimp only;by_cases c:(t.place[SetTable.below t.place j]? ==some j)=true
 ·rw[zF c]
  exact .inr ⟨_,rfl⟩
 ·rw[zB c,zB jG]
  exact .inl ⟨rfl,fun z=>c (by rw[z];simp)⟩
theorem zbh(n:Nat):Up (Array.range n):=by
 unfold Up;rw[Array.toList_range];exact List.pairwise_lt_range
theorem TabOk.stand{b:Bool}{t:SetTable}(h:TabOk b t)(n:Nat):TabOk b (t.standIn n):=⟨zbh n,rfl,h.led⟩
theorem TabOk.plain{b p:Bool}{t:SetTable}(h:TabOk b t):TabOk b { t with plain:=p }:=⟨h.up,h.no,h.led⟩
theorem TabOk.or{b:Bool}{t:SetTable}(h:TabOk b t)(n:Nat):TabOk b (t.orStandIn n):=by
 unfold SetTable.orStandIn;split
 ·exact h
 ·exact h.stand n
theorem zc9{α:Type}(m:Nat)(f:Nat->Option α):(((List.range m).filterMap fun j=>(f j).map (j,·)).map (·.1)).Pairwise (·< ·):=by
 have c:∀l:List Nat,((l.filterMap fun j=>(f j).map (j,·)).map (·.1)).Sublist l:=fun l=>by
  induction l with
  | nil=>exact .slnil
  | cons x l b=>
   rw[QT];cases f x with
   | none=>exact b.cons _
   | some y=>exact b.cons₂ _
 exact List.Pairwise.sublist (c _) List.pairwise_lt_range
theorem TabOk.fresh(b:Bool):TabOk b (.fresh 0 0 b):=⟨List.Pairwise.nil,rfl,rfl⟩
theorem Qh{α β:Type}{R:α->β->Prop}{x:α}{y:β}(r:R x y):∀{b:List α} {c:List β},Paired R b c->Paired R (b++[x]) (c++[y])
 | _,_,.nil=>.cons r .nil
 | _,_,.cons h t=>.cons h (Qh r t)
theorem Qg{α β:Type}{R:α->β->Prop}:∀{c:List α} {f:List β},Paired R c f->(∀x∈c,∃y∈f,R x y)/\∀y∈f,∃x∈c,R x y
 | _,_,.nil=>⟨fun x h=>(nomatch h),fun y h=>(nomatch h)⟩
 | _,_,.cons h t=>by
  obtain⟨a,b⟩:=Qg t;refine⟨fun x hx=>?_,fun y hy=>?_⟩
  ·rcases z9.mp hx with z | z
   ·rw[z];exact⟨_,jx,h⟩
   ·obtain⟨y,hy,r⟩:=a x z
    exact⟨y,jh _ hy,r⟩
  ·rcases z9.mp hy with z | z
   ·rw[z];exact⟨_,jx,h⟩
   ·obtain⟨x,hx,r⟩:=b y z
    exact⟨x,jh _ hx,r⟩
section
variable{f:Program}{w:World}{K:Type}[DecidableEq K](c:KeyKind f w K)
def ElX(g:List (Int×Value))(i:List K):Prop:=ElemsOf c g/\∃b,b.Perm i/\Paired (fun k (e:Int×Value)=>c.is k e.2=true) b g
def ObX(b:Bool)(o:Obj)(i:List K):Prop:=∃g l t,o.ExactSet/\o.data=.set g l t/\ElX c g.toList i/\i.Nodup/\g.size<scanBound/\t.fits g.size=true/\TabOk b t
def SetX(b:Bool)(h:Heap)(a:Addr)(g:List K):Prop:=∃o,h.get? a=some o/\ObX c b o g
variable{c}
theorem ElX.len{b:List (Int×Value)}{g:List K}(h:ElX c b g):b.length=g.length:=by
 obtain⟨_,i,l,o⟩:=h;rw[<- l.length_eq];exact(Xl o).symm
theorem ElX.mem{g:List (Int×Value)}{i:List K}(h:ElX c g i)(k:K):k∈i↔∃e∈g,c.is k e.2=true:=by
 obtain⟨_,o,u,B⟩:=h;obtain⟨a,b⟩:=Qg B;rw[<- u.mem_iff];refine⟨a k,fun ⟨e,l,r⟩=>?_⟩
 obtain⟨G,hk,D⟩:=b e l;rwa[c.inj _ _ _ r D]
theorem ElX.snoc{g:List (Int×Value)}{i:List K}(h:ElX c g i){k:K}{x:Value}(hk:c.is k x=true)(hx:x.scannable=true):ElX c (g++[(c.hash k,x)]) (i++[k]):=by
 obtain⟨h1,b,l,o⟩:=h;exact⟨h1.push hk hx,b++[k],l.append_right _,Qh (R:=fun k (e:Int×Value)=>c.is k e.2=true) hk o⟩
theorem SetX.at{b:Bool}{h g:Heap}{a:Addr}{i:List K}(x:SetX c b h a i)(k:∀o,h.get? a=some o->g.get? a=some o):SetX c b g a i:=let ⟨o,e,r⟩:=x;⟨o,k o e,r⟩
variable{A:Around}{E:Value->Shared->Prop}{s:Shared}
end
def zhD(w:World):Bool:=!w.params.followText "set-order"
def vX(w:World):Obj:={ cls:=.type "set",dict:=none,data:=.set #[] 0 (.fresh 0 0 (zhD w)) }
section
variable{K:Type}[DecidableEq K]
variable{c:Program}{w:World}{g:KeyKind c w K}{A:Around}{R:Result->Shared->Prop}{i l S:Addr}{items:Array Value}{f:List K}{b:Bool}
end
section
variable{b:Program}{w:World}{A:Around}{E:Value->Shared->Prop}{s:Shared}
theorem zda{T g f:String}{args:List Value}{Q Q1:Value->Shared->Prop}(i:TypeCalled T g f)(I:checkTypeCall T ⟨args,[]⟩=pure ())
  (B:codeAny (model b w) A.in1 (.call (.builtin g) ⟨.type T::args,[]⟩) (wants Q1 E) s)
  (l:∀u s1,Q1 u s1->s1.TypeIs u T/\codeAny (model b w) A.in1 (.call (.builtin f) ⟨u::args,[]⟩) (wants (fun r s2=>r=.none/\Q u s2) E) s1) :
  wpAny (model b w) A (call (.type T) args) Q E s:=by
 obtain⟨c,tl,L⟩:=i.mro;have M:=i.made;have N:=i.sub;have O:=i.notType;have U:=i.canCreate;refine wpAny_call (codeAny_of_tree (show wpAny _ _ (callAny (.type T) _) _ _ _ from zy ⟨Code.quiet_builtin _ (by decide +kernel),codeAny_builtin F.entry_type_call ?_⟩))
 rw[Around.under_plain (weight_type_call_type T args []) rfl];repeat' (first| assumption | wp_step)
 refine codeAny_mono B fun r s1 D=>?_
 match r,D with
 | .error e,D=>exact D
 | .ok (.ret u),D=>
  obtain⟨ty,G⟩:=l _ _ D;have Y:=i.init.lookup;have m7:=i.init.bind u;repeat' (first| assumption | wp_step)
  refine codeAny_mono G fun J s2 o=>?_
  match J,o with
  | .error e,o=>exact o
  | .ok (.ret v),⟨H,hq⟩=>
   subst H;repeat' (first| assumption | wp_step)
theorem zcn(x:Value){c:Value->Shared->Prop}(h:c (.ref s.heap.objs.size) { s with heap:=s.heap.push (vX w) }) :
  codeAny (model b w) A (.call (.builtin "set.__new__") ⟨[.type "set",x],[]⟩) (wants c E) s:=by
 refine codeAny_call_builtin F.plain_set_new F.entry_set_new (wpAny_of_eq (F.newCall_set_1 x) ?_)
 unfold Builtin.«set.__new__» Builtin.Frozenset.newClass;have f:=sub_set_self;obtain⟨hp,g,d,i,os⟩:=s;dsimp only;wp_walk
 refine wpAny_askSetting (zy ?_)
 simp only[newObj];exact zn (wpAny_alloc (zy (zy h)))
end
section
variable{b:Program}{w:World}{K:Type}[DecidableEq K]{c:KeyKind b w K}{A:Around}{E:Value->Shared->Prop}{s:Shared}
end
section
variable{M:Model}{A:Around}{E:Value->Shared->Prop}{s:Shared}
end
section
variable{b:Program}{w:World}{A:Around}{E:Value->Shared->Prop}{h:Heap}{g:Array GenState}{d:Drawn}{s:Nat}{os:OsState}{l a:Addr}{o:Obj}{f:Array (Int×Value)}{c:Nat}{t:SetTable}{i:Nat}
end
section
variable{b:Program}{w:World}{A:Around}{E:Value->Shared->Prop}{s:Shared}{a:Addr}{o:Obj}{f:Array (Int×Value)}{c:Nat}{t:SetTable}{i g:Nat}
end
section
variable{b:Program}{w:World}{A:Around}{E:Value->Shared->Prop}{h:Heap}{g:Array GenState}{d:Drawn}{D:Nat}{os:OsState}{s a T:Addr}{o u:Obj}{l:Array (Int×Value)}{f:Nat}{t:SetTable}{i n c:Nat}{B:Array Value}
end
section
variable{b:Program}{w:World}{A:Around}{E:Value->Shared->Prop}{s:Shared}{c:Addr}{f:Obj}
end
section
variable{b:Program}{w:World}{A:Around}
variable{i a T:Addr}{o l:Obj}{g:Array (Int×Value)}{f c:Nat}{t:SetTable}
end
section
variable{b:Program}{w:World}{A:Around}{E:Value->Shared->Prop}{s:Shared}{a:Addr}{o:Obj}{f:Array (Int×Value)}{c:Nat}{t:SetTable}
end
section
variable{X:Cx}
end
theorem Inv.drawn{X:Cx}{c:List (Addr×Obj)}{σ:St}{H:Hp}{s:Shared}(I:Inv X c σ H s)(d:Drawn):Inv X c σ H { s with drawn:=d }:=
 I.call' (s':={ s with drawn:=d }) (ch:=[]) rfl Un.refl I.hok I.bare fun b hb=>(nomatch hb)
section
variable{X:Cx}
end
section
variable{X:Cx}{B c o:Expr}{l D:List Expr}{f:Scope}{G:Pos}{wi M:TI}{tf J:TT}{te:TE}{x y z u:Str}{Y py pz U tp L:Pos}{N E:Nat}
inductive JR(K:W.Frag)(x:V)(y:V)(H:Hp)(Q:VK):Prop
 | mk (a b:Addr) (s:List V) (_:x=.ref a) (_:y=.ref b) (_:SqT K H a s) (_:SqT K H b []) (_:Q (.bl (!s.isEmpty)) H):JR K x y H Q
theorem Yz(hu:X.A.units<cLine):OpR X (compareOp .NotEq) (JR X.K):=by
 intro a8 s σ H x y v u Q I rx ry h;obtain⟨a,b,xs,rfl,rfl,hx,hy,q⟩:=h;cases rx;cases ry;obtain⟨a6,r1,p1,z1⟩:=I.tuple hx;obtain⟨a7,r2,p2,z2⟩:=I.tuple hy;cases r2;refine SeqAt.RcNeAt.tuples (e:=fun _=>true) p1 p2 hu (fun j h1 h2=>by simp at h2) _ _ _ _ ⟨.bl _,H,I,rfl,?_⟩
 have e:(!((List.range (min a6.toArray.size ([]:List Value).toArray.size)).all (fun _=>true)&&a6.toArray.size==([]:List Value).toArray.size))=!xs.isEmpty:=by
  cases r1 with
  | nil=>rfl
  | cons r t=>simp
 rw[e];exact q
variable{O e:Expr}{A:List Expr}{to:TE}{tt:TA}{w:Str}{g i:Pos}{T id:String}{r:V->List V->Hp->VK->Prop}
end
end L2
namespace L2
open PySem PySem.Spec PyProof.Rows PySem.W
def KRun{α:Type}(b:Nat->Nat->Bool)(n:Nat):KasT α->(α->Prop)->Prop
 | .ret a,Q=>Q a
 | .ask i j k,Q=>i<n/\j<n/\KRun b n (k (b i j)) Q
theorem KRun.mono{α:Type}{g:Nat->Nat->Bool}{n:Nat}{Q f:α->Prop}(h:∀a,Q a->f a):∀{t:KasT α},KRun g n t Q->KRun g n t f
 | .ret a,x=>h a x
 | .ask i j k,⟨a,b,c⟩=>⟨a,b,KRun.mono h c⟩
theorem KRun.bind{α β:Type}{g:Nat->Nat->Bool}{n:Nat}{f:α->KasT β}{Q:β->Prop}:∀{t:KasT α},KRun g n t (fun a=>KRun g n (f a) Q)->KRun g n (t.bind f) Q
 | .ret a,x=>x
 | .ask i j k,⟨a,b,c⟩=>⟨a,b,KRun.bind c⟩
theorem KRun.wp{α:Type}{l:Nat->Nat->Bool}{n:Nat}{ask:Nat->Nat->(Bool->Shared->Prop)->Shared->Prop}{J:Shared->Prop}{Q:α->Prop}{G:α->Shared->Prop}
  (o:∀i j,i<n->j<n->∀(C:Bool->Shared->Prop) s,J s->(∀g,J g->C (l i j) g)->ask i j C s) (u:∀a s,Q a->J s->G a s):∀{t:KasT α} {s:Shared},KRun l n t Q->J s->t.kasWp ask G s
 | .ret a,s,x,j=>u a s x j
 | .ask i j k,s,⟨a,b,c⟩,w=>o i j a b _ s w fun g f=>KRun.wp o u c f
section
variable{n:Nat}{r:Nat->Nat}
def vA(r:Nat->Nat)(p:Array Nat)(k:Nat):Nat:=r (p.getD k 0)
structure Gd(n:Nat)(p:Array Nat):Prop where
 pm:p.toList.Perm (List.range n)
theorem Gd.sz{p:Array Nat}(g:Gd n p):p.size=n:=by have:=g.pm.length_eq;rwa[qX,wm] at this
theorem Gd.at{p:Array Nat}(g:Gd n p){k:Nat}(h:k<n):p[k]? =some (p.getD k 0):=by
 rw[QD,xE (by rw[g.sz];exact h)]
 rfl
theorem Gd.lt{p:Array Nat}(g:Gd n p)(f:0<n)(k:Nat):p.getD k 0<n:=by
 by_cases h:k<n
 ·have:=g.at h
  rw[<- xp] at this;exact jF.mp (g.pm.mem_iff.mp (qY this))
 ·rw[QD,WM (by rw[g.sz];omega)]
  exact f
theorem Gd.inj{p:Array Nat}(g:Gd n p)(b:∀i j,i<n->j<n->r i=r j->i=j){i j:Nat}(s:i<n)(u:j<n)(e:vA r p i=vA r p j):i=j:=by
 have f:0<n:=by omega
 have h1:=b _ _ (g.lt f i) (g.lt f j) e;have w:p.toList.Nodup:=g.pm.nodup_iff.mpr Xq;have a1:=g.at s;have a2:=g.at u;rw[<- xp] at a1 a2;obtain⟨b1,l⟩:=qg.mp a1;obtain⟨b2,o⟩:=qg.mp a2;exact(List.getElem_inj w).mp (by rw[l,o,h1])
def AscA(r:Nat->Nat)(p:Array Nat)(m:Nat):Prop:=∀i j,i<j->j<m->vA r p i<vA r p j
def DscA(r:Nat->Nat)(p:Array Nat)(m:Nat):Prop:=∀i j,i<j->j<m->vA r p j<vA r p i
theorem AscA.step{p:Array Nat}{m:Nat}(h:AscA r p m)(h1:1<=m)(h2:vA r p (m-1)<vA r p m):AscA r p (m+1):=fun i j f g=>by
 by_cases e:j=m
 ·subst e
  by_cases e2:i=j-1
  ·subst e2;exact h2
  ·have:=h i (j-1) (by omega) (by omega)
   omega
 ·exact h i j f (by omega)
theorem DscA.step{p:Array Nat}{m:Nat}(h:DscA r p m)(h1:1<=m)(h2:vA r p m<vA r p (m-1)):DscA r p (m+1):=fun i j f g=>by
 by_cases e:j=m
 ·subst e
  by_cases e2:i=j-1
  ·subst e2;exact h2
  ·have:=h i (j-1) (by omega) (by omega)
   omega
 ·exact h i j f (by omega)
variable{c:Nat->Nat->Bool}(b:∀i j,i<n->j<n->r i=r j->i=j)(hb:∀i j,i<n->j<n->c i j=decide (r i<r j))
include b hb
end
end L2
namespace L2
open PySem PySem.Spec PyProof.Rows PySem.W
section
variable{b:Program}{w:World}{A:Around}{E:Value->Shared->Prop}{s:Shared}
end
end L2
namespace L2
open PySem PySem.Spec PyProof.Rows PySem.W
section
variable{X:Cx}{b:List (Addr×Obj)}{σ:St}{s:Shared}
end
end L2
namespace L2
open PySem PySem.Spec PyProof.Rows PySem.W
section
variable{X:Cx}
end
end L2
namespace L2
open PySem PySem.Spec PyProof.Rows
section
variable{X:Cx}
variable{f c:Expr}{g:List Expr}{b:Scope}{i:Pos}{D:TI}{A:TT}{w:TE}{x y z:Str}{o s u B:Pos}{l:Nat}
end
section
variable{X:Cx}
end
section
variable{X:Cx}{f u c:Expr}{i:List Expr}{b:Scope}{l:Pos}{w:TI}{g:TG}{s:TT}{o:TE}{x:Str}
end
end L2
namespace L2
open PySem PySem.Spec PyProof.Rows PySem.W
section
variable{b:Program}{w:World}{A:Around}{E:Value->Shared->Prop}{s:Shared}
end
end L2
namespace L2
open PySem PySem.Spec PyProof.Rows PySem.W
def ltP(a b:Int×Int):Bool:=decide (a.1<b.1\/a.1=b.1/\a.2<b.2)
theorem YH(a:Int×Int):ltP a a=false:=qy (by omega)
def PrR(H:Hp)(c:List V)(b:List (Int×Int)):Prop:=c.length=b.length/\∀(j:Nat) q,b[j]? =some q->∃T,c[j]? =some (.ref T)/\H T=some (.tup [.int q.1,.int q.2])
theorem PrR.nil{H:Hp}:PrR H [] []:=⟨rfl,fun j q e=>by simp at e⟩
theorem PrR.same{H c:Hp}{g:List V}{f:List (Int×Int)}(h:PrR H g f)(s:Same H c):PrR c g f:=⟨h.1,fun j k e=>let ⟨T,a,b⟩:=h.2 j k e;⟨T,a,s _ _ b⟩⟩
theorem PrR.snoc{H:Hp}{i:List V}{c:List (Int×Int)}{q:Int×Int}{T:Addr}(h:PrR H i c)(e:H T=some (.tup [.int q.1,.int q.2])):PrR H (i++[.ref T]) (c++[q]):=by
 refine⟨by rw[qR,qR,h.1];rfl,fun j r b=>?_⟩
 by_cases f:j<c.length
 ·rw[xq f] at b
  obtain⟨U,e1,e2⟩:=h.2 j r b;exact⟨U,by rw[xq (by rw[h.1];exact f)];exact e1,e2⟩
 ·have g:=(qg.mp b).1
  rw[qR] at g;have l:j=c.length:=by simp at g;omega
  subst l;rw[xF (zi _),wo] at b;have:q=r:=by simpa using b
  subst this;exact⟨T,by rw[<- h.1,xF (zi _),wo];rfl,e⟩
section
variable{X:Cx}
def zeO(X:Cx)(f:Value)(i:List (Str×Value))(r:List V->Hp->VK->Prop):Prop:=
 ∀(b:List (Addr×Obj)) (s:Shared) (σ:St) (H:Hp) (g:List V) (c:List Value) (Q:VK),Inv X b σ H s->Vals g c->r g H Q->wpAny (model X.prog X.w) X.A (call f c i) (EP X b σ Q) X.xe s
end
end L2
namespace L2
open PySem PySem.Spec PyProof.Rows
section
variable{X:Cx}
end
theorem zhC{X:Cx}{c e1 e2 f g i l o s u:Expr}{w A B D E G H I J L:TE}(h0:PE X c w)(h1:PE X e1 A)(h2:PE X e2 B)(h3:PE X f D)(M:PE X g E)(N:PE X i G)(O:PE X l H)(Q:PE X o I)(T:PE X s J)(U:PE X u L)(h:([c,e1,e2,f,g,i,l,o,s,u]).all Vi=true:=by rfl):PA X [c,e1,e2,f,g,i,l,o,s,u] (zZ w (zZ A (zZ B (zZ D (zZ E (zZ G (zZ H (zZ I (zZ J (zZ L V0)))))))))):=by
 have b:=jw.mp h;exact(za h0 (za h1 (za h2 (za h3 (za M (za N (za O (za Q (za T (za U zb (zx (b _ (by simp)))) (zx (b _ (by simp)))) (zx (b _ (by simp)))) (zx (b _ (by simp)))) (zx (b _ (by simp)))) (zx (b _ (by simp)))) (zx (b _ (by simp)))) (zx (b _ (by simp)))) (zx (b _ (by simp)))) (zx (b _ (by simp))))
section
variable{X:Cx}
theorem zav(x:Str)(l u:Option Int):∀c∈(Txt.slice x l u).cps.toList,c∈x.cps.toList:=by
 intro c hc;unfold Txt.slice at hc;split at hc
 ·exact hc
 ·obtain⟨i,_,e⟩:=ZF.mp (List.mem_toArray.mp (Array.mem_toList_iff.mp hc))
  exact Array.mem_toList_iff.mpr (Array.mem_of_getElem? e)
inductive JP(x:V)(b:Option Int)(f:Option Int)(H:Hp)(Q:VK):Prop
 | mk (z:_) (_:x=.str z) (_:z.length<=sizeLine) (_:∀y:Str,y.length<=z.length->(∀c∈y.cps.toList,c∈z.cps.toList)->Q (.str y) H):JP x b f H Q
theorem wD:SlR X (JP):=by
 intro c s σ H x v M N lo J L Q I G f E w h;obtain⟨z,rfl,D,q⟩:=h;obtain⟨t,rfl⟩:=G;have g:∀l u,(Txt.slice z l u).length<=sizeLine:=fun l u=>qk (Txt.slice_le z l u) D
 have b:∀l u A k,(EP X c σ Q) (.str (Txt.slice z l u) A) { s with toks:=k }:=fun l u A k=>⟨.str (Txt.slice z l u),H,I.tok _,⟨_,rfl⟩,q _ (Txt.slice_le z l u) (zav z l u)⟩
 refine⟨"str",_,F.slot_str_getitem.lookup,typeIs_str _ _ _,?_⟩
 cases E with
 | none=>
  cases w with
  | none=>exact wpAny_getItem_str_slice (l:=none) (u:=none) (st:=none) f rfl (post_val_or_str ⟨g _ _,b none none⟩)
  | int j o=>exact wpAny_getItem_str_slice (l:=none) (u:=some (j,o)) (st:=none) f rfl (post_val_or_str ⟨g _ _,b none (some j)⟩)
 | int i B=>
  cases w with
  | none=>exact wpAny_getItem_str_slice (l:=some (i,B)) (u:=none) (st:=none) f rfl (post_val_or_str ⟨g _ _,b (some i) none⟩)
  | int j o=>exact wpAny_getItem_str_slice (l:=some (i,B)) (u:=some (j,o)) (st:=none) f rfl (post_val_or_str ⟨g _ _,b (some i) (some j)⟩)
end
def AtQ(K:W.Frag)(H:Hp)(t:Bool)(a:Addr)(b:List V):Prop:=if t=true then SqT K H a b else H a=some (.lst b)
def SqQ(K:W.Frag)(H:Hp)(t:Bool)(a:Addr)(b:List V):Prop:=if t=true then SqT K H a b else SqL K H a b
theorem AtQ.sq{K:W.Frag}{H:Hp}{t:Bool}{a:Addr}{b:List V}(h:AtQ K H t a b):SqQ K H t a b:=by
 cases t with
 | true=>exact h
 | false=>exact u3 h
theorem AtQ.same{K:W.Frag}{H b:Hp}{t:Bool}{a:Addr}{c:List V}(h:AtQ K H t a c)(s:Same H b):AtQ K b t a c:=by
 cases t with
 | true=>exact s.sqT h
 | false=>exact s _ _ h
def oQ(t:Bool)(b:List V):HO:=if t=true then .tup b else .lst b
def Tkn(H:Hp)(b:List Addr):Prop:=∀e∈b,∃o,H e=some o
theorem Tkn.out{H:Hp}{b:List Addr}{p:Addr}(h:Tkn H b)(hp:H p=none):p∉b:=fun z=>by
 obtain⟨o,e⟩:=h p z;rw[hp] at e;cases e
theorem AtQ.new{K:W.Frag}{H:Hp}{c:List Addr}{p:Addr}(T:Tkn H c)(hp:H p=none)(t:Bool)(b:List V):AtQ K (WX c (upd H p (oQ t b))) t p b:=by
 have:=WX.at (T.out hp) (zc (H:=H) (a:=p) (o:=oQ t b));cases t with
 | true=>exact u5 this
 | false=>exact this
section
variable{X:Cx}
theorem zcg{x y:V}(c:List (Addr×Obj))(s:Shared)(σ:St)(H:Hp)(v u:Value)(Q:VK)(I:Inv X c σ H s)(U:RelV x v)(Y:RelV y u)(h:∃a b l,x=.ref a/\y=.ref b/\SqT X.K H a []/\SqT X.K H b l/\Q (.ref b) H) :
  wpAny (model X.prog X.w) X.A (binaryOp .Add v u) (EP X c σ Q) X.xe s:=by
 obtain⟨a,b,l,rfl,rfl,A,hb,q⟩:=h;cases U;cases Y;obtain⟨f,T,N,_⟩:=I.tuple A;obtain⟨B,r2,O,_⟩:=I.tuple hb;have hv:f=[]:=T.nil_iff.mpr rfl;obtain⟨⟨c1,o,g1,G⟩,g,D,L,e1⟩:=N;obtain⟨⟨c2,w,g2,J⟩,i,E,M,e2⟩:=O;cases D;cases e1;cases E;cases e2;have m:=tuple_addW0 a b f.toArray B.toArray L M o w G J (by simp[hv])
 exact concat_meets ⟨_,g,rfl⟩ ⟨_,i,rfl⟩ noFill_tuple_add seq_tuple_add WO WP (WR _ _) m ⟨g,i,.ref b,H,I,rfl,q⟩
inductive zb0(K:W.Frag)(x:V)(y:V)(H:Hp)(Q:VK):Prop
 | mk (t:Bool) (a b:Addr) (i l:List V) (f:List Addr) (_:x=.ref a) (_:y=.ref b) (_:Tkn H f) (_:AtQ K (WX f H) t a i) (_:AtQ K (WX f H) t b l) (_:i.length+l.length<=sizeLine) (_:∀c g,Same H g->AtQ K (WX f g) t c (i++l)->Q (.ref c) g):zb0 K x y H Q
theorem j9:OpR X (binaryOp .Add) (zb0 X.K):=by
 intro c s σ H x y v u Q I g i h;obtain⟨t,a,b,l,o,A,rfl,rfl,T,f,hb,w,q⟩:=h;cases t with
 | false=>exact vo c s σ H _ _ v u Q I g i ⟨a,b,l,o,rfl,rfl,WX.le _ _ f,WX.le _ _ hb,w,fun p hp=>q p _ (zd hp) (AtQ.new T hp false _)⟩
 | true=>
  by_cases e:l=[]
  ·subst e
   exact zcg c s σ H v u Q I g i ⟨a,b,o,rfl,rfl,WX.le.sqT f,WX.le.sqT hb,q b H (u4 _) hb⟩
  ·refine YC c s σ H _ _ v u Q I g i ⟨a,b,l,o,rfl,rfl,WX.le.sqT f,WX.le.sqT hb,e,w,fun e2=>q a H (u4 _) ?_,fun _ p hp=>q p _ (zd hp) (AtQ.new T hp true _)⟩
   rw[e2,wg];exact f
theorem zaw{t i:Addr}{items:Array Value}{D G:Value}{lo o:Option Int}{c:Program}{w:World}{A:Around}{E:Value->Shared->Prop}{s:Shared}{Q:Value->Shared->Prop}(b:IsTup s.heap t items)(u:s.heap.IsSliceOf i D G .none)(J:IsPart D lo)(L:IsPart G o)
  (h1:HT.sIx items.size 0 lo=0) (h2:HT.sIx items.size items.size o=items.size) (h:Q (.ref t) s):wpAny (model c w) A (getItem (.ref t) (.ref i)) Q E s:=by
 obtain⟨os,g,f,I⟩:=id u;have H:s.TypeIs (.ref i) "slice" :=⟨os,g,f⟩;unfold getItem;try with_reducible refine jR ?_
 first| refine zn (zy ?_) | skip
 refine zn (wpAny_sequenceKey b.typeIs (by decide) ?_)
 refine zn (QA (name:=Str.ofString "__getitem__") b.typeIs slot_tuple_getitem (vS slot_tuple_getitem b.typeIs entry_tuple_getitem ?_ (args_tuple_getitem _ _)))
 refine zn (m:=Builtin.Tuple.tupleItemsOf (.ref t)) (tupleItemsOf_ b ?_)
 refine zn (wpAny_typeOf H ?_)
 rw[zF (by decide)]
 refine zn (HT.sliceApplied_gen u J L ?_)
 rw[h1,h2];have l:((((0:Nat):Int)==0&&(1:Int)==1&&(items.size-0)==items.size)=true):=by simp
 show wpAny _ _ (if(((0:Nat):Int)==0&&(1:Int)==1&&(items.size-0)==items.size)=true then _ else _) _ _ s
 rw[zF l];refine zn (m:=Builtin.Tuple.tupleIsExact (.ref t)) (zn (wpAny_typeOf b.typeIs (zy ?_)))
 rw[zF (by decide)]
 exact zn (vC (zy ⟨_,rfl,zy h⟩))
inductive zdj(K:W.Frag)(x:V)(lo:Option Int)(g:Option Int)(H:Hp)(Q:VK):Prop
 | mk (t:Bool) (a:Addr) (i:List V) (f:List Addr) (_:x=.ref a) (_:Tkn H f) (_:SqQ K (WX f H) t a i) (_:∀c b,Same H b->AtQ K (WX f b) t c (qP i lo g)->Q (.ref c) b):zdj K x lo g H Q
theorem Z7:SlR X (zdj X.K):=by
 intro c s σ H x v E G lo g D Q I w i o u h;obtain⟨t,a,b,L,rfl,T,f,q⟩:=h;cases t with
 | false=>exact jY c s σ H _ v E G lo g D Q I w i o u ⟨a,b,rfl,WX.le.seq f,fun p hp=>q p _ (zd hp) (AtQ.new T hp false _)⟩
 | true=>
  by_cases e:HT.sIx b.length 0 lo=0/\HT.sIx b.length b.length g=b.length
  ·have J:qP b lo g=b:=by
    unfold qP;rw[e.1,e.2,List.drop_zero,Nat.sub_zero,jL]
   cases w;obtain⟨l,r,B,M⟩:=I.tuple (WX.le.sqT f);have A:l.toArray.size=b.length:=by rw[qt];exact r.length.symm
   refine⟨"tuple",_,slot_tuple_getitem.lookup,B.typeIs,zaw B i o u (by rw[A];exact e.1) (by rw[A];exact e.2) ⟨.ref a,H,I,rfl,q a H (u4 _) ?_⟩⟩
   rw[J];exact f
  ·exact V4 c s σ H _ v E G lo g D Q I w i o u ⟨a,b,rfl,WX.le.sqT f,e,fun p hp=>q p _ (zd hp) (AtQ.new T hp true _)⟩
end
end L2
namespace PySem
section
variable{b:Program}{w:World}{A:Around}{d:Addr}{f:Array DictEntry}{c:Nat}
end
end PySem
namespace L2
open PySem PySem.Spec PyProof.Rows
section
variable{X:Cx}
end
section
variable{X:Cx}
variable{o e:Expr}{g:List Expr}{to:TE}{t:TA}{f:Str}{b c:Pos}{id:String}{r:V->List V->Hp->VK->Prop}
end
end L2
namespace L2
open PySem PySem.Spec PyProof.Rows PySem.W
section
variable{X:Cx}
end
end L2
namespace L2
open PySem PySem.Spec PyProof.Rows PySem.W
section
variable{X:Cx}
end
end L2
namespace L2
open PySem PySem.Spec PyProof.Rows PySem.W
section
variable{X:Cx}
end
end L2
namespace L2
open PySem PySem.Spec PyProof.Rows PySem.W
section
variable{c:Program}{w:World}{A:Around}{E:Value->Shared->Prop}{s:Shared}
inductive Q0(c:Program)(w:World)(A:Around)(s:Shared):List Value->List Value->Bool->Prop
 | nil:Q0 c w A s [] [] false
 | nl {y i}:Q0 c w A s [] (y::i) true
 | ln {x f}:Q0 c w A s (x::f) [] false
 | eq {x y f i b} (h:∀(Q:Bool->Shared->Prop) E,Q true s->wpAny (model c w) A (eqBool x y) Q E s) (t:Q0 c w A s f i b):Q0 c w A s (x::f) (y::i) b
 | ne {x y f i b} (h:∀(Q:Bool->Shared->Prop) E,Q false s->wpAny (model c w) A (eqBool x y) Q E s) (g:∀(Q:Value->Shared->Prop) E,Q (.bool b) s->wpAny (model c w) A (richCompare .Lt x y) Q E s):Q0 c w A s (x::f) (y::i) b
theorem Q3{x y:Addr}{J G:Obj}{i l:Array Value}{n k:Nat}{b:Bool}{P:PySem.Fin->Shared->Prop}(hx:s.heap.get? x=some J)(M:J.data=.seq i n)(hy:s.heap.get? y=some G)(L:G.cls=.type "tuple")(N:G.data=.seq l k)
  (T:Q0 c w A s i.toList l.toList b) (h:P (.done (.ret (.bool b))) s):wpAny (model c w) A (Builtin.«tuple.__lt__» ⟨[.ref x,.ref y],[]⟩) P E s:=by
 show wpAny _ _ (isInstance (.ref y) (.type "tuple") >>= _) _ _ s;refine zn (ye (T:= "tuple") ⟨G,hy,L⟩ isSubtype_tuple_tuple ?_)
 simp only[wH,qW,if_false];refine zn (wpAny_tupleItemsOf hx M (zn (wpAny_tupleItemsOf hy N (zn ?_))))
 refine wpAny_forIn_list _ (fun rest r H=>r.1=none/\H=s/\∃B D,rest=List.zip B D/\Q0 c w A s B D b/\B.length+l.size=D.length+i.size) _ ?_ ?_ _ _ ⟨rfl,rfl,i.toList,l.toList,rfl,T,by simp[Nat.add_comm]⟩
 ·rintro⟨u,v⟩ rest r H ⟨I,rfl,B,D,f,t,o⟩
  cases t with
  | nil=>simp at f
  | nl=>simp at f
  | ln=>simp at f
  | eq e t=>
   simp only[WA,List.cons.injEq,Xk] at f;obtain⟨⟨rfl,rfl⟩,rfl⟩:=f;refine zn (e _ _ ?_)
   simp only[wH,qW,if_false];exact zy ⟨rfl,rfl,_,_,rfl,t,by simp only[jv] at o;omega⟩
  | ne e g=>
   simp only[WA,List.cons.injEq,Xk] at f;obtain⟨⟨rfl,rfl⟩,rfl⟩:=f;refine zn (e _ _ ?_)
   simp only[QK,if_true];refine zn (vC (zn (g _ _ ?_)))
   exact zn (zy (zy (zy h)))
 ·rintro⟨O,Q⟩ H ⟨I,rfl,B,D,f,t,o⟩
  simp only at I;subst I;refine zy ?_
  have hb:decide (i.size<l.size)=b:=by
   cases t with
   | nil=>exact qy (by simp at o;omega)
   | nl=>exact zQ (by simp at o;omega)
   | ln=>exact qy (by simp at o;omega)
   | eq e t=>simp at f
   | ne e g=>simp at f
  show P (.done (.ret (.bool (decide (i.size<l.size))))) H;rw[hb];exact h
theorem zbm{x y:Addr}{f g:Obj}{o u:Array Value}{n k:Nat}{b:Bool}{Q:Value->Shared->Prop}(hu:A.units<cLine)(hx:s.heap.get? x=some f)(i:f.cls=.type "tuple")(B:f.data=.seq o n)(hy:s.heap.get? y=some g)(l:g.cls=.type "tuple")(D:g.data=.seq u k)
  (T:Q0 c w A.in1 s o.toList u.toList b) (h:Q (.bool b) s):wpAny (model c w) A (richCompare .Lt (.ref x) (.ref y)) Q E s:=
 wpAny_richCompare_same_room (op:=.Lt) (T:= "tuple") ⟨f,hx,i⟩ ⟨g,hy,l⟩ F.slot_tuple_lt
  (vS F.slot_tuple_lt ⟨f,hx,i⟩ F.entry_tuple_lt (Q3 hx B hy l D T ⟨_,rfl,(fun e=>nomatch e),h⟩) (F.args_tuple_lt_2 _ _)) hu
def ltN:List Int->List Int->Bool
 | [],[]=>false
 | [],_::_=>true
 | _::_,[]=>false
 | a::f,b::g=>if a=b then ltN f g else decide (a<b)
theorem eq_int(x y:Int)(t u:Tok){Q:Bool->Shared->Prop}(h:Q (decide (x=y)) s):wpAny (model c w) A (eqBool (.int x t) (.int y u)) Q E s:=by
 refine(qL c w).eqBool (a:=Sum.inl x) (b:=Sum.inl y) (wG ⟨t,rfl⟩) (wG ⟨u,rfl⟩) ?_
 rw[show decide ((Sum.inl x:Key)=Sum.inl y)=decide (x=y) from yb.mpr ⟨fun z=>vP z,fun z=>by rw[z]⟩]
 exact h
theorem zdP(x y:Int)(t u:Tok){Q:Value->Shared->Prop}(h:Q (.bool (decide (x<y))) s):wpAny (model c w) A (richCompare .Lt (.int x t) (.int y u)) Q E s:=
 richCompare_gives (op:=.Lt) (typeIs_int s _ t) (typeIs_int s _ u) F.slot_int_lt F.entry_int_lt (F.args_int_lt_2 _ _) (gives_int_lt _ _ t u) (fun x=>nomatch x) h
theorem Vm:∀{as bs:List Int} {f g:List Value},Vals (as.map V.int) f->Vals (bs.map V.int) g->Q0 c w A s f g (ltN as bs)
 | [],[],_,_,.nil,.nil=>.nil
 | [],_::_,_,_,.nil,.cons _ _=>.nl
 | _::_,[],_,_,.cons _ _,.nil=>.ln
 | a::as,b::bs,_,_,.cons ⟨t,e1⟩ i,.cons ⟨u,e2⟩ l=>by
  subst e1 e2;by_cases h:a=b
  ·have e:ltN (a::as) (b::bs)=ltN as bs:=zF h
   rw[e];exact .eq (fun Q E q=>eq_int a b t u (by rw[zQ h];exact q)) (Vm i l)
  ·have e:ltN (a::as) (b::bs)=decide (a<b):=zB h
   rw[e];exact .ne (fun Q E q=>eq_int a b t u (by rw[qy h];exact q)) fun Q E q=>zdP a b t u q
end
section
variable{b:Program}{w:World}{A:Around}{R:Result->Shared->Prop}{I S:Addr}{c f:List Addr}{n:Nat}{P:Nat->Value->Prop}{St:Nat->Heap->Prop}
end
end L2
namespace L2
open PySem PySem.Spec PyProof.Rows PySem.W
def WkR(H:Hp)(c:List V)(b:List (Int×List Int)):Prop:=c.length=b.length/\∀(j:Nat) q,b[j]? =some q->∃T U,c[j]? =some (.ref T)/\H T=some (.tup [.int q.1,.ref U])/\H U=some (.tup (q.2.map V.int))
theorem WkR.nil{H:Hp}:WkR H [] []:=⟨rfl,fun j q e=>by simp at e⟩
theorem WkR.same{H f:Hp}{i:List V}{g:List (Int×List Int)}(h:WkR H i g)(s:Same H f):WkR f i g:=⟨h.1,fun j k e=>let ⟨T,U,a,b,c⟩:=h.2 j k e;⟨T,U,a,s _ _ b,s _ _ c⟩⟩
theorem WkR.snoc{H:Hp}{i:List V}{c:List (Int×List Int)}{q:Int×List Int}{T U:Addr}(h:WkR H i c)(e:H T=some (.tup [.int q.1,.ref U]))(s:H U=some (.tup (q.2.map V.int))):WkR H (i++[.ref T]) (c++[q]):=by
 refine⟨by rw[qR,qR,h.1];rfl,fun j r b=>?_⟩
 by_cases f:j<c.length
 ·rw[xq f] at b
  obtain⟨l,o,e1,e2,u⟩:=h.2 j r b;exact⟨l,o,by rw[xq (by rw[h.1];exact f)];exact e1,e2,u⟩
 ·have g:=(qg.mp b).1
  rw[qR] at g;have w:j=c.length:=by simp at g;omega
  subst w;rw[xF (zi _),wo] at b;have:q=r:=by simpa using b
  subst this;exact⟨T,U,by rw[<- h.1,xF (zi _),wo];rfl,e,s⟩
theorem WkR.set{H:Hp}{l:List V}{g:List (Int×List Int)}{q:Int×List Int}{T U:Addr}{i:Nat}(h:WkR H l g)(e:H T=some (.tup [.int q.1,.ref U]))(u:H U=some (.tup (q.2.map V.int))):WkR H (l.set i (.ref T)) (g.set i q):=by
 refine⟨by rw[QM,QM,h.1],fun j r b=>?_⟩
 by_cases c:i=j
 ·subst c
  have f:=(qg.mp b).1;rw[QM] at f;rw[XA f] at b;cases b;exact⟨T,U,XA (by rw[h.1];exact f),e,u⟩
 ·rw[Xz c] at b
  obtain⟨o,s,e1,e2,w⟩:=h.2 j r b;exact⟨o,s,by rw[Xz c];exact e1,e2,w⟩
section
variable{X:Cx}
end
end L2
namespace L2
open PySem PySem.Spec PyProof.Rows PySem.W
section
variable{X:Cx}
end
end L2
namespace L2
open PySem PySem.Spec PyProof.Rows
section
variable{X:Cx}
end
section
variable{b:Program}{w:World}{K:Type}[DecidableEq K]{c:KeyKind b w K}{A:Around}{E:Value->Shared->Prop}{s:Shared}
end
section
variable{X:Cx}
end
end L2
namespace L2
open PySem PySem.Spec PyProof.Rows PySem.W
theorem za9(a:Value):argsOk "min" ⟨[a],[(Str.ofString "default",.none)]⟩:=by unfold argsOk;kernel_rfl
theorem zgT(p q:Int×Int):ltP p q=ltN [p.1,p.2] [q.1,q.2]:=by
 show _=if p.1=q.1 then(if p.2=q.2 then false else decide (p.2<q.2)) else decide (p.1<q.1)
 unfold ltP;by_cases e1:p.1=q.1
 ·rw[zF e1]
  by_cases e2:p.2=q.2
  ·rw[zF e2];exact qy (by omega)
  ·rw[zB e2];exact yb.mpr (by omega)
 ·rw[zB e1];exact yb.mpr (by omega)
def ZS(b:List (Int×Int)):Nat:=argBest (fun i j=>ltP (b.getD i (0,0)) (b.getD j (0,0))) (b.length-1)
theorem Xh(f:Nat->Int×Int):∀n,argBest (fun i j=>ltP (f i) (f j)) n<=n/\∀j,j<=n->ltP (f j) (f (argBest (fun i j=>ltP (f i) (f j)) n))=false
 | 0=>⟨zi _,fun j c=>by rw[show j=0 by omega];exact YH _⟩
 | n+1=>by
  obtain⟨h1,h2⟩:=Xh f n;cases hb:ltP (f (n+1)) (f (argBest (fun i j=>ltP (f i) (f j)) n)) with
  | true=>
   have e:argBest (fun i j=>ltP (f i) (f j)) (n+1)=n+1:=by simp only[argBest,hb,if_true]
   rw[e];refine⟨zi _,fun j c=>?_⟩
   rcases Zf j (n+1) with z | z
   ·have a:=Zp (h2 j (by omega))
    have b:=qB hb;exact qy (by omega)
   ·rw[show j=n+1 by omega];exact YH _
  | false=>
   have e:argBest (fun i j=>ltP (f i) (f j)) (n+1)=argBest (fun i j=>ltP (f i) (f j)) n:=by simp only[argBest,hb,qW,if_false]
   rw[e];refine⟨by omega,fun j c=>?_⟩
   rcases Zf j (n+1) with z | z
   ·exact h2 j (by omega)
   ·rw[show j=n+1 by omega];exact hb
theorem YG{b:List (Int×Int)}(h:b≠[]):ZS b<b.length:=by
 have:=(Xh (fun i=>b.getD i (0,0)) (b.length-1)).1
 have:=WD.mpr h;unfold ZS;omega
theorem zdN{b:List (Int×Int)}{j:Nat}(h:j<b.length):ltP (b.getD j (0,0)) (b.getD (ZS b) (0,0))=false:=
 (Xh (fun i=>b.getD i (0,0)) (b.length-1)).2 j (by omega)
section
variable{f:Program}{w:World}{A:Around}{R:Result->Shared->Prop}{I S:Addr}{l g:List Addr}{n:Nat}{P:Nat->Value->Prop}{St:Nat->Heap->Prop}
theorem Wd(W:Walks f w A.in1 I l g n P St)(M:Nat->Nat->Bool)(J:Heap->Prop)(hJ:∀h u,J h->(∀b o,b∉g->b≠S->h.get? b=some o->u.get? b=some o)->J u)
  (hc:∀i j vi vj (s:Shared) (Q:Value->Shared->Prop) (E:Value->Shared->Prop),J s.heap->P i vi->P j vj->Q (.bool (M i j)) s->wpAny (model f w) A.in1 (richCompare .Lt vi vj) Q E s) (O:S∉l) :
  ∀(k j:Nat) (s:Shared) (B:Value) (c:Nat),n=j+1+k->St (j+1) s.heap->J s.heap->P (argBest M j) B->s.heap.get? S=some (seqObj "list" #[B,B] c) ->
   (∀v u U,P (argBest M (n-1)) v->(∀b o,b∉g->b≠S->s.heap.get? b=some o->u.get? b=some o)->R (.ok (.ret v)) { s with heap:=u,toks:=U }) ->
   codeAny (model f w) A (.builtin "min.loop" ⟨[.ref I,.none,.ref S],[("default",.none)]⟩) R s:=by
 have nw:S∉g:=fun h=>O (W.sub _ h)
 have nm:(toString "min" ++ toString ".loop" : String) = "min.loop" :=by decide
 intro k;induction k with
 | zero=>
  intro j s B c hn st j0 pb N Y;refine codeAny_builtin Wt ?_
  rw[QU ya _];show wpAny _ A.in1 (seqItems? (.ref S) >>= _) _ _ s;refine zn (xY N rfl ?_)
  show wpAny _ A.in1 (tryCatch (pyNext (.ref I)) _ >>= _) _ _ s;have a6:St n s.heap:=by rw[hn];exact st
  refine zn (wpAny_tryCatch (W.done s _ _ a6 fun u U G=>?_))
  show wpAny _ A.in1 (updateSeq S (fun _=>#[]) >>= _) _ _ _
  refine zn (wpAny_updateSeq (G S _ nw N) rfl (zn (wT (zy ?_))))
  exact Y B _ U (by rw[hn];exact pb) fun b o b1 b2 e=>(QW _ _ (qA b2)).trans (G b o b1 e)
 | succ k ih=>
  intro j s B c hn st j0 pb N Y;refine codeAny_builtin Wt ?_
  rw[QU ya _];show wpAny _ A.in1 (seqItems? (.ref S) >>= _) _ _ s;refine zn (xY N rfl ?_)
  show wpAny _ A.in1 (tryCatch (pyNext (.ref I)) _ >>= _) _ _ s;refine zn (wpAny_tryCatch (W.item (j+1) s _ _ (by omega) st fun v u U pv T G=>?_))
  have D:=G S _ nw N;have j2:J u:=hJ _ _ j0 fun b o b1 _ e=>G b o b1 e
  show wpAny _ A.in1 (tryCatch (holding [v,v] (richCompare .Lt v B >>= _)) _ >>= _) _ _ _;refine zn (wpAny_tryCatch (jR (zn (hc (j+1) (argBest M j) v B { s with heap:=u,toks:=U } _ _ j2 pv pb ?_))))
  refine zn (jR (vU (zn (wT (zy ?_)))))
  cases hb:M (j+1) (argBest M j) with
  | true=>
   simp only[if_true];refine zn (wpAny_updateSeq D rfl (zn (wT ?_)))
   rw[nm];have H:∀b o,b≠S->u.get? b=some o->(u.update S (Obj.mapSeq fun _=>#[v,v])).get? b=some o:=fun b o b2 e=>(QW _ _ (qA b2)).trans e
   refine zy ⟨plainId_quiet ya _,ih (j+1) _ v _ (by omega) (W.frame _ _ _ T fun b bf o e=>H b o (fun z=>O (by rw[<- z];exact bf)) e) (hJ _ _ j2 fun b o _ b2 e=>H b o b2 e) (by simp only[argBest,hb,if_true];exact pv) (ZH _ D rfl) fun v' h2 L p2 k2=>?_⟩
   exact Y v' h2 L p2 fun b o b1 b2 e=>k2 b o b1 b2 (H b o b2 (G b o b1 e))
  | false=>
   simp only[qW,if_false];refine zn (wT ?_)
   rw[nm];refine zy ⟨plainId_quiet ya _,ih (j+1) _ B c (by omega) T j2 (by simp only[argBest,hb,qW,if_false];exact pb) D fun v' h2 L p2 k2=>?_⟩
   exact Y v' h2 L p2 fun b o b1 b2 e=>k2 b o b1 b2 (G b o b1 e)
end
section
variable{X:Cx}
theorem V9{id:String}{r:List V->Hp->VK->Prop}{x:Str}{p c O:Pos}{e o:Expr}{g:List Expr}{t:TA}(hc:zeO X (.builtin id) [(Str.ofString "default",.none)] r)(L:Gl X x)(M:X.mg x=none)(hv:bootBuiltins x=some (.builtin id))(G:PA X (e::g) t)(hk:PE X o (tC .non))
  (N:x ≠ "__name__" :=by decide) (l:(x==("__debug__":Str))=false:=by decide)
  (J:backTo c (starEach (e::g) X.env)=(false,eval e X.env)::backTo c (starEach g X.env):=by rfl)
  (f:(backTo c (starEach (e::g) X.env)).any (·.1)=false:=by rfl) :
  PE X (.Call (.Name x p) (e::g) [⟨some (Str.ofString "default"),o,O⟩] c) (tCB r t):=by
 intro b s σ H Q I h;refine wpAny_Call_Name_kw (vI I L M hv ?_ N l)
 refine callWith_kw (thn (G c b s σ H _ I h) fun Y s1 ⟨w,A,B,T,q1⟩=>kws_cons (thn (hk b s1 σ A (fun u i=>u=.non/\r w i Q) B ⟨rfl,q1⟩) fun v s2 ⟨u,i,D,U,E,q2⟩=>kws_nil ?_)) J f rfl rfl
 subst E;cases(show v=Value.none from U)
 exact hc b s2 σ i w Y Q D T q2
inductive ZN(K:W.Frag)(f:List V)(H:Hp)(Q:VK):Prop
 | mk (p:Addr) (c:List V) (b:List (Int×Int)) (_:f=[.ref p]) (_:SqL K H p c) (_:PrR H c b) (_:(b=[]->Q .non H)) (_:∀v,b≠[]->c[ZS b]? =some v->Q v H):ZN K f H Q
theorem za3(hc:X.calm=true)(hu:X.A.units+64<cLine):zeO X (.builtin "min") [(Str.ofString "default",.none)] (ZN X.K):=by
 intro ab s σ H xs us Q I r h;obtain⟨p,zs,g,rfl,hq,wk,qn,q⟩:=h;obtain⟨u,rfl,ru⟩:=xI r;cases(show u=_ from ru)
 obtain⟨f,rv,pl,hz⟩:=I.list hq;have hl:=pl.isList;have af:=rv.length;have wl:=wk.1;have B:p<s.heap.objs.size:=let ⟨_,e,_⟩:=hl;zO e
 have nm:(toString "min" ++ toString ".loop" : String) = "min.loop" :=by decide
 have ae:X.A.in1.in1.units<cLine:=ZE (WE (by decide:2<=64) _) hu
 have a8:X.A.in1.units<cLine:=ZE (WE (by decide:1<=64) _) hu
 have tup:∀(j:Nat) v,f[j]? =some v->∃T q,v=Value.ref T/\g[j]? =some q/\∃o n t u,s.heap.get? T=some o/\o.cls=.type "tuple" /\ o.data=.seq #[.int q.1 t,.int q.2 u] n:=fun j v hj=>by
  have ac:=(qg.mp hj).1;have ek:g[j]? =some (g[j]'(by omega)):=xL _
  generalize g[j]'(by omega)=k at ek
  obtain⟨T,e1,e2⟩:=wk.2 j k ek;obtain⟨v',L,e5⟩:=rv.get e1;rw[hj] at L;cases L;cases(show v=Value.ref T from e5)
  obtain⟨_,ts,rt,⟨o,ho,a6,n,a7⟩,_⟩:=(show ObjOk X.prog X.w H s.heap T (.tup [.int k.1,.int k.2]) from I.hok T _ e2)
  cases rt with
  | cons r1 rt=>
   cases rt with
   | cons r2 rt=>
    cases rt;obtain⟨t1,rfl⟩:=r1;obtain⟨t2,rfl⟩:=r2;exact⟨T,k,rfl,ek,o,n,t1,t2,ho,a6,a7⟩
 refine kmk_tree F.kind_min F.plain_min F.entry_min (za9 _) ?_
 show wpAny _ X.A.in1 (Builtin.Builtins.bindParams "min" ["key","default"] 0 ⟨[],[(Str.ofString "default",.none)]⟩ >>= _) _ _ s;refine zn (wpAny_of_eq (show Builtin.Builtins.bindParams "min" ["key","default"] 0 ⟨[],[(Str.ofString "default",.none)]⟩=pure [none,some .none] from rfl) (zn (zy (zn (wpAny_pyIter_list hl ?_)))))
 refine zn (yK ?_)
 rw[nm];have hI:s.heap.objs.size<(s.heap.push { cls:=.type "list_iterator",data:=.fields #[.ref p,.int 0 0] }).objs.size:=by rw[xD];exact yJ _
 have J:(s.heap.push { cls:=.type "list_iterator",data:=.fields #[.ref p,.int 0 0] }).IsListIter s.heap.objs.size p 0:=⟨_,qH _ rfl,rfl,rfl⟩;have G:(s.heap.push { cls:=.type "list_iterator",data:=.fields #[.ref p,.int 0 0] }).IsList p f.toArray:=hl.push _;have k1:∀b o,s.heap.get? b=some o->(s.heap.push { cls:=.type "list_iterator",data:=.fields #[.ref p,.int 0 0] }).get? b=some o:=fun b o e=>qw _ e
 generalize s.heap.push { cls:=.type "list_iterator",data:=.fields #[.ref p,.int 0 0] }=h1 at hI J G k1;have W:=Walks.list (prog:=X.prog) (w:=X.w) (A:=X.A.in1.in1) (I.ok.hd hc) s.heap.objs.size p (qz B) f.toArray;have W':=Walks.list (prog:=X.prog) (w:=X.w) (A:=X.A.in1) (I.ok.hd hc) s.heap.objs.size p (qz B) f.toArray;have E:h1.objs.size∉[s.heap.objs.size,p]:=by
  intro z;rcases z9.mp z with z | z
  ·omega
  ·exact xK _ (QG B (qv.mp z▸hI))
 have hS:(h1.push { cls:=.type "list",data:=.seq ([]:List Value).toArray }).get? h1.objs.size=some (seqObj "list" #[] 0):=qH _ rfl;refine zy ⟨plainId_quiet ya _,codeAny_builtin Wt ?_⟩
 rw[QU ya _];show wpAny _ _ (seqItems? (.ref h1.objs.size) >>= _) _ _ _;refine zn (xY hS rfl ?_)
 show wpAny _ _ (tryCatch (pyNext (.ref s.heap.objs.size)) _ >>= _) _ _ _;by_cases l:g=[]
 ·have il:f.length=0:=by have z:=wl;rw[l,wY] at z;omega
  have e0:f.toArray.size=0:=by rw[qt];exact il
  refine zn (wpAny_tryCatch (W'.done { s with heap:=h1.push { cls:=.type "list",data:=.seq ([]:List Value).toArray } } _ _ (by rw[e0];exact⟨J.at fun o e=>qw _ e,G.push _⟩) fun D tk kk=>?_))
  show wpAny _ _ (rule _ >>= _) _ _ _;refine zn (vC ?_)
  refine zy ?_
  exact⟨.non,H,I.kept (h':=D) (t':=tk) (fun b o e=>kk b o (fun z=>qz (zO e) (qv.mp z)) (qw _ (k1 b o e))),rfl,qn l⟩
 ·have h0:0<g.length:=WD.mpr l
  refine zn (wpAny_tryCatch (W'.item 0 { s with heap:=h1.push { cls:=.type "list",data:=.seq ([]:List Value).toArray } } _ _ (by rw[qt];omega) ⟨J.at fun o e=>qw _ e,G.push _⟩ fun v D tk pv a9 kk=>?_))
  have nw:h1.objs.size∉[s.heap.objs.size]:=fun z=>E (by simp at z;omega)
  have M:=kk _ _ nw hS;show wpAny _ _ (updateSeq h1.objs.size (fun _=>#[v,v]) >>= _) _ _ _
  refine zn (wpAny_updateSeq M rfl ?_)
  rw[nm];have O:∀b o,b≠h1.objs.size->D.get? b=some o->(D.update h1.objs.size (Obj.mapSeq fun _=>#[v,v])).get? b=some o:=fun b o b2 e=>(QW _ _ (qA b2)).trans e
  have all:∀b o,s.heap.get? b=some o->b≠s.heap.objs.size/\b≠h1.objs.size:=fun b o e=>⟨qz (zO e),qz (QG (zO e) hI)⟩
  have j0:∀b o,s.heap.get? b=some o->(D.update h1.objs.size (Obj.mapSeq fun _=>#[v,v])).get? b=some o:=fun b o e=>
   O b o (all b o e).2 (kk b o (fun z=>(all b o e).1 (qv.mp z)) (qw _ (k1 b o e)))
  refine zy ⟨plainId_quiet ya _,Wd (S:=h1.objs.size) W' (fun i j=>ltP (g.getD i (0,0)) (g.getD j (0,0))) (fun h=>∀b o,s.heap.get? b=some o->h.get? b=some o) (fun h h2 a b c o e=>b c o (fun z=>(all c o e).1 (qv.mp z)) (all c o e).2 (a c o e)) ?_ E (f.length-1) 0 _ v _ (by rw[qt];omega) (W'.frame _ _ _ a9 fun b bf o e=>O b o (fun z=>E (by rw[<- z];exact bf)) e) j0 pv (ZH _ M rfl) fun v' h2 aa p2 k2=>?_⟩
  ·intro i j vi vj s2 Q2 E2 jj hi hj N
   have ei:f[i]? =some vi:=by simpa using hi
   have ej:f[j]? =some vj:=by simpa using hj
   obtain⟨T,Y,rfl,fi,oi,ni,ti,ui,a1,a2,a3⟩:=tup i vi ei;obtain⟨T',qj,rfl,fj,oj,nj,tj,uj,b1,b2,b3⟩:=tup j vj ej;rw[JM,fi,JM,fj] at N;refine zbm a8 (jj _ _ a1) a2 a3 (jj _ _ b1) b2 b3 ?_ N
   show Q0 X.prog X.w X.A.in1.in1 s2 [.int Y.1 ti,.int Y.2 ui] [.int qj.1 tj,.int qj.2 uj] (ltP Y qj);rw[zgT];exact Vm (as:=[Y.1,Y.2]) (bs:=[qj.1,qj.2]) (.cons ⟨_,rfl⟩ (.cons ⟨_,rfl⟩ .nil)) (.cons ⟨_,rfl⟩ (.cons ⟨_,rfl⟩ .nil))
  ·rw[qt] at p2
   have e2:f[ZS g]? =some v':=by
    have:f.length=g.length:=by omega
    unfold ZS;rw[<- this];simpa using p2
   have hm:=YG l;have e3:zs[ZS g]? =some (zs[ZS g]'(by omega)):=xL _
   obtain⟨v2,L,e5⟩:=rv.get e3;rw[e2] at L;cases L;refine⟨_,H,I.kept (h':=h2) (t':=aa) (fun b o e=>k2 b o (fun z=>(all b o e).1 (qv.mp z)) (all b o e).2 (j0 b o e)),e5,q _ l e3⟩
end
end L2
namespace L2
open PySem PySem.Spec PyProof.Rows
section
variable{X:Cx}
end
end L2
namespace L2
open PySem PySem.Spec PyProof.Rows PySem.W
section
variable{X:Cx}
end
end L2
namespace L2
open PySem PySem.Spec PyProof.Rows
theorem yR:fillsNumberSlot (.type "tuple") "mul" = pure false:=
 PySem.fillsNumberSlot_seq (id:= "tuple.__mul__") (r:=some (.builtin "tuple.__rmul__")) Zm.lookup (by decide +kernel) F.slot_tuple_rmul.lookup (by decide +kernel)
theorem JY:seqRepeat? (.type "tuple")=pure (some (.builtin "tuple.__mul__")):=by
 unfold seqRepeat?;rw[PySem.seqSlot_of (T:= "tuple") (name:= "__mul__") (id:= "tuple.__mul__") Zm.lookup (by decide +kernel),PySem.seqSlot_of (T:= "tuple") (name:= "__rmul__") (id:= "tuple.__rmul__") F.slot_tuple_rmul.lookup (by decide +kernel)]
 rfl
theorem V5(a:Int)(t:Tok)(l:Addr)(items:Array Value)(n:Nat)(c f) :
  Meets (Builtin.«int.__rmul__» ⟨[.int a t,.ref l],[]⟩) (fun _ R s=>s.heap.get? l=some { cls:=.type "tuple",dict:=c,data:=.seq items n,slots:=f }/\R (.ok (.ret Value.notImplemented)) s):=
 .of_wp fun b w A R s h=>by obtain⟨hp,g,d,o,os⟩:=s;obtain⟨i,h⟩:=h;wp_walk;exact⟨_,rfl,h⟩
theorem VW(t:Tok)(l:Addr)(items:Array Value)(n:Nat)(c f) :
  Meets (Builtin.«tuple.__mul__» ⟨[.ref l,.int 1 t],[]⟩) (fun _ R s=>s.heap.get? l=some { cls:=.type "tuple",dict:=c,data:=.seq items n,slots:=f }/\R (.ok (.ret (.ref l))) s):=
 .of_wp fun b w A R s h=>by
  obtain⟨hp,g,d,o,os⟩:=s;obtain⟨i,h⟩:=h
  wp_walk
  exact⟨_,rfl,h⟩
theorem VX(t:Tok)(l:Addr)(items:Array Value)(n:Nat)(c f)(i:items.isEmpty=false) :
  Meets (Builtin.«tuple.__mul__» ⟨[.ref l,.int 0 t],[]⟩) (fun _ R s=>s.heap.get? l=some { cls:=.type "tuple",dict:=c,data:=.seq items n,slots:=f }/\R (.ok (.ret (.ref s.heap.objs.size))) { s with heap:=s.heap.push { cls:=.type "tuple",data:=.seq #[] }}):=
 .of_wp fun b w A R s h=>by
  obtain⟨hp,g,d,u,os⟩:=s;obtain⟨o,h⟩:=h
  wp_walk
  exact⟨_,rfl,h⟩
section
variable{X:Cx}
end
theorem Jz(b:Array Nat):∀(n:Nat) (a:Array Nat),(∀c∈a.toList,c∈b.toList)->∀c∈((List.replicate n b).foldl (·++ ·) a).toList,c∈b.toList
 | 0,a,h=>h
 | n+1,a,h=>by
  rw[ZG,wX];refine Jz b n (a++b) fun c hc=>?_
  rw[Xw] at hc;exact(ju.mp hc).elim (h c) id
theorem zdL(x:Str)(n:Int):∀c∈(Txt.mul x n).cps.toList,c∈x.cps.toList:=by
 unfold Txt.mul;split
 ·intro c hc;exact nomatch hc
 ·split
  ·exact fun c hc=>hc
  ·exact Jz x.cps _ #[] fun c hc=>nomatch hc
section
variable{X:Cx}
inductive wL(x:V)(y:V)(H:Hp)(Q:VK):Prop
 | mk (z k:_) (_:x=.str z) (_:y=.int k) (_:z.length<=100000) (_:0<=k) (_:k<=100) (_:∀w:Str,w.length<=k.toNat*z.length->(∀c∈w.cps.toList,c∈z.cps.toList)->Q (.str w) H):wL x y H Q
theorem Ve:OpR X (binaryOp .Mult) (wL):=by
 intro b s σ H x y v u Q I f g h;obtain⟨z,k,rfl,rfl,c,k0,l,q⟩:=h;obtain⟨t,rfl⟩:=f;obtain⟨o,rfl⟩:=g;have i:z.length*k.toNat<=10000000:=by
  have:z.length*k.toNat<=100000*100:=Zh c (by omega)
  omega
 refine SB.mul ⟨?_,fun h1 h2=>?_,fun h1 h2=>?_⟩ fun w A=>⟨.str (Txt.mul z k),H,I.tok _,⟨_,rfl⟩,q _ (zdM z k) (zdL z k)⟩
 ·rw[show decide (k< -(2^63:Int))=false from qy (by omega),show decide (k≥2^63)=false from qy (by omega)];rfl
 ·have:(100000:Int)<=(2^63-1)/k:=(Int.le_ediv_iff_mul_le (by omega)).mpr (by omega)
  omega
 ·exact qy (by rw[sizeLine_eq];omega)
def zhx:Dat->Str
 | .non=> "None"
 | .bl b=>if b then "True" else "False"
 | .int i=>toString i
 | .str x=>x
 | d=>d.py.shown
inductive ZM(K:W.Frag)(b:List V)(H:Hp)(Q:VK):Prop
 | mk (v:V) (d:Dat) (_:b=[v]) (_:Rep K H d v) (_:d.shw=true) (_:d.blk<=1048576) (_:d.py.depth<=60) (_:Q (.str (zhx d)) H):ZM K b H Q
theorem JD(w:X.A.guards=some [])(hu:X.A.units+64<cLine):CallR X (.type "str") (ZM X.K):=by
 intro c s σ H A l Q I r h;obtain⟨v,d,rfl,f,h1,h2,h3,q⟩:=h;cases d with
 | lst ds=>
  obtain⟨a,o,rfl,hx⟩:=f;exact JC w hu c s σ H _ l Q I r ⟨a,.lst ds,rfl,⟨a,o,rfl,hx⟩,h1,h2,h3,q⟩
 | tup ds=>
  obtain⟨a,o,rfl,hx⟩:=f;exact JC w hu c s σ H _ l Q I r ⟨a,.tup ds,rfl,⟨a,o,rfl,hx⟩,h1,h2,h3,q⟩
 | int i=>
  cases(show v=_ from f)
  exact yG c s σ H _ l Q I r ⟨i,rfl,J5 (qB h1),q⟩
 | non=>
  cases(show v=_ from f)
  obtain⟨u,rfl,g⟩:=xI r;cases(show u=_ from g)
  exact PySem.P.str_of_none ⟨.str "None",H,I.tok _,⟨_,rfl⟩,q⟩
 | bl b=>
  cases(show v=_ from f)
  obtain⟨u,rfl,g⟩:=xI r;cases(show u=_ from g)
  refine PySem.P.str_of_bool ⟨.str (if b then "True" else "False"),H,I.tok _,⟨s.toks,?_⟩,q⟩
  cases b<;>rfl
 | str x=>
  cases(show v=_ from f)
  obtain⟨u,rfl,t,rfl⟩:=xI r;exact PySem.P.str_of_str ⟨.str x,H,I,⟨t,rfl⟩,q⟩
end
section
variable{b:Program}{w:World}{A:Around}{E:Value->Shared->Prop}{s:Shared}
end
section
variable{X:Cx}
end
theorem zbl(i w f:Expr)(o:List Expr)(g:Scope)(s:Pos)(u l:Value)(b:Env) :
  compTurn (.SetComp i [⟨w,f,o,0⟩] g s) 0 u l b=(do
   standAt f.pos
   match<-pyNext u with
   | none=>pure (.done .next)
   | some v=>
    letOwnedTupleGo w u v
    assign w b v
    let mut ok:=true
    for c in o do
     if ok then ok<-isTrue c b (eval c b)
    if ok then
     (do let v<-eval i b;standAt i.pos;let _<-call (.builtin "set.add") [l,v])
    again (.compLoop (.SetComp i [⟨w,f,o,0⟩] g s) 0 u l b)):=by rfl
section
variable{b:Program}{w:World}{A:Around}{E:Value->Shared->Prop}{R:Result->Shared->Prop}{s:Shared}
theorem zas{o G g u rest f B D l i}
  (h0:codeAny (model b w) A (.compLoop (.SetComp o (⟨G,g,u,0⟩::rest) f B) 0 D l i) R s)
  (h:wpAny (model b w) A (pyIter D) (fun H I=>codeAny (model b w) A (.compLoop (.SetComp o (⟨G,g,u,0⟩::rest) f B) 0 H l i) R I) (notedBy (model b w) A i fun x I=>R (.error x) I) s) :
  codeAny (model b w) A (.compStart (.SetComp o (⟨G,g,u,0⟩::rest) f B) 0 D l i) R s:=by
 refine codeAny_of_tree (show wpAny _ A ((compStart (.SetComp o (⟨G,g,u,0⟩::rest) f B) 0 D l i).onRaise (fun x=>do noteFrame x i;standAt theWindowsPlace)) _ _ s from wpAny_notedAt ?_)
 unfold compStart;refine(show wpAny _ A (ask >>= _) _ _ s from zn (wpAny_askSetting (wpAny_ite ?_)))
 split
 ·first
   | exact zy ⟨rfl,h0⟩
   | exact zn (zy (zy ⟨rfl,h0⟩))
 ·first
   | exact zn (vC (zn (wV (zn (jC h (fun _ _ q=>zy ⟨rfl,q⟩) fun _ _ x=>x)))))
   | (refine zn (vC ?_)
      exact(show wpAny _ _ (standAt g.pos >>= _) _ _ s from zn (wV (zn (jC h (fun _ _ q=>zy ⟨rfl,q⟩) fun _ _ x=>x)))))
theorem zay{l O o:Expr}{B:List Expr}{g:Scope}{G:Pos}{I i:Value}{f:Env}(J:Nat->Shared->Prop)
  (H:∀n s,J n s->wpAny (model b w) A (pyNext I) (fun r s1=>match r with
   | none=>R (.ok .next) s1
   | some v=>wpAny (model b w) A (letOwnedTupleGo O I v) (fun _ s2=>wpAny (model b w) A (assign O f v) (fun _ Y=>
     wpAny (model b w) A (ym B f) (fun ok L=>
      if ok=true then wpAny (model b w) A (eval l f) (fun x M=>
       wpAny (model b w) A (call (.builtin "set.add") [i,x]) (fun _ N=>∃m,m<n/\J m N) (fun _ _=>False) M) (fun _ _=>False) L
      else ∃m,m<n/\J m L) (fun _ _=>False) Y) (fun _ _=>False) s2) (fun _ _=>False) s1) (fun _ _=>False) s)
  (n:Nat) (h:J n s):codeAny (model b w) A (.compLoop (.SetComp l [⟨O,o,B,0⟩] g G) 0 I i f) R s:=by
 have D:∀{α:Type} {t:Sem α} {Q:α->Shared->Prop} {E:Value->Shared->Prop} {s:Shared},wpAny (model b w) A t Q (fun _ _=>False) s->wpAny (model b w) A t Q E s:=fun x=>jC x (fun _ _ q=>q) fun _ _ q=>q.elim
 refine codeAny_loop rfl J (fun k u hJ=>?_) n h
 refine(show wpAny _ A ((compTurn (.SetComp l [⟨O,o,B,0⟩] g G) 0 I i f).onRaise (fun x=>do noteFrame x f;theTreesLotGoes x)) _ _ u from wpAny_noted ?_)
 rw[zbl];refine zn (wV (zn (D (jC (H k u hJ) (fun r s1 h1=>?_) fun _ _ q=>q))))
 cases r with
 | none=>exact zy h1
 | some v=>
  refine zn (D (jC h1 (fun _ s2 h2=>zn (D (jC h2 (fun _ Y h3=>zn (D (jC h3 (fun ok L U=>?_) fun _ _ q=>q))) fun _ _ q=>q))) fun _ _ q=>q))
  cases ok with
  | false=>exact zy ⟨rfl,U⟩
  | true=>
   have T:wpAny (model b w) A (eval l f) (fun x M=>wpAny (model b w) A (call (.builtin "set.add") [i,x]) (fun _ N=>∃m,m<k/\J m N) (fun _ _=>False) M) (fun _ _=>False) L:=U
   refine zn (zn (D (jC T (fun x M h5=>zn (wV (zn (D (jC h5 (fun _ N h6=>zy (zy ⟨rfl,h6⟩)) fun _ _ q=>q))))) fun _ _ q=>q)))
variable{K:Type}[DecidableEq K]{c:KeyKind b w K}
theorem zdJ{Q:Value->Shared->Prop}(h:Q (.ref s.heap.objs.size) { s with heap:=s.heap.push (vX w) }):wpAny (model b w) A (newSet (.type "set")) Q E s:=by
 unfold newSet setsByText;refine zn (zn (wpAny_askSetting (zy ?_)))
 dsimp only;simp only[newObj];exact zn (wpAny_alloc (zy h))
end
section
variable{X:Cx}{f u c:Expr}{i:List Expr}{b:Scope}{l:Pos}{w:TI}{g:TG}{s:TT}{o:TE}
end
section
variable{X:Cx}{x y:Str}{o s A:Pos}{l:Nat}{f c:Expr}{g:List Expr}{b:Scope}{i:Pos}{B:TI}{w:TT}{u:TE}
end
section
variable{X:Cx}
end
section
variable{X:Cx}{b:Pos}
end
end L2
namespace L2
open PySem PySem.Spec PyProof.Rows PySem.W
section
variable{X:Cx}
variable{b:Expr}
end
end L2
namespace L2
open PySem PySem.Spec PyProof.Rows
section
variable{g:Program}{w:World}{K:Type}[DecidableEq K](f:KeyKind g w K)
def IsPK(h:Heap)(k:List K×List K)(a:Addr):Prop:=∃o n B C,h.get? a=some o/\o.cls=.type "tuple" /\ o.data=.seq #[.ref B,.ref C] n/\IsTupleKey f h k.1 B/\IsTupleKey f h k.2 C
def V8(k:List K×List K):Int:=reduceHash (Builtin.Tuple.tupleHashOf [tupleKeyHash f k.1,tupleKeyHash f k.2])
variable{f}
theorem IsPK.ty{s:Shared}{k:List K×List K}{a:Addr}(x:IsPK f s.heap k a):s.TypeIs (.ref a) "tuple" :=let ⟨o,_,_,_,p,q,_⟩:=x;⟨o,p,q⟩
theorem IsPK.inj{h:Heap}{a:Addr}{x y:List K×List K}(p:IsPK f h x a)(q:IsPK f h y a):x=y:=by
 obtain⟨o,n,B,C,e,_,d,b,c⟩:=p;obtain⟨J,I,G,H,l,_,i,u,D⟩:=q;rw[e] at l;cases l;rw[d] at i;cases i;exact Zd (b.inj u) (c.inj D)
theorem IsPK.keeps{h D:Heap}{k:List K×List K}{a d:Addr}{o:Obj}{H G}(x:IsPK f h k a)(i:h.get? d=some o)(l:o.data=.dict H G)(u:Heap.SameBut d h D):IsPK f D k a:=by
 obtain⟨p,n,B,C,e,t,q,b,c⟩:=x;refine⟨p,n,B,C,(u.2 a fun z=>?_).trans e,t,q,b.keeps i l u,c.keeps i l u⟩
 subst z;rw[e] at i;cases i;rw[l] at q;exact nomatch q
variable{A:Around}{E:Value->Shared->Prop}{s:Shared}
theorem zcE{M:Model}{i:Int}{Q:Int->Shared->Prop}(h:Q (reduceHash i) s):wpAny M A (pyHashByItsType.reduced i) Q E s:=by
 unfold pyHashByItsType.reduced;unfold reduceHash at h;split at h
 ·rename_i z
  rw[zF z];exact zy h
 ·rename_i z
  rw[zB z];exact zn (vC (zy h))
theorem zdp{k:List K×List K}{a:Addr}{Q:Int->Shared->Prop}(hu:A.units+1<cLine)(hk:IsPK f s.heap k a)(h:Q (V8 f k) { s with toks:=s.toks+(k.1.length+1+(k.2.length+1)+1) }) :
  wpAny (model g w) A (pyHash (.ref a)) Q E s:=by
 have ty:=hk.ty;obtain⟨o,n,B,C,e,t,q,b,c⟩:=hk;have h0:A.units<cLine:=Nat.lt_of_succ_lt hu;unfold pyHash;first| unfold pyHashByItsType | skip
 first| refine zn (wpAny_cRoomFor_or (.inr h0) ?r) | skip
 refine zn (Zk ty QN.lookup ?a1)
 refine(?a2:wpAny _ _ (if(some (Value.builtin "tuple.__hash__")==some Value.none)=true then _ else _) Q E s)
 rw[zB (by rw[beq_builtin_none];decide)]
 refine zn (Zk ty QN.lookup (zn (wpAny_callSpecialIfBoundUnlessNone?_slot ty QN (vS QN ty F.entry_tuple_hash ?a3 (F.args_tuple_hash_1 _)))))
 refine(?a4:wpAny _ _ (Builtin.Tuple.tupleItemsOf (.ref a) >>= _) _ _ s)
 refine zn (wpAny_tupleItemsOf e q (zn ?a5))
 rw[<- QS];simp only[wW,Zi];refine zn (zn (wpAny_pyHash_tuple hu b (zy ?b1)))
 refine zn (zn (wpAny_pyHash_tuple hu (s:={ s with toks:=_ }) c (zy (zy ?b2))))
 refine wpAny_ret_mkInt (zcE ?b3)
 simpa [V8,Nat.add_assoc] using h
theorem V7{x y:List K×List K}{a b:Addr}{P:PySem.Fin->Shared->Prop}(hu:A.units<cLine)(hx:IsPK f s.heap x a)(hy:IsPK f s.heap y b)(h:P (.done (.ret (.bool (decide (x=y))))) s) :
  wpAny (model g w) A (Builtin.«tuple.__eq__» ⟨[.ref a,.ref b],[]⟩) P E s:=by
 have ty:=hy.ty;obtain⟨o,n,B,C,e,_,d,H,I⟩:=hx;obtain⟨U,T,O,Q,D,_,u,i,l⟩:=hy;refine(?a0:wpAny _ _ (isInstance (.ref b) (.type "tuple") >>= _) _ _ s)
 refine zn (ye ty isSubtype_tuple_tuple ?a1)
 simp only[wH,qW,if_false];refine zn (wpAny_tupleItemsOf e d (zn (wpAny_tupleItemsOf D u (zn ?a2))))
 simp only[WA,List.zip_nil_left,wW,Zi];have G:decide (x=y)=(decide (x.1=y.1)&&decide (x.2=y.2)):=by
  obtain⟨J,L⟩:=x;obtain⟨M,N⟩:=y;by_cases z:J=M<;>by_cases c:L=N<;>simp[z,c]
 rw[G] at h;refine zn (zn (wpAny_eqBool_tuple hu H i ?a3))
 by_cases z:x.1=y.1
 ·rw[zQ z] at h ⊢
  refine zy (zn (zn (wpAny_eqBool_tuple hu I l ?a4)))
  by_cases c:x.2=y.2
  ·rw[zQ c] at h ⊢
   exact zy (zy (zy h))
  ·rw[qy c] at h ⊢
   exact zn (zy (zy (zy (zy h))))
 ·rw[qy z] at h ⊢
  exact zn (zy (zy (zy (zy h))))
theorem zgA{x y:List K×List K}{a b:Addr}{Q:Bool->Shared->Prop}(hu:A.units+1<cLine)(hx:IsPK f s.heap x a)(hy:IsPK f s.heap y b)(h:Q (decide (x=y)) s) :
  wpAny (model g w) A (eqBool (.ref a) (.ref b)) Q E s:=by
 unfold eqBool;try with_reducible refine jR ?h0
 refine(?h1:wpAny _ _ (if(Value.ref a==Value.ref b)=true then _ else _) Q E s)
 by_cases z:(Value.ref a==Value.ref b)=true
 ·rw[zF z]
  have e:a=b:=by have:=eq_of_beq z;injection this
  subst e;cases hx.inj hy;refine zn (vC (zy ?h2))
  rw[zQ rfl] at h;exact h
 ·rw[zB z]
  refine zn (wpAny_richCompare_same_room (op:=.Eq) hx.ty hy.ty Xn (vS Xn hx.ty F.entry_tuple_eq ?h3 (F.args_tuple_eq_2 _ _)) (Nat.lt_of_succ_lt hu))
  exact V7 hu hx hy ⟨_,rfl,(fun e=>nomatch e),vU h⟩
theorem XN{B:List K}{a:Addr}{n:Nat}{Q:Bool->Shared->Prop}(hk:IsTupleKey f s.heap B a)(h:Q true s):wpAny (model g w) A (eqIsQuiet (n+1) (.ref a)) Q E s:=by
 have ty:=hk.typeIs;obtain⟨o,b,m,e,_,d,i⟩:=hk;unfold eqIsQuiet;refine zn (Zk ty Xn.lookup (?q0:wpAny _ _ (isInstance (.ref a) (.type "tuple") >>= _) _ _ s))
 refine zn (ye ty isSubtype_tuple_tuple ?q1)
 simp only[wH,qW,if_false];refine zn (xY e d (zn (?q2:wpAny _ _ (forIn b _ _) _ _ s)))
 rw[<- QS];refine wpAny_forIn_list _ (fun rest r c=>r.1=none/\c=s/\∀v∈rest,carriedByValue v=true) _ ?q3 ?q4 _ _ ⟨rfl,rfl,i.byValue⟩
 ·rintro v rest r c ⟨_,rfl,all⟩
  rw[eqIsQuiet_byValue _ (all v (jx ..))];exact zn (zy (zy ⟨rfl,rfl,fun u hu=>all u (jh _ hu)⟩))
 ·rintro⟨D,G⟩ c ⟨l,rfl,_⟩
  cases(show D=none from l)
  exact zy h
theorem zb5{k:List K×List K}{a:Addr}{Q:Bool->Shared->Prop}(hk:IsPK f s.heap k a)(h:Q true s):wpAny (model g w) A (eqIsQuiet 8 (.ref a)) Q E s:=by
 have ty:=hk.ty;obtain⟨o,n,B,C,e,_,d,b,c⟩:=hk;unfold eqIsQuiet;refine zn (Zk ty Xn.lookup (?q0:wpAny _ _ (isInstance (.ref a) (.type "tuple") >>= _) _ _ s))
 refine zn (ye ty isSubtype_tuple_tuple ?q1)
 simp only[wH,qW,if_false];refine zn (xY e d (zn (?q2:wpAny _ _ (forIn (#[Value.ref B,Value.ref C]) _ _) _ _ s)))
 rw[<- QS];simp only[wW,Zi];exact zn (zn (XN b (zy (zn (zn (XN c (zy (zy (zy h)))))))))
end
def zcb{f:Program}{w:World}{K:Type}[DecidableEq K](g:KeyKind f w K):HeapKind f w (List K×List K) where
 is:=IsPK g
 hash:=V8 g
 draws:=fun k=>k.1.length+1+(k.2.length+1)+1
 room:=fun A=>A.units+1<cLine
 inj:=fun p q=>p.inj q
 keeps:=fun x a b c=>x.keeps a b c
 pyHash:=fun a b c=>zdp a b c
 eqBool:=fun a b c d=>zgA a b c d
 quiet:=fun a b=>zb5 a b
end L2
namespace PySem
section
variable{b:Program}{w:World}{A:Around}{E:Value->Shared->Prop}{s:Shared}{d g:Addr}{f:Array DictEntry}{c i:Nat}
end
end PySem
namespace L2
open PySem PySem.Spec PyProof.Rows PySem.W
abbrev PKy:=List Key×List Key
abbrev PEs:=List (PKy×Addr×Addr)
def zhz(b:PEs):List (PKy×Addr×Value):=b.map fun x=>(x.1,x.2.1,.ref x.2.2)
def DpO(P:Program)(w:World)(a:Addr)(o:Obj)(b:PEs):Prop:=(a==sysModules)=false/\b.length<=sizeLine/\o.ExactDict/\(b.map (·.1)).Nodup/\∃c f,o.data=.dict c f/\c.toList=(zhz b).map (entryOfKey (zcb (qL P w)))
def dP(P:Program)(w:World)(a:Addr)(o:Obj)(b:PEs):HO:=.ext fun h=>h.get? a=some o/\DpO P w a o b
section
variable{X:Cx}{b:List (Addr×Obj)}{σ:St}{H:Hp}{s:Shared}
end
end L2
namespace L2
open PySem PySem.Spec PyProof.Rows PySem.W
section
variable{X:Cx}
end
end L2
namespace L2
open PySem PySem.Spec PyProof.Rows
abbrev zf1:=Addr->V->V->Hp->(Hp->Prop)->Prop
section
variable{X:Cx}{l A s c:Expr}{f:List Expr}{b:Scope}{i:Pos}{B:TI}{g:TG}{o:TT}{u w:TE}{mk:Addr->HO}{t:zf1}
end
end L2
namespace L2
open PySem PySem.Spec PyProof.Rows PySem.W
section
variable{X:Cx}{f B O c:Expr}{g:List Expr}{b:Scope}{o:Pos}{Q:TI}{J:TT}{I L N:TE}{mk:Addr->HO}{t:zf1}{x y z u:Str}{E G H D M s w:Pos}{A i l:Nat}
end
def zhi(K:W.Frag)(H:Hp)(a:Addr)(p:Int×List Int):Prop:=∃U,SqT K H a [.int p.1,.ref U]/\SqT K H U (p.2.map V.int)
def WkO(h:Heap)(a:Addr)(p:Int×List Int):Prop:=∃o n t U,h.get? a=some o/\o.cls=.type "tuple" /\ o.data=.seq #[.int p.1 t,.ref U] n/\∃b f c,h.get? U=some b/\b.cls=.type "tuple" /\ b.data=.seq c f/\Vals (p.2.map V.int) c.toList
theorem WkO.keep{h c:Heap}{a:Addr}{p:Int×List Int}(x:WkO h a p)(k:∀b o,h.get? b=some o->c.get? b=some o):WkO c a p:=
 let ⟨o,n,t,U,a1,a2,a3,i,g,l,b1,b2,b3,f⟩:=x;⟨o,n,t,U,k _ _ a1,a2,a3,i,g,l,k _ _ b1,b2,b3,f⟩
end L2
namespace L2
open PySem PySem.Spec PyProof.Rows
section
variable{X:Cx}{l A s c:Expr}{f:List Expr}{b:Scope}{i:Pos}{B:TI}{g:TG}{o:TT}{u w:TE}{mk:Addr->HO}{t:zf1}
end
end L2
namespace L2
open PySem PySem.Spec PyProof.Rows PySem.W
def WkS(K:W.Frag)(H:Hp)(c:List V)(b:List (Int×List Int)):Prop:=c.length=b.length/\∀(j:Nat) q,b[j]? =some q->∃T,c[j]? =some (.ref T)/\zhi K H T q
theorem WkS.nil{K:W.Frag}{H:Hp}:WkS K H [] []:=⟨rfl,fun j q e=>by simp at e⟩
theorem WkS.snoc{K:W.Frag}{H:Hp}{i:List V}{c:List (Int×List Int)}{q:Int×List Int}{T:Addr}(h:WkS K H i c)(e:zhi K H T q):WkS K H (i++[.ref T]) (c++[q]):=by
 refine⟨by rw[qR,qR,h.1];rfl,fun j r b=>?_⟩
 by_cases f:j<c.length
 ·rw[xq f] at b
  obtain⟨l,e1,e2⟩:=h.2 j r b;exact⟨l,by rw[xq (by rw[h.1];exact f)];exact e1,e2⟩
 ·have g:=(qg.mp b).1
  rw[qR] at g;have o:j=c.length:=by simp at g;omega
  subst o;rw[xF (zi _),wo] at b;cases(show some q=some r from b)
  exact⟨T,by rw[<- h.1,xF (zi _),wo];rfl,e⟩
end L2
namespace L2
open PySem PySem.W PySem.Spec PyProof.Rows
section
variable{X:Cx}
end
end L2
namespace L2
open PySem PySem.Spec PyProof.Rows
def pr2(q:Int×Int):List V:=[.int q.1,.int q.2]
theorem JZ{p q:Int×Int}(h:pr2 p=pr2 q):p=q:=by
 unfold pr2 at h;have h1:=V.int.inj (List.cons.inj h).1;have h2:=V.int.inj (List.cons.inj (List.cons.inj h).2).1;exact Zd h1 h2
theorem ze6(p q:Int×Int):zaV (pr2 p) (pr2 q)=decide (p=q):=by
 have e:∀a b:Int,eqV (.int a) (.int b)=decide (a=b):=fun a b=>by
  show(a==b)=_;rw[vh,xi,vD]
 show(eqV (.int p.1) (.int q.1)&&(eqV (.int p.2) (.int q.2)&&true))=_;rw[e,e,wu,vh,qQ,vD,vD,vD,Prod.ext_iff]
section
variable{X:Cx}{b:List (Addr×Obj)}{σ:St}{H:Hp}{s:Shared}
theorem zfL(I:Inv X b σ H s){A:Around}(hu:A.units<cLine){a c:Addr}{p q:Int×Int}(hc:SqT X.K H c (pr2 q))(B:SqT X.K H a (pr2 p)):SeqAt.EqAt A s (.ref c) (.ref a) (decide (q=p)):=by
 by_cases e:c=a
 ·subst e
  rw[zQ (JZ (I.tuple_inj hc B))];exact SeqAt.EqAt.same _
 ·obtain⟨f,D,N,T⟩:=I.tuple hc
  obtain⟨g,E,O,U⟩:=I.tuple B;have L:=D.length;have M:=E.length;have h:=SeqAt.EqAt.of_refs e (SeqAt.RcAt.tuples (A:=A) (s:=s) (e:=fun j=>eqV ((pr2 q).getD j .non) ((pr2 p).getD j .non)) N O hu (fun j h1 h2=>?_))
  ·rw[qt,qt,<- L,<- M,Qo,ze6] at h
   exact h
  ·have l:j<(pr2 q).length:=by rw[qt] at h1;omega
   have u:j<(pr2 p).length:=by rw[qt] at h2;omega
   obtain⟨w1,e1,q1⟩:=D.get (i:=j) (x:=(pr2 q)[j]) (xL l);obtain⟨Q,e2,q2⟩:=E.get (i:=j) (x:=(pr2 p)[j]) (xL u);have G:f.toArray[j]=w1:=by simpa using (qg.mp e1).2
   have J:g.toArray[j]=Q:=by simpa using (qg.mp e2).2
   have w:∀(o:Int×Int) (v:V),v∈pr2 o->vO v=true:=fun o v hv=>by
    rcases z9.mp hv with rfl | hv
    ·rfl
    ·cases qv.mp hv;rfl
   rw[G,J,JM,JM,xL l,xL u];exact zcH q1 q2 (w _ _ (yc l)) (w _ _ (yc u))
def zf2(K:W.Frag)(H:Hp)(g:List V)(f:List (Int×Int)):Prop:=g.length=f.length/\∀(i:Nat) (r:Int×Int),f[i]? =some r->∃c,g[i]? =some (.ref c)/\SqT K H c [.int r.1,.int r.2]
open Classical in
theorem zd6(I:Inv X b σ H s){a:Addr}{q:Int×Int}(M:SqT X.K H a (pr2 q)){G:List V}{f:List Value}{B:List (Int×Int)}(hx:zf2 X.K H G B)(E:Vals G f){A:Around}(hu:A.units<cLine) :
  (∀y,y∈f.toArray->SeqAt.EqAt A s y (.ref a) (decide (∃c,y=Value.ref c/\SqT X.K H c (pr2 q))))/\f.toArray.any (fun y=>decide (∃c,y=Value.ref c/\SqT X.K H c (pr2 q)))=decide (q∈B):=by
 have l:∀y∈f,∃(c:Addr) (r:Int×Int),y=.ref c/\SqT X.K H c (pr2 r)/\r∈B:=fun y hy=>by
  obtain⟨i,u⟩:=JJ.mp hy;have O:=(qg.mp u).1;have Q:=E.length;obtain⟨r,w⟩:∃r,B[i]? =some r:=⟨_,xL (by have:=hx.1;omega)⟩
  obtain⟨c,e1,e2⟩:=hx.2 i r w;obtain⟨w1,o,g⟩:=E.get e1;rw[u] at o;cases o;exact⟨c,r,g,e2,qY w⟩
 constructor
 ·intro y hy
  obtain⟨c,r,rfl,hc,_⟩:=l y (by simpa using hy)
  have h:=zfL I hu hc M;by_cases e:r=q
  ·subst e
   rw[zQ rfl] at h;rw[zQ ⟨c,rfl,hc⟩];exact h
  ·rw[qy e] at h
   rw[qy]
   ·exact h
   ·rintro⟨J,L,D⟩
    cases L;exact e (JZ (I.tuple_inj hc D))
 ·rw[vh,vD,List.any_toArray,yI]
  constructor
  ·rintro⟨y,hy,N⟩
   obtain⟨J,rfl,D⟩:=qB N;obtain⟨c,r,e,hc,w⟩:=l _ hy;cases e;rw[<- JZ (I.tuple_inj hc D)];exact w
  ·intro hq
   obtain⟨i,u⟩:=JJ.mp hq;obtain⟨c,e1,e2⟩:=hx.2 i q u;obtain⟨w1,o,g⟩:=E.get e1;exact⟨w1,qY o,zQ ⟨c,g,e2⟩⟩
end
inductive zgy(K:W.Frag)(b:Bool)(x:V)(y:V)(H:Hp)(Q:VK):Prop
 | mk (a p:Addr) (q:Int×Int) (f:List V) (c:List (Int×Int)) (_:x=.ref a) (_:y=.ref p) (_:SqT K H a [.int q.1,.int q.2]) (_:SqL K H p f) (_:zf2 K H f c) (_:Q (.bl (if b then !decide (q∈c) else decide (q∈c))) H):zgy K b x y H Q
section
variable{X:Cx}
theorem zff{K:W.Frag}(hk:X.K=K)(hu:X.A.units+64<cLine):OpR X (compareOp .In) (zgy K false):=by
 subst hk;intro b s σ H x y v u Q I i l h;obtain⟨a,p,q,B,w,rfl,rfl,c,hp,hx,k⟩:=h;cases i;cases l;obtain⟨f,r,g,o⟩:=I.list hp;obtain⟨h1,h2⟩:=zd6 I c hx r (A:=X.A.in1) (by show X.A.units+1<cLine;omega)
 refine Wq _ g.isList h1 ⟨.bl _,H,I,rfl,?_⟩
 rw[h2];exact k
end
end L2
namespace L2
open PySem PySem.Spec PyProof.Rows
section
variable{X:Cx}
end
def lpN(m:Nat):Nat->Nat->Nat->Nat×Nat
 | 0,i,q=>(i,q)
 | n+1,i,q=>lpN m n (SetTable.leap m i q).1 (SetTable.leap m i q).2
def fN(m:Nat):Nat->Nat->Nat
 | 0,i=>i
 | n+1,i=>fN m n ((i*5+1) % (m+1))
theorem Xe(m:Nat):∀a b i:Nat,fN m (a+b) i=fN m b (fN m a i)
 | 0,b,i=>by rw[QF];rfl
 | a+1,b,i=>by rw[Nat.succ_add];exact Xe m a b _
theorem YI(m:Nat):∀a b i q:Nat,lpN m (a+b) i q=lpN m b (lpN m a i q).1 (lpN m a i q).2
 | 0,b,i,q=>by rw[QF];rfl
 | a+1,b,i,q=>by rw[Nat.succ_add];exact YI m a b _ _
theorem zeH(m:Nat):∀n i q:Nat,(lpN m n i q).2=q/32^n
 | 0,i,q=>by rw[Nat.pow_zero,Nat.div_one];rfl
 | n+1,i,q=>by
  rw[Nat.pow_succ,Nat.mul_comm,<- Nat.div_div_eq_div_mul];exact zeH m n _ _
theorem zeI(m:Nat):∀n i q:Nat,q<32->(lpN m n i q).1=fN m n i
 | 0,i,q,_=>rfl
 | n+1,i,q,h=>by
  have e:q/32=0:=Nat.div_eq_of_lt h;show(lpN m n ((i*5+1+q/32) % (m+1)) (q/32)).1=fN m n ((i*5+1) % (m+1));rw[e];exact zeI m n _ 0 (by decide)
theorem zcq(m:Nat):∀n i q:Nat,i<=m->(lpN m n i q).1<=m
 | 0,_,_,h=>h
 | n+1,i,q,h=>zcq m n _ _ (vT (x8 _ (vQ m)))
def Msk(m:Nat):Prop:=m=7\/m=31\/m=127
def orb(m:Nat):Nat->Nat->List Nat
 | 0,_=>[]
 | n+1,i=>i::orb m n ((i*5+1) % (m+1))
theorem zcd(m:Nat):∀{n i j:Nat},j∈orb m n i->∃k,k<n/\fN m k i=j
 | n+1,i,j,h=>by
  rcases z9.mp h with e | h
  ·exact⟨0,vQ n,e.symm⟩
  ·obtain⟨k,h1,h2⟩:=zcd m h
   exact⟨k+1,Nat.succ_lt_succ h1,h2⟩
def zhf(m:Nat):Bool:=(List.range (m+1)).all (fun j=>(orb m (m+1) 0).contains j)&&fN m (m+1) 0==0
theorem zd2{m:Nat}(h:Msk m):zhf m=true:=by
 rcases h with rfl | rfl | rfl<;>kernel_rfl
theorem Msk.hit{m i j:Nat}(h:Msk m)(s:i<=m)(g:j<=m):∃n,n<=m/\fN m n i=j:=by
 have c:=zd2 h;unfold zhf at c;rw[qQ,jw,xi] at c;have f:∀j,j<=m->∃k,k<m+1/\fN m k 0=j:=fun j g=>zcd m (List.contains_iff_mem.mp (c.1 j (jF.mpr (Nat.lt_succ_of_le g))))
 obtain⟨a,u,l⟩:=f i s;obtain⟨b,hb,o⟩:=f j g;by_cases w:a<=b
 ·refine⟨b-a,by omega,?_⟩
  rw[<- l,<- Xe,show a+(b-a)=b by omega,o]
 ·refine⟨m+1+b-a,by omega,?_⟩
  rw[<- l,<- Xe,show a+(m+1+b-a)=m+1+b by omega,Xe,c.2,o]
theorem Msk.leaps{m i j q:Nat}(h:Msk m)(b:i<=m)(c:j<=m)(hq:q<2^64):∃n,n<=m+12/\(lpN m n i q).1=j:=by
 obtain⟨n,f,e⟩:=h.hit (zcq m 12 i q b) c;refine⟨12+n,by omega,?_⟩
 rw[YI,zeI m n _ _ (by rw[zeH];exact Nat.div_lt_of_lt_mul (jS hq (by decide))),e]
inductive Far(t:SetTable):Nat->SetTable.Probe->Prop
 | here {k:Nat} {p:SetTable.Probe}:t.slot p.j=.empty->Far t k p
 | step {k:Nat} {p:SetTable.Probe}:Far t k (t.advance p)->Far t (k+1) p
theorem Far.mono{t:SetTable}{k b:Nat}{p:SetTable.Probe}(h:Far t k p)(g:k<=b):Far t b p:=by
 induction h generalizing b with
 | here e=>exact .here e
 | step _ f=>obtain⟨c,rfl⟩:∃c,b=c+1:=⟨b-1,by omega⟩;exact .step (f (by omega))
def zg1(t:SetTable)(p:SetTable.Probe):SetTable.Probe:=t.advance { p with more:=0 }
theorem Far.more{t:SetTable}{k:Nat}:∀{m:Nat} {p:SetTable.Probe},p.more=m->Far t k (zg1 t p)->Far t (k+m+1) p
 | 0,⟨j,_,i,q,d⟩,rfl,h=>.step h
 | m+1,⟨j,_,i,q,d⟩,rfl,h=>.step (Far.more (m:=m) (p:=⟨j+1,m,i,q,d⟩) rfl h)
theorem xS{m i:Nat}(h:i<=m):SetTable.runEnd m i<=m/\i<=SetTable.runEnd m i/\SetTable.runEnd m i<=i+9:=by
 unfold SetTable.runEnd;split<;>omega
theorem Far.leaps{t:SetTable}:∀{n i q:Nat} {d:Option Nat},i<=t.mask->t.slot (lpN t.mask n i q).1=.empty->Far t (10*n) ⟨i,SetTable.runEnd t.mask i-i,i,q,d⟩
 | 0,i,q,d,_,h=>.here h
 | n+1,i,q,d,b,h=>by
  have r:=xS b;have:=Far.leaps (n:=n) (i:=(SetTable.leap t.mask i q).1) (q:=(SetTable.leap t.mask i q).2) (d:=d) (vT (x8 _ (vQ _))) h;exact(Far.more (m:=SetTable.runEnd t.mask i-i) (p:=⟨i,SetTable.runEnd t.mask i-i,i,q,d⟩) rfl this).mono (by omega)
structure Prb(t:SetTable)(p:SetTable.Probe):Prop where
 le:p.j+p.more<=t.mask
 no:p.dummy=none
theorem Prb.of{t:SetTable}{i q:Nat}(h:i<=t.mask):Prb t ⟨i,SetTable.runEnd t.mask i-i,i,q,none⟩:=⟨by have:=xS h;show i+(SetTable.runEnd t.mask i-i)<=_;omega,rfl⟩
theorem Prb.next{t:SetTable}{p:SetTable.Probe}(h:Prb t p):Prb t (t.advance p):=by
 obtain⟨j,m,i,q,d⟩:=p;cases(show d=none from h.no)
 have l:j+m<=t.mask:=h.le;cases m with
 | zero=>exact Prb.of (vT (x8 _ (vQ _)))
 | succ m=>exact⟨show j+1+m<=t.mask by omega,rfl⟩
theorem xR{t:SetTable}{j i:Nat}(h:t.slot j=.live i):t.place[i]? =some j:=by
 unfold SetTable.slot at h;dsimp only at h;split at h
 ·rename_i c
  cases h;exact eq_of_beq c
 ·split at h<;>cases h
theorem Far.go{t:SetTable}{f:Nat->Int}{h:Int}(s:t.dummies=#[]):∀{fuel k:Nat} {p:SetTable.Probe},Far t k p->Prb t p->k<fuel ->
  (∃j,SetTable.probe.go t f h fuel p=some (.empty j none)/\t.place[SetTable.below t.place j]?≠some j/\j<=t.mask) \/
  ∃j i q g,SetTable.probe.go t f h fuel p=some (.candidate j i q)/\t.slot j=.live i/\f i=h/\Prb t q/\Far t g q/\g<k
 | 0,k,p,_,_,l=>absurd l (Zj k)
 | fuel+1,k,p,B,o,l=>by
  have L:=o.le;rcases vw s p.j with ⟨u,A⟩ | ⟨i,c⟩
  ·refine .inl ⟨p.j,?_,A,by omega⟩
   unfold SetTable.probe.go;rw[u];show some (SetTable.Met.empty p.j p.dummy)=_;rw[o.no]
  ·cases B with
   | here e=>rw[c] at e;cases e
   | @step g _ b=>
    by_cases e:f i=h
    ·refine .inr ⟨p.j,i,t.advance p,g,?_,c,e,o.next,b,yJ _⟩
     unfold SetTable.probe.go;rw[c];dsimp only;rw[zF (xi.mpr e)]
    ·have e2:SetTable.probe.go t f h (fuel+1) p=SetTable.probe.go t f h fuel (t.advance p):=by
      rw[SetTable.probe.go];rw[c];dsimp only;rw[zB fun z=>e (xi.mp z)]
     rw[e2];rcases Far.go (f:=f) (h:=h) s b o.next (by omega:g<fuel) with w | ⟨j,D,q,E,w1,G,H,I,J,M⟩
     ·exact .inl w
     ·exact .inr ⟨j,D,q,E,w1,G,H,I,J,by omega⟩
structure TabT(t:SetTable)(n:Nat):Prop where
 up:Up t.place
 no:t.dummies=#[]
 le:∀j∈t.place.toList,j<=t.mask
 sz:t.place.size=n
 ms:(t.mask=7/\n<=4)\/(t.mask=31/\n<=18)\/(t.mask=127/\n<=76)
theorem TabT.msk{t:SetTable}{n:Nat}(h:TabT t n):Msk t.mask:=h.ms.imp (·.1) (·.imp (·.1) (·.1))
theorem TabT.lt{t:SetTable}{n:Nat}(h:TabT t n):n<t.mask:=by rcases h.ms with ⟨e,_⟩ | ⟨e,_⟩ | ⟨e,_⟩<;>omega
theorem TabT.fits{t:SetTable}{n:Nat}(h:TabT t n):t.fits n=true:=by
 have:=h.lt;have z:t.place.size=n:=h.sz;have:t.fill=n:=by unfold SetTable.fill;rw[h.no,z];rfl
 unfold SetTable.fits;rw[qQ,xi,vD];omega
theorem TabT.fresh(b:Bool):TabT (.fresh 0 0 b) 0:=⟨List.Pairwise.nil,rfl,fun j h=>(nomatch h),rfl,.inl ⟨rfl,by decide⟩⟩
theorem ze7{m:Nat}{l:List Nat}(h:l.length<=m):∃j,j<=m/\j∉l:=by
 refine XB fun u=>?_
 have all:∀j∈List.range (m+1),j∈l:=fun j c=>XB fun z=>u ⟨j,vT (jF.mp c),z⟩
 have sub:∀{a b:List Nat},a.Nodup->(∀x∈a,x∈b)->a.length<=b.length:=fun {a}=>by
  induction a with
  | nil=>exact fun _ _=>zY _
  | cons x a f=>
   intro b o s;obtain⟨g,i⟩:=wf.mp o;have hx:=s x (by simp)
   have:=f (b:=b.erase x) i fun y hy=>(WF (fun e:y=x=>g (e▸hy))).mpr (s y (jh _ hy))
   rw[WQ hx] at this;have:=WL hx;rw[jv];omega
 have:=sub Xq all;rw[wm] at this;omega
theorem V3{t:SetTable}(b:t.dummies=#[]){j:Nat}(h:j∉t.place.toList):t.slot j=.empty:=by
 rcases vw b j with ⟨c,_⟩ | ⟨i,c⟩
 ·exact c
 ·have:=xR c
  rw[<- xp] at this;exact absurd (qY this) h
theorem TabT.far{t:SetTable}{n:Nat}(h:TabT t n)(x:Int):Far t (10*(t.mask+12)) (t.probeStart x)/\Prb t (t.probeStart x):=by
 have b:SetTable.bits x % (t.mask+1)<=t.mask:=vT (x8 _ (vQ _));have hb:SetTable.bits x<2^64:=by
  unfold SetTable.bits;have:=wn x (by decide:(0:Int)<2^64)
  have:=we x (by decide:(2^64:Int)≠0)
  omega
 obtain⟨j,c,f⟩:=ze7 (m:=t.mask) (l:=t.place.toList) (by have:=h.lt;rw[qX,h.sz];omega)
 obtain⟨i,g,e⟩:=h.msk.leaps b c hb;exact⟨(Far.leaps (d:=none) b (by rw[e];exact V3 h.no f)).mono (by omega),Prb.of b⟩
theorem YU{m:Nat}{owner:Array (Option Nat)}:∀{fuel n i q:Nat},i<=m->n<fuel->(owner.getD (lpN m n i q).1 (some 0)).isNone=true ->
  ∃j,j<=m/\SetTable.layClean.free m owner fuel i q=some j/\(owner.getD j (some 0)).isNone=true
 | 0,n,i,q,_,l,_=>absurd l (Zj n)
 | fuel+1,n,i,q,b,l,h=>by
  have r:=xS b;unfold SetTable.layClean.free;cases c:(List.range (SetTable.runEnd m i+1-i)).find? fun k=>(owner.getD (i+k) (some 0)).isNone with
  | some k=>
   have h1:=List.find?_some c
   have h2:=jF.mp (List.mem_of_find?_eq_some c)
   exact⟨i+k,by omega,rfl,h1⟩
  | none=>
   cases n with
   | zero=>
    have:=List.find?_eq_none.mp c 0 (jF.mpr (by omega))
    exact absurd h this
   | succ n=>exact YU (vT (x8 _ (vQ m))) (Nat.lt_of_succ_lt_succ l) h
theorem zdU{l:List (Option Nat)}{k:Nat}:∀{j:Nat},l[j]? =some none->((l.set j (some k)).filterMap id).Perm (k::l.filterMap id):=by
 induction l with
 | nil=>intro j h;simp at h
 | cons x l b=>
  intro j h;cases j with
  | zero=>
   cases(show x=none by simpa using h)
   exact .refl _
  | succ j=>
   have:=b (j:=j) (by simpa using h)
   cases x with
   | none=>exact this
   | some y=>exact(this.cons y).trans (.swap _ _ _)
structure Own(m k:Nat)(o:Array (Option Nat)):Prop where
 sz:o.size=m+1
 pm:(o.toList.filterMap id).Perm (List.range k)
theorem Own.free{m k:Nat}{o:Array (Option Nat)}(h:Own m k o)(u:k<=m):∃j,j<=m/\(o.getD j (some 0)).isNone=true:=by
 refine XB fun i=>?_
 have all:∀x∈o.toList,x.isSome=true:=fun x hx=>by
  obtain⟨j,b,e⟩:=WH.mp hx;rw[qX,h.sz] at b;cases x with
  | some y=>rfl
  | none=>
   refine absurd ⟨j,by omega,?_⟩ i
   have e2:o[j]? =some none:=by rw[<- xp,<- e];exact xL _
   unfold Array.getD;rw[dif_pos (by rw[h.sz];exact b)]
   have:o[j]'(by rw[h.sz];exact b)=none:=j5 ((xE _).symm.trans e2)
   show(o[j]'_).isNone=true;rw[this];rfl
 have c:∀{l:List (Option Nat)},(∀x∈l,x.isSome=true)->(l.filterMap id).length=l.length:=fun {l}=>by
  induction l with
  | nil=>exact fun _=>rfl
  | cons x l g=>
   intro a;have hx:=a x (by simp)
   cases x with
   | none=>cases hx
   | some y=>show(l.filterMap id).length+1=_;rw[g fun z f=>a z (jh _ f)];rfl
 have e1:=c all;have e2:=h.pm.length_eq;rw[wm] at e2;have s:o.toList.length=m+1:=by rw[qX,h.sz]
 omega
theorem Vp{m:Nat}(s:Msk m):∀{hs:List Int} {k:Nat} {o:Array (Option Nat)},Own m k o->k+hs.length<=m->∃f,hs.foldl (fun g h=>(do
   let (b,k)<-g
   let j<-SetTable.layClean.free m b (SetTable.turns m) (SetTable.bits h % (m+1)) (SetTable.bits h)
   pure (b.setIfInBounds j (some k),k+1):Option (Array (Option Nat)×Nat))) (some (o,k))=some (f,k+hs.length)/\Own m (k+hs.length) f
 | [],k,o,w,_=>⟨o,rfl,w⟩
 | h::hs,k,o,w,B=>by
  rw[jv] at B;obtain⟨I,A,D⟩:=w.free (by omega)
  have hb:SetTable.bits h<2^64:=by
   unfold SetTable.bits;have:=wn h (by decide:(0:Int)<2^64)
   have:=we h (by decide:(2^64:Int)≠0)
   omega
  have l:SetTable.bits h % (m+1)<=m:=vT (x8 _ (vQ _));obtain⟨n,H,e⟩:=s.leaps l A hb;obtain⟨j,J,u,i⟩:=YU (owner:=o) (fuel:=SetTable.turns m) (n:=n) l (by unfold SetTable.turns;omega) (by rw[e];exact D)
  have c:j<o.size:=by rw[w.sz];omega
  have E:o[j]? =some none:=by
   unfold Array.getD at i;rw[dif_pos c] at i;rw[xE c];exact congrArg some (Option.isNone_iff_eq_none.mp i)
  have G:Own m (k+1) (o.setIfInBounds j (some k)):=⟨by rw[Array.size_setIfInBounds];exact w.sz,by
   rw[Array.toList_setIfInBounds,List.range_succ];exact((zdU (by rw[xp];exact E)).trans (w.pm.cons k)).trans (zcW k (List.range k)).symm⟩
  obtain⟨f,e1,e2⟩:=Vp s (hs:=hs) G (by omega)
  refine⟨f,?_,by rw[jv,show k+(hs.length+1)=k+1+hs.length by omega];exact e2⟩
  rw[wX,jv,show k+(hs.length+1)=k+1+hs.length by omega,<- e1]
  congr 1
  show((SetTable.layClean.free m o (SetTable.turns m) (SetTable.bits h % (m+1)) (SetTable.bits h)).bind fun j=>pure (o.setIfInBounds j (some k),k+1))=_
  rw[u];rfl
theorem Jr{m:Nat}(b:Msk m){hs:Array Int}(g:hs.size<=m):∃o,SetTable.layClean m hs=some o/\Own m hs.size o:=by
 have f:Own m 0 (Array.replicate (m+1) none):=⟨Array.size_replicate ..,by
  rw[Array.toList_replicate];have:∀n,(List.replicate n (none:Option Nat)).filterMap id=[]:=fun n=>by
   induction n with
   | zero=>rfl
   | succ n c=>exact c
  rw[this];exact .refl _⟩
 obtain⟨o,e1,e2⟩:=Vp b (hs:=hs.toList) f (by rw[qX];omega)
 rw[QF,qX] at e1 e2;refine⟨o,?_,e2⟩
 unfold SetTable.layClean;rw[<- Array.foldl_toList];exact congrArg (Option.map (·.1)) e1
theorem zdS{m f v:Nat}{b p:Bool}(D:Msk m){c:Array Int}(E:c.size<=m)(G:(m=7/\c.size<=4)\/(m=31/\c.size<=18)\/(m=127/\c.size<=76)) :
  ∃s g,SetTable.laid m f v b p c=some (s,g)/\g.toList.Perm (List.range c.size)/\TabT s c.size:=by
 obtain⟨o,e,w⟩:=Jr D E;have e2:((List.range (m+1)).filterMap fun j=>(o.getD j none).map (j,·)).map (·.2)=o.toList.filterMap id:=by
  rw[List.map_filterMap];have u:o.toList=(List.range (m+1)).map fun j=>o.getD j none:=by
   refine List.ext_getElem (by rw[qX,w.sz,zv,wm]) fun i h1 h2=>?_
   rw[List.getElem_map,List.getElem_range];unfold Array.getD;rw[dif_pos (by rwa[qX] at h1)]
   rfl
  rw[u,List.filterMap_map];refine congrArg (fun f=>List.filterMap f _) (funext fun j=>?_)
  show((o.getD j none).map (j,·)).map (·.2)=id (o.getD j none)
  cases o.getD j none<;>rfl
 have l:(((List.range (m+1)).filterMap fun j=>(o.getD j none).map (j,·)).map (·.2)).Perm (List.range c.size):=by rw[e2];exact w.pm
 have ln:=l.length_eq;rw[zv,wm] at ln;refine⟨⟨m,(((List.range (m+1)).filterMap fun j=>(o.getD j none).map (j,·)).map fun x=>x.1).toArray,#[],f,b,v,p⟩,_,by unfold SetTable.laid;rw[e];rfl,l,?_,rfl,fun j B=>?_,?_,G⟩
 ·exact zc9 (m+1) fun j=>o.getD j none
 ·obtain⟨x,hx,rfl⟩:=qr.mp B
  obtain⟨y,hy,A⟩:=ZF.mp hx;obtain⟨z,_,rfl⟩:=jN.mp A;exact vT (jF.mp hy)
 ·show(((List.range (m+1)).filterMap fun j=>(o.getD j none).map (j,·)).map (·.1)).toArray.size=_
  rw[qt,zv,ln]
theorem TabT.putAt{t:SetTable}{n j:Nat}(h:TabT t n)(f:t.place[SetTable.below t.place j]?≠some j)(g:j<=t.mask) :
  Up (t.put j).1.place/\(t.put j).1.dummies=#[]/\(∀i∈(t.put j).1.place.toList,i<=t.mask)/\(t.put j).1.place.size=n+1:=by
 have b:=JK t.place (SetTable.below t.place j) j;rw[yh] at b;refine⟨zan h.up f,?_,fun i c=>?_,?_⟩
 ·show(if SetTable.has t.dummies j=true then _ else t.dummies)=#[]
  rw[h.no,Vy];rfl
 ·rcases ju.mp (b.mem_iff.mp c) with z | z
  ·exact h.le i z
  ·rw[qv.mp z];exact g
 ·have:=b.length_eq
  rw[qX,qR,qX,h.sz] at this;exact this
theorem TabT.more{t:SetTable}{n j:Nat}(h:TabT t n)(H:n<76)(A:t.place[SetTable.below t.place j]?≠some j)(E:j<=t.mask)(p:Bool) :
  (({ (t.put j).1 with plain:=p }:SetTable).tooFull=false/\TabT { (t.put j).1 with plain:=p } (n+1)) \/
  ({ (t.put j).1 with plain:=p }:SetTable).tooFull=true/\({ (t.put j).1 with plain:=p }:SetTable).fits (n+1)=true/\SetTable.sizeAbove (SetTable.grown (n+1))<=128/\∀f:Array Int,f.size=n+1 ->
   ∃i g,({ (t.put j).1 with plain:=p }:SetTable).relaid f (SetTable.grown (n+1))=some (i,g)/\g.toList.Perm (List.range f.size)/\TabT i f.size:=by
 obtain⟨a,b,c,d⟩:=h.putAt A E;have u:({ (t.put j).1 with plain:=p }:SetTable).fill=n+1:=by
  show(t.put j).1.place.size+(t.put j).1.dummies.size=n+1;rw[b,d];rfl
 have G:({ (t.put j).1 with plain:=p }:SetTable).tooFull=decide ((n+1)*5≥t.mask*3):=by
  unfold SetTable.tooFull;rw[u];rfl
 have ok:∀m,m=t.mask->((m=7/\n+1<=4)\/(m=31/\n+1<=18)\/(m=127/\n+1<=76))->TabT { (t.put j).1 with plain:=p } (n+1):=fun m e w=>⟨a,b,c,d,by subst e;exact w⟩
 have o:∀w m,SetTable.sizeAbove w=m+1->Msk m->∀f:Array Int,f.size<=m->((m=7/\f.size<=4)\/(m=31/\f.size<=18)\/(m=127/\f.size<=76)) ->
   ∃i g,({ (t.put j).1 with plain:=p }:SetTable).relaid f w=some (i,g)/\g.toList.Perm (List.range f.size)/\TabT i f.size:=fun w m e B f l k=>by
  unfold SetTable.relaid;rw[show SetTable.sizeAbove w-1=m by omega]
  exact zdS B l k
 have s:({ (t.put j).1 with plain:=p }:SetTable).fits (n+1)=true:=by
  have:=h.lt;unfold SetTable.fits;rw[qQ,xi,vD,u];exact⟨d,this⟩
 rw[G];rcases h.ms with ⟨e,l⟩ | ⟨e,l⟩ | ⟨e,l⟩
 ·by_cases z:n+1<=4
  ·exact .inl ⟨qy (by omega),ok _ rfl (.inl ⟨e,z⟩)⟩
  ·have z:n=4:=by omega
   subst z;exact .inr ⟨zQ (by omega),s,by decide +kernel,fun f D=>o _ 31 (by decide +kernel) (.inr (.inl rfl)) f (by omega) (.inr (.inl ⟨rfl,by omega⟩))⟩
 ·by_cases z:n+1<=18
  ·exact .inl ⟨qy (by omega),ok _ rfl (.inr (.inl ⟨e,z⟩))⟩
  ·have z:n=18:=by omega
   subst z;exact .inr ⟨zQ (by omega),s,by decide +kernel,fun f D=>o _ 127 (by decide +kernel) (.inr (.inr rfl)) f (by omega) (.inr (.inr ⟨rfl,by omega⟩))⟩
 ·exact .inl ⟨qy (by omega),ok _ rfl (.inr (.inr ⟨e,by omega⟩))⟩
section
variable{f:Program}{w:World}{A:Around}{E:Value->Shared->Prop}{s:Shared}
def TK(f:Program)(w:World):HeapKind f w (List Key):=tupleKind (qL f w)
theorem za0{n:Nat}{v:Value}(h:carriedByValue v=true):ofAClassStatement n v=pure false:=by
 cases v with
 | ref a=>simp[carriedByValue] at h
 | _=>first| rfl | (unfold ofAClassStatement;rfl)
theorem JB{b:Addr}{k:List Key}{Q:Bool->Shared->Prop}(hk:(TK f w).is s.heap k b)(h:Q false s):wpAny (model f w) A (ofAClassStatement 8 (.ref b)) Q E s:=by
 have B:s.TypeIs (.ref b) "tuple" :=IsTupleKey.typeIs hk;obtain⟨o,items,n,H,_,D,G⟩:=hk;unfold ofAClassStatement;refine zn (wpAny_typeOf B ?_)
 dsimp only;refine zn (zy ?_)
 simp only[wH,qW,if_false];refine zn (xY H D ?_)
 dsimp only;refine zn ?_
 show wpAny _ _ (forIn items _ _) _ _ s;rw[<- QS];refine wpAny_forIn_list _ (fun rest r l=>r.1=none/\l=s/\∀v∈rest,carriedByValue v=true) _ ?_ ?_ _ _ ⟨rfl,rfl,G.byValue⟩
 ·rintro v rest r l ⟨g,rfl,c⟩
  rw[za0 (c v jx)];refine zn (zy ?_)
  simp only[qW,if_false];exact zy ⟨rfl,rfl,fun u i=>c u (jh _ i)⟩
 ·rintro⟨I,J⟩ l ⟨g,rfl,_⟩
  simp only at g;subst g;exact zy h
theorem zcD(n:Nat){v:Value}(h:carriedByValue v=true):∃b,hashByValue n v=pure b:=by
 cases v with
 | ref a=>simp[carriedByValue] at h
 | _=>first| exact⟨_,by unfold hashByValue;rfl⟩ | exact⟨_,by simp[hashByValue];rfl⟩
theorem Vx{b:Addr}{k:List Key}{Q:Bool->Shared->Prop}(hk:(TK f w).is s.heap k b)(h:∀c,Q c s):wpAny (model f w) A (hashByValue 8 (.ref b)) Q E s:=by
 have B:s.TypeIs (.ref b) "tuple" :=IsTupleKey.typeIs hk;obtain⟨o,items,n,H,_,D,G⟩:=hk;unfold hashByValue;refine zn (Zk B QN.lookup ?_)
 dsimp only;refine zn (xY H D ?_)
 refine zn ?_
 show wpAny _ _ (forIn items _ _) _ _ s;rw[<- QS];refine wpAny_forIn_list _ (fun rest r l=>l=s/\∀v∈rest,carriedByValue v=true) _ ?_ ?_ _ _ ⟨rfl,G.byValue⟩
 ·rintro v rest r l ⟨rfl,g⟩
  obtain⟨c,e⟩:=zcD 7 (g v jx);rw[e];refine zn (zy ?_)
  cases c
  ·exact zy (zy (h _))
  ·exact zy ⟨rfl,fun u i=>g u (jh _ i)⟩
 ·rintro⟨I,J⟩ l ⟨rfl,_⟩
  cases I
  ·exact zy (h _)
  ·exact zy (h _)
theorem X6{b:Addr}{k:List Key}{i:List Value}{Q:Bool->Shared->Prop}(hk:(TK f w).is s.heap k b)(hy:∀y∈i,∃B l,y=.ref l/\(TK f w).is s.heap B l)(h:Q false s) :
  wpAny (model f w) A (searchCouldBeSeen (.ref b) i) Q E s:=by
 unfold searchCouldBeSeen;refine zn ?_
 refine wpAny_forIn_list _ (fun rest r u=>r.1=none/\u=s/\∀v∈rest,v∈i) _ ?_ ?_ _ _ ⟨rfl,rfl,fun v hv=>hv⟩
 ·rintro y rest r u ⟨o,rfl,c⟩
  obtain⟨B,l,rfl,g⟩:=hy y (c y jx);have next:∀v∈rest,v∈i:=fun v hv=>c v (jh _ hv)
  dsimp only;split
  ·exact zy ⟨rfl,rfl,next⟩
  ·refine zn ((TK f w).quiet hk ?_)
   simp only[wH,qW,if_false];refine zn ((TK f w).quiet g ?_)
   simp only[wH,qW,if_false];refine zn (JB hk ?_)
   simp only[qW,if_false];refine zn (JB g ?_)
   simp only[qW,if_false];exact zy ⟨rfl,rfl,next⟩
 ·rintro⟨D,G⟩ u ⟨o,rfl,_⟩
  simp only at o;subst o;exact zy h
def VC(f:Program)(w:World)(p:List Key×Addr):Int×Value:=((TK f w).hash p.1,.ref p.2)
def SetT(f:Program)(w:World)(h:Heap)(a:Addr)(g:List (List Key×Addr)):Prop:=
 ∃o b c t,h.get? a=some o/\o.ExactSet/\o.data=.set b c t/\b.toList.Perm (g.map (VC f w))/\TabT t b.size
theorem SetT.at{h b:Heap}{a:Addr}{c:List (List Key×Addr)}(x:SetT f w h a c)(k:∀o,h.get? a=some o->b.get? a=some o):SetT f w b a c:=let ⟨o,i,g,t,e,r⟩:=x;⟨o,i,g,t,k o e,r⟩
theorem SetT.new(h:Heap):SetT f w (h.push (vX w)) h.objs.size []:=
 ⟨vX w,#[],0,_,qH _ rfl,⟨rfl,rfl,rfl⟩,rfl,.refl _,TabT.fresh _⟩
end
section
variable{X:Cx}{l D i:Expr}{u:List Expr}{f:Scope}{w:Pos}{E:TI}{g:TG}{B:TT}{A:TE}
theorem Inv.keyT{G:List (Addr×Obj)}{σ:St}{H:Hp}{s:Shared}{b:Addr}{k:List Key}(I:Inv X G σ H s)(h:SqT X.K H b (k.map kV)):(TK X.prog X.w).is s.heap k b:=by
 obtain⟨J,r,⟨o,e,c,n,d⟩,_⟩:=I.tuple h;exact⟨o,J.toArray,n,e,c,d,by simpa using yW r⟩
end
section
variable{X:Cx}{x:Str}{l:Pos}{f c:Expr}{g:List Expr}{b:Scope}{i:Pos}{u:TI}{s:TT}{o:TE}
end
abbrev zhQ(h:Heap)(z TI TO:Addr)(b:Value)(c:Bool):Prop:=h.get? z=some { cls:=.type "zip",dict:=none,data:=.fields #[b,.bool c,.bool false,.ref TI,.ref TO],slots:=#[] }
abbrev zeN(h:Heap)(T:Addr)(a b c:Value):Prop:=h.get? T=some { cls:=.type "tuple",data:=.seq #[a,b,c] }
structure Z3At(h:Heap)(z TI TO i1 i2 i3 a1 a2 a3:Addr)(i:Nat):Prop where
 zz:∃f0 f1,(f0=.none\/∃t:Int,f0=rawInt t)/\zhQ h z TI TO f0 f1
 ti:zeN h TI (.ref i1) (.ref i2) (.ref i3)
 to:∃a b c,zeN h TO a b c
 r1:h.IsListIter i1 a1 i
 r2:h.IsListIter i2 a2 i
 r3:h.IsListIter i3 a3 i
section
variable{b:Program}{w:World}{A:Around}{E:Value->Shared->Prop}{s:Shared}
end
section
variable{X:Cx}
end
section
variable{X:Cx}{b:List (Addr×Obj)}{σ:St}{H:Hp}{s:Shared}
end
section
variable{X:Cx}
end
section
variable{i:Program}{w:World}{K:Type}[DecidableEq K](g:KeyKind i w K)
def IsTR(h:Heap)(k:List K×List K×List K)(a:Addr):Prop:=∃o n B C D,h.get? a=some o/\o.cls=.type "tuple" /\ o.data=.seq #[.ref B,.ref C,.ref D] n/\IsTupleKey g h k.1 B/\IsTupleKey g h k.2.1 C/\IsTupleKey g h k.2.2 D
variable{g}
theorem IsTR.ty{s:Shared}{k:List K×List K×List K}{a:Addr}(x:IsTR g s.heap k a):s.TypeIs (.ref a) "tuple" :=let ⟨o,_,_,_,_,p,q,_⟩:=x;⟨o,p,q⟩
theorem IsTR.inj{h:Heap}{a:Addr}{x y:List K×List K×List K}(p:IsTR g h x a)(q:IsTR g h y a):x=y:=by
 obtain⟨o,n,B,C,D,e,_,d,b,c,f⟩:=p;obtain⟨O,N,J,L,M,u,_,l,G,H,I⟩:=q;rw[e] at u;cases u;rw[d] at l;cases l;exact Zd (b.inj G) (Zd (c.inj H) (f.inj I))
theorem IsTR.keeps{h H:Heap}{k:List K×List K×List K}{a d:Addr}{o:Obj}{J I}(x:IsTR g h k a)(l:h.get? d=some o)(u:o.data=.dict J I)(G:Heap.SameBut d h H):IsTR g H k a:=by
 obtain⟨p,n,B,C,D,e,t,q,b,c,f⟩:=x;refine⟨p,n,B,C,D,(G.2 a fun z=>?_).trans e,t,q,b.keeps l u G,c.keeps l u G,f.keeps l u G⟩
 subst z;rw[e] at l;cases l;rw[u] at q;exact nomatch q
variable{A:Around}{E:Value->Shared->Prop}{s:Shared}
end
end L2
namespace L2
open PySem PySem.Spec PyProof.Rows PySem.W
section
variable{X:Cx}{b:List (Addr×Obj)}{σ:St}{H:Hp}{s:Shared}
end
end L2
namespace L2
open PySem PySem.Spec PyProof.Rows
section
variable{X:Cx}
end
open Sem (wp)
section
variable{b:Program}{w:World}{A:Around}{E:Value->Shared->Prop}{h:Heap}{g:Array GenState}{d:Drawn}{t:Nat}{os:OsState}{a:Addr}{n:Nat}{c:Array Value}{f:Array (Option Value)}
end
section
variable{b:Program}{w:World}{K:Type}[DecidableEq K]{f:KeyKind b w K}{A:Around}{R:Result->Shared->Prop}{g l D:Addr}{items:Array Value}{c:List (K×Value)}{res:Value}
end
section
variable{b:Program}{w:World}{K:Type}[DecidableEq K]{c:KeyKind b w K}{A:Around}{E:Value->Shared->Prop}{s:Shared}
end
section
variable{X:Cx}
end
end L2
namespace L2
open PySem PySem.Spec PyProof.Rows
section
variable{X:Cx}
end
def adv(m:Nat)(p:SetTable.Probe):SetTable.Probe:=if p.more>0 then { p with j:=p.j+1,more:=p.more-1 } else
 ⟨(SetTable.leap m p.i p.perturb).1,SetTable.runEnd m (SetTable.leap m p.i p.perturb).1-(SetTable.leap m p.i p.perturb).1,(SetTable.leap m p.i p.perturb).1,(SetTable.leap m p.i p.perturb).2,p.dummy⟩
def ze5(m i q:Nat):SetTable.Probe:=⟨i,SetTable.runEnd m i-i,i,q,none⟩
inductive Pass(m:Nat)(b:Nat->Prop):SetTable.Probe->SetTable.Probe->Prop
 | refl (p:SetTable.Probe):Pass m b p p
 | step {p q:SetTable.Probe} (h:b p.j) (r:Pass m b (adv m p) q):Pass m b p q
theorem Pass.trans{m:Nat}{c:Nat->Prop}{p q r:SetTable.Probe}(a:Pass m c p q)(b:Pass m c q r):Pass m c p r:=by
 induction a with
 | refl=>exact b
 | step h _ f=>exact .step h (f b)
theorem Pass.mono{m:Nat}{c b:Nat->Prop}(s:∀j,c j->b j){p q:SetTable.Probe}(a:Pass m c p q):Pass m b p q:=by
 induction a with
 | refl=>exact .refl _
 | step h _ f=>exact .step (s _ h) f
theorem Qf{m:Nat}{tk:Nat->Prop}:∀{k j mo i q:Nat},k<=mo->(∀a,a<k->tk (j+a))->Pass m tk ⟨j,mo,i,q,none⟩ ⟨j+k,mo-k,i,q,none⟩
 | 0,j,mo,i,q,_,_=>.refl _
 | k+1,j,mo,i,q,h,t=>by
  refine .step (t 0 (vQ _)) ?_
  have e:adv m ⟨j,mo,i,q,none⟩=⟨j+1,mo-1,i,q,none⟩:=by
   unfold adv;rw[zF (show mo>0 by omega)]
  rw[e];have:=Qf (m:=m) (tk:=tk) (k:=k) (j:=j+1) (mo:=mo-1) (i:=i) (q:=q) (by omega) fun a b=>by
   have:=t (a+1) (by omega)
   rwa[show j+(a+1)=j+1+a by omega] at this
  rwa[show j+1+k=j+(k+1) by omega,show mo-1-k=mo-(k+1) by omega] at this
def ww(b:Array (Option Nat))(j:Nat):Prop:=(b.getD j (some 0)).isNone=false
theorem Jx{m:Nat}{b:Array (Option Nat)}:∀{fuel i q j:Nat},SetTable.layClean.free m b fuel i q=some j->i<=m->∃x,Pass m (ww b) (ze5 m i q) x/\x.j=j/\(b.getD j (some 0)).isNone=true
 | 0,i,q,j,h,_=>by cases h
 | fuel+1,i,q,j,h,o=>by
  have r:=xS o;unfold SetTable.layClean.free at h;cases c:(List.range (SetTable.runEnd m i+1-i)).find? fun k=>(b.getD (i+k) (some 0)).isNone with
  | some k=>
   rw[c] at h;cases h;obtain⟨h1,h2,h3⟩:=List.find?_range_eq_some.mp c
   have h2:=jF.mp h2;refine⟨_,Qf (k:=k) (by omega) fun a f=>?_,rfl,h1⟩
   have:=h3 a f;unfold ww;simpa using this
  | none=>
   rw[c] at h;have all:∀a,a<=SetTable.runEnd m i-i->ww b (i+a):=fun a f=>by
    exact Bool.eq_false_iff.mpr (List.find?_eq_none.mp c a (jF.mpr (by omega)))
   have l:SetTable.layClean.free m b fuel (SetTable.leap m i q).1 (SetTable.leap m i q).2=some j:=h;obtain⟨x,hx,g,s⟩:=Jx l (vT (x8 _ (vQ m)));refine⟨x,(Qf (k:=SetTable.runEnd m i-i) (zi _) fun a f=>all a (by omega)).trans (.step (all _ (zi _)) ?_),g,s⟩
   have e:adv m ⟨i+(SetTable.runEnd m i-i),SetTable.runEnd m i-i-(SetTable.runEnd m i-i),i,q,none⟩=ze5 m (SetTable.leap m i q).1 (SetTable.leap m i q).2:=by
    unfold adv;rw[zB (by show ¬_-_>0;omega)]
    rfl
   rw[e];exact hx
def zc6(m:Nat)(b:List Int)(o:Array (Option Nat)):Prop:=∀j k,o[j]? =some (some k)->∃h x,b[k]? =some h/\Pass m (ww o) (ze5 m (SetTable.bits h % (m+1)) (SetTable.bits h)) x/\x.j=j
def zcx(m:Nat)(c:Option (Array (Option Nat)×Nat))(h:Int):Option (Array (Option Nat)×Nat):=do
 let (b,k)<-c
 let j<-SetTable.layClean.free m b (SetTable.turns m) (SetTable.bits h % (m+1)) (SetTable.bits h)
 pure (b.setIfInBounds j (some k),k+1)
theorem Js(m:Nat):∀b:List Int,b.foldl (zcx m) none=none
 | []=>rfl
 | _::b=>Js m b
theorem zaN(m k:Nat)(o:Array (Option Nat))(h:Int):zcx m (some (o,k)) h=(SetTable.layClean.free m o (SetTable.turns m) (SetTable.bits h % (m+1)) (SetTable.bits h)).map fun j=>(o.setIfInBounds j (some k),k+1):=by
 unfold zcx;show((SetTable.layClean.free m o (SetTable.turns m) (SetTable.bits h % (m+1)) (SetTable.bits h)).bind fun j=>pure (o.setIfInBounds j (some k),k+1))=_
 cases SetTable.layClean.free m o (SetTable.turns m) (SetTable.bits h % (m+1)) (SetTable.bits h)<;>rfl
theorem Je{o:Array (Option Nat)}{j k s:Nat}(h:ww o s):ww (o.setIfInBounds j (some k)) s:=by
 unfold ww at h ⊢;rw[QD] at h ⊢;rw[zc1];split
 ·split
  ·rfl
  ·rfl
 ·exact h
theorem Vo{m:Nat}:∀{hs pre:List Int} {o o':Array (Option Nat)} {n:Nat},zc6 m pre o->hs.foldl (zcx m) (some (o,pre.length))=some (o',n)->zc6 m (pre++hs) o'
 | [],pre,o,o',n,w,e=>by
  cases e;rw[wg];exact w
 | h::hs,pre,o,o',n,w,e=>by
  rw[wX,zaN] at e;cases f:SetTable.layClean.free m o (SetTable.turns m) (SetTable.bits h % (m+1)) (SetTable.bits h) with
  | none=>
   rw[f] at e;have e:hs.foldl (zcx m) none=some (o',n):=e;rw[Js] at e;cases e
  | some j=>
   rw[f] at e;obtain⟨x,hx,g,D⟩:=Jx f (vT (x8 _ (vQ m)));have A:zc6 m (pre++[h]) (o.setIfInBounds j (some pre.length)):=fun l u e1=>by
    rw[zc1] at e1;split at e1
    ·rename_i z
     subst z;split at e1
     ·cases e1
      exact⟨h,x,by simp,hx.mono fun s hs=>Je hs,g⟩
     ·cases e1
    ·obtain⟨i,B,a,b,c⟩:=w l u e1
     refine⟨i,B,?_,b.mono fun s hs=>Je hs,c⟩
     rw[xq (qg.mp a).1];exact a
   have:=Vo (hs:=hs) (pre:=pre++[h]) (o:=o.setIfInBounds j (some pre.length)) (o':=o') (n:=n) A (by rw[qR];exact e)
   rwa[QQ] at this
theorem Wf{m:Nat}{b:Array Int}{o:Array (Option Nat)}(e:SetTable.layClean m b=some o):zc6 m b.toList o:=by
 unfold SetTable.layClean at e;obtain⟨⟨c,n⟩,e1,e2⟩:=jN.mp e;cases(show c=o from e2)
 rw[<- Array.foldl_toList] at e1;have g:zc6 m [] (Array.replicate (m+1) none):=fun j k h=>by
  rw[Array.getElem?_replicate] at h
  split at h<;>cases h
 exact Vo (pre:=[]) g e1
theorem Pass.le{m:Nat}{b:Nat->Prop}{p q:SetTable.Probe}(a:Pass m b p q):p.j+p.more<=m->Pass m (fun s=>b s/\s<=m) p q:=by
 induction a with
 | refl=>exact fun _=>.refl _
 | @step p q h r f=>
  intro l;refine .step ⟨h,by omega⟩ (f ?_)
  unfold adv;split
  ·show p.j+1+(p.more-1)<=m
   omega
  ·have c:(SetTable.leap m p.i p.perturb).1<=m:=vT (x8 _ (vQ m))
   have:=xS c;show(SetTable.leap m p.i p.perturb).1+(SetTable.runEnd m (SetTable.leap m p.i p.perturb).1-(SetTable.leap m p.i p.perturb).1)<=m;omega
theorem Z5{t:SetTable}(u:Up t.place)(f:t.dummies=#[]){j:Nat}(h:j∈t.place.toList):∃i,t.slot j=.live i/\t.place[i]? =some j:=by
 rcases vw f j with ⟨_,c⟩ | ⟨i,c⟩
 ·exfalso
  obtain⟨i,b⟩:=JJ.mp h;rw[xp] at b;obtain⟨b1,b2,b3⟩:=VO u j;have l:SetTable.below t.place j<=i:=XB fun z=>xK _ (b2 i j (by omega) b)
  have g:=(ZI.mp b).1;by_cases e:SetTable.below t.place j=i
  ·rw[e] at c;exact c b
  ·have hb:t.place[SetTable.below t.place j]? =some (t.place[SetTable.below t.place j]'(by omega)):=xE _
   have o:=b3 _ _ (zi _) hb;have s:=u.lt hb b (by omega)
   omega
 ·exact⟨i,c,xR c⟩
theorem Pass.go{t:SetTable}{f:Nat->Int}{h:Int}(u:Up t.place)(A:t.dummies=#[]){x:SetTable.Probe}{g:Nat}(hx:t.slot x.j=.live g)(w:f g=h):∀{fuel k:Nat} {p:SetTable.Probe},Far t k p->Prb t p->k<fuel->Pass t.mask (fun s=>s∈t.place.toList) p x ->
  ∃j i q o,SetTable.probe.go t f h fuel p=some (.candidate j i q)/\t.slot j=.live i/\f i=h/\Prb t q/\Far t o q/\o<k/\(i=g\/Pass t.mask (fun s=>s∈t.place.toList) q x)
 | 0,k,p,_,_,l,_=>absurd l (Zj k)
 | fuel+1,k,p,E,B,l,D=>by
  have G:∃i,t.slot p.j=.live i:=by
   cases D with
   | refl=>exact⟨g,hx⟩
   | step h _=>obtain⟨i,e,_⟩:=Z5 u A h;exact⟨i,e⟩
  obtain⟨i,c⟩:=G;cases E with
  | here e=>rw[c] at e;cases e
  | @step o _ b=>
   have nx:i=g\/Pass t.mask (fun s=>s∈t.place.toList) (t.advance p) x:=by
    cases D with
    | refl=>rw[hx] at c;cases c;exact .inl rfl
    | step _ r=>exact .inr r
   by_cases e:f i=h
   ·refine⟨p.j,i,t.advance p,o,?_,c,e,B.next,b,yJ _,nx⟩
    unfold SetTable.probe.go;rw[c];dsimp only;rw[zF (xi.mpr e)]
   ·have e2:SetTable.probe.go t f h (fuel+1) p=SetTable.probe.go t f h fuel (t.advance p):=by
     rw[SetTable.probe.go];rw[c];dsimp only;rw[zB fun z=>e (xi.mp z)]
    rw[e2];have r:=nx.resolve_left fun z=>e (by rw[z];exact w)
    obtain⟨j,H,q,I,w1,J,L,M,N,Q,O⟩:=Pass.go (f:=f) (h:=h) u A hx w b B.next (by omega:o<fuel) r
    exact⟨j,H,q,I,w1,J,L,M,N,by omega,O⟩
theorem Far.pass{t:SetTable}{f:Nat->Int}{h:Int}(u:Up t.place)(b:t.dummies=#[]):∀{fuel:Nat} {p:SetTable.Probe} {j:Nat} {d:Option Nat},SetTable.probe.go t f h fuel p=some (.empty j d)->∃x,Pass t.mask (fun s=>s∈t.place.toList) p x/\x.j=j
 | 0,p,j,d,e=>by cases e
 | fuel+1,p,j,d,e=>by
  rw[SetTable.probe.go] at e;rcases vw b p.j with ⟨c,_⟩ | ⟨i,c⟩
  ·rw[c] at e
   cases e;exact⟨p,.refl _,rfl⟩
  ·rw[c] at e
   dsimp only at e;split at e
   ·cases e
   ·obtain⟨x,hx,g⟩:=Far.pass (f:=f) (h:=h) u b e
    refine⟨x,.step ?_ hx,g⟩
    have:=xR c;rw[<- xp] at this;exact qY this
theorem Za{t:SetTable}{f:Nat->Int}{h:Int}(g:t.dummies=#[]):∀{fuel:Nat} {p q:SetTable.Probe} {j i:Nat},SetTable.probe.go t f h fuel p=some (.candidate j i q)->Pass t.mask (fun s=>s∈t.place.toList) p q
 | 0,p,q,j,i,e=>by cases e
 | fuel+1,p,q,j,i,e=>by
  rw[SetTable.probe.go] at e;rcases vw g p.j with ⟨c,_⟩ | ⟨l,c⟩
  ·rw[c] at e;cases e
  ·have m:=xR c
   rw[<- xp] at m;have b:p.j∈t.place.toList:=qY m;rw[c] at e;dsimp only at e;split at e
   ·cases e
    exact .step b (.refl _)
   ·exact .step b (Za (f:=f) (h:=h) g e)
section
variable{g:Program}{w:World}{A:Around}{E:Value->Shared->Prop}{s:Shared}
theorem Z9{a b:Addr}{k:List Key}{o:Obj}{l:Array (Int×Value)}{Y:Nat}{t:SetTable}{Q:SetFound->Shared->Prop}(hu:A.units<cLine)(hk:(TK g w).is s.heap k b)(N:s.heap.get? a=some o)(L:o.data=.set l Y t)(B:TabT t l.size)
  (el:∀e∈l.toList,∃u D,e.2=.ref D/\(TK g w).is s.heap u D) {x:SetTable.Probe} {O:Nat} {T:Addr} (hx:t.slot x.j=.live O) (e0:l[O]? =some ((TK g w).hash k,.ref T)) (h0:(TK g w).is s.heap k T) (q:Q (.there none) s) :
  ∀{n fuel:Nat} {p:SetTable.Probe} {st:Option SetTable.Probe},Far t n p->Prb t p->n<fuel->n<10*SetTable.turns t.mask->Pass t.mask (fun s=>s∈t.place.toList) p x->st.getD (t.probeStart ((TK g w).hash k))=p ->
   wpAny (model g w) A (setSearchFrom a (.ref b) ((TK g w).hash k) true fuel st) Q E s:=by
 have gw:t.gaveWay=false:=by
  unfold SetTable.gaveWay;rcases B.msk with e | e | e<;>rw[e]<;>rfl
 intro n;induction n using Nat.strongRecOn with
 | _ n ih=>
 intro fuel p st fa pr l1 l2 ps hp;obtain⟨fuel,rfl⟩:∃c,fuel=c+1:=⟨fuel-1,by omega⟩
 unfold setSearchFrom;refine zn (x6 N L B.fits ?_)
 dsimp only;rw[gw,hp];simp only[qW,if_false];generalize J:SetTable.probe t _ _ _=r;have G:∃f:Nat->Int,f O=(TK g w).hash k/\SetTable.probe.go t f ((TK g w).hash k) (10*SetTable.turns t.mask) p=r:=⟨_,by
  show(l[O]?.map (·.1)).getD 0=_
  rw[e0];rfl,J⟩
 clear J;obtain⟨f,hf,J⟩:=G;obtain⟨j,i,p',n',e,e2,e3,e4,e5,e6,e7⟩:=Pass.go (f:=f) (h:=(TK g w).hash k) B.up B.no hx hf fa pr l2 ps;rw[e] at J;subst J;dsimp only;have Y:=xR e2;have il:i<l.size:=by
  have:=(ZI.mp Y).1;rwa[B.sz] at this
 have I:l[i]? =some l[i]:=xE il;have kb:∃u D,l[i].2=.ref D/\(TK g w).is s.heap u D/\(u=k\/Pass t.mask (fun s=>s∈t.place.toList) p' x):=by
  rcases e7 with z | z
  ·subst z
   have:=j5 (I.symm.trans e0);exact⟨k,T,by rw[this],h0,.inl rfl⟩
  ·obtain⟨u,D,h1,h2⟩:=el l[i] (Array.getElem_mem_toList il)
   exact⟨u,D,h1,h2,.inr z⟩
 obtain⟨u,D,U,M,go⟩:=kb;generalize l[i]=y at I U;obtain⟨hy,y⟩:=y;dsimp only at U;subst U;have sm:t.sameMemory t.moves t.mask=some true:=by
  unfold SetTable.sameMemory;rw[zF (beq_self_eq_true _)]
 cases t.led
 ·simp only[QK,if_true]
  refine zn (X6 hk (fun y hy=>?_) ?_)
  ·obtain⟨z,hz,rfl⟩:=qr.mp hy
   obtain⟨k2,b2,e9,h9⟩:=el z (by rw[Array.toList_filter] at hz;exact(wI.mp hz).1)
   exact⟨k2,b2,e9,h9⟩
  ·simp only[qW,if_false]
   rw[I];refine zn (jR ((TK g w).eqBool hu M hk ?_))
   by_cases H:u=k
   ·rw[zQ H]
    refine zn (x6 N L B.fits ?_)
    simp only[wu,if_true];exact zy q
   ·rw[qy H]
    refine zn (x6 N L B.fits ?_)
    simp only[qF,qW,if_false];rw[sm];simp only[if_true];rw[e2];dsimp only;rw[I];refine zn (wpAny_isSame_ref_self ?_)
    exact zn (zy (ih n' e6 e5 e4 (by omega) (by omega) (go.resolve_left H) rfl))
 ·simp only[wH,qW,if_false]
  ·rw[I]
   refine zn (jR ((TK g w).eqBool hu M hk ?_))
   by_cases H:u=k
   ·rw[zQ H]
    refine zn (x6 N L B.fits ?_)
    simp only[wu,if_true];exact zy q
   ·rw[qy H]
    refine zn (x6 N L B.fits ?_)
    simp only[qF,qW,if_false];rw[sm];simp only[if_true];rw[e2];dsimp only;rw[I];refine zn (wpAny_isSame_ref_self ?_)
    exact zn (zy (ih n' e6 e5 e4 (by omega) (by omega) (go.resolve_left H) rfl))
end
def Rch(t:SetTable)(b:List (Int×Value)):Prop:=∀q∈t.place.toList.zip b,∃x,Pass t.mask (fun s=>s∈t.place.toList) (t.probeStart q.2.1) x/\x.j=q.1
theorem Rch.fresh(b:Bool):Rch (.fresh 0 0 b) []:=fun q h=>(nomatch h)
theorem zc8{α β:Type}{a:Array α}{b:Array β}(e:a.size=b.size)(p:Nat)(x:α)(y:β):∀q∈(SetTable.insertAt a p x).toList.zip (SetTable.insertAt b p y).toList,q=(x,y)\/q∈a.toList.zip b.toList:=fun q h=>by
 have f:∀{γ:Type} (c:Array γ) (z:γ),(SetTable.insertAt c p z).toList=c.toList.take p++z::c.toList.drop p:=fun {γ} c z=>by
  unfold SetTable.insertAt;rw[Xw,yh,WG,WG,QQ];simp[JL]
 rw[f,f] at h;have l:(a.toList.take p).length=(b.toList.take p).length:=by rw[qI,qI,qX,qX,e]
 rw[List.zip_append l] at h;have g:a.toList.zip b.toList=(a.toList.take p).zip (b.toList.take p)++(a.toList.drop p).zip (b.toList.drop p):=by
  rw[<- List.zip_append l,QV,QV]
 rw[g];rcases ju.mp h with h | h
 ·exact .inr (vm _ h)
 ·rcases z9.mp h with h | h
  ·exact .inl h
  ·exact .inr (jT _ h)
theorem Rch.put{t:SetTable}{f:Array (Int×Value)}(r:Rch t f.toList)(l:t.place.size=f.size){j:Nat}{e:Int×Value}{c:Bool}(h:∃x,Pass t.mask (fun s=>s∈t.place.toList) (t.probeStart e.1) x/\x.j=j) :
  Rch { (t.put j).1 with plain:=c } (SetTable.insertAt f (SetTable.below t.place j) e).toList:=fun q hq=>by
 have sub:∀s,s∈t.place.toList->s∈(SetTable.insertAt t.place (SetTable.below t.place j) j).toList:=fun s i=>by
  have g:=JK t.place (SetTable.below t.place j) j;rw[yh] at g;exact g.mem_iff.mpr (vm _ i)
 rcases zc8 l _ _ _ q hq with z | z
 ·subst z
  obtain⟨x,hx,b⟩:=h;exact⟨x,hx.mono sub,b⟩
 ·obtain⟨x,hx,b⟩:=r q z
  exact⟨x,hx.mono sub,b⟩
theorem XG{b:Array (Int×Value)}:∀{l:List (Nat×Nat)},(∀q∈l,q.2<b.size)->∀q∈(l.map (·.1)).zip ((l.map (·.2)).filterMap (b[·]?)),∃k,(q.1,k)∈l/\b[k]? =some q.2
 | [],_,q,h=>by cases h
 | y::l,a,q,h=>by
  have hy:b[y.2]? =some (b[y.2]'(a y (jx ..))):=xE _;rw[jf,jf,QT,hy] at h;rcases z9.mp h with h | h
  ·subst h
   exact⟨y.2,jx ..,hy⟩
  ·obtain⟨k,h1,h2⟩:=XG (fun q hq=>a q (jh _ hq)) q h
   exact⟨k,jh _ h1,h2⟩
theorem Vr{m f v:Nat}{b p:Bool}{J:SetTable}{G:Array Nat}(Q:Msk m){i:Array (Int×Value)}(T:i.size<=m)(e:SetTable.laid m f v b p (i.map (·.1))=some (J,G)):Rch J (G.filterMap (i[·]?)).toList:=by
 obtain⟨o,B,w⟩:=Jr Q (hs:=i.map (·.1)) (by rw[Zg];exact T)
 have H:=Wf B;unfold SetTable.laid at e;rw[B] at e;cases e;intro q hq;have hq:q∈(((List.range (m+1)).filterMap fun j=>(o.getD j none).map (j,·)).map (·.1)).zip ((((List.range (m+1)).filterMap fun j=>(o.getD j none).map (j,·)).map (·.2)).filterMap (i[·]?)):=by
  rw[Array.toList_filterMap] at hq;exact hq
 have c:∀y∈(List.range (m+1)).filterMap fun j=>(o.getD j none).map (j,·),o[y.1]? =some (some y.2):=fun y hy=>by
  obtain⟨j,U,L⟩:=ZF.mp hy;obtain⟨z,g,rfl⟩:=jN.mp L;rw[QD] at g;cases A:o[j]? with
  | none=>rw[A] at g;cases g
  | some u=>rw[A] at g;exact congrArg some g
 obtain⟨k,h1,h2⟩:=XG (fun y hy=>by
  obtain⟨h,x,a,_⟩:=H _ _ (c y hy);have:=(qg.mp a).1;rwa[qX,Zg] at this) q hq
 obtain⟨h,x,a,hx,N⟩:=H _ _ (c _ h1);have M:h=q.2.1:=by
  rw[xp,Array.getElem?_map,h2] at a
  exact(j5 a).symm
 subst M;refine⟨x,?_,N⟩
 have O:SetTable.bits q.2.1 % (m+1)<=m:=vT (x8 _ (vQ m));refine(hx.le (by have:=xS O;show SetTable.bits q.2.1 % (m+1)+(SetTable.runEnd m (SetTable.bits q.2.1 % (m+1))-SetTable.bits q.2.1 % (m+1))<=m;omega)).mono fun s E=>?_
 obtain⟨l,Y⟩:=E;show s∈((List.range (m+1)).filterMap fun j=>(o.getD j none).map (j,·)).map (·.1)
 have I:s<o.size:=by rw[w.sz];omega
 unfold ww at l;rw[QD,xE I] at l;cases D:o[s] with
 | none=>rw[D] at l;cases l
 | some z=>
  refine qr.mpr ⟨(s,z),ZF.mpr ⟨s,jF.mpr (by omega),?_⟩,rfl⟩
  rw[QD,xE I,D];rfl
theorem Jt{m f v:Nat}{b p:Bool}{g:Array Int}{i:SetTable}{l:Array Nat}(e:SetTable.laid m f v b p g=some (i,l)):i.mask=m:=by
 unfold SetTable.laid at e;cases c:SetTable.layClean m g with
 | none=>rw[c] at e;cases e
 | some o=>rw[c] at e;cases e;rfl
section
variable{l:Program}{w:World}{A:Around}{E:Value->Shared->Prop}{s:Shared}
def SetR(l:Program)(w:World)(h:Heap)(a:Addr)(f:List (List Key×Addr)):Prop:=
 ∃o b c t,h.get? a=some o/\o.ExactSet/\o.data=.set b c t/\b.toList.Perm (f.map (VC l w))/\TabT t b.size/\Rch t b.toList
theorem SetR.at{h b:Heap}{a:Addr}{c:List (List Key×Addr)}(x:SetR l w h a c)(k:∀o,h.get? a=some o->b.get? a=some o):SetR l w b a c:=let ⟨o,g,f,t,e,r⟩:=x;⟨o,g,f,t,k o e,r⟩
theorem SetR.new(h:Heap):SetR l w (h.push (vX w)) h.objs.size []:=
 ⟨vX w,#[],0,_,qH _ rfl,⟨rfl,rfl,rfl⟩,rfl,.refl _,TabT.fresh _,Rch.fresh _⟩
theorem Zx{p0:SetTable.Probe}{a b:Addr}{k:List Key}{o:Obj}{u:Array (Int×Value)}{L:Nat}{t:SetTable}{Q:SetFound->Shared->Prop}(hu:A.units<cLine)(hk:(TK l w).is s.heap k b)(N:s.heap.get? a=some o)(M:o.data=.set u L t)(g:TabT t u.size)
  (el:∀e∈u.toList,∃T I,e.2=.ref I/\(TK l w).is s.heap T I/\T≠k) (q:∀j,t.place[SetTable.below t.place j]?≠some j->j<=t.mask->(∃x,Pass t.mask (fun s=>s∈t.place.toList) p0 x/\x.j=j)->Q (.free j false) s) :
  ∀{n fuel:Nat} {p:SetTable.Probe} {st:Option SetTable.Probe},Far t n p->Prb t p->n<fuel->n<10*SetTable.turns t.mask->Pass t.mask (fun s=>s∈t.place.toList) p0 p->st.getD (t.probeStart ((TK l w).hash k))=p ->
   wpAny (model l w) A (setSearchFrom a (.ref b) ((TK l w).hash k) true fuel st) Q E s:=by
 have gw:t.gaveWay=false:=by
  unfold SetTable.gaveWay;rcases g.msk with e | e | e<;>rw[e]<;>rfl
 intro n;induction n using Nat.strongRecOn with
 | _ n ih=>
 intro fuel p st fa pr l1 l2 O hp;obtain⟨fuel,rfl⟩:∃c,fuel=c+1:=⟨fuel-1,by omega⟩
 unfold setSearchFrom;refine zn (x6 N M g.fits ?_)
 dsimp only;rw[gw,hp];simp only[qW,if_false];generalize B:SetTable.probe t _ _ _=r;have G:∃f,SetTable.probe.go t f ((TK l w).hash k) (10*SetTable.turns t.mask) p=r:=⟨_,B⟩;clear B;obtain⟨f,B⟩:=G;rcases Far.go (f:=f) (h:=(TK l w).hash k) g.no fa pr l2 with ⟨j,e,e2,U⟩ | ⟨j,i,p',n',e,e2,U,Y,e5,e6⟩
 ·rw[e] at B
  subst B;exact zy (q j e2 U (let ⟨x,hx,ej⟩:=Far.pass g.up g.no e;⟨x,O.trans hx,ej⟩))
 ·rw[e] at B
  subst B;dsimp only;have L:=xR e2;have il:i<u.size:=by
   have:=(ZI.mp L).1;rwa[g.sz] at this
  have D:u[i]? =some u[i]:=xE il;obtain⟨T,I,J,H,ne⟩:=el u[i] (Array.getElem_mem_toList il);generalize u[i]=x at D J;obtain⟨hx,y⟩:=x;dsimp only at J;subst J;have sm:t.sameMemory t.moves t.mask=some true:=by
   unfold SetTable.sameMemory;rw[zF (beq_self_eq_true _)]
  cases t.led
  ·simp only[QK,if_true]
   refine zn (X6 hk (fun y hy=>?_) ?_)
   ·obtain⟨x,hx,rfl⟩:=qr.mp hy
    obtain⟨k2,b2,e9,h9,_⟩:=el x (by rw[Array.toList_filter] at hx;exact(wI.mp hx).1)
    exact⟨k2,b2,e9,h9⟩
   simp only[qW,if_false];rw[D];refine zn (jR ((TK l w).eqBool hu H hk ?_))
   rw[qy ne];refine zn (x6 N M g.fits ?_)
   simp only[qF,qW,if_false];rw[sm];simp only[if_true];rw[e2];dsimp only;rw[D];refine zn (wpAny_isSame_ref_self ?_)
   exact zn (zy (ih n' e6 e5 Y (by omega) (by omega) (O.trans (Za g.no e)) rfl))
  ·simp only[wH,qW,if_false]
   rw[D];refine zn (jR ((TK l w).eqBool hu H hk ?_))
   rw[qy ne];refine zn (x6 N M g.fits ?_)
   simp only[qF,qW,if_false];rw[sm];simp only[if_true];rw[e2];dsimp only;rw[D];refine zn (wpAny_isSame_ref_self ?_)
   exact zn (zy (ih n' e6 e5 Y (by omega) (by omega) (O.trans (Za g.no e)) rfl))
theorem zbW{a:Addr}{o:Obj}{b:Array (Int×Value)}{M c:Nat}{t i:SetTable}{f:Array Nat}{R:Unit->Shared->Prop}(G:s.heap.get? a=some o)(D:o.ExactSet)(g:o.data=.set b M t)(N:t.fits b.size=true)(Q:SetTable.sizeAbove c<=128)
  (e:t.relaid (b.map (·.1)) c=some (i,f)) (p:f.toList.Perm (List.range b.size)) (T:TabT i b.size) (O:b.size<=sizeLine)
  (h:∀B H u,Heap.SameBut a s.heap B->B.get? a=some H->H.ExactSet->H.data=.set (f.filterMap (b[·]?)) u i->(f.filterMap (b[·]?)).toList.Perm b.toList->R () { s with heap:=B }):wpAny (model l w) A (setRelay a c) R E s:=by
 have J:(f.filterMap (b[·]?)).toList.Perm b.toList:=by
  rw[Array.toList_filterMap];exact(p.filterMap _).trans (by rw[filterMap_getElem?_range])
 have L:(f.filterMap (b[·]?)).size=b.size:=by
  have:=J.length_eq;rwa[qX,qX] at this
 unfold setRelay;refine zn (x6 G g N ?_)
 dsimp only;rw[zB (by rw[sizeLine_eq];omega),e]
 refine zn (show wpAny _ _ (ite _ _ _) _ _ _ from wpAny_ite ?_)
 rw[zB (by rw[L];simp)]
 refine zy ?_
 have I:=ZH (Obj.putSet (f.filterMap (b[·]?)) i) G (by rw[putSet_of _ _ g];rfl)
 rw[putSet_of _ _ g] at I;exact wpAny_storeSet_of G g (h _ _ _ (Zt s.heap a _) I D rfl J) (by rw[L];exact O)
theorem zgs{a b:Addr}{k:List Key}{H:List (List Key×Addr)}{Q:Value->Shared->Prop}(hu:A.units+1<cLine)(hk:(TK l w).is s.heap k b)(a6:∀p∈H,(TK l w).is s.heap p.1 p.2)(nk:k∉H.map (·.1))(hS:SetR l w s.heap a H)(a7:H.length<76)
  (h:∀L N,Heap.SameBut a s.heap L->SetR l w L a (H++[(k,b)])->Q .none { s with heap:=L,toks:=N }):wpAny (model l w) A (call (.builtin "set.add") [.ref a,.ref b]) Q E s:=by
 obtain⟨o,f,ep,t,G,u,D,pm,B,rc⟩:=hS;have ln:=pm.length_eq;rw[qX,zv] at ln;have ty:s.TypeIs (.ref a) "set" :=⟨o,G,u.1⟩;refine vS F.slot_set_add ty F.entry_set_add ?_ (F.args_set_add_2 _ _)
 unfold Builtin.«set.add»;generalize Y:setAdd=SA;obtain⟨hp,g,d,N,os⟩:=s;wp_walk
 subst Y;refine(show wpAny _ _ (setAdd a (.ref b)) _ _ _ from jR (zn ((TK l w).pyHash (tupleKind_room_in1 hu) hk ?_)))
 refine jR ?_
 show wpAny _ _ (setAddHashedIn a (.ref b) _ 100000) _ _ _;unfold setAddHashedIn;refine zn (x6 G D B.fits ?_)
 dsimp only;rw[show byScan (.ref b) f=false from rfl]
 simp only[qW,if_false];obtain⟨fa,pr⟩:=B.far ((TK l w).hash k);have mb:t.mask<=127:=by rcases B.msk with e | e | e<;>omega
 unfold setSearch;refine zn (Zx (p0:=t.probeStart ((TK l w).hash k)) (s:=⟨hp,g,d,N+(TK l w).draws k,os⟩) (A:=A.in1) hu hk G D B (fun e he=>?_) (fun j nj jl hw=>?_) fa pr (ZE (Zs 10 (Xy mb 12)) (show 10*(127+12)<100000 by decide)) (by unfold SetTable.turns;omega) (.refl _) rfl)
 ·obtain⟨p,hp,e⟩:=qr.mp (pm.mem_iff.mp he)
  exact⟨p.1,p.2,by rw[<- e];rfl,a6 p hp,fun z=>nk (z▸List.mem_map_of_mem hp)⟩
 dsimp only;refine zn (x6 G D B.fits ?_)
 have M:(SetTable.insertAt f (SetTable.below t.place j) ((TK l w).hash k,Value.ref b)).size=f.size+1:=by
  have:=(JK f (SetTable.below t.place j) ((TK l w).hash k,Value.ref b)).length_eq;rwa[qX,yh,qR,qX] at this
 have J:(SetTable.insertAt f (SetTable.below t.place j) ((TK l w).hash k,Value.ref b)).toList.Perm ((H++[(k,b)]).map (VC l w)):=by
  refine(JK f (SetTable.below t.place j) ((TK l w).hash k,Value.ref b)).trans ?_
  rw[yh,qm];exact pm.append_right _
 have sl:∀n,n<=77->n<=sizeLine:=fun n h=>qk h (by rw[sizeLine_eq];decide)
 have i:∀c:Bool,wpAny (model l w) A.in1 (do
   storeSet a (SetTable.insertAt f (SetTable.below t.place j) ((TK l w).hash k,Value.ref b)) { (t.put j).1 with plain:=c }
   if(!false&&({ (t.put j).1 with plain:=c }:SetTable).tooFull)=true then do
    setRelay a (SetTable.grown (f.size+1))
    pure true
   else pure true) (fun a s'=>wpAny (model l w) A.in1 (ret Value.none) (fun T s'=>∃v,T=Fin.done (Flow.ret v)/\Q v s') E s') E { heap:=hp,gens:=g,drawn:=d,toks:=N+(TK l w).draws k,os:=os }:=fun c=>by
  have sb:=Zt hp a (Obj.putSet (SetTable.insertAt f (SetTable.below t.place j) ((TK l w).hash k,Value.ref b)) { (t.put j).1 with plain:=c });have U:=ZH (Obj.putSet (SetTable.insertAt f (SetTable.below t.place j) ((TK l w).hash k,Value.ref b)) { (t.put j).1 with plain:=c }) G (by rw[putSet_of _ _ D];rfl)
  rw[putSet_of _ _ D] at U;refine zn (wpAny_storeSet_of G D ?_ (sl _ (by omega)))
  rcases B.more (by omega) nj jl c with ⟨O,a9⟩ | ⟨O,f2,f3,f4⟩
  ·rw[O]
   simp only[qF,qW,if_false];exact zy (zy ⟨_,rfl,h _ _ sb ⟨_,_,_,_,U,u,rfl,J,by rw[M];exact a9,rc.put B.sz hw⟩⟩)
  ·rw[O]
   simp only[QK,Bool.and_self,if_true];obtain⟨t',od,e1,e2,I⟩:=f4 ((SetTable.insertAt f (SetTable.below t.place j) ((TK l w).hash k,Value.ref b)).map (·.1)) (by rw[Zg,M])
   rw[Zg] at e2 I;refine zn (zbW U u rfl (by rw[M];exact f2) f3 e1 e2 I (sl _ (by omega)) fun L o' aa a8 g2 x2 d2 p2=>?_)
   have z2:=p2.length_eq;rw[qX,qX] at z2;exact zy (zy ⟨_,rfl,h _ _ (sb.trans a8) ⟨_,_,_,_,g2,x2,d2,p2.trans J,by rw[z2];exact I,by
    have em:=Jt e1;exact Vr (by rw[<- em];exact I.msk) (by rw[<- em];exact wU (by have:=I.lt;rwa[M] at this ⊢)) e1⟩⟩)
 split
 ·refine zn (Vx hk fun c=>?_)
  cases c
  ·exact i false
  ·exact i _
 ·exact zn (zy (i _))
theorem zgr{a b:Addr}{k:List Key}{H:List (List Key×Addr)}{Q:Value->Shared->Prop}(hu:A.units+1<cLine)(hk:(TK l w).is s.heap k b)(B:∀p∈H,(TK l w).is s.heap p.1 p.2)(nk:k∈H.map (·.1))(hS:SetR l w s.heap a H)
  (h:∀U,Q .none { s with toks:=U }):wpAny (model l w) A (call (.builtin "set.add") [.ref a,.ref b]) Q E s:=by
 obtain⟨o,I,ep,t,N,M,hd,pm,c,rc⟩:=hS;obtain⟨⟨k',bk⟩,G,ek⟩:=qr.mp nk;cases(show k'=k from ek)
 have h0:=B _ G;have L:=pm.mem_iff.mpr (qr.mpr ⟨_,G,rfl⟩:VC l w (k,bk)∈H.map (VC l w));obtain⟨f,D⟩:=JJ.mp L;have e0:I[f]? =some ((TK l w).hash k,.ref bk):=by rw[<- xp];exact D
 have il:=(ZI.mp e0).1;have sz:t.place.size=I.size:=c.sz;have u:t.place[f]? =some (t.place[f]'(by omega)):=xE _
 generalize t.place[f]'(by omega)=T at u
 have mj:T∈t.place.toList:=by
  rw[<- xp] at u;exact qY u
 obtain⟨x,O,Y⟩:=rc (T,((TK l w).hash k,.ref bk)) (qY (i:=f) (by
  rw[WS];exact⟨by rw[xp];exact u,D⟩))
 have Y:x.j=T:=Y;have hx:t.slot x.j=.live f:=by
  rw[Y];obtain⟨i,h1,h2⟩:=Z5 c.up c.no mj;have:i=f:=by
   rcases Xt i f with z | z | z
   ·exact absurd (c.up.lt h2 u z) (xK _)
   ·exact z
   ·exact absurd (c.up.lt u h2 z) (xK _)
  rw[h1,this]
 have ty:s.TypeIs (.ref a) "set" :=⟨o,N,M.1⟩;refine vS F.slot_set_add ty F.entry_set_add ?_ (F.args_set_add_2 _ _)
 unfold Builtin.«set.add»;generalize J:setAdd=SA;obtain⟨hp,g,d,U,os⟩:=s;wp_walk
 subst J;refine(show wpAny _ _ (setAdd a (.ref b)) _ _ _ from jR (zn ((TK l w).pyHash (tupleKind_room_in1 hu) hk ?_)))
 refine jR ?_
 show wpAny _ _ (setAddHashedIn a (.ref b) _ 100000) _ _ _;unfold setAddHashedIn;refine zn (x6 N hd c.fits ?_)
 dsimp only;rw[show byScan (.ref b) I=false from rfl]
 simp only[qW,if_false];obtain⟨fa,pr⟩:=c.far ((TK l w).hash k);have mb:t.mask<=127:=by rcases c.msk with e | e | e<;>omega
 unfold setSearch;refine zn (Z9 (s:=⟨hp,g,d,U+(TK l w).draws k,os⟩) (A:=A.in1) hu hk N hd c (fun e L=>?_) hx e0 h0 ?_ fa pr (ZE (Zs 10 (Xy mb 12)) (show 10*(127+12)<100000 by decide)) (by unfold SetTable.turns;omega) O rfl)
 ·obtain⟨p,hp,e⟩:=qr.mp (pm.mem_iff.mp L)
  exact⟨p.1,p.2,by rw[<- e];rfl,B p hp⟩
 ·exact zy (zy ⟨_,rfl,h _⟩)
end
open Classical in
noncomputable def jO (b:List (List Key×Addr)) (p:List Key×Addr):List (List Key×Addr):=if p.1∈b.map (·.1) then b else b++[p]
theorem Vl{b:List (List Key×Addr)}{p q:List Key×Addr}(h:p∈b):p∈jO b q:=by
 unfold jO;split
 ·exact h
 ·exact vm _ h
def Z8(P:Program)(w:World)(p:Addr)(n:Nat):HO:=.ext fun h=>∃b,SetR P w h p b/\b.length=n
def tSR(P:Program)(w:World)(K:W.Frag)(T:TI)(n:Nat)(B:List Nat)(g:TG)(O:TT)(M:TE):TE:=fun σ H Q=>T σ H fun J I=>
 ∃W:Nat->Nat->List (List Key×Addr)->Hp->Prop,(∃m,W 0 m [] I)/\∀i m f c,W i m f c->(∀p∈f,SqT K c p.2 (p.1.map kV)) /\
  ((J.stop i c/\∀D,c D=none->Q (.ref D) (upd c D (Z8 P w D f.length))) \/
  (J.go i c/\∃N:List (List Key×Addr)->Hp->Prop,(∀G o,N G o->∃E,E<m/\W (i+1) E G o)/\∀x s,J.yld i c x s->g x (upS n B σ) s fun l L=>l.drop n=(upS n B σ).drop n/\O l L fun b u=>
   if b=true then M l u fun y A=>∃(k:List Key) (b:Addr),y=.ref b/\SqT K A b (k.map kV)/\f.length<76/\N (jO f (k,b)) A else N f u))
section
variable{X:Cx}{A L w:Expr}{E:List Expr}{f:Scope}{G:Pos}{U:TI}{g:TG}{O:TT}{M:TE}
theorem zgE(hu:X.A.units+1<cLine)(own fr:List Str)(js:List Nat)(hc:X.calm=true)(hk:f.kind=.function)(hb:Qw f.names X.env.scope.names X.N fr js=true)(hi:PI X L w U)
  (hg:∀C s H ex,PG (qE X (own++fr) f C s H ex) L g) (hf:∀C s H ex,PF (qE X (own++fr) f C s H ex) E O) (he:∀C s H ex,PE (qE X (own++fr) f C s H ex) A M)
  (hs:∀x,foldedSetIterable w X.env x=pure x:=by intro _;rfl):PE X (.SetComp A [⟨L,w,E,0⟩] f G) (tSR X.prog X.w X.K U own.length js g O M):=by
 intro a9 s σ H Q I h;have B:=VN hb;have ak:∀y∈f.names,y.2=NameKind.free->∃c,X.env.cells.lookup y.1=some c:=fun y hy e=>I.ok.has y.1 (B.free y hy e)
 rw[arm_eval_SetComp];refine wpAny_comprehension_free (use:=none) rfl hs (Y0 ak) hk (fun y hy e=>B.loc y hy e) (thn (hi a9 s σ H _ I h) fun v s1 h1=>thn h1 fun br s2 h2=>?_)
 obtain⟨it,Y,tn,J,H2,e,I2,T,ax,f2,W,⟨m0,w0⟩,ao⟩:=h2;subst e;have fl:∀b∈Y,b<s2.heap.objs.size:=fun b hb=>let ⟨o,e,_⟩:=T.obj _ _ ax b hb;zO e
 refine zdJ (wpAny_newFunctionEnv B.cell (by intro y hy;simp at hy) (fun h1 as au=>?_) hk)
 dsimp only at as au ⊢;have b9:SetR X.prog X.w (s2.heap.push (vX X.w)) s2.heap.objs.size []:=SetR.new s2.heap;have sD:=I2.fpOk (zi s2.heap.objs.size) (I2.hok.fresh (zi s2.heap.objs.size));generalize e3:s2.heap.push (vX X.w)=h3 at as au b9 ⊢;have k3:∀b o,s2.heap.get? b=some o->h3.get? b=some o:=fun b o e=>by rw[<- e3];exact qw _ e
 have k4:∀b o,h3.get? b=some o->h1.get? b=some o:=fun b o e=>au.extBut b o (qz (zO e)) (qw _ e)
 have I3:Inv X a9 σ H2 { s2 with heap:=h3 }:=I2.kept (t':=s2.toks) k3;have hz:h3.objs.size=s2.heap.objs.size+1:=by rw[<- e3,xD]
 have ar:s2.heap.objs.size≠h3.objs.size:=by rw[hz];exact qz (yJ _)
 generalize eD:s2.heap.objs.size=D at *
 have fD:∀b∈Y,D≠b:=fun b hb=>wt (fl b hb)
 have f3:∀b∈D::Y,vc X a9 H2 b:=fun b hb=>(z9.mp hb).elim (fun z=>z▸sD) (f2 b)
 have I4:Inv (qE X (own++fr) f h3.objs.size { s2 with heap:=h3,toks:=s2.toks } H2 (D::Y)) [] (upS own.length js σ) H2 { s2 with heap:=h1,toks:=s2.toks+([]:List (Str×Value)).length }:=
  Wn own fr js I3 B hk f3 (fun b hb=>by
   show b<h3.objs.size;rw[hz];exact(z9.mp hb).elim (fun z=>z▸yJ _) fun z=>QP (fl b z)) rfl as k4
 generalize eC:h3.objs.size=C at *
 have hx:∀b∈D::Y,∀x c,(xf X.env.cells f.names []).lookup x=some c->c≠b:=fun b hb x c e=>(f3 b hb).2.2.2.2.1 x c (qJ e ak)
 have bj:∀b∈D::Y,b∉frs X.stack:=I4.ok.exfs;have b0:∀{a7:List (Addr×Obj)} {H':Hp} {b:Addr},b∈D::Y->H' b=none->(∀p∈a7,p.1≠b)->vc (qE X (own++fr) f C { s2 with heap:=h3,toks:=s2.toks } H2 (D::Y)) a7 H' b:=fun {a7 H' b} hb hn hp=>
  ⟨hn,(I4.ok.exf b hb).1,bj b hb,.inl hb,fun x c e=>hx b hb x c e,fun p h=>hp p (by simpa using h)⟩
 have an:∀s4:Shared,s4={ s2 with heap:=h1,toks:=s2.toks+([]:List (Str×Value)).length } ->
   codeAny (model X.prog X.w) X.A (.compLoop (.SetComp A [⟨L,w,E,0⟩] f G) 0 (.ref it) (.ref D) (compEnvC f (xf X.env.cells f.names []) C X.env))
    (compPost (model X.prog X.w) X.A X.xe none (EP X a9 σ Q) (.ref D) C) s4:=by
  intro s4 e4;refine zay (fun n s'=>∃i ks H',Inv (qE X (own++fr) f C { s2 with heap:=h3,toks:=s2.toks } H2 (D::Y)) [] (upS own.length js σ) H' s'/\tn i s'.heap/\(∀b∈Y,H' b=none)/\H' D=none/\SetR X.prog X.w s'.heap D ks/\W i n ks H') ?_ m0 ?_
  ·rintro n s5 ⟨i,ks,H5,I5,b8,b4,bd,bn,w5⟩
   obtain⟨o5,af,ae,t5,b5,aa⟩:=id bn;have nc:∀v,o5.data≠.cell v:=fun v q=>by
    rw[aa.2.1] at q;cases q
   have az:=I5.pinned (fp:=[D]) (fun b hb=>by rw[qv.mp hb];exact b0 jx bd (fun p hp=>absurd hp (by simp))) (fun b hb=>by
    rw[qv.mp hb];exact⟨_,b5,nc⟩)
   have pD:∀p∈[]++jg [D] s5.heap,p.1=D:=fun p hp=>by
    rw[Wp] at hp;exact qv.mp (yQ hp).1
   have mD:(D,o5)∈[]++jg [D] s5.heap:=by
    rw[Wp];exact xB (qv.mpr rfl) b5
   have ap:∀{H':Hp},(∀b∈Y,H' b=none)->∀b∈Y,vc (qE X (own++fr) f C { s2 with heap:=h3,toks:=s2.toks } H2 (D::Y)) ([]++jg [D] s5.heap) H' b:=fun hn b hb=>b0 (jh _ hb) (hn b hb) fun p hp=>by
    rw[pD p hp];exact fD b hb
   rcases(ao i n ks H5 w5).2 with ⟨stop,q⟩ | ⟨go,N,hN,step⟩
   ·refine thn (T.done (qE X (own++fr) f C { s2 with heap:=h3,toks:=s2.toks } H2 (D::Y)) rfl rfl rfl hc i _ s5 _ H5 _ az (ap b4) b8 stop) fun r s6 ⟨hr,I6⟩=>?_
    subst hr;obtain⟨m6,bg,_⟩:=I6.loc;refine⟨m6,bg,fun h7 bh=>?_⟩
    obtain⟨o6,b7,_⟩:=I6.pin (D,_) (jT _ mD);have k7:∀b o,b≠C->s6.heap.get? b=some o->h7.get? b=some o:=fun b o hb e=>bh.extBut b o hb e
    have bo:SetR X.prog X.w h7 D ks:=⟨o5,af,ae,t5,k7 D _ ar o6,aa⟩;refine⟨.ref D,upd H5 D (Z8 X.prog X.w D ks.length),?_,rfl,q D b7⟩
    refine I3.call' (s':={ s6 with heap:=h7 }) (ch:=D::Y) I6.os (XJ (zbj I6.base (wq eC) k7) jx sD.1) (Jv (YQ I6.hok I6.free k7) b7 ⟨⟨ks,bo,rfl⟩,?_,fun h1 h2 ⟨ks,x,l⟩ e=>⟨ks,x.at e,l⟩⟩) I6.bare fun b hb=>?_
    ·exact⟨o5,k7 D _ ar o6⟩
    ·obtain⟨_,g1,_,g3,g4,g5⟩:=f3 b hb
     exact⟨g3,g1,g4,g5⟩
   ·refine thn (T.item (qE X (own++fr) f C { s2 with heap:=h3,toks:=s2.toks } H2 (D::Y)) rfl rfl rfl hc i _ s5 _ H5 _ az (ap b4) b8 go) fun r s6 ⟨u,hr,h6⟩=>?_
    subst hr;refine thn h6 fun _ s7 ⟨x,H7,I7,r7,y7,ah,bc⟩=>?_
    have bb:=I7.pinned (ap bc) (T.obj _ _ ah);refine thn (hg _ _ _ _ _ s7 _ H7 x u _ bb r7 (step x H7 y7)) fun _ s8 ⟨σ8,H8,I8,be,q8⟩=>?_
    refine thn (hf _ _ _ _ _ s8 σ8 H8 _ I8 q8) fun ok s9 ⟨H9,I9,q9⟩=>?_
    have aj:∀{H':Hp} {s':Shared},Inv (qE X (own++fr) f C { s2 with heap:=h3,toks:=s2.toks } H2 (D::Y)) (([]++jg [D] s5.heap)++jg Y s7.heap) σ8 H' s' ->
      Inv (qE X (own++fr) f C { s2 with heap:=h3,toks:=s2.toks } H2 (D::Y)) [] (upS own.length js σ) H' s':=fun {H' s'} J=>by
     refine(J.unpinned).unpinned.weak (I5.len.trans J.len.symm) fun k v e=>?_
     obtain⟨hn,e1,_⟩:=yk e;rw[<- be,List.getElem?_drop] at e1
     rw[<- e1];congr 1
     omega
    have mF:∀b∈Y,∀o,s7.heap.get? b=some o->(b,o)∈([]++jg [D] s5.heap)++jg Y s7.heap:=fun b hb o e=>jT _ (xB hb e)
    have b6:=vm (jg Y s7.heap) mD;have aq:∀{H':Hp} {s':Shared},Inv (qE X (own++fr) f C { s2 with heap:=h3,toks:=s2.toks } H2 (D::Y)) (([]++jg [D] s5.heap)++jg Y s7.heap) σ8 H' s'->∀b∈Y,H' b=none:=fun {H' s'} J b hb=>by
     obtain⟨o,e,_⟩:=T.obj _ _ ah b hb;exact(J.pin (b,o) (jT _ (mF b hb o e))).2.1
    cases ok with
    | false=>
     have aw:N ks H9:=by simpa using q9
     obtain⟨m',hm,w'⟩:=hN _ _ aw;obtain⟨o9,bi,_⟩:=I9.pin (D,_) (jT _ b6);exact⟨m',hm,i+1,ks,H9,aj I9,T.keep _ _ _ ah fun b hb o e=>(I9.pin (b,o) (jT _ (mF b hb o e))).1,aq I9,bi,⟨o5,af,ae,t5,o9,aa⟩,w'⟩
    | true=>
     have aw:M σ8 H9 fun y H6=>∃(k:List Key) (b:Addr),y=.ref b/\SqT X.K H6 b (k.map kV)/\ks.length<76/\N (jO ks (k,b)) H6:=by simpa using q9
     refine thn (he _ _ _ _ _ s9 σ8 H9 _ I9 aw) fun yv bs ⟨y,ay,a6,bm,ky,ac,ey,al,bf,bp⟩=>?_
     subst ey;cases(show yv=Value.ref ac from bm)
     obtain⟨m',hm,w'⟩:=hN _ _ bp;obtain⟨av,ag,_⟩:=a6.pin (D,_) (jT _ b6);have ab:=(ao _ _ _ _ w').1;by_cases a8:ky∈ks.map (·.1)
     ·refine zgr hu (a6.keyT al) (fun p hp=>a6.keyT (ab p (Vl hp))) a8 ⟨o5,af,ae,t5,av,aa⟩ fun ai=>?_
      have ea:jO ks (ky,ac)=ks:=zF a8;rw[ea] at w';exact⟨m',hm,i+1,ks,ay,(aj a6).kept (t':=ai) (fun b o e=>e),T.keep _ _ _ ah fun b hb o e=>(a6.pin (b,o) (jT _ (mF b hb o e))).1,aq a6,ag,⟨o5,af,ae,t5,av,aa⟩,w'⟩
     ·refine zgs hu (a6.keyT al) (fun p hp=>a6.keyT (ab p (Vl hp))) a8 ⟨o5,af,ae,t5,av,aa⟩ bf fun bq ai am ba=>?_
      have ea:jO ks (ky,ac)=ks++[(ky,ac)]:=zB a8;rw[ea] at w';refine⟨m',hm,i+1,ks++[(ky,ac)],ay,?_,T.keep _ _ _ ah fun b hb o e=>am.extBut b o (qA (fD b hb)) (a6.pin (b,o) (jT _ (mF b hb o e))).1,aq a6,ag,ba,w'⟩
      exact(aj a6).turned (t':=ai) (it:=D) (fun b o hb e=>am.extBut b o hb e) ag ar (.inl jx) (fun x c e=>hx D jx x c e) fun p hp=>absurd (show p∈([]:List (Addr×Obj)) from hp) (by simp)
  ·subst e4
   exact⟨0,[],H2,I4,T.keep _ _ _ ax fun b hb o e=>k4 b o (k3 b o e),fun b hb=>(f2 b hb).1,sD.1,b9.at fun o e=>k4 _ _ e,w0⟩
 exact zas (an _ rfl) (T.self X.A 0 _ _ _ (T.keep _ _ _ ax fun b hb o e=>k4 b o (k3 b o e)) (an _ rfl))
end
section
variable{X:Cx}{x:Str}{A:Pos}{g f:Expr}{i:List Expr}{c:Scope}{l:Pos}{E:TI}{D:TT}{B:TE}
theorem zfc(hu:X.A.units+1<cLine)(o:List Str)(u:List Nat)(hc:X.calm=true)(hk:c.kind=.function)(hb:Qv c.names X.env.scope.names X.N [x] o u=true)(I:PI X (.Name x A) f E)
  (G:∀C s H b,PF (qE X ([x]++o) c C s H b) i D) (w:∀C s H b,PE (qE X ([x]++o) c C s H b) g B)
  (J:∀x,foldedSetIterable f X.env x=pure x:=by intro _;rfl):PE X (.SetComp g [⟨.Name x A,f,i,0⟩] c l) (tSR X.prog X.w X.K E 1 u (ZB 0) D B):=by
 obtain⟨h1,h2,h3⟩:=Zc hb;exact zgE hu [x] o u hc hk h1 I (fun C s H b=>J1 (h2 x (by simp)) h3 rfl) G w J
inductive yO(P:Program)(w:World)(b:List V)(H:Hp)(Q:VK):Prop
 | mk (a:Addr) (n:Nat) (_:b=[.ref a]) (_:H a=some (Z8 P w a n)) (_:Q (.int n) H):yO P w b H Q
theorem Qt:CallR X (.builtin "len") (yO X.prog X.w):=by
 intro J s σ H xs us Q I r h;obtain⟨a,n,rfl,hx,q⟩:=h;obtain⟨u,rfl,T⟩:=Vals.one r;cases(show u=Value.ref a from T)
 obtain⟨⟨ks,⟨o,Y,U,t,N,w,L,O,G,_⟩,M⟩,_,_⟩:=(show ObjOk X.prog X.w H s.heap a (Z8 X.prog X.w a n) from I.hok a _ hx)
 have ln:=O.length_eq;rw[qX,zv,M] at ln;have:=G.lt;have:t.mask<=127:=by rcases G.msk with e | e | e<;>omega
 refine call_len_set N w L G.fits (by have sb:scanBound=4096:=rfl;omega) ⟨.int n,H,I.kept (fun b o e=>e),⟨_,by rw[ln]⟩,q⟩
end
theorem zeX{K:W.Frag}{a:Addr}{xs:List V}{g:TG}{I:TT}{G:TE}{w:St}{n:Nat}{R:List (List Key×Addr)->Hp->Prop}{H:Hp}(Pv:Nat->List (List Key×Addr)->Hp->Prop)(h0:Pv 0 [] H)
  (h1:∀i c H,Pv i c H->SqT K H a xs/\∀p∈c,SqT K H p.2 (p.1.map kV))
  (L:∀i x c H,xs[i]? =some x->Pv i c H->g x w H fun l D=>l.drop n=w.drop n/\I l D fun b o=>
   if b=true then G l o fun v s=>∃(k:List Key) (b:Addr),v=.ref b/\SqT K s b (k.map kV)/\c.length<76/\Pv (i+1) (jO c (k,b)) s else Pv (i+1) c o)
  (J:∀c H,Pv xs.length c H->R c H) :
  ∃W:Nat->Nat->List (List Key×Addr)->Hp->Prop,(∃m,W 0 m [] H)/\∀i m c f,W i m c f->(∀p∈c,SqT K f p.2 (p.1.map kV)) /\
   (((Itt K a).stop i f/\R c f) \/
   ((Itt K a).go i f/\∃N:List (List Key×Addr)->Hp->Prop,(∀c A,N c A->∃E,E<m/\W (i+1) E c A)/\∀x B,(Itt K a).yld i f x B->g x w B fun l D=>l.drop n=w.drop n/\I l D fun b o=>
    if b=true then G l o fun y s=>∃(k:List Key) (b:Addr),y=.ref b/\SqT K s b (k.map kV)/\c.length<76/\N (jO c (k,b)) s else N c o)):=by
 refine⟨fun i m c f=>m=xs.length-i/\i<=xs.length/\Pv i c f,⟨_,rfl,zY _,h0⟩,?_⟩
 rintro i m c f ⟨rfl,Q,p⟩;obtain⟨q,all⟩:=h1 i c f p;refine⟨all,?_⟩
 by_cases u:i<xs.length
 ·refine .inr ⟨⟨xs,xs[i],q,by simp[u]⟩,Pv (i+1),fun O A M=>⟨_,by omega,rfl,u,M⟩,fun x B y=>?_⟩
  obtain⟨e,y⟩:=y;subst e;exact L i x c _ (y xs q) p
 ·have e:i=xs.length:=by omega
  subst e;exact .inl ⟨⟨xs,q,zi _⟩,J c f p⟩
end L2
namespace L2
open PySem PySem.Spec PyProof.Rows
section
variable{f:Program}{w:World}{A:Around}{E:Value->Shared->Prop}{s:Shared}
theorem zgv{a b:Addr}{k:List Key}{D:List (List Key×Addr)}{Q:Bool->Shared->Prop}(hu:A.units<cLine)(hk:(TK f w).is s.heap k b)(U:∀p∈D,(TK f w).is s.heap p.1 p.2)(nk:k∉D.map (·.1))(hS:SetR f w s.heap a D)(Y:D.length<76)
  (h:∀c L N,Heap.SameBut a s.heap L->SetR f w L a (D++[(k,b)])->Q c { s with heap:=L,toks:=N }):wpAny (model f w) A (setAdd a (.ref b)) Q E s:=by
 obtain⟨o,i,ep,t,I,H,B,pm,u,rc⟩:=hS;have ln:=pm.length_eq;rw[qX,zv] at ln;obtain⟨hp,g,d,N,os⟩:=s;refine(show wpAny _ _ (setAdd a (.ref b)) _ _ _ from jR (zn ((TK f w).pyHash hu hk ?_)))
 refine jR ?_
 show wpAny _ _ (setAddHashedIn a (.ref b) _ 100000) _ _ _;unfold setAddHashedIn;refine zn (x6 I B u.fits ?_)
 dsimp only;rw[show byScan (.ref b) i=false from rfl]
 simp only[qW,if_false];obtain⟨fa,pr⟩:=u.far ((TK f w).hash k);have mb:t.mask<=127:=by rcases u.msk with e | e | e<;>omega
 unfold setSearch;refine zn (Zx (p0:=t.probeStart ((TK f w).hash k)) (s:=⟨hp,g,d,N+(TK f w).draws k,os⟩) (A:=A) hu hk I B u (fun e he=>?_) (fun j nj jl hw=>?_) fa pr (ZE (Zs 10 (Xy mb 12)) (show 10*(127+12)<100000 by decide)) (by unfold SetTable.turns;omega) (.refl _) rfl)
 ·obtain⟨p,hp,e⟩:=qr.mp (pm.mem_iff.mp he)
  exact⟨p.1,p.2,by rw[<- e];rfl,U p hp,fun z=>nk (z▸List.mem_map_of_mem hp)⟩
 dsimp only;refine zn (x6 I B u.fits ?_)
 have M:(SetTable.insertAt i (SetTable.below t.place j) ((TK f w).hash k,Value.ref b)).size=i.size+1:=by
  have:=(JK i (SetTable.below t.place j) ((TK f w).hash k,Value.ref b)).length_eq;rwa[qX,yh,qR,qX] at this
 have J:(SetTable.insertAt i (SetTable.below t.place j) ((TK f w).hash k,Value.ref b)).toList.Perm ((D++[(k,b)]).map (VC f w)):=by
  refine(JK i (SetTable.below t.place j) ((TK f w).hash k,Value.ref b)).trans ?_
  rw[yh,qm];exact pm.append_right _
 have sl:∀n,n<=77->n<=sizeLine:=fun n h=>qk h (by rw[sizeLine_eq];decide)
 have l:∀c:Bool,wpAny (model f w) A (do
   storeSet a (SetTable.insertAt i (SetTable.below t.place j) ((TK f w).hash k,Value.ref b)) { (t.put j).1 with plain:=c }
   if(!false&&({ (t.put j).1 with plain:=c }:SetTable).tooFull)=true then do
    setRelay a (SetTable.grown (i.size+1))
    pure true
   else pure true) Q E { heap:=hp,gens:=g,drawn:=d,toks:=N+(TK f w).draws k,os:=os }:=fun c=>by
  have sb:=Zt hp a (Obj.putSet (SetTable.insertAt i (SetTable.below t.place j) ((TK f w).hash k,Value.ref b)) { (t.put j).1 with plain:=c });have T:=ZH (Obj.putSet (SetTable.insertAt i (SetTable.below t.place j) ((TK f w).hash k,Value.ref b)) { (t.put j).1 with plain:=c }) I (by rw[putSet_of _ _ B];rfl)
  rw[putSet_of _ _ B] at T;refine zn (wpAny_storeSet_of I B ?_ (sl _ (by omega)))
  rcases u.more (by omega) nj jl c with ⟨O,a7⟩ | ⟨O,f2,f3,f4⟩
  ·rw[O]
   simp only[qF,qW,if_false];exact zy (h _ _ _ sb ⟨_,_,_,_,T,H,rfl,J,by rw[M];exact a7,rc.put u.sz hw⟩)
  ·rw[O]
   simp only[QK,Bool.and_self,if_true];obtain⟨t',od,e1,e2,G⟩:=f4 ((SetTable.insertAt i (SetTable.below t.place j) ((TK f w).hash k,Value.ref b)).map (·.1)) (by rw[Zg,M])
   rw[Zg] at e2 G;refine zn (zbW T H rfl (by rw[M];exact f2) f3 e1 e2 G (sl _ (by omega)) fun L o' a8 a6 g2 x2 d2 p2=>?_)
   have z2:=p2.length_eq;rw[qX,qX] at z2;exact zy (h _ _ _ (sb.trans a6) ⟨_,_,_,_,g2,x2,d2,p2.trans J,by rw[z2];exact G,by
    have em:=Jt e1;exact Vr (by rw[<- em];exact G.msk) (by rw[<- em];exact wU (by have:=G.lt;rwa[M] at this ⊢)) e1⟩)
 split
 ·refine zn (Vx hk fun c=>?_)
  cases c
  ·exact l false
  ·exact l _
 ·exact zn (zy (l _))
theorem zgu{a b:Addr}{k:List Key}{H:List (List Key×Addr)}{Q:Bool->Shared->Prop}(hu:A.units<cLine)(hk:(TK f w).is s.heap k b)(B:∀p∈H,(TK f w).is s.heap p.1 p.2)(nk:k∈H.map (·.1))(hS:SetR f w s.heap a H)
  (h:∀N,Q false { s with toks:=N }):wpAny (model f w) A (setAdd a (.ref b)) Q E s:=by
 obtain⟨o,I,ep,t,Y,a6,U,pm,c,rc⟩:=hS;obtain⟨⟨k',bk⟩,G,ek⟩:=qr.mp nk;cases(show k'=k from ek)
 have h0:=B _ G;have J:=pm.mem_iff.mpr (qr.mpr ⟨_,G,rfl⟩:VC f w (k,bk)∈H.map (VC f w));obtain⟨l,D⟩:=JJ.mp J;have T:I[l]? =some ((TK f w).hash k,.ref bk):=by rw[<- xp];exact D
 have il:=(ZI.mp T).1;have sz:t.place.size=I.size:=c.sz;have u:t.place[l]? =some (t.place[l]'(by omega)):=xE _
 generalize t.place[l]'(by omega)=M at u
 have mj:M∈t.place.toList:=by
  rw[<- xp] at u;exact qY u
 obtain⟨x,L,O⟩:=rc (M,((TK f w).hash k,.ref bk)) (qY (i:=l) (by
  rw[WS];exact⟨by rw[xp];exact u,D⟩))
 have O:x.j=M:=O;have hx:t.slot x.j=.live l:=by
  rw[O];obtain⟨i,h1,h2⟩:=Z5 c.up c.no mj;have:i=l:=by
   rcases Xt i l with z | z | z
   ·exact absurd (c.up.lt h2 u z) (xK _)
   ·exact z
   ·exact absurd (c.up.lt u h2 z) (xK _)
  rw[h1,this]
 obtain⟨hp,g,d,N,os⟩:=s;refine(show wpAny _ _ (setAdd a (.ref b)) _ _ _ from jR (zn ((TK f w).pyHash hu hk ?_)))
 refine jR ?_
 show wpAny _ _ (setAddHashedIn a (.ref b) _ 100000) _ _ _;unfold setAddHashedIn;refine zn (x6 Y U c.fits ?_)
 dsimp only;rw[show byScan (.ref b) I=false from rfl]
 simp only[qW,if_false];obtain⟨fa,pr⟩:=c.far ((TK f w).hash k);have mb:t.mask<=127:=by rcases c.msk with e | e | e<;>omega
 unfold setSearch;refine zn (Z9 (s:=⟨hp,g,d,N+(TK f w).draws k,os⟩) (A:=A) hu hk Y U c (fun e J=>?_) hx T h0 ?_ fa pr (ZE (Zs 10 (Xy mb 12)) (show 10*(127+12)<100000 by decide)) (by unfold SetTable.turns;omega) L rfl)
 ·obtain⟨p,hp,e⟩:=qr.mp (pm.mem_iff.mp J)
  exact⟨p.1,p.2,by rw[<- e];rfl,B p hp⟩
 ·exact zy (h _)
theorem XD{h i:Heap}{k:List Key}{b:Addr}(x:(TK f w).is h k b)(e:∀o,h.get? b=some o->i.get? b=some o):(TK f w).is i k b:=by
 obtain⟨o,c,n,g,r⟩:=x;exact⟨o,c,n,e o g,r⟩
theorem VP(b:List (List Key×Addr))(p:List Key×Addr):(jO b p).length<=b.length+1:=by
 unfold jO;split
 ·omega
 ·rw[qR];exact zi _
theorem zhy{a b:Addr}{k:List Key}{g:List (List Key×Addr)}{Q:Bool->Shared->Prop}(hu:A.units<cLine)(hk:(TK f w).is s.heap k b)(o:∀p∈g,(TK f w).is s.heap p.1 p.2)(D:SetR f w s.heap a g)(i:g.length<76)
  (h:∀c l u,(∀x,x≠a->l.get? x=s.heap.get? x)->SetR f w l a (jO g (k,b))->Q c { s with heap:=l,toks:=u }):wpAny (model f w) A (setAdd a (.ref b)) Q E s:=by
 by_cases B:k∈g.map (·.1)
 ·refine zgu hu hk o B D fun u=>h false s.heap u (fun _ _=>rfl) ?_
  rw[show jO g (k,b)=g from zF B]
  exact D
 ·refine zgv hu hk o B D i fun c l u G H=>h c l u (fun x hx=>G.2 x hx) ?_
  rw[show jO g (k,b)=g++[(k,b)] from zB B]
  exact H
theorem zbp{it l S:Addr}{items:Array Value}{R:Result->Shared->Prop}{kps:List (List Key×Addr)}(hh:A.handled=none)(hu:A.units+1<cLine)(T:l≠it)(U:l≠S)(G:it≠S)(a9:kps.length=items.size)(Q:∀(j:Nat) (u:Value),items[j]? =some u->∃p,kps[j]? =some p/\u=.ref p.2)(M:∀p∈kps,p.2≠it/\p.2≠S) :
  ∀(m:Nat) (s:Shared) (i:Nat) (b:List (List Key×Addr)),items.size-i=m->i<=items.size->s.heap.IsListIter it l i->s.heap.IsList l items->SetR f w s.heap S b->(∀p∈b,p∈kps)->(∀p∈kps,(TK f w).is s.heap p.1 p.2)->b.length+m<77 ->
   (∀D tk,SetR f w D S ((kps.drop i).foldl jO b)->(∀c o,c≠it->c≠S->s.heap.get? c=some o->D.get? c=some o)->R (.ok (.ret .none)) { s with heap:=D,toks:=tk }) ->
   codeAny (model f w) A (.builtin "set.update.loop" ⟨[.ref S,.ref it],[]⟩) R s:=by
 intro m;induction m with
 | zero=>
  intro s i b hm hi Y O sx B J hz q;have I:items[i]? =none:=by simp;omega
  refine codeAny_builtin zc5 ?_
  rw[QU WU _];refine zn (wpAny_pyNext_list_end hh Y O I fun D hx=>zy ?_)
  have e0:(kps.drop i).foldl jO b=b:=by rw[List.drop_eq_nil_of_le (by omega)];rfl
  exact q D s.toks (by rw[e0];exact sx.at fun o e=>hx S o (qA G) e) fun c o hc _ e=>hx c o hc e
 | succ m ih=>
  intro s i b hm hi Y O sx B J hz q;have L:i<items.size:=by omega
  obtain⟨u,N⟩:∃u,items[i]? =some u:=⟨_,xE L⟩;obtain⟨p,ek,rfl⟩:=Q i u N;have mp:=qY ek;refine codeAny_builtin zc5 ?_
  rw[QU WU _];refine zn (wpAny_pyNext_list_item Y O N fun h1 i1 s1=>?_)
  have k1:∀c o,c≠it->s.heap.get? c=some o->h1.get? c=some o:=fun c o hc e=>(s1.2 c hc).trans e
  have H:∀p∈kps,(TK f w).is h1 p.1 p.2:=fun p hp=>XD (J p hp) fun o e=>k1 _ o (M p hp).1 e
  refine zn (jR (zhy (k:=p.1) (s:={ s with heap:=h1 }) (A:=A.in1) (by rw[Ws];exact hu) (H p mp) (fun q hq=>H q (B q hq)) (sx.at fun o e=>k1 S o (qA G) e) (by omega) fun c h2 a8 sb a7=>?_))
  have k2:∀c o,c≠it->c≠S->s.heap.get? c=some o->h2.get? c=some o:=fun c o hc g e=>(sb c g).trans (k1 c o hc e)
  have lk:=VP b p;refine zy ⟨plainId_quiet WU _,?_⟩
  refine ih { s with heap:=h2,toks:=a8 } (i+1) (jO b p) (by omega) L (i1.at fun o e=>(sb it G).trans e) (O.at fun o e=>k2 l o T U e) a7 (fun q hq=>?_) (fun q hq=>XD (H q hq) fun o e=>(sb _ (M q hq).2).trans e) (by omega) fun D tk a6 kp=>?_
  ·unfold jO at hq
   split at hq
   ·exact B q hq
   ·rcases ju.mp hq with z | z
    ·exact B q z
    ·rw[qv.mp z];exact mp
  ·have e1:(kps.drop i).foldl jO b=(kps.drop (i+1)).foldl jO (jO b p):=by
    obtain⟨h1,h2⟩:=qg.mp ek;rw[List.drop_eq_getElem_cons h1,h2];rfl
   exact q D tk (by rw[e1];exact a6) fun c o hc g e=>kp c o hc g (k2 c o hc g e)
theorem za2{l:Addr}{items:Array Value}{n:Nat}{kps:List (List Key×Addr)}{Q:Value->Shared->Prop}(hh:A.handled=none)(hu:A.units+64<cLine)(U:s.heap.get? l=some { cls:=.type "list",data:=.seq items n })(G:kps.length=items.size)(hb:items.size<77)
  (M:∀(j:Nat) (u:Value),items[j]? =some u->∃p,kps[j]? =some p/\u=.ref p.2) (B:∀p∈kps,(TK f w).is s.heap p.1 p.2)
  (h:∀i O,SetR f w i s.heap.objs.size (kps.foldl jO [])->(∀c o,s.heap.get? c=some o->i.get? c=some o)->Q (.ref s.heap.objs.size) { s with heap:=i,toks:=O }) :
  wpAny (model f w) A (call (.type "set") [.ref l]) Q E s:=by
 refine zda (Q1:=fun u s1=>u=.ref s.heap.objs.size/\s1={ s with heap:=s.heap.push (vX w) }) F.called_set (F.typeCall_set_1 (.ref l)) (zcn (.ref l) ⟨rfl,rfl⟩) fun u s1 e=>?_
 obtain⟨eu,es⟩:=e;subst eu es;have T:(s.heap.push (vX w)).get? s.heap.objs.size=some (vX w):=qH _ rfl;have L:Shared.TypeIs { s with heap:=s.heap.push (vX w) } (.ref s.heap.objs.size) "set" :=⟨_,T,rfl⟩;have b:=qw (vX w) U;refine⟨L,codeAny_call_builtin F.called_set.init.plain F.entry_set_init (check_set_init_1 L ?_)⟩
 have m1:=F.sub_list_set;have m2:=F.sub_list_frozenset;have m3:(Value.type "list" == Value.type "dict")=false:=by decide
 have D:l<s.heap.objs.size:=zO U;unfold vX at T L b;unfold Builtin.«set.__init__» noKeywords Builtin.Frozenset.updateFrom vX;generalize J:pyIter=PI;wp_walk
 subst J;refine wpAny_pyIter_list ⟨_,b,rfl,n,rfl⟩ (zn (wpAny_runValue ?_))
 have N:A.in1.in1.in1.handled=none:=by simp[hh]
 have I:(s.heap.push (vX w)).objs.size=s.heap.objs.size+1:=xD ..;have H:∀c o,s.heap.get? c=some o->c<s.heap.objs.size:=fun c o e=>zO e
 have Y:∀p∈kps,p.2<s.heap.objs.size:=fun p hp=>by
  obtain⟨o,_,_,g,_⟩:=B p hp;exact H _ o g
 refine zbp (A:=A.in1.in1) (S:=s.heap.objs.size) (it:=(s.heap.push (vX w)).objs.size) (l:=l) (items:=items) (kps:=kps) N (by rw[Ws,Ws];omega) (by rw[I];exact qz (QP D)) (qz D) (by rw[I];exact wt (yJ _)) G M (fun p hp=>⟨by rw[I];exact qz (QP (Y p hp)),qz (Y p hp)⟩) items.size
  ⟨(s.heap.push (vX w)).push { cls:=.type "list_iterator",data:=.fields #[.ref l,.int 0 0] },s.gens,s.drawn,s.toks,s.os⟩ 0 [] rfl (zY _) ⟨_,qH _ rfl,rfl,rfl⟩ ⟨_,qw _ b,rfl,n,rfl⟩ ((SetR.new s.heap).at fun o e=>qw _ e) (fun p hp=>nomatch hp) (fun p hp=>XD (B p hp) fun o e=>qw _ (qw _ e)) (by rw[wY];omega) fun i O sx kp=>?_
 refine zy (zy ⟨rfl,h i O (by simpa using sx) fun c o e=>?_⟩)
 have:=H c o e;exact kp c o (by rw[I];exact qz (QP this)) (qz this) (qw _ (qw _ e))
end
section
variable{X:Cx}
inductive yN(P:Program)(w:World)(K:W.Frag)(c:List V)(H:Hp)(Q:VK):Prop
 | mk (a:Addr) (b:List (List Key×Addr)) (_:c=[.ref a]) (_:H a=some (.lst (b.map fun p=>V.ref p.2))) (_:∀p∈b,SqT K H p.2 (p.1.map kV)) (_:b.length<=70) (_:∀p,H p=none->Q (.ref p) (upd H p (Z8 P w p (b.foldl jO []).length))):yN P w K c H Q
theorem Wm(B:X.A.handled=none)(hu:X.A.units+64<cLine):CallR X (.type "set") (yN X.prog X.w X.K):=by
 intro i s σ H xs Y Q I r h;obtain⟨a,b,rfl,hx,hk,T,q⟩:=h;obtain⟨u,rfl,J⟩:=Vals.one r;cases(show u=Value.ref a from J)
 obtain⟨zz,E,n,c,A⟩:=(show ObjOk X.prog X.w H s.heap a (.lst (b.map fun p=>V.ref p.2)) from I.hok a _ hx)
 have ln:=c.length;rw[zv] at ln;have D:H s.heap.objs.size=none:=I.hok.fresh (zi _);refine za2 (kps:=b) B hu A (by simp[ln]) (by simp;omega) (fun j u e=>?_) (fun p hp=>I.keyT (hk p hp)) fun O M w k=>?_
 ·rw[List.getElem?_toArray] at e
  obtain⟨x,g,L⟩:=Vals.at c e;rw[jM] at g;obtain⟨p,f,rfl⟩:=jN.mp g;exact⟨p,f,L⟩
 ·refine⟨.ref s.heap.objs.size,_,I.laid (a:=s.heap.objs.size) (o:=Z8 X.prog X.w s.heap.objs.size (b.foldl jO []).length) (t':=M) k (zi _) ⟨⟨_,w,rfl⟩,?_,fun h1 h2 ⟨G,x,l⟩ e=>⟨G,x.at e,l⟩⟩,rfl,q _ D⟩
  obtain⟨o,N,f,t,e,_⟩:=w;exact⟨o,e⟩
end
theorem yC:∀(l b:List (List Key×Addr)),(l.foldl jO b).length<=b.length+l.length
 | [],b=>zi _
 | p::l,b=>by
  have h:=yC l (jO b p);have:=VP b p;rw[wX,jv];omega
theorem VB:∀(l c:List (List Key×Addr)),(c.map (·.1)).Nodup->((l.foldl jO c).length=c.length+l.length↔((c++l).map (·.1)).Nodup)
 | [],c,f=>by rw[wg];exact⟨fun _=>f,fun _=>rfl⟩
 | p::l,c,f=>by
  rw[wX,jv];by_cases h:p.1∈c.map (·.1)
  ·rw[show jO c p=c from zF h]
   have:=yC l c;constructor
   ·intro e;omega
   ·intro n
    rw[qm,jf] at n;exact absurd rfl ((Zn.mp n).2.2 _ h _ (jx ..))
  ·rw[show jO c p=c++[p] from zB h]
   have g:((c++[p]).map (·.1)).Nodup:=by
    rw[qm];exact Zn.mpr ⟨f,by simp,fun a i b hb e=>h (by rw[jf,Xj,qv] at hb;rw[<- hb,<- e];exact i)⟩
   have:=VB l (c++[p]) g;rw[qR,QQ] at this;rw[<- show c++([p]++l)=c++p::l from rfl,<- this]
   show _=c.length+(l.length+1)↔_=c.length+1+l.length;omega
theorem X5(l:List (List Key×Addr)):(l.foldl jO []).length=l.length↔(l.map (·.1)).Nodup:=by
 have:=VB l [] Wo;simpa using this
section
variable{X:Cx}
def Qm(d:Dat)(b:List Str):Bool:=match d with
 | .str z=>b.any fun t=>t==z
 | _=>false
def zaW(d:Dat)(t:Str):Bool:=match d with
 | .str z=>t==z
 | _=>false
theorem zcB(d:Dat)(b:List Str):b.any (zaW d)=Qm d b:=by
 cases d<;>first| rfl | (show b.any (fun _=>false)=false;simp)
theorem zhb{o:List (Addr×Obj)}{σ:St}{H:Hp}{s:Shared}(I:Inv X o σ H s){A:Around}(hu:A.units<cLine){d:Dat}{v:V}{u:Value}(g:Rep X.K H d v)(l:RelV v u)(t:Str)(c:Tok):SeqAt.EqAt A s (.str t c) u (zaW d t):=by
 cases d with
 | non=>cases(show v=_ from g);cases(show u=_ from l);exact SeqAt.EqAt.str_none t c
 | bl b=>cases(show v=_ from g);cases(show u=_ from l);exact SeqAt.EqAt.str_bool t c b
 | int i=>cases(show v=_ from g);obtain⟨f,rfl⟩:=l;exact WB t c i f
 | str z=>cases(show v=_ from g);obtain⟨f,rfl⟩:=l;exact SeqAt.EqAt.str_str t c z f
 | lst ds=>
  obtain⟨a,E,rfl,hq,_⟩:=id g;cases(show u=_ from l)
  obtain⟨w,r,B,D⟩:=I.list hq;exact SeqAt.EqAt.str_list t c B.isList hu
 | tup ds=>
  obtain⟨a,E,rfl,hq,_⟩:=id g;cases(show u=_ from l)
  obtain⟨w,r,B,D⟩:=I.tuple hq;exact SeqAt.EqAt.str_tuple t c B hu
inductive zeD(K:W.Frag)(x:V)(y:V)(H:Hp)(Q:VK):Prop
 | mk (p:Addr) (d:Dat) (b:List Str) (_:y=.ref p) (_:Rep K H d x) (_:SqL K H p (b.map V.str)) (_:Q (.bl (Qm d b)) H):zeD K x y H Q
theorem YA{K:W.Frag}(hk:X.K=K)(hu:X.A.units+64<cLine):OpR X (compareOp .In) (zeD K):=by
 subst hk;intro D s σ H x y v u Q I L M h;obtain⟨p,d,f,rfl,J,hp,k⟩:=h;cases M;obtain⟨b,r,G,o⟩:=I.list hp;have N:∀z∈b,∃t g,z=.str t g:=fun z o=>by
  obtain⟨i,B⟩:=JJ.mp o;have l:=r.length;have O:=(qg.mp B).1;obtain⟨c,e1,A⟩:=r.get (i:=i) (x:=(f.map V.str)[i]'(by omega)) (by simp)
  rw[B] at e1;cases e1;rw[List.getElem_map] at A;obtain⟨g,rfl⟩:=A;exact⟨_,_,rfl⟩
 refine Wq (fun z=>match z with | .str t _=>zaW d t | _=>false) G.isList (fun z o=>?_) ⟨.bl _,H,I,rfl,?_⟩
 ·obtain⟨t,g,rfl⟩:=N z (by simpa using o)
  exact zhb I (by show X.A.units+1<cLine;omega) J L t g
 ·have w:∀(f:List Str) (b:List Value),Vals (f.map V.str) b->b.any (fun z=>match z with | .str t _=>zaW d t | _=>false)=f.any (zaW d):=fun f=>by
   induction f with
   | nil=>intro b r;cases r;rfl
   | cons t f E=>
    intro b r;cases r with
    | cons h r=>
     obtain⟨g,rfl⟩:=h;rw[vR,vR,E _ r]
  have e:b.toArray.any (fun z=>match z with | .str t _=>zaW d t | _=>false)=Qm d f:=by
   rw[<- zcB,List.any_toArray];exact w f b r
  rw[e];exact k
end
theorem VT(k:Int)(t:Tok)(l:Addr)(items:Array Value)(n:Nat)(i E)(b:¬(decide (k< -(2^63))||decide (k≥2^63))=true)(o:¬(items.isEmpty||k==1)=true)(u:¬(decide (k<=0)||items.isEmpty)=true)(c:¬(items.size:Int)*k>(2^63-1)/8)(B:¬Builtin.Tuple.tupleTooMany ((items.size:Int)*k)=true)(D:(List.foldl (fun G H=>G++H) #[] (List.replicate k.toNat items)).size<=sizeLine) :
  Meets (Builtin.«tuple.__mul__» ⟨[.ref l,.int k t],[]⟩) (fun _ R s=>s.heap.get? l=some { cls:=.type "tuple",dict:=i,data:=.seq items n,slots:=E }/\R (.ok (.ret (.ref s.heap.objs.size))) { s with heap:=s.heap.push { cls:=.type "tuple",data:=.seq ((List.replicate k.toNat items).foldl (·++ ·) #[]) }}):=
 .of_wp fun f w A R s h=>by
  obtain⟨hp,g,d,J,os⟩:=s;obtain⟨I,h⟩:=h
  wp_walk
  refine wpAny_ite_false (qy b) ?_
  wp_walk
  refine wpAny_ite_false (qy c) ?_
  wp_walk
  exact⟨_,rfl,h⟩
theorem VU(k:Int)(t:Tok)(l:Addr)(n:Nat)(f i)(b:¬(decide (k< -(2^63))||decide (k≥2^63))=true) :
  Meets (Builtin.«tuple.__mul__» ⟨[.ref l,.int k t],[]⟩) (fun _ R s=>s.heap.get? l=some { cls:=.type "tuple",dict:=f,data:=.seq #[] n,slots:=i }/\R (.ok (.ret (.ref l))) s):=
 .of_wp fun c w A R s h=>by
  obtain⟨hp,g,d,u,os⟩:=s;obtain⟨o,h⟩:=h
  wp_walk
  refine wpAny_ite_false (qy b) ?_
  wp_walk
  exact⟨_,rfl,h⟩
section
variable{X:Cx}
inductive zbY(K:W.Frag)(x:V)(y:V)(H:Hp)(Q:VK):Prop
 | mk (a:Addr) (k:Int) (c:List V) (_:x=.ref a) (_:y=.int k) (_:SqT K H a c) (_:0<=k) (_:k<2^32) (_:c.length*k.toNat<=sizeLine) (_:∀p b,Same H b->SqT K b p (List.replicate k.toNat c).flatten->Q (.ref p) b):zbY K x y H Q
theorem Qi{K:W.Frag}(L:X.K=K):OpR X (binaryOp .Mult) (zbY K):=by
 subst L;intro E s σ H x y v u Q I N O h;obtain⟨a,k,G,rfl,rfl,w,k0,k1,D,q⟩:=h;cases N;obtain⟨t,rfl⟩:=O;obtain⟨c,r,p,_⟩:=I.tuple w;obtain⟨⟨cls,i,data,l⟩,f,hc,n,B⟩:=id p;simp only at hc B;subst hc B;have ln:=r.length;refine wpAny_binaryOp_repeat_ref (T:= "tuple") (U:= "int") (by decide) ⟨_,f,rfl⟩ (fun Y=>typeIs_int Y k t) yR F.fills_int_mul F.slot_int_rmul JY F.slot_int_index.lookup
  (call_meets F.slot_int_rmul (typeIs_int s k t) F.entry_int_rmul (F.args_int_rmul_2 _ _) (V5 k t a c.toArray n i l) ⟨f,rfl,⟨_,f,rfl⟩,?_⟩)
 by_cases e1:k=1
 ·subst e1
  exact call_meets Zm ⟨_,f,rfl⟩ Xr (Xv _ _) (VW t a c.toArray n i l) ⟨f,.ref a,H,I,rfl,q _ _ (u4 _) (by simpa using w)⟩
 ·have a6:=sizeLine_eq
  by_cases e2:c=[]
  ·subst e2
   cases r;refine call_meets Zm ⟨_,f,rfl⟩ Xr (Xv _ _) (VU k t a n i l (by simp;omega)) ⟨f,.ref a,H,I,rfl,q _ _ (u4 _) (by simpa using w)⟩
  have g:c.toArray.isEmpty=false:=by cases c<;>simp at e2 ⊢
  have J:(k==1)=false:=by simpa using e1
  rcases Int.lt_or_eq_of_le k0 with k0 | k0
  ·have hm:(c.toArray.size:Int)*k<=16777216:=by
    have e:(c.toArray.size:Int)*k=((G.length*k.toNat:Nat):Int):=by
     rw[ln,Int.natCast_mul,Int.toNat_of_nonneg (by omega)];simp
    rw[e];omega
   have A:∀m:Nat,List.foldl (fun x1 x2=>x1++x2) #[] (List.replicate m c.toArray)=(List.replicate m c).flatten.toArray:=fun m=>by
    have:=JA c m [];rw[Wp] at this;exact this
   refine call_meets Zm ⟨_,f,rfl⟩ Xr (Xv _ _) (VT k t a c.toArray n i l (by simp;omega) (by rw[g,J];decide) (by rw[g,qy (by omega)];decide) (by omega) (by unfold Builtin.Tuple.tupleTooMany;rw[vD];omega) (by rw[A,qt,YJ,Nat.mul_comm,<- ln];exact D)) ⟨f,?_⟩
   rw[A];refine⟨.ref s.heap.objs.size,_,I.laid (t':=s.toks) (o:=.tup (List.replicate k.toNat G).flatten) (fun b M q=>qw _ q) (zi _) ?_,rfl,q _ _ (zd (I.hok.fresh (zi _))) (u5 zc)⟩
   exact⟨by rw[YJ,Nat.mul_comm];exact D,_,r.rep k.toNat,⟨Ze _ _,_,qH _ rfl,rfl⟩⟩
  ·subst k0
   refine call_meets Zm ⟨_,f,rfl⟩ Xr (Xv _ _) (VX t a c.toArray n i l g) ⟨f,?_⟩
   refine⟨.ref s.heap.objs.size,_,I.laid (t':=s.toks) (o:=.tup []) (fun b M q=>qw _ q) (zi _) ?_,rfl,q _ _ (zd (I.hok.fresh (zi _))) (u5 zc)⟩
   exact⟨zY _,[],.nil,⟨Ze _ _,_,qH _ rfl,rfl⟩⟩
end
end L2
namespace L2
def Wk(b:List (Int×Int)):Nat->Int->Int->Prop
 | 0,i,j=>i=j
 | n+1,i,j=>∃m,(i,m)∈b/\Wk b n m j
def InN(n:Nat)(i:Int):Prop:=0<=i/\i<n
theorem Jo{α:Type}[DecidableEq α]:∀{l m:List α},l.Nodup->(∀x∈l,x∈m)->l.length<=m.length
 | [],_,_,_=>zY _
 | x::l,m,h,s=>by
  have hx:=s x (by simp)
  have b:=wf.mp h;have:=Jo (l:=l) (m:=m.erase x) b.2 fun y hy=>(WF (fun e:y=x=>b.1 (e▸hy))).mpr (s y (jh _ hy))
  rw[WQ hx] at this;have:=WL hx;rw[jv];omega
theorem v1{n:Nat}{l:List Int}(h:l.Nodup)(s:∀x∈l,InN n x):l.length<=n:=by
 have:=Jo (m:=(List.range n).map fun k:Nat=>(k:Int)) h fun x hx=>by
  obtain⟨h0,h1⟩:=s x hx;exact qr.mpr ⟨x.toNat,jF.mpr (by omega),by omega⟩
 rwa[zv,wm] at this
theorem Wc{α:Type}{l:List α}{x:α}(h:l.Nodup)(hx:x∉l):(l++[x]).Nodup:=by
 rw[Zn];exact⟨h,by simp,fun a c b hb e=>hx (by rw[qv] at hb;rw[<- hb,<- e];exact c)⟩
section
variable{as:List (Int×Int)}
theorem Wk.snoc:∀{n:Nat} {i j k:Int},Wk as n i j->(j,k)∈as->Wk as (n+1) i k
 | 0,i,j,k,h,e=>by cases(show i=j from h);exact⟨k,e,rfl⟩
 | n+1,i,j,k,⟨m,h,b⟩,e=>⟨m,h,Wk.snoc b e⟩
theorem Wk.unsnoc:∀{n:Nat} {i k:Int},Wk as (n+1) i k->∃j,Wk as n i j/\(j,k)∈as
 | 0,i,k,⟨m,h,b⟩=>by cases(show m=k from b);exact⟨i,rfl,h⟩
 | n+1,i,k,⟨m,h,b⟩=>let ⟨j,h1,h2⟩:=Wk.unsnoc b;⟨j,⟨m,h,h1⟩,h2⟩
theorem Wk.back:∀{n:Nat} {i j:Int},Wk as n i j->Wk (as.map Prod.swap) n j i
 | 0,i,j,h=>Eq.symm h
 | n+1,i,j,⟨m,e,w⟩=>Wk.snoc (Wk.back w) (qr.mpr ⟨(i,m),e,rfl⟩)
theorem Q4(as:List (Int×Int)):(as.map Prod.swap).map Prod.swap=as:=by
 rw[vt];exact List.map_id'' (fun _=>rfl) as
theorem Wk.turn{n:Nat}{i j:Int}:Wk (as.map Prod.swap) n i j↔Wk as n j i:=
 ⟨fun h=>by have:=h.back;rwa[Q4] at this,fun h=>h.back⟩
theorem Wk.rep{k:Nat}{s:Int}(h:Wk as k s s):∀t,∃x,Wk as (t*k) x s
 | 0=>⟨s,by rw[Nat.zero_mul];exact rfl⟩
 | t+1=>⟨s,by
   have b:∀{n m:Nat} {i j l:Int},Wk as n i j->Wk as m j l->Wk as (n+m) i l:=fun {n}=>by
    induction n with
    | zero=>intro m i j l h e;cases(show i=j from h);rw[QF];exact e
    | succ n c=>intro m i j l ⟨x,h,f⟩ e;rw[Nat.add_right_comm];exact⟨x,h,c f e⟩
   have all:∀t,Wk as (t*k) s s:=fun t=>by
    induction t with
    | zero=>rw[Nat.zero_mul];exact rfl
    | succ t c=>rw[QH];exact b c h
   exact all (t+1)⟩
theorem Wk.tail:∀{n:Nat} {i k:Int} (m:Nat),m<=n->Wk as n i k->∃j,Wk as m j k
 | 0,i,k,m,h,w=>⟨i,by rw[show m=0 by omega];exact w⟩
 | n+1,i,k,m,h,w=>by
  by_cases e:m=n+1
  ·exact⟨i,by rw[e];exact w⟩
  ·obtain⟨x,_,b⟩:=w
   exact Wk.tail m (by omega) b
def Dist(as:List (Int×Int))(k:Nat)(i j:Int):Prop:=Wk as k i j/\∀b,b<k->¬Wk as b i j
theorem Dist.uniq{k c:Nat}{i j:Int}(a:Dist as k i j)(b:Dist as c i j):k=c:=by
 rcases Xt k c with z | z | z
 ·exact absurd a.1 (b.2 k z)
 ·exact z
 ·exact absurd b.1 (a.2 c z)
theorem Wk.dist{i j:Int}:∀{k:Nat},Wk as k i j->∃d,d<=k/\Dist as d i j:=by
 intro k;induction k using Nat.strongRecOn with
 | ind k g=>
  intro w;by_cases h:∃b,b<k/\Wk as b i j
  ·obtain⟨b,c,f⟩:=h
   obtain⟨d,h1,h2⟩:=g b c f;exact⟨d,by omega,h2⟩
  ·exact⟨k,zi _,w,fun b c f=>h ⟨b,c,f⟩⟩
theorem Dist.zero(as:List (Int×Int))(s:Int):Dist as 0 s s:=⟨rfl,fun k h=>absurd h (Zj k)⟩
theorem Dist.turn{k:Nat}{i j:Int}:Dist (as.map Prod.swap) k i j↔Dist as k j i:=
 ⟨fun h=>⟨Wk.turn.mp h.1,fun b c w=>h.2 b c (Wk.turn.mpr w)⟩,fun h=>⟨Wk.turn.mpr h.1,fun b c w=>h.2 b c (Wk.turn.mp w)⟩⟩
def Cyc(as:List (Int×Int))(s x:Int)(k:Nat):Prop:=1<=k/\Wk as k x s/\∀b,1<=b->b<k->¬Wk as b x s
theorem Cyc.uniq{s x:Int}{k c:Nat}(a:Cyc as s x k)(b:Cyc as s x c):k=c:=by
 rcases Xt k c with z | z | z
 ·exact absurd a.2.1 (b.2.2 k a.1 z)
 ·exact z
 ·exact absurd b.2.1 (a.2.2 c b.1 z)
theorem Wk.cyc{s x:Int}:∀{k:Nat},1<=k->Wk as k x s->∃d,d<=k/\Cyc as s x d:=by
 intro k;induction k using Nat.strongRecOn with
 | ind k i=>
  intro h1 w;by_cases h:∃b,1<=b/\b<k/\Wk as b x s
  ·obtain⟨b,c,f,g⟩:=h
   obtain⟨d,h1,h2⟩:=i b f c g;exact⟨d,by omega,h2⟩
  ·exact⟨k,zi _,h1,w,fun b c f g=>h ⟨b,c,f,g⟩⟩
theorem Cyc.next{s x:Int}{k:Nat}(h:Cyc as s x (k+2)):∃y,(x,y)∈as/\Cyc as s y (k+1):=by
 obtain⟨_,⟨y,e,w⟩,m⟩:=h;exact⟨y,e,by omega,w,fun b g f c=>m (b+1) (by omega) (by omega) ⟨y,e,c⟩⟩
theorem Cyc.rows{n:Nat}(b:∀p∈as,InN n p.1){s:Int}:∀{k:Nat} {x:Int},Cyc as s x (k+1)->∃c:List Int,c.length=k+1/\c.Nodup/\∀y∈c,InN n y/\∃j,j<=k+1/\Cyc as s y j
 | 0,x,h=>by
  obtain⟨y,e,_⟩:=h.2.1;exact⟨[x],rfl,by simp,fun y hy=>by rw[qv.mp hy];exact⟨b _ e,1,zi _,h⟩⟩
 | k+1,x,h=>by
  obtain⟨y,e,hy⟩:=h.next
  obtain⟨c,l,u,g⟩:=Cyc.rows b hy;refine⟨x::c,by rw[jv,l],wf.mpr ⟨fun hx=>?_,u⟩,fun z o=>?_⟩
  ·obtain⟨_,j,i,f⟩:=g x hx
   have:=f.uniq h;omega
  ·rcases z9.mp o with q | q
   ·rw[q];exact⟨b _ e,k+2,zi _,h⟩
   ·obtain⟨h1,j,i,f⟩:=g z q
    exact⟨h1,j,by omega,f⟩
theorem Cyc.le{n:Nat}(b:∀p∈as,InN n p.1){s x:Int}{k:Nat}(h:Cyc as s x k):k<=n:=by
 obtain⟨k,rfl⟩:∃j,k=j+1:=⟨k-1,by have:=h.1;omega⟩
 obtain⟨g,l,f,c⟩:=h.rows b;rw[<- l];exact v1 f fun y hy=>(c y hy).1
theorem Jq{n:Nat}(f:∀p∈as,InN n p.1/\InN n p.2):∀{k:Nat} {x y:Int},InN n x->Wk as k x y->(∃v j,1<=j/\Wk as j v v)\/∃b:List Int,b.length=k+1/\b.Nodup/\∀z∈b,InN n z/\∃j,Wk as j x z
 | 0,x,y,hx,_=>.inr ⟨[x],rfl,by simp,fun z g=>by rw[qv.mp g];exact⟨hx,0,rfl⟩⟩
 | k+1,x,y,hx,⟨m,e,w⟩=>by
  rcases Jq f (f _ e).2 w with c | ⟨b,l,s,o⟩
  ·exact .inl c
  ·by_cases h:x∈b
   ·obtain⟨_,j,i⟩:=o x h
    exact .inl ⟨x,j+1,by omega,m,e,i⟩
   ·refine .inr ⟨x::b,by rw[jv,l],wf.mpr ⟨h,s⟩,fun z g=>?_⟩
    rcases z9.mp g with q | q
    ·rw[q];exact⟨hx,0,rfl⟩
    ·obtain⟨h1,j,i⟩:=o z q
     exact⟨h1,j+1,m,e,i⟩
theorem JX{n:Nat}(b:∀p∈as,InN n p.1/\InN n p.2){x y:Int}(hx:InN n x)(w:Wk as n x y):∃v j,1<=j/\Wk as j v v:=by
 rcases Jq b hx w with c | ⟨i,l,g,f⟩
 ·exact c
 ·have:=v1 g fun y hy=>(f y hy).1
  omega
structure RingAt(as:List (Int×Int))(s:Int)(c:Nat)(r:List Int):Prop where
 len:r.length=c
 head:r[0]? =some s
 next:∀i,i+1<c->∃a b,r[i]? =some a/\r[i+1]? =some b/\(a,b)∈as/\Dist as (c-1-i) b s/\∀b',(a,b')∈as->Dist as (c-1-i) b' s->b<=b'
theorem RingAt.uniq{s:Int}{c:Nat}{r f:List Int}(a:RingAt as s c r)(b:RingAt as s c f):r=f:=by
 have all:∀i,i<c->r[i]? =f[i]?:=fun i=>by
  induction i with
  | zero=>intro _;rw[a.head,b.head]
  | succ i H=>
   intro g;obtain⟨x,y,e1,e2,o,u,w⟩:=a.next i g
   obtain⟨I,l,A,B,D,E,G⟩:=b.next i g
   have:=H (by omega)
   rw[e1,A] at this;cases this;have h1:=w l D E;have h2:=G y o u;rw[e2,B,show y=l by omega]
 refine List.ext_getElem? fun i=>?_
 by_cases h:i<c
 ·exact all i h
 ·rw[List.getElem?_eq_none (by rw[a.len];omega),List.getElem?_eq_none (by rw[b.len];omega)]
def Best(as:List (Int×Int))(i:Nat)(s:Int)(c:Nat):Prop:=InN i s/\Cyc as s s c/\∀b f,InN i b->Cyc as b b f->c<=f/\(f=c->s<=b)
theorem Best.uniq{i:Nat}{s g:Int}{c f:Nat}(a:Best as i s c)(b:Best as i g f):s=g/\c=f:=by
 obtain⟨h1,h2⟩:=a.2.2 g f b.1 b.2.1;obtain⟨h3,l⟩:=b.2.2 s c a.1 a.2.1;have e:c=f:=by omega
 subst e;exact⟨by have:=h2 rfl;have:=l rfl;omega,rfl⟩
theorem Best.first{i:Nat}{c:Nat}(o:∀s c,InN i s->¬Cyc as s s c)(h:Cyc as (i:Int) i c):Best as (i+1) i c:=
 ⟨⟨by omega,by omega⟩,h,fun g l f b=>by
  by_cases e:g=i
  ·subst e;have:=h.uniq b;omega
  ·exact absurd b (o g l ⟨f.1,by have:=f.2;omega⟩)⟩
theorem Best.less{i:Nat}{s:Int}{c f:Nat}(b:Best as i s c)(h:Cyc as (i:Int) i f)(u:f<c):Best as (i+1) i f:=
 ⟨⟨by omega,by omega⟩,h,fun o d l g=>by
  by_cases e:o=i
  ·subst e;have:=h.uniq g;omega
  ·have:=b.2.2 o d ⟨l.1,by have:=l.2;omega⟩ g
   omega⟩
theorem Best.keep{i:Nat}{s:Int}{c:Nat}(b:Best as i s c)(h:∀f,Cyc as (i:Int) i f->c<=f):Best as (i+1) s c:=
 ⟨⟨b.1.1,by have:=b.1.2;omega⟩,b.2.1,fun o d l g=>by
  by_cases e:o=i
  ·subst e;exact⟨h d g,fun _=>by have:=b.1.2;omega⟩
  ·exact b.2.2 o d ⟨l.1,by have:=l.2;omega⟩ g⟩
theorem zaL{i:Nat}(f:∀s c,InN i s->¬Cyc as s s c)(h:∀c,¬Cyc as (i:Int) i c):∀s c,InN (i+1) s->¬Cyc as s s c:=fun s c b hc=>by
 by_cases e:s=i
 ·subst e;exact h c hc
 ·exact f s c ⟨b.1,by have:=b.2;omega⟩ hc
theorem Dist.down{s x:Int}{k:Nat}(h:Dist as (k+1) x s):(∃y,(x,y)∈as/\Dist as k y s)/\∀y d,(x,y)∈as->Dist as d y s->k<=d:=by
 obtain⟨⟨y,e,w⟩,m⟩:=h;have b:∀y d,(x,y)∈as->Wk as d y s->k<=d:=fun y d e w=>by
  rcases Zf d k with z | z
  ·exact absurd ⟨y,e,w⟩ (m (d+1) (by omega))
  ·exact z
 exact⟨⟨y,e,w,fun c g f=>by have:=b y c e f;omega⟩,fun y d e h=>b y d e h.1⟩
theorem Cyc.down{s x:Int}{k:Nat}(h:Cyc as s x (k+1)):(∃y,(x,y)∈as/\Dist as k y s)/\∀y d,(x,y)∈as->Dist as d y s->k<=d:=by
 obtain⟨_,⟨y,e,w⟩,m⟩:=h;have b:∀y d,(x,y)∈as->Wk as d y s->k<=d:=fun y d e w=>by
  rcases Zf d k with z | z
  ·exact absurd ⟨y,e,w⟩ (m (d+1) (by omega) (by omega))
  ·exact z
 exact⟨⟨y,e,w,fun c g f=>by have:=b y c e f;omega⟩,fun y d e h=>b y d e h.1⟩
theorem Cyc.of{s x y:Int}{d:Nat}(e:(x,y)∈as)(h:Dist as d y s)(c:∀y b,(x,y)∈as->Dist as b y s->d<=b):Cyc as s x (d+1):=
 ⟨by omega,⟨y,e,h.1⟩,fun f g u w=>by
  obtain⟨j,rfl⟩:∃j,f=j+1:=⟨f-1,by omega⟩
  obtain⟨z,i,w⟩:=w;obtain⟨b,o,l⟩:=Wk.dist w;have:=c z b i l;omega⟩
theorem Cyc.dist{s x:Int}{k:Nat}(ne:x≠s):Cyc as s x k↔Dist as k x s:=by
 constructor
 ·intro h
  refine⟨h.2.1,fun b c w=>?_⟩
  rcases Wz b with z | z
  ·subst z;exact ne w
  ·exact h.2.2 b z c w
 ·intro h
  refine⟨?_,h.1,fun b _ c w=>h.2 b c w⟩
  rcases Wz k with z | z
  ·subst z;exact absurd h.1 ne
  ·exact z
end
end L2
namespace L2
open PySem PySem.Spec PyProof.Rows
def BoxAt(H:Hp)(b:Addr)(n:Int):Prop:=∃c b1 b2:Int,H b=some (.lst [.int c,.int b1,.int b2])/\0<=c/\0<=b1/\b1<2147483648/\0<=b2/\b2<=n
def SameB(b:Addr)(H f:Hp):Prop:=∀c o,H c=some o->c≠b->f c=some o
theorem ZC{i j:Int}(h1:0<=i)(h2:i<18446744073709551616):CMul i j:=by
 have e1:(-(2^64):Int)= -18446744073709551616:=by decide
 have e2:((2^64):Int)=18446744073709551616:=by decide
 refine .inl ⟨?_,?_⟩
 ·rw[e1];omega
 ·rw[e2];exact h2
theorem zeM{a m j:Int}(h:0<m)(h2:m<18446744073709551616):CMul (a % m) j:=ZC (we _ (by omega)) (Int.lt_trans (wn _ h) h2)
section
variable{P:Program}{w:World}{K:W.Frag}{I:Str->Option Value}{G:Heap}
inductive XT(g:List V)(H:Hp)(Q:VK):Prop
 | mk (b:Addr) (c n:Int) (_:g=[.ref b,.int c]) (_:BoxAt H b n) (_:n<1099511627776) (_:0<c) (_:c<1073741824) (_:∀(r:Int) f,0<=r->r<c->BoxAt f b (n+1)->SameB b H f->Q (.int r) f):XT  g H Q
def jU:Sp:=fun b H Q _=>XT  b H Q
theorem u0{N P:List Str}{S:Scope}(a:S.kind=.function:=by rfl)(b:S.isCoroutine=false:=by rfl)(c:S.isGenerator=false:=by rfl)(d:N.Nodup:=by decide +kernel)(e:N.take P.length=P:=by rfl)(f:∀x∈P,S.names.lookup x=some .local∨S.names.lookup x=some .cell:=by decide +kernel)(g:∀y∈S.names,y.2≠.free:=by decide +kernel):zD N P S:=⟨a,b,c,d,e,f,g⟩
theorem zbL:zD ["_law_box_here","_law_size","_law_found","_law_step","_law_once","_law_twice"] ["_law_box_here","_law_size"] (zr (topL 31)):=u0
theorem zdz{f:Addr}{U:FuncData}(F:Fun K "_law_take" "_law_take" (topL 31) f U)(B:Blt I):FnOk P w K I G CX0 1 f U ["_law_box_here","_law_size"] jU:=by
 have J:=zbL.nd;refine F.ok zbL (fun vs H Q E h=>?_) (fun a6 A T s H vs Q E hr h=>?_)
 ·obtain⟨b,D,n,rfl,_⟩:=h
  rfl
 ·obtain⟨b,D,n,rfl,⟨L,b1,b2,hb,Y,p1,u,p2,a7⟩,hn,l,O,k⟩:=h
  refine⟨_,(zf (z6 (zE Zz (zV zW (pv 0) ze (fun _ _=>rfl)) ze (zC _))
   (zf (xG (zk VH rfl B.divmod VJ (za (zV zW (pv 0) ze (fun _ _=>rfl)) (za (pv 1) zb))) (xH rfl (zI (J0 (pv 0) ze yp) (zI (zG (i:=2) J rfl (Or.inl rfl)) jZ))))
    (zj (zq (pv 2))))
   zH)
   (zf (xG (zu zT (zV zW (pv 0) ze (fun _ _=>rfl)) ze) (J0 (pv 0) ze yp))
   (zf (zA (i:=3) J rfl (Or.inl rfl) (zu zT ze (zu xX (zV zW (pv 0) ze (fun _ _=>rfl)) (zV zW (pv 0) ze (fun _ _=>rfl)))))
   (zf (zA (i:=4) J rfl (Or.inl rfl) (zu xv (zu xX (zu zT (zV zW (pv 0) ze (fun _ _=>rfl)) (zu xX ze (zV zW (pv 0) ze (fun _ _=>rfl)))) (pv 3)) ze))
   (zf (zA (i:=5) J rfl (Or.inl rfl) (zu xv (zu zT (zu xX (pv 4) (zu zT (zu xv (pv 4) ze) ze)) (zV zW (pv 0) ze (fun _ _=>rfl))) ze))
   (zj (zq (zu xv (zu YB (zu xv (zu xX (pv 5) (zu zT (zu xv (pv 5) ze) ze)) ze) ze) (pv 1))))))))),?_⟩
  refine⟨_,rfl,b,_,_,_,rfl,rfl,u3 hb,rfl,_,_,rfl,rfl,_,rfl,?_⟩
  refine zR (fun c=>?_) (fun c=>?_)
  ·refine⟨_,rfl,b,_,_,_,rfl,rfl,u3 hb,rfl,_,rfl,_,_,rfl,⟨l,O⟩,fun p hp=>?_⟩
   have M:b≠p:=zp hb hp;refine⟨p,_,rfl,u5 zc,rfl,_,_,rfl,_,rfl,b,_,_,_,rfl,rfl,(by rw[zt M];exact hb),rfl,_,_,rfl,rfl,_,rfl,?_⟩
   refine k _ _ (we _ (by omega)) (wn _ l) ⟨_,b1,b2,zc,Int.ediv_nonneg Y (by omega),p1,u,p2,by omega⟩ fun d o e N=>?_
   rw[zt N,zt (zp e hp)];exact e
  ·refine⟨_,rfl,b,_,_,_,rfl,rfl,u3 hb,rfl,_,_,rfl,rfl,_,rfl,b,_,_,_,rfl,rfl,hb,rfl,?_⟩
   have g:upd H b (.lst [.int L,.int b1,.int (b2+1)]) b=some (.lst [.int L,.int b1,.int (b2+1)]):=zc;refine⟨_,rfl,b,_,_,_,rfl,rfl,u3 g,rfl,_,rfl,b,_,_,_,rfl,rfl,u3 g,rfl,_,_,rfl,rfl,ZC (by omega) (by omega),_,_,rfl,rfl,?_⟩
   refine⟨_,rfl,b,_,_,_,rfl,rfl,u3 g,rfl,_,rfl,b,_,_,_,rfl,rfl,u3 g,rfl,_,_,rfl,rfl,ZC (by omega) (by omega),_,_,rfl,rfl,_,rfl,_,_,rfl,rfl,ZC (by omega) (by omega),_,_,rfl,rfl,(by show(0:Int)<_;decide),?_⟩
   refine⟨_,rfl,_,rfl,_,_,rfl,rfl,(by show(0:Int)<_;decide),_,_,rfl,rfl,_,_,rfl,rfl,zeM (by decide) (by decide),_,rfl,b,_,_,_,rfl,rfl,u3 g,rfl,_,_,rfl,rfl,_,_,rfl,rfl,(by show(0:Int)<_;decide),?_⟩
   refine⟨_,rfl,_,rfl,_,_,rfl,rfl,(by show(0:Int)<_;decide),_,_,rfl,rfl,_,_,rfl,rfl,zeM (by decide) (by decide),_,_,rfl,rfl,(by show(0:Int)<_;decide),_,_,rfl,rfl,⟨by decide,by decide⟩,_,rfl,_,_,rfl,rfl,l,?_⟩
   refine k _ _ (we _ (by omega)) (wn _ l) ⟨L,b1,b2+1,g,Y,p1,u,by omega,by omega⟩ fun d o e N=>?_
   rw[zt N];exact e
inductive Ym(K:W.Frag)(b:List V)(H:Hp)(Q:VK):Prop
 | mk (a:Addr) (c:List Int) (j:Nat) (_:b=[.ref a,.int j]) (_:SqL K H a (c.map V.int)) (_:j<=100) (_:∀p o,H p=none->BoxAt (upd H p o) p 0->Q (.ref p) (upd H p o)):Ym K b H Q
def zei(K:W.Frag):Sp:=fun b H Q _=>Ym K b H Q
theorem zey:zD ["_law_script","_law_k","_law_cell"] ["_law_script","_law_k"] (zr (topL 30)):=u0
theorem Y2{c:Int}{j:Nat}(b:j<=100):CMul (zbb c) (if decide (10^18<=zbb c)=true then 1 else 0):=by
 refine .inr ?_
 split
 ·exact⟨by decide,by decide⟩
 ·exact⟨by decide,by decide⟩
theorem zcO{c:Int}:0<=zbb c*(if decide (10^18<=zbb c)=true then 1 else 0):=by
 have h:0<=zbb c:=by unfold zbb;split<;>omega
 split
 ·rw[Int.mul_one];exact h
 ·rw[Int.mul_zero];exact Int.le_refl 0
theorem zfu{f:Addr}{l:FuncData}(F:Fun K "_law_box" "_law_box" (topL 30) f l)(B:Blt I):FnOk P w K I G CX0 1 f l ["_law_script","_law_k"] (zei K):=by
 have L:=zey.nd;refine F.ok zey (fun M H Q E h=>?_) (fun D A g s H M Q E N h=>?_)
 ·obtain⟨a,b,j,rfl,_⟩:=h
  rfl
 ·obtain⟨a,b,j,rfl,o,u,k⟩:=h
  refine⟨_,(zf (zA (i:=2) L rfl (Or.inl rfl) (jn (zE Vf (pv 1) (zk zo rfl B.len boot_len (za (pv 0) zb)) (zC _)) (zV zW (pv 0) (pv 1) (fun _ _=>rfl)) ze))
   (zj (zq (zU (za (zu xX (zk VI rfl B.abs VL (za (pv 2) zb)) (zX JE rfl B.int wc (za (qD zgG (zk VI rfl B.abs VL (za (pv 2) zb)) (zu zce ze ze) (zC _)) zb))) (za (zu xv (zu xX (zu zT (zu zT (zu xv (pv 2) ze) (zu xX ze (pv 1))) ze) ze) ze) (za ze zb))))))),?_⟩
  refine⟨_,rfl,_,rfl,a,_,rfl,.inl o,_,_,rfl,rfl,_,rfl,?_⟩
  refine zR (fun c=>?_) (fun c=>?_)
  ·have J:j<b.length:=by
    have:=qB c;rw[zv] at this;omega
   refine⟨_,rfl,_,rfl,a,_,_,.int b[j],rfl,rfl,o,ZX (by simp[J]),?_⟩
   generalize b[j]=z;refine⟨_,rfl,_,rfl,_,rfl,_,rfl,_,_,rfl,rfl,⟨by decide,by decide,by decide⟩,_,_,rfl,rfl,.inr ⟨_,rfl,_,_,rfl,rfl,Y2 u,_,rfl,_,_,rfl,rfl,(by show(0:Int)<_;decide),_,rfl,_,_,rfl,rfl,ZC (by decide) (by decide),_,_,rfl,rfl,_,_,rfl,rfl,_,_,rfl,rfl,?_,_,_,rfl,rfl,(by show(0:Int)<_;decide),(by rw[sizeLine_eq];exact(by decide:3<=16777216)),fun p hp=>k p _ hp ⟨_,_,_,zc,?_,?_,?_,by decide,by decide⟩⟩⟩
   ·refine ZC ?_ ?_
    ·have:=we z (show(2147483629:Int)≠0 by decide)
     omega
    ·have:=wn z (show(0:Int)<2147483629 by decide)
     omega
   ·exact zcO
   ·exact we _ (by decide)
   ·exact Int.lt_trans (wn _ (by decide)) (by decide)
  ·refine⟨_,rfl,_,rfl,_,rfl,_,rfl,_,_,rfl,rfl,⟨by decide,by decide,by decide⟩,_,_,rfl,rfl,.inr ⟨_,rfl,_,_,rfl,rfl,Y2 u,_,rfl,_,_,rfl,rfl,(by show(0:Int)<_;decide),_,rfl,_,_,rfl,rfl,ZC (by decide) (by decide),_,_,rfl,rfl,_,_,rfl,rfl,_,_,rfl,rfl,?_,_,_,rfl,rfl,(by show(0:Int)<_;decide),(by rw[sizeLine_eq];exact(by decide:3<=16777216)),fun p hp=>k p _ hp ⟨_,_,_,zc,?_,?_,?_,by decide,by decide⟩⟩⟩
   ·refine ZC ?_ ?_
    ·have:=we 0 (show(2147483629:Int)≠0 by decide)
     omega
    ·have:=wn 0 (show(0:Int)<2147483629 by decide)
     omega
   ·exact zcO
   ·exact we _ (by decide)
   ·exact Int.lt_trans (wn _ (by decide)) (by decide)
theorem zcL{b:List V}{lo c:Option Int}{x:V}(h:x∈qP b lo c):x∈b:=List.mem_of_mem_drop (List.mem_of_mem_take h)
theorem zdT{n j:Nat}(h:j<n):ixN n (j:Int)=some j:=by
 unfold ixN;rw[zF (by omega),zF (by omega)];simp
theorem zcM(b:List Int)(lo c:Option Int):∃f:List Int,qP (b.map V.int) lo c=f.map V.int:=by
 refine⟨(b.drop (HT.sIx b.length 0 lo)).take (HT.sIx b.length b.length c-HT.sIx b.length 0 lo),?_⟩
 unfold qP;rw[zv,List.map_take,List.map_drop]
theorem zdZ(b:List Int)(z:Nat):(qP (b.map V.int) none (some (z:Int))).length=min z b.length:=by
 unfold qP;rw[HT.sIx_nat,HT.sIx_none,qI,yf,zv];omega
theorem zd0(b:List Int)(z:Nat)(c:Option Int):(qP (b.map V.int) (some (z:Int)) c).length<=b.length-min z b.length:=by
 unfold qP;rw[HT.sIx_nat,qI,yf,zv];omega
inductive X1(K:W.Frag)(g:List V)(H:Hp)(Q:VK):Prop
 | mk (a:Addr) (f:List Int) (z:Nat) (_:g=[.ref a,.int z]) (_:SqL K H a (f.map V.int)) (_:f.length<=63) (_:1<=z) (_:z<=63) (_:∀(p:Addr) (c:List Int) b,Same H b->SqL K b p (c.map V.int)->c.length<=z->Q (.ref p) b):X1 K g H Q
def zbE(K:W.Frag):Sp:=fun b H Q _=>X1 K b H Q
theorem zbS:zD ["_law_script","_law_size","_law_cells","_law_k","_law_cell"] ["_law_script","_law_size"] (zr (topL 32)):=u0
def zag(a:_)(z:Nat)(p:_)(H:_)(q:_)(f:List Int):=fun(i:Nat) (σ:St) (b:Hp)=>(Ex3 fun(c:List Int) (g l:Option V)=>An5 (σ=[some (.ref a),some (.int z),some (.ref p),g,l]) (Same H b) (b p=some (.lst (c.map V.int))) (b q=some (.lst (qP (f.map V.int) (some (z:Int)) (some 63)))) (c.length=min z f.length):Prop)
theorem zdF{f:Addr}{fd:FuncData}(F:Fun K "_law_folded" "_law_folded" (topL 32) f fd)(B:Blt I):FnOk P w K I G CX0 1 f fd ["_law_script","_law_size"] (zbE K):=by
 have nd:=zbS.nd;refine F.ok zbS (fun vs H Q E h=>?_) (fun ac A aa s H vs Q E hr h=>?_)
 ·obtain⟨a,b,z,rfl,_⟩:=h
  rfl
 ·obtain⟨a,b,z,rfl,hS,ab,af,ag,k⟩:=h
  refine⟨_,(zf (zA (i:=2) nd rfl (Or.inl rfl) (zX xg rfl B.list jd (za (zK jY (pv 0) qe (zL (pv 1))) zb)))
   (zf (jH xm rfl (zds rfl B.enumerate (za (zK jY (pv 0) (zL (pv 1)) (zL ze)) zb)) (xH rfl (zI (zG (i:=3) nd rfl (Or.inl rfl)) (zI (zG (i:=4) nd rfl (Or.inl rfl)) jZ)))
   (zj (xG (zu zT (zV zW (pv 2) (zu xv (pv 3) (pv 1)) (fun _ _=>rfl)) (zu xX (pv 4) (zu zT (pv 3) ze))) (J0 (pv 2) (zu xv (pv 3) (pv 1)) yp))))
   (zj (zq (pv 2))))),?_⟩
  refine⟨_,rfl,_,rfl,_,rfl,a,_,rfl,hS,fun l hl=>⟨l,_,rfl,.inl (u3 zc),fun p hp=>?_⟩⟩
  have s1:Same H (upd (upd H l (.lst (qP (b.map V.int) none (some (z:Int))))) p (.lst (qP (b.map V.int) none (some (z:Int))))):=(zd hl).trans (zd hp);generalize a6:upd (upd H l (.lst (qP (b.map V.int) none (some (z:Int))))) p (.lst (qP (b.map V.int) none (some (z:Int))))=H1 at s1;have M:H1 p=some (.lst (qP (b.map V.int) none (some (z:Int)))):=by rw[<- a6];exact zc
  have np:H p=none:=(zd hl).free hp;refine⟨_,rfl,_,rfl,_,rfl,_,rfl,a,_,rfl,s1.seq hS,fun q hq=>⟨q,rfl,⟨_,u3 zc⟩,?_⟩⟩
  have U:p≠q:=zp M hq;obtain⟨a7,u⟩:=zcM b none (some (z:Int));have lo:=zdZ b z;have hi:=zd0 b z (some 63);refine zcF (K:=K) (a:=q) (xs:=qP (b.map V.int) (some (z:Int)) (some 63)) (zag a z p H q b)
   ⟨a7,none,none,rfl,s1.trans (zd hq),by rw[zt U,M,u],zc,by rw[<- lo,u,zv]⟩ (fun i σ Y _ ⟨_,_,_,_,_,_,h,_⟩=>u3 h) ?_ ?_
  ·rintro i x σ Y T hx ⟨J,v3,v4,rfl,sm,g,D,L⟩ hT
   have ae:i<(qP (b.map V.int) (some (z:Int)) (some 63)).length:=(qg.mp hx).1;obtain⟨c,rfl⟩:∃c,x=V.int c:=by
    have:=zcL (qY hx);obtain⟨c,_,e⟩:=qr.mp this;exact⟨c,e.symm⟩
   have hj:i % z<J.length:=by
    have:=x8 i (show 0<z by omega)
    omega
   have a8:p≠T:=zp g hT;have a9:q≠T:=zp D hT;have N:upd Y T (.tup [.int i,.int c]) p=some (.lst (J.map V.int)):=by rw[zt a8];exact g
   have em:((i % z:Nat):Int)=(i:Int) % (z:Int):=Int.natCast_emod i z;have O:(0:Int)<(z:Int):=by omega
   refine⟨T,_,rfl,u5 zc,rfl,_,_,rfl,_,_,rfl,rfl,?_⟩
   refine⟨_,rfl,_,rfl,_,rfl,_,_,rfl,rfl,O,p,_,_,.int J[i % z],rfl,rfl,u3 N,(by rw[<- em];exact ZX (by simp[hj])),?_⟩
   refine⟨_,rfl,_,rfl,_,_,rfl,rfl,_,_,rfl,rfl,.inr ⟨?_,?_⟩,_,_,rfl,rfl,?_⟩
   ·have e1:(-(2^64):Int)= -18446744073709551616:=by decide
    rw[e1];omega
   ·have e2:((2^64):Int)=18446744073709551616:=by decide
    rw[e2];omega
   refine⟨_,rfl,_,rfl,_,rfl,_,_,rfl,rfl,O,p,_,_,i % z,rfl,rfl,N,(by rw[<- em,zv];exact zdT hj),?_⟩
   refine⟨J.set (i % z) (J[i % z]+c*((i:Int)+2)),_,_,rfl,fun d o e=>?_,by rw[zc,List.map_set],?_,by rw[QM];exact L⟩
   ·rw[zt (zp e np),zt (zp (sm d o e) hT)]
    exact sm d o e
   ·rw[zt (qA U),zt a9]
    exact D
  ·rintro σ Y ⟨J,v3,v4,rfl,sm,g,D,L⟩
   exact⟨_,rfl,k p J Y sm (u3 g) (by omega)⟩
theorem wN:[V.ty "list",V.ty "tuple"].length<=sizeLine:=by rw[sizeLine_eq];exact(by decide:2<=16777216)
def spS(K:W.Frag):Nat->Sp
 | 0=>fun _ _ _ _=>False
 | n+1=>fun c H Q _=>∃d f v,c=[f,v]/\Rep K H d f/\Rep K H d v/\Dat.ok n d/\∀b,Same H b->Q (.bl true) b
theorem zbN:zD ["_law_found","_law_due_here"] ["_law_found","_law_due_here"] (zr (topL 33)):=u0
theorem YD{f:Addr}{fd:FuncData}(F:Fun K "_law_same" "_law_same" (topL 33) f fd)(B:Blt I)(hm:I "_law_same" = some (.ref f))(hb:Binds K fd ["_law_found","_law_due_here"] []) :
  ∀n:Nat,FnOk P w K I G CX0 n f fd ["_law_found","_law_due_here"] (spS K n)
 | 0=>⟨fun _ _ _ _ h=>h.elim,fun _ _ _ _ _ _ _ _ _ _ _ _ _ h=>h.elim⟩
 | n+1=>by
  have a7:Dfn P w K I G "_law_same" n ["_law_found","_law_due_here"] (spS K n):=⟨f,fd,YD F B hm hb n,hm,F.kp,hb⟩;have nd:=zbN.nd;refine F.ok zbN (fun vs H Q E h=>?_) (fun ab A aa s H vs Q E hr h=>?_)
  ·obtain⟨d,g,v,rfl,_⟩:=h
   rfl
  ·obtain⟨d,g,v,rfl,rg,rv,ok,k⟩:=h
   refine⟨_,(zf (z6 (zS (zk Zb rfl B.isinstance boot_isinstance (za (pv 1) (za (zP (za (zM (v:=.ty "list") rfl B.list jd rfl) (za (zM (v:=.ty "tuple") rfl B.tuple zJ rfl) zb))) zb))))
   (zf (z6 (ua (jD (qo (zS (zk Zb rfl B.isinstance boot_isinstance (za (pv 0) (za (zP (za (zM (v:=.ty "list") rfl B.list jd rfl) (za (zM (v:=.ty "tuple") rfl B.tuple zJ rfl) zb))) zb))))) (jm (zE yz (zk zN rfl B.isinstance boot_isinstance (za (pv 0) (za (zM (v:=.ty "list") rfl B.list jd rfl) zb))) (zk zN rfl B.isinstance boot_isinstance (za (pv 1) (za (zM (v:=.ty "list") rfl B.list jd rfl) zb))) (zC _)))))
    (zj (zq qZ))
    zH)
    (zj (zq (qU (qD qV (zk zo rfl B.len boot_len (za (pv 0) zb)) (zk zo rfl B.len boot_len (za (pv 1) zb)) (zC _)) (jV (zk (qK rfl) rfl B.all boot_all (za (Qd [] [] rfl rfl (by kernel_rfl) (ze9 rfl B.zip (za (pv 0) (za (pv 1) zb))) (fun _ _ _ _=>qN) (fun _ _ _ _=>(zg a7 (hr.mono (by omega)) rfl (za (pv 0) (za (pv 1) zb))))) zb)))))))
   zH)
   (zf (z6 (ua (jD (zE yP (pv 1) j8 (zC _)) (jm (zS (zk zN rfl B.isinstance boot_isinstance (za (pv 1) (za (zM (v:=.ty "str") rfl B.str xh rfl) zb)))))))
   (zj (zq (qU (qD qV (pv 0) (pv 1) (zC _)) (jV (qD qV (zk zN rfl B.isinstance boot_isinstance (za (pv 0) (za (zM (v:=.ty "str") rfl B.str xh rfl) zb))) (zk zN rfl B.isinstance boot_isinstance (za (pv 1) (za (zM (v:=.ty "str") rfl B.str xh rfl) zb))) (zC _))))))
   zH)
   (zj (zq (qU (zk zN rfl B.isinstance boot_isinstance (za (pv 0) (za (zM (v:=.ty "int") rfl B.int wc rfl) zb))) (qU (qD qV (zk zN rfl B.isinstance boot_isinstance (za (pv 0) (za (zM (v:=.ty "bool") rfl B.bool vB rfl) zb))) (zk zN rfl B.isinstance boot_isinstance (za (pv 1) (za (zM (v:=.ty "bool") rfl B.bool vB rfl) zb))) (zC _)) (jV (qD qV (pv 0) (pv 1) (zC _))))))))),?_⟩
   refine⟨_,rfl,wN,fun p hp=>⟨v,d.tyN,p,["list","tuple"],rfl,(rv.same (zd hp)).ty,zc,(by decide),_,rfl,?_⟩⟩
   have s1:Same H (upd H p (.tup [V.ty "list",V.ty "tuple"])):=zd hp;have J:=rg.same s1;have u:=rv.same s1;generalize upd H p (.tup [V.ty "list",V.ty "tuple"])=H1 at s1 J u;cases d with
   | non=>
    cases(show g=_ from rg);cases(show v=_ from rv)
    refine ifF rfl ⟨_,rfl,rfl,_,rfl,ifT (by simp) (ifT rfl ?_)⟩
    refine⟨_,rfl,_,rfl,rfl,_,rfl,ifT (by simp) ⟨_,rfl,_, "NoneType", "str",rfl,J.ty,(by decide),_,rfl,_, "NoneType", "str",rfl,u.ty,(by decide),rfl,?_⟩⟩
    have:=k H1 s1;simpa using this
   | str x=>
    cases(show g=_ from rg);cases(show v=_ from rv)
    refine ifF rfl ⟨_,rfl,rfl,_,rfl,ifF (by simp) ⟨_,rfl,_, "str", "str",rfl,u.ty,(by decide),_,rfl,ifT (by decide) ?_⟩⟩
    refine⟨_,rfl,_,rfl,rfl,_,rfl,ifT (by simp) ⟨_,rfl,_, "str", "str",rfl,J.ty,(by decide),_,rfl,_, "str", "str",rfl,u.ty,(by decide),rfl,?_⟩⟩
    have:=k H1 s1;simpa using this
   | bl b=>
    cases(show g=_ from rg);cases(show v=_ from rv)
    refine ifF rfl ⟨_,rfl,rfl,_,rfl,ifF (by simp) ⟨_,rfl,_, "bool", "str",rfl,u.ty,(by decide),_,rfl,ifF (by decide) ?_⟩⟩
    refine⟨_,rfl,_, "bool", "int",rfl,J.ty,(by decide),_,rfl,ifT (by decide) ⟨_,rfl,_, "bool", "bool",rfl,J.ty,(by decide),_,rfl,_, "bool", "bool",rfl,u.ty,(by decide),rfl,_,rfl,ifT (by simp) ⟨_,rfl,_,rfl,rfl,?_⟩⟩⟩
    have:=k H1 s1;simpa using this
   | int b=>
    cases(show g=_ from rg);cases(show v=_ from rv)
    refine ifF rfl ⟨_,rfl,rfl,_,rfl,ifF (by simp) ⟨_,rfl,_, "int", "str",rfl,u.ty,(by decide),_,rfl,ifF (by decide) ?_⟩⟩
    refine⟨_,rfl,_, "int", "int",rfl,J.ty,(by decide),_,rfl,ifT (by decide) ⟨_,rfl,_, "int", "bool",rfl,J.ty,(by decide),_,rfl,_, "int", "bool",rfl,u.ty,(by decide),rfl,_,rfl,ifT (by simp) ⟨_,rfl,_,rfl,rfl,?_⟩⟩⟩
    have:=k H1 s1;simpa using this
   | lst ds=>
    obtain⟨a,L,rfl,hx,rx⟩:=J;obtain⟨b,M,rfl,hy,ry⟩:=u;cases n with
    | zero=>exact(show False from ok).elim
    | succ n=>
     obtain⟨a9,O⟩:ds.length<=1000000/\∀d∈ds,Dat.ok n d:=ok;have lx:=rx.len;have ly:=ry.len;have a8:=bG1000000;refine ifT rfl ?_
     refine⟨_,rfl,wN,fun p2 U=>⟨.ref a, "list",p2,["list","tuple"],rfl,(.inl ⟨rfl,L,(zd U).seq hx⟩),zc,(by decide),_,rfl,ifF rfl ?_⟩⟩
     have s2:Same H1 (upd H1 p2 (.tup [V.ty "list",V.ty "tuple"])):=zd U;have c:=s2.seq hx;have l:=s2.seq hy;have Y:=rx.same s2;have a6:=ry.same s2;have s3:=s1.trans s2;generalize upd H1 p2 (.tup [V.ty "list",V.ty "tuple"])=H2 at s2 s3 c l Y a6;refine⟨_,rfl,.ref a, "list", "list",rfl,(.inl ⟨rfl,L,c⟩),(by decide),_,rfl,.ref b, "list", "list",rfl,(.inl ⟨rfl,M,l⟩),(by decide),rfl,_,rfl,ifF (by decide) ?_⟩
     refine⟨_,rfl,a,L,rfl,(.inl c),_,rfl,b,M,rfl,(.inl l),rfl,_,rfl,ifT (by simp[lx,ly]) ?_⟩
     refine⟨_,rfl,_,rfl,true,true,a,b,rfl,⟨L,c⟩,⟨M,l⟩,?_⟩
     refine zcv (K:=K) (k1:=true) (k2:=true) (xs:=L) (ys:=M) (fun i zs H3=>zs=List.replicate i (V.bl true)/\Same H2 H3) ⟨rfl,u4 _⟩ (fun i zs H3 ⟨_,N⟩=>⟨N.seq c,N.seq l⟩) ?_ ?_
     ·rintro i x y zs H3 T e1 e2 ⟨rfl,N⟩ hT
      have hi:i<ds.length:=by have:=(qg.mp e1).1;omega
      obtain⟨d1,q1,r1⟩:=Y.get e1;obtain⟨d2,q2,r2⟩:=a6.get e2;rw[q1] at q2;cases q2
      have s4:=N.trans (zd (o:=.tup [x,y]) hT);refine⟨T,_,rfl,u5 zc,rfl,_,_,rfl,_,_,rfl,rfl,rfl,?_⟩
      refine⟨_,rfl,_,rfl,d1,x,y,rfl,r1.same s4,r2.same s4,O d1 (qY q1),fun H5 s5=>⟨?_,?_,s4.trans s5⟩⟩
      ·rw[wK];omega
      ·rw[Xx]
     ·rintro zs H3 ⟨rfl,N⟩
      refine⟨by rw[wK];omega,fun D hD=>⟨D,List.replicate (min L.length M.length) true,rfl,?_,?_⟩⟩
      ·refine u3 ?_
       rw[zc,Wy]
      ·have:=k _ (s3.trans (N.trans (zd (o:=.lst (List.replicate (min L.length M.length) (V.bl true))) hD)))
       simpa using this
   | tup ds=>
    obtain⟨a,L,rfl,hx,rx⟩:=J;obtain⟨b,M,rfl,hy,ry⟩:=u;cases n with
    | zero=>exact(show False from ok).elim
    | succ n=>
     obtain⟨a9,O⟩:ds.length<=1000000/\∀d∈ds,Dat.ok n d:=ok;have lx:=rx.len;have ly:=ry.len;have a8:=bG1000000;refine ifT rfl ?_
     refine⟨_,rfl,wN,fun p2 U=>⟨.ref a, "tuple",p2,["list","tuple"],rfl,(.inr ⟨rfl,L,(zd U).sqT hx⟩),zc,(by decide),_,rfl,ifF rfl ?_⟩⟩
     have s2:Same H1 (upd H1 p2 (.tup [V.ty "list",V.ty "tuple"])):=zd U;have c:=s2.sqT hx;have l:=s2.sqT hy;have Y:=rx.same s2;have a6:=ry.same s2;have s3:=s1.trans s2;generalize upd H1 p2 (.tup [V.ty "list",V.ty "tuple"])=H2 at s2 s3 c l Y a6;refine⟨_,rfl,.ref a, "tuple", "list",rfl,(.inr ⟨rfl,L,c⟩),(by decide),_,rfl,.ref b, "tuple", "list",rfl,(.inr ⟨rfl,M,l⟩),(by decide),rfl,_,rfl,ifF (by decide) ?_⟩
     refine⟨_,rfl,a,L,rfl,(.inr c),_,rfl,b,M,rfl,(.inr l),rfl,_,rfl,ifT (by simp[lx,ly]) ?_⟩
     refine⟨_,rfl,_,rfl,false,false,a,b,rfl,⟨L,c⟩,⟨M,l⟩,?_⟩
     refine zcv (K:=K) (k1:=false) (k2:=false) (xs:=L) (ys:=M) (fun i zs H3=>zs=List.replicate i (V.bl true)/\Same H2 H3) ⟨rfl,u4 _⟩ (fun i zs H3 ⟨_,N⟩=>⟨N.sqT c,N.sqT l⟩) ?_ ?_
     ·rintro i x y zs H3 T e1 e2 ⟨rfl,N⟩ hT
      have hi:i<ds.length:=by have:=(qg.mp e1).1;omega
      obtain⟨d1,q1,r1⟩:=Y.get e1;obtain⟨d2,q2,r2⟩:=a6.get e2;rw[q1] at q2;cases q2
      have s4:=N.trans (zd (o:=.tup [x,y]) hT);refine⟨T,_,rfl,u5 zc,rfl,_,_,rfl,_,_,rfl,rfl,rfl,?_⟩
      refine⟨_,rfl,_,rfl,d1,x,y,rfl,r1.same s4,r2.same s4,O d1 (qY q1),fun H5 s5=>⟨?_,?_,s4.trans s5⟩⟩
      ·rw[wK];omega
      ·rw[Xx]
     ·rintro zs H3 ⟨rfl,N⟩
      refine⟨by rw[wK];omega,fun D hD=>⟨D,List.replicate (min L.length M.length) true,rfl,?_,?_⟩⟩
      ·refine u3 ?_
       rw[zc,Wy]
      ·have:=k _ (s3.trans (N.trans (zd (o:=.lst (List.replicate (min L.length M.length) (V.bl true))) hD)))
       simpa using this
theorem le0:([]:List V).length<=sizeLine:=zY _
theorem le2{x y:V}:[x,y].length<=sizeLine:=by rw[sizeLine_eq];exact(by decide:2<=16777216)
theorem SameB.refl(b:Addr)(H:Hp):SameB b H H:=fun _ _ e _=>e
def u7:=@SameB.refl
theorem SameB.trans{b:Addr}{H f g:Hp}(a:SameB b H f)(c:SameB b f g):SameB b H g:=fun d o e i=>c d o (a d o e i) i
theorem SameB.of{b:Addr}{H c:Hp}(a:Same H c):SameB b H c:=fun d o e _=>a d o e
def u8:=@SameB.of
theorem SameB.new{b p:Addr}{o:HO}{H c:Hp}(a:SameB b H c)(h:c p=none):SameB b H (upd c p o):=a.trans (.of (zd h))
theorem BoxAt.new{b p:Addr}{o:HO}{H:Hp}{n:Int}(a:BoxAt H b n)(h:H p=none):BoxAt (upd H p o) b n:=by
 obtain⟨c,b1,b2,e,r⟩:=a;exact⟨c,b1,b2,by rw[zt (zp e h)];exact e,r⟩
theorem BoxAt.same{b:Addr}{H c:Hp}{n:Int}(a:BoxAt H b n)(s:Same H c):BoxAt c b n:=by
 obtain⟨f,b1,b2,e,r⟩:=a;exact⟨f,b1,b2,s _ _ e,r⟩
theorem BoxAt.ne{b t:Addr}{H:Hp}{n:Int}{o:HO}(a:BoxAt H b n)(h:H t=some o)(c:∀x y z,o≠.lst [x,y,z]):t≠b:=by
 obtain⟨f,b1,b2,e,r⟩:=a;exact Vh h e (c _ _ _)
theorem BoxAt.some{b:Addr}{H:Hp}{n:Int}(a:BoxAt H b n):∃o,H b=.some o:=let ⟨_,_,_,e,_⟩:=a;⟨_,e⟩
theorem BoxAt.mono{b:Addr}{H:Hp}{n m:Int}(a:BoxAt H b n)(h:n<=m):BoxAt H b m:=by
 obtain⟨c,b1,b2,e,f,g,i,l,o⟩:=a;exact⟨c,b1,b2,e,f,g,i,l,by omega⟩
theorem le1{x:V}:[x].length<=sizeLine:=by rw[sizeLine_eq];exact(by decide:1<=16777216)
theorem le3{x y z:V}:[x,y,z].length<=sizeLine:=by rw[sizeLine_eq];exact(by decide:3<=16777216)
theorem le4{x y z u:V}:[x,y,z,u].length<=sizeLine:=by rw[sizeLine_eq];exact(by decide:4<=16777216)
theorem leN{b:List V}(h:b.length<=1000):b.length<=sizeLine:=by rw[sizeLine_eq];omega
theorem vL{α:Type}{xs:List α}{i:Int}(h:0<=i)(c:i<xs.length):∃v,atI xs i=some v/\xs[i.toNat]? =some v:=by
 have b:i.toNat<xs.length:=by omega
 refine⟨xs[i.toNat],?_,by simp[b]⟩
 have:=ZX (xs:=xs) (j:=i.toNat) (v:=xs[i.toNat]) (by simp[b])
 rwa[show((i.toNat:Nat):Int)=i by omega] at this
theorem zgB{α:V->Prop}{b:List V}{r:Int}(h0:0<=r)(h1:r<b.length)(all:∀x∈b,α x):∃v,atI b r=some v/\α v:=by
 obtain⟨v,e,c⟩:=vL h0 h1;exact⟨v,e,all v (qY c)⟩
theorem fm0{α:V->Prop}:∀y∈([]:List V),α y:=fun y h=>nomatch h
theorem fm{α:V->Prop}{x:V}{b:List V}(h:α x)(c:∀y∈b,α y):∀y∈x::b,α y:=fun y hy=>(z9.mp hy).elim (fun e=>e▸h) (c y)
theorem SameB.put{b m:Addr}{H f:Hp}{o:HO}(s:SameB b H f)(h:H m=none):SameB b H (upd f m o):=fun c u e hc=>by
 rw[zt (zp e h)];exact s c u e hc
theorem SameB.none{b m:Addr}{H c:Hp}(s:SameB b H c)(h:c m=none)(f:m≠b):H m=none:=by
 cases q:H m with
 | none=>rfl
 | some o=>have:=s m o q f;rw[h] at this;cases this
def vp(x:Str):Prop:=(x.cps.toList.map xO).all id=true
theorem zfC{r:Int}(h0:0<=r)(h1:r<26):∃c,atI zaz.cps.toList r=some c/\xO c=true:=by
 rw[Vn];obtain⟨c,e,b⟩:=vL (xs:=List.range' 97 26) h0 (by rw[List.length_range'];omega)
 have f:=List.mem_range'_1.mp (qY b);refine⟨c,e,?_⟩
 unfold xO;rw[zQ (by omega),zQ (by omega)]
 rfl
theorem zcr{c:Nat}{y:Str}(h:xO c=true)(hy:vp y):vp ((⟨#[c]⟩:Str)++y):=by
 unfold vp at hy ⊢;show((#[c]++y.cps).toList.map xO).all id=true;rw[Xw,qm,List.all_append,hy,wu];show(xO c&&true)=true;rw[h];rfl
theorem zct{c:Nat}{y:Str}:((⟨#[c]⟩:Str)++y).length=y.length+1:=by
 show(#[c]++y.cps).size=y.cps.size+1;rw[Wv];show 1+_=_;omega
theorem BoxAt.nne{b p:Addr}{H:Hp}{n:Int}(a:BoxAt H b n)(h:H p=none):p≠b:=by
 obtain⟨o,e⟩:=a.some;exact(zp e h).symm
theorem BoxAt.other{b l:Addr}{H:Hp}{n:Int}{o:HO}(a:BoxAt H b n)(h:l≠b):BoxAt (upd H l o) b n:=by
 obtain⟨c,b1,b2,e,r⟩:=a;exact⟨c,b1,b2,by rw[zt (qA h)];exact e,r⟩
theorem zb7{α:V->Prop}{H:Hp}{p:Addr}{b:List V}{r:Int}(_:H p=some (.lst b))(h0:0<=r)(h1:r<b.length)(all:∀x∈b,α x):∃v,atI b r=some v/\α v:=zgB h0 h1 all
def Nm(x:Str):Prop:=x.length<=8/\(∀c∈x.cps.toList,c<1000000)/\1<=x.length/\vp x
theorem zeF{x:Str}(h0:1<=x.length)(h:x.length<=8)(l:vp x):Nm x:=by
 refine⟨h,fun c hc=>?_,h0,l⟩
 unfold vp at l;have:=jw.mp l (xO c) (qr.mpr ⟨c,hc,rfl⟩);unfold xO at this;simp at this;omega
theorem Jf:∀(b:List Str),(b.map V.str).all vO=true
 | []=>rfl
 | n::b=>by
  show(true&&(b.map V.str).all vO)=true;rw[Jf b];rfl
inductive Ji(f:List V)(H:Hp)(Q:VK):Prop
 | mk (c b:Int) (_:f=[.int c,.int b]) (_:0<=c) (_:1<=b) (_:b<=8) (_:∀y:Str,(y.length:Int)=b->vp y->Q (.str y) H):Ji  f H Q
def W6:Sp:=fun b H Q _=>Ji  b H Q
theorem Yr:zD ["_law_number","_law_size","_law_word","_law_k"] ["_law_number","_law_size"] (zr (topL 34)):=u0
def zaf(c:_)(H:_):=fun(i:Nat) (σ:St) (f:Hp)=>(Ex3 fun(b:Int) (y:Str) (g:Option V)=>An5 (σ=[some (.int b),some (.int c),some (.str y),g]) (0<=b) (y.length=i) (vp y) (f=H):Prop)
theorem zcj{f:Addr}{L:FuncData}(F:Fun K "_law_spelled" "_law_spelled" (topL 34) f L)(B:Blt I):FnOk P w K I G CX0 1 f L ["_law_number","_law_size"] W6:=by
 have u:=Yr.nd;refine F.ok Yr (fun vs H Q E h=>?_) (fun U A J s H vs Q E hr h=>?_)
 ·obtain⟨o,g,rfl,_⟩:=h
  rfl
 ·obtain⟨o,g,rfl,n0,s0,s1,k⟩:=h
  have M:=bG100000;have l:=bGe;refine⟨_,(zf (zA (i:=2) u rfl (Or.inl rfl) xW)
   (zf (jH xm rfl (qG rfl B.range (za (pv 1) zb)) (zG (i:=3) u rfl (Or.inl rfl))
   (zf (zA (i:=2) u rfl (Or.inl rfl) (zu xw (zV Wg xW (zu xv (pv 0) ze) (fun _ _=>rfl)) (pv 2)))
    (zj (zA (i:=0) u rfl (Or.inl rfl) (zu YB (pv 0) ze)))))
   (zj (zq (pv 2))))),?_⟩
  refine⟨_,rfl,_,rfl,(by rw[l];omega),(by rw[l];omega),?_⟩
  refine jt (zaf g H) ⟨o,_,_,rfl,n0,rfl,rfl,rfl⟩ ?_ ?_
  ·rintro i σ T hi ⟨b,y,v3,rfl,O,N,D,rfl⟩
   obtain⟨c,hc,Y⟩:=zfC (r:=b % 26) (we _ (by decide)) (wn _ (by decide))
   refine⟨_,rfl,_,_,rfl,rfl,(by show(0:Int)<26;decide),_,_,c,rfl,rfl,(by rw[sizeLine_eq];decide),hc,_,rfl,_,_,rfl,rfl,?_,?_⟩
   ·show 1+y.length<=sizeLine
    omega
   ·exact⟨_,rfl,_,_,rfl,rfl,⟨by decide,by decide⟩,_,_,_,rfl,Int.ediv_nonneg O (by decide),by rw[zct,N],zcr Y D,rfl⟩
  ·rintro σ T ⟨b,y,v3,rfl,O,N,D,rfl⟩
   exact⟨_,rfl,k y (by omega) D⟩
inductive Yg(g:List V)(H:Hp)(Q:VK):Prop
 | mk (b t:Addr) (n:Int) (f:List Str) (_:g=[.ref b,.ref t]) (_:BoxAt H b n) (_:n<1099511000000) (_:t≠b) (_:H t=some (.lst (f.map V.str))) (_:f.length<=1000) (_:∀(y:Str) c,SameB b H c->BoxAt c b (n+12)->1<=y.length->y.length<=8->vp y->Q (.str y) c):Yg  g H Q
def zbA:Sp:=fun b H Q _=>Yg  b H Q
theorem zen:zD ["_law_box_here","_law_taken","_law_size","_law_number","_law_k","_law_word","_law_turn"] ["_law_box_here","_law_taken"] (zr (topL 35)):=u0
theorem ze8{r:Int}(h0:0<=r)(h1:r<4):∃z:Int,atI [V.int 3,V.int 3,V.int 3,V.int 8] r=some (.int z)/\3<=z/\z<=8:=by
 have hc:r=0\/r=1\/r=2\/r=3:=by omega
 rcases hc with rfl | rfl | rfl | rfl
 ·exact⟨3,rfl,by decide,by decide⟩
 ·exact⟨3,rfl,by decide,by decide⟩
 ·exact⟨3,rfl,by decide,by decide⟩
 ·exact⟨8,rfl,by decide,by decide⟩
def zae(b:_)(t:_)(g:_)(H:_)(n:_):=fun(i:Nat) (σ:St) (f:Hp)=>(Ex2 fun(c:Int) (l:Option V)=>An4 (σ=[some (.ref b),some (.ref t),some (.int (1+g)),some (.int c),l,none,none]) (0<=c) (SameB b H f) (BoxAt f b (n+2+i)):Prop)
def zad(b:_)(t:_)(l:_)(c:_)(f:_):=fun(i:Nat) (σ:St) (g:Hp)=>(Ex3 fun(o s:Option V) (y:Str)=>An5 (σ=[some (.ref b),some (.ref t),some (.int (1+l)),some (.int c),o,some (.str y),s]) (1<=y.length) (y.length<=8) (vp y) (g=f):Prop)
theorem zfj{f:Addr}{fd:FuncData}(F:Fun K "_law_name" "_law_name" (topL 35) f fd)(B:Blt I)(u:Dfn P w K I G "_law_take" 1 ["_law_box_here","_law_size"] jU)(g:Dfn P w K I G "_law_spelled" 1 ["_law_number","_law_size"] W6):FnOk P w K I G CX0 2 f fd ["_law_box_here","_law_taken"] zbA:=by
 have J:=zen.nd;refine F.ok zen (fun vs H Q E h=>?_) (fun ab A aa s H vs Q E N h=>?_)
 ·obtain⟨b,t,n,U,rfl,_⟩:=h
  rfl
 ·obtain⟨b,t,n,U,rfl,B0,hn,a9,ht,ac,k⟩:=h
  have D:=bGe;refine⟨_,(zf (zA (i:=2) J rfl (Or.inl rfl) (zu zT ze (zg u N.m rfl (za (pv 0) (za (zV zW (zU (za ze (za ze (za ze (za ze zb))))) (zg u N.m rfl (za (pv 0) (za ze zb))) (fun _ _=>rfl)) zb)))))
   (zf (zA (i:=3) J rfl (Or.inl rfl) ze)
   (zf (jH xm rfl (qG rfl B.range (za (pv 2) zb)) (zG (i:=4) J rfl (Or.inl rfl))
   (zj (zA (i:=3) J rfl (Or.inl rfl) (zu zT (zu xX (pv 3) ze) (zg u N.m rfl (za (pv 0) (za ze zb)))))))
   (zf (zA (i:=5) J rfl (Or.inl rfl) (zg g N.m rfl (za (pv 3) (za (pv 2) zb))))
   (zf (jH xm rfl (qG rfl B.range (za (zu zT (zk zo rfl B.len boot_len (za (pv 1) zb)) ze) zb)) (zG (i:=6) J rfl (Or.inl rfl))
   (zj (z6 (zE Jn (pv 5) (pv 1) (by with_unfolding_all rfl))
    (zj (zA (i:=5) J rfl (Or.inl rfl) (zg g N.m rfl (za (zu zT (pv 3) (pv 6)) (za ze zb)))))
    zH)))
   (zj (zq (pv 5)))))))),?_⟩
  refine⟨_,rfl,le4,fun l hl=>⟨_,rfl,b,4,n,rfl,B0.new hl,by omega,by decide,by decide,fun r H1 r0 r1 B1 S1=>?_⟩⟩
  have L1:=S1 l _ (zc (H:=H)) ((B0.new hl).ne (zc (H:=H) (o:=.lst [.int 3,.int 3,.int 3,.int 8])) (by intro x y z e;cases e))
  have a6:=((u7 b H).new (o:=.lst [.int 3,.int 3,.int 3,.int 8]) hl).trans S1;obtain⟨z,ez,z0,z1⟩:=ze8 r0 r1;refine⟨l,_,_,_,rfl,rfl,u3 L1,ez,b,z,n+1,rfl,B1,by omega,by omega,by omega,fun r2 H2 a0 a1 B2 S2=>⟨_,_,rfl,rfl,?_⟩⟩
  have a7:=a6.trans S2;refine⟨_,rfl,_,rfl,(by rw[D];omega),(by rw[D];omega),?_⟩
  refine jt (zae b t r2 H n) ⟨0,_,rfl,by decide,a7,B2.mono (by omega)⟩ ?_ ?_
  ·rintro i σ H4 hi ⟨L,v4,rfl,m0,T,Y⟩
   refine⟨_,rfl,_,_,rfl,rfl,.inr ⟨by decide,by decide⟩,_,rfl,b,26,_,rfl,Y,by omega,by decide,by decide,fun r3 H5 c0 c1 B5 S5=>⟨_,_,rfl,rfl,_,_,rfl,?_,T.trans S5,B5.mono (by omega)⟩⟩
   omega
  ·rintro σ H4 ⟨L,v4,rfl,m0,T,Y⟩
   refine⟨_,rfl,_,rfl,L,1+r2,rfl,m0,by omega,by omega,fun y ly M=>?_⟩
   have O:=T t _ ht a9;have el:(U.map V.str).length=U.length:=zv ..;refine⟨_,rfl,t,_,rfl,.inl (u3 O),_,_,rfl,rfl,_,rfl,(by rw[D,el];omega),(by rw[D,el];omega),?_⟩
   refine jt (zad b t r2 L H4) ⟨_,_,y,rfl,by omega,by omega,M,rfl⟩ ?_ ?_
   ·rintro i σ H5 hi ⟨v4,v6,y,rfl,y0,y1,M,rfl⟩
    refine⟨_,rfl,_,rfl,t,_,rfl,.inl (u3 O),rfl,Jf U,_,rfl,zR (fun c=>?_) (fun c=>⟨_,_,y,rfl,y0,y1,M,rfl⟩)⟩
    exact⟨_,rfl,_,rfl,_,_,rfl,rfl,_,8,rfl,by omega,by decide,by decide,fun y' ae a8=>⟨_,_,y',rfl,by omega,by omega,a8,rfl⟩⟩
   ·rintro σ H5 ⟨v4,v6,y,rfl,y0,y1,M,rfl⟩
    exact⟨_,rfl,k y _ T (Y.mono (by omega)) y0 y1 M⟩
def Row(H:Hp)(l:Addr)(b:List Str):Prop:=H l=some (.lst (b.map V.str))/\∀x∈b,Nm x
theorem Row.same{H b:Hp}{l:Addr}{c:List Str}(r:Row H l c)(s:Same H b):Row b l c:=⟨s _ _ r.1,r.2⟩
theorem Row.draw{H c:Hp}{b l:Addr}{f:List Str}(r:Row H l f)(s:SameB b H c)(h:l≠b):Row c l f:=⟨s _ _ r.1 h,r.2⟩
inductive Jl(g:List V)(H:Hp)(Q:VK):Prop
 | mk (b:Addr) (m n:Int) (_:g=[.ref b,.int m]) (_:BoxAt H b n) (_:n<1000000) (_:0<=m) (_:m<=12) (_:∀(l:Addr) (f:List Str) c,SameB b H c->BoxAt c b (n+150)->l≠b->H l=none->Row c l f->(f.length:Int)=m->Q (.ref l) c):Jl  g H Q
def Ye:Sp:=fun b H Q _=>Jl  b H Q
theorem Yt:zD ["_law_box_here","_law_many","_law_found","_law_k"] ["_law_box_here","_law_many"] (zr (topL 36)):=u0
def zac(b:_)(m:_)(l:_)(H:_)(n:_):=fun(i:Nat) (σ:St) (c:Hp)=>(Ex2 fun(f:List Str) (g:Option V)=>An5 (σ=[some (.ref b),some (.int m),some (.ref l),g]) (SameB b H c) (BoxAt c b (n+12*i)) (Row c l f) (f.length=i):Prop)
theorem zcl{f:Addr}{Y:FuncData}(F:Fun K "_law_names" "_law_names" (topL 36) f Y)(B:Blt I)(c:Dfn P w K I G "_law_name" 2 ["_law_box_here","_law_taken"] zbA):FnOk P w K I G CX0 3 f Y ["_law_box_here","_law_many"] Ye:=by
 have nd:=Yt.nd;refine F.ok Yt (fun vs H Q E h=>?_) (fun a7 A N s H vs Q E hr h=>?_)
 ·obtain⟨b,m,n,rfl,_⟩:=h
  rfl
 ·obtain⟨b,m,n,rfl,O,hn,m0,m1,k⟩:=h
  have a6:=bG100000;have u:=bGe;refine⟨_,(zf (zA (i:=2) nd rfl (Or.inl rfl) (zU zb))
   (zf (jH xm rfl (qG rfl B.range (za (pv 1) zb)) (zG (i:=3) nd rfl (Or.inl rfl))
   (zj (xM (yy yL QC QB xA (pv 2) (za (zg c hr.m rfl (za (pv 0) (za (pv 2) zb))) zb)))))
   (zj (zq (pv 2))))),?_⟩
  refine⟨le0,fun l D=>?_⟩
  have nl:=O.nne D;refine⟨_,rfl,_,rfl,(by rw[u];omega),(by rw[u];omega),?_⟩
  refine jt (zac b m l H n) ⟨[],_,rfl,(u7 b H).new D,(O.new D).mono (by omega),⟨zc,fun x h=>nomatch h⟩,rfl⟩ ?_ ?_
  ·rintro i σ T hi ⟨J,v3,rfl,M,L,o,g⟩
   refine⟨_,rfl,.inl ⟨rfl,_,u3 o.1⟩,_,rfl,_,rfl,b,l,_,J,rfl,L,by omega,nl,o.1,by omega,fun y H5 U B5 y0 y1 al=>⟨l,_,_,rfl,rfl,(o.draw U nl).1,by rw[zv,g];omega,?_⟩⟩
   refine⟨J++[y],_,rfl,(M.trans U).put D,(B5.other nl).mono (by omega),⟨by rw[zc,qm];rfl,fun x hx=>?_⟩,by rw[qR,g];rfl⟩
   rcases ju.mp hx with q | q
   ·exact o.2 x q
   ·rw[qv.mp q];exact zeF y0 y1 al
  ·rintro σ T ⟨J,v3,rfl,M,L,o,g⟩
   exact⟨_,rfl,k l J T M (L.mono (by omega)) nl D o (by omega)⟩
def PlA(H:Hp)(a:Addr):Prop:=∃x y:Int,H a=some (.tup [.int x,.int y])/\0<=x/\x<=1000/\0<=y/\y<=1000
theorem PlA.imp{H b:Hp}{a:Addr}(h:PlA H a)(f:∀o,H a=some o->b a=some o):PlA b a:=let ⟨x,y,e,r⟩:=h;⟨x,y,f _ e,r⟩
theorem PlA.draw{H c:Hp}{a b:Addr}{n:Int}(h:PlA H a)(B:BoxAt H b n)(s:SameB b H c):PlA c a:=by
 obtain⟨x,y,e,r⟩:=h;obtain⟨g,b1,b2,f,_⟩:=B;exact⟨x,y,s a _ e (Vh e f (by intro z;cases z)),r⟩
def LieAt(H:Hp)(b:List Addr)(c:List (Int×Int)):Prop:=b.length=c.length/\∀(i:Nat) (q:Int×Int),c[i]? =some q->∃a,b[i]? =some a/\H a=some (.tup [.int q.1,.int q.2])
theorem LieAt.imp{H l:Hp}{g:List Addr}{s:List (Int×Int)}(h:LieAt H g s)(f:∀a o,a∈g->H a=some o->l a=some o):LieAt l g s:=⟨h.1,fun i q e=>let ⟨a,b,c⟩:=h.2 i q e;⟨a,b,f _ _ (qY b) c⟩⟩
theorem LieAt.prs{K:W.Frag}{H:Hp}{f:List Addr}{g:List (Int×Int)}(h:LieAt H f g):zf2 K H (f.map V.ref) g:=⟨by rw[zv];exact h.1,fun i q e=>let ⟨a,b,c⟩:=h.2 i q e;⟨a,by rw[jM,b];rfl,u5 c⟩⟩
theorem zeG{α:Type}[DecidableEq α]:∀{b ys:List α},b.Nodup->(∀x∈b,x∈ys)->b.length<=ys.length
 | [],_,_,_=>zY _
 | x::b,ys,i,h=>by
  obtain⟨f,g⟩:=wf.mp i;have hx:=h x jx;have:=zeG g (ys:=ys.erase x) fun z c=>(WF fun e=>f (by rw[<- e];exact c)).mpr (h z (jh _ c))
  rw[WQ hx] at this;have:=WL hx;rw[jv];omega
theorem zcs{H:Hp}:∀{c:List Addr},(∀a∈c,PlA H a)->∃g,LieAt H c g
 | [],_=>⟨[],rfl,fun i q e=>by cases e⟩
 | a::c,h=>by
  obtain⟨g,l,f⟩:=zcs fun b hb=>h b (jh _ hb)
  obtain⟨x,y,e,_⟩:=h a jx;refine⟨(x,y)::g,by rw[jv,jv,l],fun i q o=>?_⟩
  cases i with
  | zero=>cases o;exact⟨a,rfl,e⟩
  | succ i=>exact f i q o
theorem LieAt.mem{H:Hp}{f:List Addr}{c:List (Int×Int)}(h:LieAt H f c){a:Addr}(l:a∈f):∃q∈c,H a=some (.tup [.int q.1,.int q.2]):=by
 obtain⟨i,g,e⟩:=WC l;have hp:i<c.length:=by rw[<- h.1];exact g
 obtain⟨b,e1,e2⟩:=h.2 i _ (xL hp);rw[xL g,e] at e1;cases e1;exact⟨_,yc hp,e2⟩
theorem zhI{ps:List (Int×Int)}{x0 y:Int}(l:ps.length<=1000):¬∀j:Nat,j<ps.length+1->((x0+j) % 1001,y)∈ps:=fun h=>by
 have g:((List.range (ps.length+1)).map fun(j:Nat)=>((x0+j) % 1001,y)).Nodup:=by
  rw[List.Nodup,List.pairwise_map];refine(Xq (n:=ps.length+1)).imp_of_mem fun {i j} c b ne z=>ne ?_
  have c:=jF.mp c;have b:=jF.mp b;have z:=(Prod.mk.inj z).1;omega
 have:=zeG g (ys:=ps) fun z f=>by
  obtain⟨j,b,rfl⟩:=qr.mp f;exact h j (jF.mp b)
 rw[zv,wm] at this;omega
inductive Jk(K:W.Frag)(g:List V)(H:Hp)(Q:VK):Prop
 | mk (b t:Addr) (n:Int) (f:List Addr) (_:g=[.ref b,.ref t]) (_:BoxAt H b n) (_:n<1099511627000) (_:t≠b) (_:H t=some (.lst (f.map V.ref))) (_:f.length<=1000) (_:(∀a∈f,PlA H a)) (_:∀(p:Addr) c,SameB b H c->BoxAt c b (n+3)->H p=none->PlA c p->(∀a∈f,c p≠H a)->Q (.ref p) c):Jk K g H Q
def yo(K:W.Frag):Sp:=fun b H Q _=>Jk K b H Q
theorem Ys:zD ["_law_box_here","_law_taken","_law_most","_law_x","_law_y","_law_turn"] ["_law_box_here","_law_taken"] (zr (topL 37)):=u0
theorem zck{f:Addr}{fd:FuncData}(F:Fun K "_law_place" "_law_place" (topL 37) f fd)(B:Blt I)(g:Dfn P w K I G "_law_take" 1 ["_law_box_here","_law_size"] jU):FnOk P w K I G CX0 2 f fd ["_law_box_here","_law_taken"] (yo K):=by
 have nd:=Ys.nd;refine F.ok Ys (fun vs H Q E h=>?_) (fun ab A aa s H vs Q E hr h=>?_)
 ·obtain⟨b,t,n,as,rfl,_⟩:=h
  rfl
 ·obtain⟨b,t,n,as,rfl,B0,hn,a7,ht,ac,pa,k⟩:=h
  have a6:=hr.units;have T:=bGe;obtain⟨l,J⟩:=zcs pa;have pl:=J.1;have el:(as.map V.ref).length=as.length:=zv ..;refine⟨_,(zf (zA (i:=2) nd rfl (Or.inl rfl) (jn (zE qV (zg g hr.m rfl (za (pv 0) (za ze zb))) ze (zC _)) ze ze))
   (zf (Qb (i:=3) (j:=4) rfl nd rfl rfl (by decide) rfl rfl (za (zg g hr.m rfl (za (pv 0) (za (pv 2) zb))) (za (zg g hr.m rfl (za (pv 0) (za (pv 2) zb))) zb)) (by rfl))
   (zf (jH xm rfl (qG rfl B.range (za (zu zT (zk zo rfl B.len boot_len (za (pv 1) zb)) ze) zb)) (zG (i:=5) nd rfl (Or.inl rfl))
   (zj (z6 (zE (zff rfl a6) (zP (za (pv 3) (za (pv 4) zb))) (pv 1) (by with_unfolding_all rfl))
    (zj (zA (i:=3) nd rfl (Or.inl rfl) (zu xv (zu zT (pv 3) ze) ze)))
    zH)))
   (zj (zq (zP (za (pv 3) (za (pv 4) zb)))))))),?_⟩
  refine⟨_,rfl,b,4,n,rfl,B0,by omega,by decide,by decide,fun r H1 r0 r1 B1 S1=>⟨rfl,_,rfl,zR (fun c=>?_) (fun c=>?_)⟩⟩
  all_goals
   refine⟨_,rfl,_,rfl,b,_,n+1,rfl,B1,by omega,by decide,by decide,fun x H2 x0 x1 B2 S2=>⟨_,rfl,_,rfl,b,_,n+1+1,rfl,B2,by omega,by decide,by decide,fun y H3 y0 y1 B3 S3=>⟨_,_,rfl,?_⟩⟩⟩
   have S4:=S1.trans (S2.trans S3);have a9:=S4 t _ ht a7;refine⟨_,rfl,t,_,rfl,.inl (u3 a9),_,_,rfl,rfl,_,rfl,(by rw[T,el];omega),(by rw[T,el];omega),?_⟩
   have xb:x<=1000:=by omega
   refine jt (fun i σ O=>Ex3 fun(v2 v5:Option V) (z:Int)=>An6 (σ=[some (.ref b),some (.ref t),v2,some (.int z),some (.int y),v5]) (0<=z) (z<=1000) (SameB b H O) (BoxAt O b (n+1+1+1)) (((z,y)∉l\/(z=(x+i) % 1001/\∀j:Nat,j<i->((x+j) % 1001,y)∈l)))) ⟨_,none,x,rfl,x0,xb,S4,B3,.inr ⟨by show x=(x+((0:Nat):Int)) % 1001;omega,fun j Y=>absurd Y (Zj j)⟩⟩ ?_ ?_
   ·rintro i σ O _ ⟨v2,v5,z,rfl,L,M,u,N,D⟩
    refine⟨_,rfl,_,rfl,le2,fun p hp=>⟨_,rfl,p,t,(z,y),_,l,rfl,rfl,u5 zc,u3 ((u.new hp) t _ ht a7),(J.imp fun a o ha e=>?_).prs,_,rfl,zR (fun d=>?_) (fun d=>?_)⟩⟩
    ·obtain⟨cx,cy,hc,_⟩:=pa a ha
     exact(u.new hp) a o e fun e2=>by
      obtain⟨w0,w1,w2,e3,_⟩:=id B0;rw[e2] at hc;rw[hc] at e3;cases e3
    ·have d:(z,y)∈l:=qB d
     refine⟨_,rfl,_,_,rfl,rfl,_,_,rfl,rfl,(by show(0:Int)<1001;decide),_,_,_,rfl,we _ (by decide),by have:=wn (z+1) (by decide:(0:Int)<1001);omega,u.new hp,N.new hp,.inr ?_⟩
     rcases D with D | ⟨e,Y⟩
     ·exact absurd d D
     ·refine⟨by rw[e];omega,fun j a8=>?_⟩
      by_cases q:j=i
      ·rw[q,<- e];exact d
      ·exact Y j (by omega)
    ·have d:¬(z,y)∈l:=fun m=>d (zQ m)
     exact⟨_,_,z,rfl,L,M,u.new hp,N.new hp,.inl d⟩
   ·rintro σ O ⟨v2,v5,z,rfl,L,M,u,N,D⟩
    have B6:BoxAt O b (n+3):=by
     have e:n+3=n+1+1+1:=by omega
     rw[e];exact N
    have U:(z,y)∉l:=by
     rcases D with D | ⟨_,Y⟩
     ·exact D
     ·exact absurd (fun j a8=>Y j (by omega)) (zhI (ps:=l) (x0:=x) (y:=y) (by omega))
    refine⟨_,rfl,_,rfl,le2,fun p hp=>k p _ (u.new hp) (B6.new hp) (u.none hp (N.nne hp)) ⟨z,y,zc,L,M,y0,by omega⟩ fun a ha e=>?_⟩
    obtain⟨q,hq,e2⟩:=J.mem ha;rw[zc,e2] at e;cases e;exact U hq
inductive Z3(i:List V)(H:Hp)(Q:VK):Prop
 | mk (b:Addr) (m n:Int) (_:i=[.ref b,.int m]) (_:BoxAt H b n) (_:n<1000000) (_:0<=m) (_:m<=100) (_:∀(l:Addr) (f:List Addr) c,SameB b H c->BoxAt c b (n+400)->l≠b->H l=none->c l=some (.lst (f.map V.ref))->(∀a∈f,PlA c a)->(f.length:Int)=m->(∃g,LieAt c f g/\g.Nodup)->Q (.ref l) c):Z3  i H Q
def XX:Sp:=fun b H Q _=>Z3  b H Q
theorem X9:zD ["_law_box_here","_law_many","_law_found","_law_k"] ["_law_box_here","_law_many"] (zr (topL 38)):=u0
def zab(b:_)(m:_)(l:_)(H:_)(n:_):=fun(i:Nat) (σ:St) (c:Hp)=>(∃(f:List Addr) (o:Option V),σ=[some (.ref b),some (.int m),some (.ref l),o]/\SameB b H c/\BoxAt c b (n+3*i)/\c l=some (.lst (f.map V.ref))/\(∀a∈f,PlA c a)/\f.length=i/\∃g,LieAt c f g/\g.Nodup:Prop)
theorem zaI{f:Addr}{fd:FuncData}(F:Fun K "_law_places" "_law_places" (topL 38) f fd)(B:Blt I)(g:Dfn P w K I G "_law_place" 2 ["_law_box_here","_law_taken"] (yo K)):FnOk P w K I G CX0 3 f fd ["_law_box_here","_law_many"] XX:=by
 have nd:=X9.nd;refine F.ok X9 (fun vs H Q E h=>?_) (fun a9 A a7 s H vs Q E hr h=>?_)
 ·obtain⟨b,m,n,rfl,_⟩:=h
  rfl
 ·obtain⟨b,m,n,rfl,B0,hn,m0,m1,k⟩:=h
  have a8:=bG100000;have T:=bGe;refine⟨_,(zf (zA (i:=2) nd rfl (Or.inl rfl) (zU zb))
   (zf (jH xm rfl (qG rfl B.range (za (pv 1) zb)) (zG (i:=3) nd rfl (Or.inl rfl))
   (zj (xM (yy yL QC QB xA (pv 2) (za (zg g hr.m rfl (za (pv 0) (za (pv 2) zb))) zb)))))
   (zj (zq (pv 2))))),?_⟩
  refine⟨le0,fun l U=>?_⟩
  have nl:=B0.nne U;refine⟨_,rfl,_,rfl,(by rw[T];omega),(by rw[T];omega),?_⟩
  refine jt (zab b m l H n) ⟨[],_,rfl,(u7 b H).new U,(B0.new U).mono (by omega),zc,(fun x h=>nomatch h),rfl,[],⟨rfl,fun i q e=>by cases e⟩,Wo⟩ ?_ ?_
  ·rintro i σ H4 hi ⟨O,v3,rfl,S4,J,L,M,D,Y,c,pn⟩
   refine⟨_,rfl,.inl ⟨rfl,_,u3 L⟩,_,rfl,_,rfl,b,l,_,O,rfl,J,by omega,nl,L,by omega,M,fun p H5 N B5 pN pp pq=>⟨l,_,_,rfl,rfl,N l _ L nl,by rw[zv,D];omega,?_⟩⟩
   have L5:=N l _ L nl;have o:∀{a:Addr},PlA H5 a->PlA (upd H5 l (.lst (O.map V.ref++[.ref p]))) a:=fun {a} h=>by
    obtain⟨x,y,e,r⟩:=h;exact⟨x,y,by rw[zt (Vh e L5 (by intro z;cases z))];exact e,r⟩
   obtain⟨px,py,pe,_⟩:=id pp;refine⟨O++[p],_,rfl,(S4.trans N).put U,(B5.other nl).mono (by omega),by rw[zc,qm];rfl,fun a ha=>?_,by rw[qR,D];rfl,Y++[(px,py)],⟨by rw[qR,qR,c.1];rfl,fun j q e=>?_⟩,Zn.mpr ⟨pn,wf.mpr ⟨ZD,Wo⟩,fun u hu v hv e=>?_⟩⟩
   ·rcases ju.mp ha with q | q
    ·exact o ((M a q).draw J N)
    ·rw[qv.mp q];exact o pp
   ·have up:∀{a:Addr} {x y:Int},H5 a=some (.tup [.int x,.int y])->upd H5 l (.lst (O.map V.ref++[.ref p])) a=some (.tup [.int x,.int y]):=fun {a x y} e=>by
     rw[zt (Vh e L5 (by intro z;cases z))];exact e
    by_cases lt:j<Y.length
    ·rw[xq lt] at e
     obtain⟨a,e1,e2⟩:=c.2 j q e;obtain⟨cx,cy,e3,_⟩:=M a (qY e1);obtain⟨dx,dy,e4,_⟩:=(M a (qY e1)).draw J N;refine⟨a,by rw[xq (by rw[c.1];exact lt)];exact e1,up (N a _ e2 fun z=>?_)⟩
     obtain⟨w0,w1,w2,e5,_⟩:=id J;rw[z,e5] at e2;cases e2
    ·rw[xF (by omega)] at e
     have e0:j-Y.length=0:=by
      have:=(qg.mp e).1;rw[WK] at this;omega
     rw[e0] at e;cases e;exact⟨p,by rw[xF (by rw[c.1];omega),c.1,e0];rfl,up pe⟩
   ·rw[qv.mp hv] at e
    obtain⟨i',a6,eu⟩:=WC hu;obtain⟨a,e1,e2⟩:=c.2 i' _ (xL a6);refine pq a (qY e1) ?_
    rw[pe,e2,eu,e]
  ·rintro σ H4 ⟨O,v3,rfl,S4,J,L,M,D,Y,c,pn⟩
   exact⟨_,rfl,k l O H4 S4 (J.mono (by omega)) nl U L M (by omega) ⟨Y,c,pn⟩⟩
inductive XU(K:W.Frag)(g:List V)(H:Hp)(Q:VK):Prop
 | mk (b a:Addr) (n:Int) (f:List V) (_:g=[.ref b,.ref a]) (_:BoxAt H b n) (_:n<1000000) (_:a≠b) (_:H a=some (.lst f)) (_:f.length<=1000) (_:∀(l:Addr) (i:List V) c,SameB b H c->BoxAt c b (n+f.length)->l≠b->H l=none->c l=some (.lst i)->i.Perm f->Q (.ref l) c):XU K g H Q
def V1(K:W.Frag):Sp:=fun b H Q _=>XU K b H Q
theorem zbM:zD ["_law_box_here","_law_some","_law_found","_law_one"] ["_law_box_here","_law_some"] (zr (topL 39)):=u0
def zaa(b:_)(a:_)(l:_)(H:_)(n:_)(f:List V):=fun(i:Nat) (σ:St) (c:Hp)=>(Ex2 fun(g:List V) (o:Option V)=>An6 (σ=[some (.ref b),some (.ref a),some (.ref l),o]) (SameB b H c) (BoxAt c b (n+i)) (c a=some (.lst f)) (c l=some (.lst g)) (g.Perm (f.take i)):Prop)
theorem zdA{f:Addr}{fd:FuncData}(F:Fun K "_law_shuffled" "_law_shuffled" (topL 39) f fd)(B:Blt I)(c:Dfn P w K I G "_law_take" 1 ["_law_box_here","_law_size"] jU):FnOk P w K I G CX0 2 f fd ["_law_box_here","_law_some"] (V1 K):=by
 have nd:=zbM.nd;refine F.ok zbM (fun vs H Q E h=>?_) (fun a9 A a7 s H vs Q E hr h=>?_)
 ·obtain⟨b,a,n,o,rfl,_⟩:=h
  rfl
 ·obtain⟨b,a,n,o,rfl,B0,hn,Y,U,aa,k⟩:=h
  have a8:=bG100000;have T:=bGe;refine⟨_,(zf (zA (i:=2) nd rfl (Or.inl rfl) (zU zb))
   (zf (jH xm rfl (xN (pv 1)) (zG (i:=3) nd rfl (Or.inl rfl))
   (zj (xM (yy yL PySem.F.slot_list_insert PySem.F.type_list_insert Jp (pv 2) (za (zg c hr.m rfl (za (pv 0) (za (zu zT (zk zo rfl B.len boot_len (za (pv 2) zb)) ze) zb))) (za (pv 3) zb))))))
   (zj (zq (pv 2))))),?_⟩
  refine⟨le0,fun l g=>?_⟩
  have nl:=B0.nne g;have a6:a≠l:=zp U g;refine⟨_,rfl,a,rfl,⟨_,u3 ((zd g) _ _ U)⟩,wb (K:=K) (a:=a) (xs:=o) (zaa b a l H n o)
   ⟨[],_,rfl,(u7 b H).new g,(B0.new g).mono (by omega),(zd g) _ _ U,zc,.nil⟩ (fun i σ M _ ⟨_,_,_,_,_,h,_,_⟩=>u3 h) ?_ ?_⟩
  ·rintro i x σ M hx ⟨J,v3,rfl,N,L,A4,u,D⟩
   have hi:=(qg.mp hx).1;have yl:J.length=i:=by rw[D.length_eq,qI];omega
   refine⟨_,rfl,.inl ⟨rfl,_,u3 u⟩,_,rfl,_,rfl,l,_,rfl,.inl (u3 u),_,_,rfl,rfl,b,_,_,rfl,L,by omega,by omega,by omega,fun q H5 q0 q1 B5 O=>⟨_,rfl,?_⟩⟩
   refine⟨l,J,q,x,rfl,rfl,O l _ u nl,q0,by rw[T];omega,by omega,?_⟩
   refine⟨_,_,rfl,(N.trans O).put g,(B5.other nl).mono (by omega),by rw[zt a6];exact O a _ A4 Y,zc,?_⟩
   have e1:o.take (i+1)=o.take i++[x]:=by
    obtain⟨h1,h2⟩:=qg.mp hx;rw[<- h2,vV]
   rw[e1];refine List.perm_middle.trans ?_
   rw[QV];exact((List.Perm.cons x D).trans (zcW x _).symm)
  ·rintro σ M ⟨J,v3,rfl,N,L,A4,u,D⟩
   rw[jL] at D;exact⟨_,rfl,k l J M N L nl g u D⟩
end
def SameT(H b:Hp):Prop:=∀a u,H a=some u->(∀c,u≠.lst c)->b a=some u
theorem SameT.refl(H:Hp):SameT H H:=fun _ _ e _=>e
theorem SameT.trans{H f g:Hp}(a:SameT H f)(b:SameT f g):SameT H g:=fun c u e h=>b c u (a c u e h) h
theorem SameT.of{H b:Hp}(s:Same H b):SameT H b:=fun a u e _=>s a u e
theorem SameT.draw{H c:Hp}{b:Addr}{n:Int}(B:BoxAt H b n)(s:SameB b H c):SameT H c:=fun a u e h=>by
 obtain⟨g,b1,b2,f,_⟩:=B;exact s a u e (fun z=>by rw[z,f] at e;cases e;exact h _ rfl)
def ud:=@SameT.draw
theorem SameT.put{H:Hp}{l:Addr}{b c:List V}(h:H l=some (.lst b)):SameT H (upd H l (.lst c)):=fun a u e hu=>by
 rw[zt (fun z=>by rw[z,h] at e;cases e;exact hu _ rfl)];exact e
mutual
def Dat.imm:Dat->Bool
 | .lst _=>false
 | .tup ds=>Dat.imms ds
 | _=>true
def Dat.imms:List Dat->Bool
 | []=>true
 | d::ds=>d.imm&&Dat.imms ds
end
section
variable{P:Program}{w:World}{K:W.Frag}{G:Str->Option Value}{u:Heap}
theorem SqT.keep{H b:Hp}{a:Addr}{c:List V}(q:SqT K H a c)(s:SameT H b):SqT K b a c:=by
 rcases q with(q | ⟨o,q⟩) | q
 ·exact .inl (.inl (s a _ q (fun z h=>nomatch h)))
 ·exact .inl (.inr ⟨o,s a _ q (fun z h=>nomatch h)⟩)
 ·exact .inr q
mutual
theorem Rep.keep{H b:Hp}(s:SameT H b):∀{d:Dat} {v:V},d.imm=true->Rep K H d v->Rep K b d v
 | .non,_,_,h=>h
 | .bl _,_,_,h=>h
 | .int _,_,_,h=>h
 | .str _,_,_,h=>h
 | .lst _,_,i,_=>by cases i
 | .tup ds,_,i,h=>by
  obtain⟨a,c,e,q,r⟩:=h;exact⟨a,c,e,q.keep s,Reps.keep s (ds:=ds) i r⟩
theorem Reps.keep{H c:Hp}(s:SameT H c):∀{ds:List Dat} {f:List V},Dat.imms ds=true->Reps K H ds f->Reps K c ds f
 | [],_,_,h=>h
 | d::ds,_,i,h=>by
  obtain⟨x,r,e,h1,h2⟩:=h;have b:(d.imm&&Dat.imms ds)=true:=i;rw[qQ] at b;exact⟨x,r,e,Rep.keep s b.1 h1,Reps.keep s b.2 h2⟩
end
theorem Reps.snoc{H:Hp}{d:Dat}{v:V}(h:Rep K H d v):∀{ds:List Dat} {b:List V},Reps K H ds b->Reps K H (ds++[d]) (b++[v])
 | [],_,e=>by rw[show _=_ from e];exact⟨v,[],rfl,h,rfl⟩
 | _::_,_,e=>by
  obtain⟨x,r,e1,h1,h2⟩:=e;subst e1;exact⟨x,r++[v],rfl,h1,Reps.snoc h h2⟩
theorem yw{α β:Type}{f:α->β}{H E:List β}(h:H.Perm E):∀{b:List α},E=b.map f->∃g:List α,g.Perm b/\H=g.map f:=by
 induction h with
 | nil=>
  intro b e;have:b=[]:=by simpa using e.symm
  exact⟨[],by rw[this],rfl⟩
 | @cons x O Q p J=>
  intro b e;cases b with
  | nil=>simp at e
  | cons a B=>
   rw[jf] at e;injection e with e1 e2;obtain⟨g,s,A⟩:=J e2;exact⟨a::g,s.cons a,by rw[jf,<- A,<- e1]⟩
 | swap x y l=>
  intro b e;cases b with
  | nil=>simp at e
  | cons a B=>
   cases B with
   | nil=>simp at e
   | cons c D=>
    rw[jf,jf] at e;injection e with e1 e2;injection e2 with e2 I;exact⟨c::a::D,.swap a c D,by rw[jf,jf,<- e1,<- e2,<- I]⟩
 | trans p q i o=>
  intro b e;obtain⟨g,s,A⟩:=o e;obtain⟨N,L,M⟩:=i A;exact⟨N,L.trans s,M⟩
def vN(p:Nat×Nat):Dat:=.tup [.int p.1,.int p.2]
def vM(b:List (Nat×Nat)):Dat:=.tup (b.map vN)
theorem xT:∀(b:List (Nat×Nat)),Dat.imms (b.map vN)=true
 | []=>rfl
 | p::b=>by
  show(Dat.imm (vN p)&&Dat.imms (b.map vN))=true;rw[xT b];rfl
def ByOrd(b:List Nat)(c:List (Nat×Nat)):Prop:=∀p∈c,∃k l:Nat,k<l/\b[k]? =some p.1/\b[l]? =some p.2
theorem Reps.take{H:Hp}:∀(n:Nat) {ds:List Dat} {b:List V},Reps K H ds b->Reps K H (ds.take n) (b.take n)
 | 0,_,_,_=>rfl
 | n+1,[],_,h=>by rw[show _=_ from h];exact rfl
 | n+1,d::ds,_,h=>by
  obtain⟨x,r,e,h1,h2⟩:=h;subst e;exact⟨x,r.take n,rfl,h1,Reps.take n h2⟩
theorem Reps.app{H:Hp}:∀{ds c:List Dat} {xs ys:List V},Reps K H ds xs->Reps K H c ys->Reps K H (ds++c) (xs++ys)
 | [],_,_,_,h,b=>by rw[show _=_ from h];exact b
 | d::ds,_,_,_,h,b=>by
  obtain⟨x,r,e,h1,h2⟩:=h;subst e;exact⟨x,r++_,rfl,h1,Reps.app h2 b⟩
inductive Z4(K:W.Frag)(i:List V)(H:Hp)(Q:VK):Prop
 | mk (b:Addr) (m n:Int) (_:i=[.ref b,.int m]) (_:BoxAt H b n) (_:n<1000000) (_:0<=m) (_:m<=100) (_:∀(p:Addr) (g:List (Nat×Nat)) (c:List Nat) f,SameB b H f->BoxAt f b (n+800)->Rep K f (vM g) (.ref p)->c.Perm (List.range m.toNat)->ByOrd c g->g.length<=200->Q (.ref p) f):Z4 K i H Q
def X4(K:W.Frag):Sp:=fun b H Q _=>Z4 K b H Q
theorem Va:zD ["_law_box_here","_law_many","_law_order","_law_found","_law_turn","_law_k"] ["_law_box_here","_law_many"] (zr (topL 41)):=u0
theorem zgD{m r:Int}(h:0<=r)(b:r<4)(f:2<=m)(c:m<=100):∃z:Int,atI [V.int 1,V.int 4,V.int 13,V.int (2*m)] r=some (.int z)/\1<=z/\z<=200:=by
 have hc:r=0\/r=1\/r=2\/r=3:=by omega
 rcases hc with rfl | rfl | rfl | rfl
 ·exact⟨1,rfl,by omega,by omega⟩
 ·exact⟨4,rfl,by omega,by omega⟩
 ·exact⟨13,rfl,by omega,by omega⟩
 ·exact⟨2*m,rfl,by omega,by omega⟩
theorem zcc{ord:List Nat}{i:Int}(h:0<=i)(b:i<ord.length):∃x:Nat,atI (ord.map fun i:Nat=>V.int (i:Int)) i=some (.int (x:Int))/\ord[i.toNat]? =some x:=by
 obtain⟨v,e1,e2⟩:=vL (xs:=ord.map fun i:Nat=>V.int (i:Int)) h (by rw[zv];exact b)
 rw[jM] at e2;obtain⟨x,hx,rfl⟩:=jN.mp e2;exact⟨x,e1,hx⟩
def Y9(b:_)(m:_)(o:_)(R:_)(H:_)(n:_)(f:_)(K:_):=fun(i:Nat) (σ:St) (c:Hp)=>(Ex4 fun(g:List (Nat×Nat)) (l:List V) (s A:Option V)=>An8 (σ=[some (.ref b),some (.int m),some (.ref o),some (.ref R),s,A]) (SameB b H c) (BoxAt c b (n+110+2*i)) (c o=some (.lst (f.map fun i:Nat=>V.int (i:Int)))) (c R=some (.lst l)) (Reps K c (g.map vN) l) (ByOrd f g) (g.length=i):Prop)
theorem zaJ{f:Addr}{fd:FuncData}(F:Fun K "_law_aheads" "_law_aheads" (topL 41) f fd)(B:Blt G)(g:Dfn P w K G u "_law_take" 1 ["_law_box_here","_law_size"] jU)(l:Dfn P w K G u "_law_shuffled" 2 ["_law_box_here","_law_some"] (V1 K)):FnOk P w K G u CX0 3 f fd ["_law_box_here","_law_many"] (X4 K):=by
 have nd:=Va.nd;refine F.ok Va (fun vs H Q E h=>?_) (fun ak A af s H vs Q E hr h=>?_)
 ·obtain⟨b,m,n,rfl,_⟩:=h
  rfl
 ·obtain⟨b,m,n,rfl,B0,hn,m0,m1,k⟩:=h
  have aj:=bG100000;have a9:=bGe;refine⟨_,(zf (Qb (i:=2) (j:=3) rfl nd rfl rfl (by decide) rfl rfl (za (zg l hr.m rfl (za (pv 0) (za (yx rfl rfl B.list rfl B.range jd (za (pv 1) zb)) zb))) (za (zU zb) zb)) (by rfl))
   (zf (z6 (zE Vf (pv 1) ze (zC _))
   (zj (zq (zP zb)))
   zH)
   (zf (jH xm rfl (qG rfl B.range (za (zg g hr.m rfl (za (pv 0) (za (zV zW (zU (za ze (za ze (za ze (za (zu xX ze (pv 1)) zb))))) (zg g hr.m rfl (za (pv 0) (za ze zb))) (fun _ _=>rfl)) zb))) zb)) (zG (i:=4) nd rfl (Or.inl rfl))
   (zf (zA (i:=5) nd rfl (Or.inl rfl) (zg g hr.m rfl (za (pv 0) (za (zu xu (pv 1) ze) zb))))
    (zj (xM (yy yL QC QB xA (pv 3) (za (zP (za (zV zW (pv 2) (pv 5) (fun _ _=>rfl)) (za (zV zW (pv 2) (zu zT (zu zT (pv 5) ze) (zg g hr.m rfl (za (pv 0) (za (zu xu (zu xu (pv 1) ze) (pv 5)) zb)))) (fun _ _=>rfl)) zb))) zb))))))
   (zj (zq (zX qM rfl B.tuple zJ (za (zu vo (pv 3) (zK jY (pv 3) qe (zL (zX JE rfl B.int wc (za (qD qV (zg g hr.m rfl (za (pv 0) (za ze zb))) ze (zC _)) zb))))) zb))))))),?_⟩
  refine⟨_,rfl,_,rfl,m,rfl,m0,by omega,fun l0 h0=>?_⟩
  have O:((List.range m.toNat).map fun i:Nat=>V.int (i:Int)).length=m.toNat:=by rw[zv,wm]
  refine⟨b,l0,n,_,rfl,B0.new h0,by omega,B0.nne h0,zc,by rw[O];omega,fun o ys H1 S1 B1 no oN ho pm=>⟨le0,fun R hR=>⟨_,_,rfl,?_⟩⟩⟩
  obtain⟨D,op,rfl⟩:=yw pm rfl;have ol:D.length=m.toNat:=by rw[op.length_eq,wm]
  rw[O] at B1;have U:=B1.nne hR;have oR:o≠R:=zp ho hR;have a8:=((u7 b H).new h0).trans S1;have RH:H R=none:=a8.none hR U;have S2:=a8.new (o:=.lst []) hR;have B2:=B1.new (o:=.lst []) hR;have O2:=(zd (o:=.lst []) hR) _ _ ho;have R2:upd H1 R (.lst []) R=some (.lst []):=zc;generalize upd H1 R (.lst [])=H2 at S2 B2 O2 R2;refine⟨_,rfl,_,_,rfl,rfl,_,rfl,zR (fun c=>?_) (fun c=>?_)⟩
  ·exact⟨le0,fun p hp=>k p [] D _ (S2.new hp) ((B2.new hp).mono (by omega)) ⟨p,[],rfl,u5 zc,rfl⟩ op (fun p h=>nomatch h) (zY _)⟩
  have m2:2<=m:=by
   have:¬m<2:=fun z=>c (zQ z)
   omega
  refine⟨_,rfl,_,rfl,_,_,rfl,rfl,.inl ⟨by decide,by decide⟩,le4,fun l1 h1=>⟨_,rfl,b,4,_,rfl,B2.new h1,by omega,by decide,by decide,fun r H3 r0 r1 B3 S3=>?_⟩⟩
  have L3:=S3 l1 _ zc (B2.nne h1);obtain⟨z,ez,z0,z1⟩:=zgD r0 r1 m2 m1;refine⟨l1,_,_,_,rfl,rfl,u3 L3,ez,b,z,_,rfl,B3,by omega,by omega,by omega,fun cnt H4 c0 c1 B4 S4=>⟨_,rfl,(by rw[a9];omega),(by rw[a9];omega),?_⟩⟩
  have U4:=((u7 b H2).new h1).trans (S3.trans S4);have ab:=S2.trans U4;have O4:=U4 _ _ O2 no;have R4:=U4 _ _ R2 U;clear S2 B2 O2 R2 S3 S4 U4 L3 h1 B3;refine jt (Y9 b m o R H n D K)
   ⟨[],[],_,_,rfl,ab,B4.mono (by omega),O4,R4,rfl,(fun p h=>nomatch h),rfl⟩ ?_ ?_
  ·rintro i σ H5 hi ⟨M,I,v4,v5,rfl,S5,B5,O5,R5,rp,bo,Y⟩
   have xl:I.length=i:=by rw[rp.len,zv,Y]
   refine⟨_,rfl,_,rfl,_,_,rfl,rfl,b,_,_,rfl,B5,by omega,by omega,by omega,fun kk H6 k0 k1 B6 J=>?_⟩
   have O6:=J _ _ O5 no;obtain⟨x1,ac,ag⟩:=zcc (ord:=D) k0 (by omega)
   refine⟨_,rfl,.inl ⟨rfl,_,u3 (J _ _ R5 U)⟩,_,rfl,_,rfl,o,_,_,_,rfl,rfl,u3 O6,ac,?_⟩
   refine⟨_,rfl,_,rfl,_,_,rfl,rfl,_,rfl,_,rfl,_,_,rfl,rfl,_,rfl,_,_,rfl,rfl,b,_,_,rfl,B6,by omega,by omega,by omega,fun q H7 q0 q1 B7 S7=>⟨_,_,rfl,rfl,?_⟩⟩
   have O7:=S7 _ _ O6 no;have R7:=S7 _ _ (J _ _ R5 U) U;obtain⟨x2,ae,ah⟩:=zcc (ord:=D) (i:=kk+1+q) (by omega) (by omega)
   refine⟨o,_,_,_,rfl,rfl,u3 O7,ae,le2,fun T N=>⟨R,I,.ref T,rfl,rfl,(zd N) _ _ R7,by omega,?_⟩⟩
   have R8:=(zd (o:=.tup [.int (x1:Int),.int (x2:Int)]) N) _ _ R7;have st:SameT H5 (upd (upd H7 T (.tup [.int (x1:Int),.int (x2:Int)])) R (.lst (I++[.ref T]))):=((ud B5 (J.trans S7)).trans (.of (zd N))).trans (.put R8);refine⟨M++[(x1,x2)],_,_,_,rfl,(((S5.trans J).trans S7).new N).put RH,((B7.new N).other U).mono (by omega),by rw[zt oR];exact(zd N) _ _ O7,zc,?_,fun pq a7=>?_,by rw[qR,Y];rfl⟩
   ·rw[qm]
    refine Reps.snoc ?_ (Reps.keep st (xT M) rp)
    refine⟨T,_,rfl,u5 ?_,_,_,rfl,rfl,_,_,rfl,rfl,rfl⟩
    rw[zt (fun zz=>by rw[zz,R7] at N;cases N)]
    exact zc
   ·rcases ju.mp a7 with w1 | w1
    ·exact bo pq w1
    ·rw[qv.mp w1]
     exact⟨kk.toNat,(kk+1+q).toNat,by omega,ag,ah⟩
  ·rintro σ H5 ⟨M,I,v4,v5,rfl,S5,B5,O5,R5,rp,bo,Y⟩
   have xl:I.length=M.length:=by rw[rp.len,zv]
   refine⟨_,rfl,_,rfl,_,rfl,b,4,_,rfl,B5,by omega,by decide,by decide,fun r9 H6 al am B6 J=>⟨rfl,.inr ⟨_,rfl,_,rfl,R,I,rfl,u3 (J _ _ R5 U),fun s1 L=>?_⟩⟩⟩
   have R6:=J _ _ R5 U;obtain⟨t,et⟩:∃t:Nat,qP I none (some (if decide (V.int r9=V.int 0)=true then(1:Int) else 0))=I.take t/\t<=1:=by
    unfold qP;by_cases hd:decide (V.int r9=V.int 0)=true
    ·rw[zF hd,show(some (1:Int))=some ((1:Nat):Int) from rfl,HT.sIx_nat,HT.sIx_none]
     refine⟨min 1 I.length,by simp,by omega⟩
    ·rw[zB hd,show(some (0:Int))=some ((0:Nat):Int) from rfl,HT.sIx_nat,HT.sIx_none]
     refine⟨0,by simp,by omega⟩
   rw[et.1];have st:SameT H5 H6:=.draw B5 J;have ai:=Reps.keep st (xT M) rp;have tl:(I.take t).length<=1:=by rw[qI];omega
   refine⟨R,s1,_,_,rfl,rfl,(zd L) _ _ R6,zc,by omega,fun c1 a6=>⟨c1,_,rfl,.inl ⟨u3 zc,fun p hp=>?_⟩⟩⟩
   have sm:=((zd (o:=.lst (I.take t)) L).trans (zd (o:=.lst (I++I.take t)) a6)).trans (zd (o:=.tup (I++I.take t)) hp);refine k p (M++M.take t) D _ ((((S5.trans J).new L).new a6).new hp) ((((B6.new L).new a6).new hp).mono (by omega)) ⟨p,_,rfl,u5 zc,?_⟩ op (fun pq a7=>?_) (by rw[qR,qI];omega)
   ·have aa:=Reps.keep (SameT.of sm) (xT M) ai
    have rt:=Reps.take t aa;rw[<- List.map_take] at rt;have:=Reps.app aa rt;rw[<- qm] at this;exact this
   ·rcases ju.mp a7 with w1 | w1
    ·exact bo pq w1
    ·exact bo pq (List.mem_of_mem_take w1)
structure zbc where
 k:Str
 x:Int
 y:Int
structure XE where
 k:Str
 x:Int
 y:Int
 m:Int
def jq(p:zbc):Dat:=.tup [.str p.k,.tup [.int p.x,.int p.y]]
def jP(p:XE):Dat:=.tup [.str p.k,.tup [.int p.x,.int p.y],.int p.m]
theorem vz:∀(b:List XE),Dat.imms (b.map jP)=true
 | []=>rfl
 | p::b=>by
  show(Dat.imm (jP p)&&Dat.imms (b.map jP))=true;rw[vz b];rfl
theorem xt:∀(b:List zbc),Dat.imms (b.map jq)=true
 | []=>rfl
 | p::b=>by
  show(Dat.imm (jq p)&&Dat.imms (b.map jq))=true;rw[xt b];rfl
def inP(x y:Int):Prop:=0<=x/\x<=1000/\0<=y/\y<=1000
inductive X2(K:W.Frag)(B:List V)(H:Hp)(Q:VK):Prop
 | mk (b o A:Addr) (D:Bool) (n:Int) (c:List Str) (g:List zbc) (_:B=[.ref b,.ref o,.ref A,.bl D]) (_:BoxAt H b n) (_:n<900000) (_:o≠b) (_:Row H o c) (_:1<=c.length) (_:c.length<=12) (_:Rep K H (.tup (g.map jq)) (.ref A)) (_:g.length<=100) (_:∀(p:Addr) (l:List XE) (s:List Str) i,SameB b H i->BoxAt i b (n+400)->Rep K i (.tup (l.map jP)) (.ref p)->(l.map (·.k)).Perm (c++s)->(∀e∈s,e∈c)->l.length<=20->(∀f∈l,Nm f.k/\inP f.x f.y/\0<=f.m/\f.m<=400)->Q (.ref p) i):X2 K B H Q
def zbF(K:W.Frag):Sp:=fun b H Q _=>X2 K b H Q
theorem zbT:zD ["_law_box_here","_law_kinds","_law_parts","_law_plenty","_law_great","_law_more","_law_some","_law_found","_law_kind","_law_need","_law_many"] ["_law_box_here","_law_kinds","_law_parts","_law_plenty"] (zr (topL 40)):=u0
theorem zbr{ns:List Str}{i:Int}(h:0<=i)(b:i<ns.length):∃x,atI (ns.map V.str) i=some (.str x)/\x∈ns:=by
 obtain⟨v,e1,e2⟩:=vL (xs:=ns.map V.str) h (by rw[zv];exact b)
 rw[jM] at e2;obtain⟨x,hx,rfl⟩:=jN.mp e2;exact⟨x,e1,qY hx⟩
theorem zgC{a c r:Int}(h:0<=r)(g:r<3)(a0:0<=a)(a1:a<=400)(b:0<=c)(f:c<=400):∃z:Int,atI [V.int a,V.int c,V.int 400] r=some (.int z)/\0<=z/\z<=400:=by
 have hc:r=0\/r=1\/r=2:=by omega
 rcases hc with rfl | rfl | rfl
 ·exact⟨a,rfl,a0,a1⟩
 ·exact⟨c,rfl,b,f⟩
 ·exact⟨400,rfl,by omega,by omega⟩
theorem zdG{f:Addr}{fd:FuncData}(F:Fun K "_law_feeders" "_law_feeders" (topL 40) f fd)(B:Blt G)(J:Dfn P w K G u "_law_take" 1 ["_law_box_here","_law_size"] jU)(O:Dfn P w K G u "_law_shuffled" 2 ["_law_box_here","_law_some"] (V1 K))(Y:Dfn P w K G u "_law_place" 2 ["_law_box_here","_law_taken"] (yo K)):FnOk P w K G u CX0 3 f fd ["_law_box_here","_law_kinds","_law_parts","_law_plenty"] (zbF K):=by
 have nd:=zbT.nd;refine F.ok zbT (fun vs H Q E h=>?_) (fun b6 A ax s H vs Q E hr h=>?_)
 ·obtain⟨b,ks,ps,pl,n,I,N,rfl,_⟩:=h
  rfl
 ·obtain⟨b,ks,ps,pl,n,I,N,rfl,B0,hn,nk,Rk,k0,k1,hp,lp,k⟩:=h
  have b5:=bG100000;have ao:=bGe;have ek:(I.map V.str).length=I.length:=zv ..;refine⟨_,(zf (zA (i:=4) nd rfl (Or.inl rfl) (qD qV (zg J hr.m rfl (za (pv 0) (za ze zb))) ze (zC _)))
   (zf (j7 (zA (i:=5) nd rfl (Or.inl rfl) (zg J hr.m rfl (za (pv 0) (za (jn (zS (pv 4)) (zu xu ze (zk zo rfl B.len boot_len (za (pv 1) zb))) ze) zb)))))
   (zf (zA (i:=6) nd rfl (Or.inl rfl) (zu vo (pv 1) (qS ["_law_kinds","_law_box_here"] [1,0] rfl rfl (by kernel_rfl) (qG rfl B.range (za (pv 5) zb)) (fun _ _ _ _=>qN) (fun _ _ _ _=>(zV (Vt (K:=K) rfl) (pv 1) (zg J hr.m rfl (za (pv 2) (za (zk (vq (K:=K) rfl) rfl B.len boot_len (za (pv 1) zb)) zb))) (fun _ _=>rfl))))))
   (zf (zA (i:=7) nd rfl (Or.inl rfl) (zU zb))
   (zf (jH xm rfl (xN (zg O hr.m rfl (za (pv 0) (za (pv 6) zb)))) (zG (i:=8) nd rfl (Or.inr rfl))
   (zf (zA (i:=9) nd rfl (Or.inl rfl) (zk zo rfl B.len boot_len (za (qS ["_law_kind"] [8] rfl rfl (by kernel_rfl) (jI (pv 2)) (fun _ _ _ _=>(J2 (zE qV (zV (ZV (K:=K) rfl) (pv 0) ze (fun _ _=>rfl)) (pv 1) (zC _)))) (fun _ _ _ _=>(pv 0))) zb)))
    (zf (j7 (zA (i:=10) nd rfl (Or.inl rfl) (jn (zS (pv 3)) (zV zW (zU (za (pv 9) (za (zu zT (pv 9) (zg J hr.m rfl (za (pv 0) (za ze zb)))) (za ze zb)))) (zg J hr.m rfl (za (pv 0) (za ze zb))) (fun _ _=>rfl)) (zg J hr.m rfl (za (pv 0) (za ze zb))))))
    (zj (xM (yy yL QC QB xA (pv 7) (za (zP (za (pv 8) (za (zg Y hr.m rfl (za (pv 0) (za (zU zb) zb))) (za (pv 10) zb)))) zb)))))))
   (zj (zq (zX qM rfl B.tuple zJ (za (pv 7) zb))))))))),?_⟩
  refine⟨_,rfl,b,8,n,rfl,B0,by omega,by decide,by decide,fun r H1 r0 r1 B1 S1=>⟨rfl,?_⟩⟩
  have ak:=Rk.draw S1 nk;refine⟨fun σ' H'=>Ex1 fun(more:Int)=>An6 (σ'=[some (.ref b),some (.ref ks),some (.ref ps),some (.bl pl),some (.bl (decide (V.int r=V.int 0))),some (.int more),none,none,none,none,none]) (0<=more) (more<=20) ((I.length:Int)+more<=20) (SameB b H H') (BoxAt H' b (n+2)),?_,?_⟩
  ·refine⟨_,rfl,_,rfl,_,rfl,zR (fun c=>?_) (fun c=>?_)⟩
   ·exact⟨_,rfl,ks,_,rfl,.inl (u3 ak.1),_,_,rfl,rfl,b,_,_,rfl,B1,by omega,by omega,by omega,fun more H2 a0 a1 B2 S2=>⟨_,rfl,a0,by omega,by omega,S1.trans S2,B2.mono (by omega)⟩⟩
   ·exact⟨b,4,_,rfl,B1,by omega,by decide,by decide,fun more H2 a0 a1 B2 S2=>⟨_,rfl,a0,by omega,by omega,S1.trans S2,B2.mono (by omega)⟩⟩
  rintro σ' H2 ⟨more,rfl,b8,b9,ba,S2,B2⟩;clear S1 B1 ak;have a8:=Rk.draw S2 nk;refine⟨_,rfl,_,rfl,_,rfl,(by rw[ao];omega),(by rw[ao];omega),wa (fun j U H3=>Ex1 fun(M:List Str)=>An5 (U=M.map V.str) (M.length=j) ((∀x∈M,x∈I)) (SameB b H2 H3) (BoxAt H3 b (n+2+j))) ⟨[],rfl,rfl,(fun x h=>nomatch h),u7 _ _,B2.mono (by omega)⟩ ?_ ?_⟩
  ·rintro j U H3 hj ⟨M,rfl,el,ee,S3,B3⟩
   refine⟨rfl,⟨_,rfl,_,rfl,_,rfl,ks,_,rfl,.inl (u3 (a8.draw S3 nk).1),b,_,_,rfl,B3,by omega,by omega,by omega,fun q H4 q0 q1 B4 S4=>?_⟩⟩
   obtain⟨y,ey,my⟩:=zbr (ns:=I) q0 (by omega)
   refine⟨ks,_,_,_,rfl,rfl,u3 (a8.draw (S3.trans S4) nk).1,ey,by rw[zv,el];omega,M++[y],by rw[qm];rfl,by rw[qR,el];rfl,fun x hx=>?_,S3.trans S4,B4.mono (by omega)⟩
   rcases ju.mp hx with pq | pq
   ·exact ee x pq
   ·rw[qv.mp pq];exact my
  rintro U H3 ⟨M,rfl,el,ee,S3,B3⟩;refine⟨by rw[zv,el];omega,fun D hD=>?_⟩
  have am:=(S2.trans S3).new (o:=.lst (M.map V.str)) hD;have al:=(a8.draw S3 nk).same (zd (o:=.lst (M.map V.str)) hD);refine⟨ks,D,_,_,rfl,rfl,al.1,zc,by rw[ek,zv,el];omega,fun sm hs=>?_⟩
  have B4:=(B3.new (o:=.lst (M.map V.str)) hD).new (o:=.lst (I.map V.str++M.map V.str)) hs;have S4:=am.new (o:=.lst (I.map V.str++M.map V.str)) hs;have ns:=(B3.new (o:=.lst (M.map V.str)) hD).nne hs;have M4:upd (upd H3 D (.lst (M.map V.str))) sm (.lst (I.map V.str++M.map V.str)) sm=some (.lst ((I++M).map V.str)):=by rw[zc,qm]
  generalize upd (upd H3 D (.lst (M.map V.str))) sm (.lst (I.map V.str++M.map V.str))=H4 at B4 S4 M4;clear S2 S3 am a8 al B2 B3 hD hs;refine⟨le0,fun R hR=>?_⟩
  have nR:=B4.nne hR;have RH:H R=none:=S4.none hR nR;have a9:((I++M).map V.str).length<=20:=by rw[zv,qR,el];omega
  refine⟨_,rfl,_,rfl,b,sm,_,_,rfl,B4.new hR,by omega,ns,(zd hR) _ _ M4,by omega,fun l ys H5 S5 B5 nl lN hl pm=>?_⟩
  obtain⟨sh,ag,rfl⟩:=yw pm rfl;have as:=(S4.new (o:=.lst []) hR).trans S5;have R5:H5 R=some (.lst []):=S5 _ _ zc nR;have lR:l≠R:=fun z=>by rw[z,zc] at lN;cases lN
  have be:sh.length<=20:=by rw[ag.length_eq];rw[zv] at a9;exact a9
  have b0:∀x∈sh,Nm x:=fun x hx=>by
   rcases ju.mp (ag.mem_iff.mp hx) with q | q
   ·exact Rk.2 x q
   ·exact Rk.2 x (ee x q)
  clear pm M4 S4 S5 B4 hR;refine⟨l,rfl,⟨_,u3 hl⟩,wb (K:=K) (a:=l) (xs:=sh.map V.str) (fun i σ H6=>Ex6 fun(fs:List XE) (xs:List V) (v6 v8 v9 ah:Option V)=>An8 (σ=[some (.ref b),some (.ref ks),some (.ref ps),some (.bl pl),some (.bl (decide (V.int r=V.int 0))),some (.int more),v6,some (.ref R),v8,v9,ah]) (SameB b H H6) (BoxAt H6 b (n+60+6*i)) (H6 l=some (.lst (sh.map V.str))) (H6 R=some (.lst xs)) (Reps K H6 (fs.map jP) xs) (fs.map (·.k)=sh.take i) (∀f∈fs,Nm f.k/\inP f.x f.y/\0<=f.m/\f.m<=400))
   ⟨[],[],_,_,_,_,rfl,as,B5.mono (by omega),hl,R5,rfl,rfl,(fun f h=>nomatch h)⟩ (fun i σ H6 _ ⟨_,_,_,_,_,_,_,_,_,h,_,_,_,_⟩=>u3 h) ?_ ?_⟩
  ·rintro i x σ H6 hx ⟨fs,xs,v6,v8,v9,ah,rfl,S6,B6,L6,R6,rp,fk,fa⟩
   rw[jM] at hx;obtain⟨kd,ae,rfl⟩:=jN.mp hx;have hi:=(qg.mp ae).1;have fl:fs.length=i:=by
    have:=congrArg List.length fk;rw[zv,qI] at this;omega
   have xl:xs.length=i:=by rw[rp.len,zv,fl]
   have aw:=Rep.keep (d:=.tup (N.map jq)) (ud B0 S6) (xt N) hp;obtain⟨_,aq,ep,hq,ap⟩:=aw;cases ep;have bb:aq.length=N.length:=by rw[ap.len,zv]
   refine⟨_,rfl,ps,rfl,⟨_,hq⟩,jW (K:=K) (a:=ps) (xs:=aq) (fun j U H7=>U.length<=j/\Same H6 H7) ⟨zi _,u4 _⟩ (fun j U H7 ⟨_,s7⟩=>s7.sqT hq) ?_ ?_⟩
   ·rintro j v U H7 hv ⟨zl,s7⟩
    have hj:=(qg.mp hv).1;obtain⟨d,hd,rd⟩:=ap.get hv;rw[jM] at hd;obtain⟨pt,_,rfl⟩:=jN.mp hd;obtain⟨c,b7,rfl,hc,u1,bd,e1,e2,e3⟩:=rd;subst e1;cases(show u1=.str pt.k from e2)
    refine⟨rfl,⟨_,rfl,c,_,_,.str pt.k,rfl,rfl,s7.sqT hc,ZX (j:=0) rfl,_,rfl,rfl,_,rfl,zR (fun dd=>⟨_,rfl,by omega,by rw[qR];simp;omega,s7⟩) (fun dd=>⟨by omega,s7⟩)⟩⟩
   rintro U H7 ⟨zl,s7⟩;refine⟨by omega,fun D2 au=>⟨D2,U,rfl,.inl (u3 zc),?_⟩⟩
   have s8:=s7.trans (zd (o:=.lst U) au);have B8:=B6.same s8;generalize upd H7 D2 (.lst U)=H8 at s8 B8;refine⟨fun σ' H'=>Ex1 fun(L:Int)=>An5 (σ'=[some (.ref b),some (.ref ks),some (.ref ps),some (.bl pl),some (.bl (decide (V.int r=V.int 0))),some (.int more),v6,some (.ref R),some (.str kd),some (.int (U.length:Int)),some (.int L)]) (0<=L) (L<=400) (SameB b H8 H') (BoxAt H' b (n+60+6*i+2)),?_,?_⟩
   ·refine⟨_,rfl,_,rfl,zR (fun c=>?_) (fun c=>?_)⟩
    ·refine⟨_,rfl,_,rfl,_,rfl,b,9,_,rfl,B8,by omega,by decide,by decide,fun q9 H9 a0 a1 B9 S9=>⟨_,_,rfl,rfl,le3,fun l3 h3=>⟨_,rfl,b,3,_,rfl,B9.new h3,by omega,by decide,by decide,fun q3 ai c0 c1 aa a6=>?_⟩⟩⟩
     have ar:=a6 l3 _ zc (B9.nne h3);obtain⟨z,ez,z0,z1⟩:=zgC (a:=(U.length:Int)) (c:=(U.length:Int)+q9) c0 c1 (by omega) (by omega) (by omega) (by omega)
     exact⟨l3,_,_,_,rfl,rfl,u3 ar,ez,z,rfl,z0,z1,(S9.new h3).trans a6,aa.mono (by omega)⟩
    ·exact⟨_,rfl,b,4,_,rfl,B8,by omega,by decide,by decide,fun q9 H9 a0 a1 B9 S9=>⟨q9,rfl,a0,by omega,S9,B9.mono (by omega)⟩⟩
   rintro σ' H9 ⟨L,rfl,y0,y1,S9,B9⟩;have an:=(u8 (b:=b) s8).trans S9;have R9:=an _ _ R6 nR;refine⟨_,rfl,.inl ⟨rfl,_,u3 R9⟩,_,rfl,_,rfl,le0,fun e he=>⟨b,e,_,[],rfl,B9.new he,by omega,B9.nne he,zc,zY _,(fun a h=>nomatch h),fun pp ai a6 aa bc pa _=>⟨_,rfl,le3,fun T hT=>?_⟩⟩⟩
   obtain⟨px,py,a7,b1,b2,b3,b4⟩:=pa;have ab:=a6 _ _ ((zd he) _ _ R9) nR;have aj:=(zd (o:=.tup [.str kd,.ref pp,.int L]) hT) _ _ ab;refine⟨R,xs,.ref T,rfl,rfl,aj,by omega,?_⟩
   have ac:=(an.new he).trans (a6.new (o:=.tup [.str kd,.ref pp,.int L]) hT);have st:SameT H6 (upd (upd ai T (.tup [.str kd,.ref pp,.int L])) R (.lst (xs++[.ref T]))):=(ud B6 ac).trans (.put aj);have TR:T≠R:=fun z=>by rw[z,ab] at hT;cases hT
   have ay:pp≠R:=fun z=>by rw[z,ab] at a7;cases a7
   have az:pp≠T:=fun z=>by rw[z,hT] at a7;cases a7
   refine⟨fs++[⟨kd,px,py,L⟩],_,_,_,_,_,rfl,(S6.trans ac).put RH,((aa.new hT).other nR).mono (by omega),by rw[zt lR];exact ac _ _ L6 nl,zc,?_,?_,fun g av=>?_⟩
   ·rw[qm]
    refine Reps.snoc ?_ (Reps.keep st (vz fs) rp)
    refine⟨T,_,rfl,u5 (by rw[zt TR];exact zc),_,_,rfl,rfl,_,_,rfl,⟨pp,_,rfl,u5 (by rw[zt ay,zt az];exact a7),_,_,rfl,rfl,_,_,rfl,rfl,rfl⟩,_,_,rfl,rfl,rfl⟩
   ·rw[qm,fk]
    obtain⟨h1,h2⟩:=qg.mp ae;rw[<- vV h1,h2];rfl
   ·rcases ju.mp av with q | q
    ·exact fa g q
    ·rw[qv.mp q]
     exact⟨b0 kd (qY ae),⟨b1,b2,b3,b4⟩,y0,y1⟩
  ·rintro σ H6 ⟨fs,xs,v6,v8,v9,ah,rfl,S6,B6,L6,R6,rp,fk,fa⟩
   rw[zv,jL] at fk;have fl:fs.length<=20:=by
    have:=congrArg List.length fk;rw[zv] at this;omega
   refine⟨_,rfl,R,xs,rfl,.inl ⟨u3 R6,fun p af=>?_⟩⟩
   refine k p fs M _ (S6.new af) ((B6.new af).mono (by rw[zv] at *;omega)) ⟨p,_,rfl,u5 zc,Reps.keep (SameT.of (zd af)) (vz fs) rp⟩ (by rw[fk];exact ag) ee (by omega) fa
structure Job where
 gx:Int
 gy:Int
 hd:Int
 fs:List XE
 ps:List zbc
 as:List (Nat×Nat)
def Q6(J:Job):Dat:=.tup [.tup [.int J.gx,.int J.gy],.int J.hd,.tup (J.fs.map jP),.tup (J.ps.map jq),vM J.as]
theorem yB(J:Job):(Q6 J).imm=true:=by
 show(true&&(true&&(Dat.imms (J.fs.map jP)&&(Dat.imms (J.ps.map jq)&&(Dat.imms (J.as.map vN)&&true)))))=true;rw[vz,xt,xT];rfl
structure Y4(J:Job)(ord:List Nat):Prop where
 gate:inP J.gx J.gy
 hd0:1<=J.hd
 hd1:J.hd<=4
 fl:J.fs.length<=20
 fa:∀f∈J.fs,Nm f.k/\inP f.x f.y/\0<=f.m/\f.m<=400
 pl:J.ps.length<=60
 pa:∀p∈J.ps,Nm p.k/\inP p.x p.y/\∃f∈J.fs,f.k=p.k
 op:ord.Perm (List.range J.ps.length)
 bo:ByOrd ord J.as
 al:J.as.length<=200
 f0:1<=J.fs.length
 pd:(J.ps.map fun p=>(p.x,p.y)).Nodup
 kc:∃ks:List Str,ks.length<=12/\∀p∈J.ps,p.k∈ks
theorem zdq{r:Int}(h0:0<=r)(h1:r<4):∃z:Int,atI [V.int 3,V.int 3,V.int 3,V.int 12] r=some (.int z)/\3<=z/\z<=12:=by
 have hc:r=0\/r=1\/r=2\/r=3:=by omega
 rcases hc with rfl | rfl | rfl | rfl
 ·exact⟨3,rfl,by decide,by decide⟩
 ·exact⟨3,rfl,by decide,by decide⟩
 ·exact⟨3,rfl,by decide,by decide⟩
 ·exact⟨12,rfl,by decide,by decide⟩
inductive Yk(K:W.Frag)(l:List V)(H:Hp)(Q:VK):Prop
 | mk (b:Addr) (f c n:Int) (o:Bool) (_:l=[.ref b,.int f,.int c,.bl o]) (_:BoxAt H b n) (_:n<500000) (_:0<=f) (_:f<=60) (_:0<=c) (_:c<=60) (_:∀(p:Addr) (J:Job) (i:List Nat) g,SameB b H g->BoxAt g b (n+3000)->Rep K g (Q6 J) (.ref p)->Y4 J i->Q (.ref p) g):Yk K l H Q
def zbB(K:W.Frag):Sp:=fun b H Q _=>Yk K b H Q
theorem zev:zD ["_law_box_here","_law_few","_law_most","_law_plenty","_law_many","_law_kinds","_law_parts","_law_feeders_here"] ["_law_box_here","_law_few","_law_most","_law_plenty"] (zr (topL 42)):=u0
def Y8(b:_)(f:_)(c:_)(i:_)(H:_)(n:_):=fun(l:St) (g:Hp)=>(Ex1 fun(m:Int)=>An5 (l=[some (.ref b),some (.int f),some (.int c),some (.bl i),some (.int m),none,none,none]) (0<=m) (m<=60) (SameB b H g) (BoxAt g b (n+2)):Prop)
theorem zfr{f:Addr}{fd:FuncData}(F:Fun K "_law_job" "_law_job" (topL 42) f fd)(B:Blt G)(g:Dfn P w K G u "_law_take" 1 ["_law_box_here","_law_size"] jU)(Y:Dfn P w K G u "_law_names" 3 ["_law_box_here","_law_many"] Ye)(a6:Dfn P w K G u "_law_place" 2 ["_law_box_here","_law_taken"] (yo K))(N:Dfn P w K G u "_law_places" 3 ["_law_box_here","_law_many"] XX)
  (L:Dfn P w K G u "_law_feeders" 3 ["_law_box_here","_law_kinds","_law_parts","_law_plenty"] (zbF K)) (M:Dfn P w K G u "_law_aheads" 3 ["_law_box_here","_law_many"] (X4 K)):FnOk P w K G u CX0 4 f fd ["_law_box_here","_law_few","_law_most","_law_plenty"] (zbB K):=by
 have nd:=zev.nd;refine F.ok zev (fun vs H Q E h=>?_) (fun bf A b9 s H vs Q E hr h=>?_)
 ·obtain⟨b,ak,aa,n,pl,rfl,_⟩:=h
  rfl
 ·obtain⟨b,ak,aa,n,pl,rfl,B0,hn,f0,f1,bg,bh,k⟩:=h
  have bd:=bG100000;refine⟨_,(zf (j7 (zA (i:=4) nd rfl (Or.inl rfl) (zg g hr.m rfl (za (pv 0) (za (zu zT (jn (zE Zz (zg g hr.m rfl (za (pv 0) (za ze zb))) ze (zC _)) (pv 1) (pv 2)) ze) zb)))))
   (zf (zA (i:=5) nd rfl (Or.inr rfl) (zg Y hr.m rfl (za (pv 0) (za (zu zT ze (zg g hr.m rfl (za (pv 0) (za (zV zW (zU (za ze (za ze (za ze (za ze zb))))) (zg g hr.m rfl (za (pv 0) (za ze zb))) (fun _ _=>rfl)) zb)))) zb))))
   (zf (zA (i:=6) nd rfl (Or.inl rfl) (zX qM rfl B.tuple zJ (za (qS ["_law_kinds","_law_box_here"] [5,0] rfl rfl (by kernel_rfl) (xN (zg N hr.m rfl (za (pv 0) (za (pv 4) zb)))) (fun _ _ _ _=>qN) (fun _ _ _ _=>(zP (za (zV (Vt (K:=K) rfl) (pv 1) (zg g hr.m rfl (za (pv 2) (za (zk (vq (K:=K) rfl) rfl B.len boot_len (za (pv 1) zb)) zb))) (fun _ _=>rfl)) (za (pv 0) zb))))) zb)))
   (zf (zA (i:=7) nd rfl (Or.inl rfl) (zg L hr.m rfl (za (pv 0) (za (pv 5) (za (pv 6) (za (pv 3) zb))))))
   (zj (zq (zP (pa5 (zg a6 hr.m rfl (za (pv 0) (za (zU zb) zb))) (zu zT ze (zg g hr.m rfl (za (pv 0) (za ze zb)))) (pv 7) (pv 6) (zg M hr.m rfl (za (pv 0) (za (pv 4) zb))))))))))),?_⟩
  refine⟨Y8 b ak aa pl H n,?_,?_⟩
  ·refine⟨_,rfl,_,rfl,b,8,n,rfl,B0,by omega,by decide,by decide,fun r H1 r0 r1 B1 S1=>⟨_,_,rfl,rfl,_,rfl,zR (fun c=>⟨_,rfl,_,_,rfl,rfl,?_⟩) (fun c=>⟨_,rfl,_,_,rfl,rfl,?_⟩)⟩⟩
   ·exact⟨b,_,_,rfl,B1,by omega,by omega,by omega,fun m H2 a0 a1 B2 S2=>⟨m,rfl,a0,by omega,S1.trans S2,B2.mono (by omega)⟩⟩
   ·exact⟨b,_,_,rfl,B1,by omega,by omega,by omega,fun m H2 a0 a1 B2 S2=>⟨m,rfl,a0,by omega,S1.trans S2,B2.mono (by omega)⟩⟩
  rintro σ' H2 ⟨m,rfl,m0,m1,S2,B2⟩;refine⟨_,rfl,_,rfl,le4,fun l1 h1=>⟨_,rfl,b,4,_,rfl,B2.new h1,by omega,by decide,by decide,fun r H3 r0 r1 B3 S3=>?_⟩⟩
  have L3:=S3 l1 _ zc (B2.nne h1);obtain⟨z,ez,z0,z1⟩:=zdq r0 r1;refine⟨l1,_,_,_,rfl,rfl,u3 L3,ez,b,z,_,rfl,B3,by omega,by omega,by omega,fun q H4 q0 q1 B4 S4=>⟨_,_,rfl,rfl,b,1+q,_,rfl,B4,by omega,by omega,by omega,fun ks I H5 S5 B5 nk kN Rk kl=>?_⟩⟩
  have aj:=(((S2.new h1).trans S3).trans S4).trans S5;have ek:(I.map V.str).length=I.length:=zv ..;clear S2 S3 S4 S5 B2 B3 B4 L3 h1;refine⟨_,rfl,_,rfl,b,m,_,rfl,B5,by omega,m0,by omega,fun l as H6 S6 B6 nl lN hl pa al ⟨O,aq,b8⟩=>?_⟩
  have a9:=Rk.draw S6 nk;refine⟨l,rfl,⟨_,u3 hl⟩,yA (K:=K) (a:=l) (xs:=as.map V.ref) (fun j U H7=>Ex1 fun(J:List zbc)=>An6 (Reps K H7 (J.map jq) U) (J.length=j) ((∀q∈J,q.k∈I/\inP q.x q.y)) (SameB b H6 H7) (BoxAt H7 b (n+700+j)) ((J.map fun q=>(q.x,q.y))=O.take j)) ⟨[],rfl,rfl,(fun x h=>nomatch h),u7 _ _,B6.mono (by omega),rfl⟩ (fun j U H7 ⟨_,_,_,_,s7,_,_⟩=>u3 (s7 _ _ hl nl)) ?_ ?_⟩
  ·rintro j x U H7 hx ⟨J,rq,ql,qa,S7,B7,qd⟩
   rw[jM] at hx;obtain⟨a,ha,rfl⟩:=jN.mp hx;have hj:=(qg.mp ha).1;have zl:U.length=j:=by rw[rq.len,zv,ql]
   refine⟨rfl,⟨_,rfl,_,rfl,_,rfl,ks,_,rfl,.inl (u3 (a9.draw S7 nk).1),b,_,_,rfl,B7,by omega,by omega,by omega,fun q H8 c0 c1 B8 S8=>?_⟩⟩
   obtain⟨y,ey,my⟩:=zbr (ns:=I) c0 (by omega)
   obtain⟨px,py,an,b1,b2,b3,b4⟩:=(pa a (qY ha)).draw B6 (S7.trans S8);have am:j<O.length:=by rw[<- aq.1];exact hj
   obtain⟨a',e1,e2⟩:=aq.2 j _ (xL am);rw[ha] at e1;cases e1;have e3:=(S7.trans S8) a _ e2 fun z=>by
    obtain⟨w0,w1,w2,e5,_⟩:=id B6;rw[z,e5] at e2;cases e2
   rw[an] at e3;cases e3;refine⟨ks,_,_,_,rfl,rfl,u3 (a9.draw (S7.trans S8) nk).1,ey,_,rfl,le2,fun T hT=>⟨by omega,J++[⟨y,O[j].1,O[j].2⟩],?_,by rw[qR,ql];rfl,fun q hq=>?_,(S7.trans S8).new hT,(B8.new hT).mono (by omega),by rw[qm,qd,<- vV am];rfl⟩⟩
   ·rw[qm]
    have rT:Rep K (upd H8 T (.tup [.str y,.ref a])) (jq ⟨y,O[j].1,O[j].2⟩) (.ref T):=⟨T,_,rfl,u5 zc,_,_,rfl,rfl,_,_,rfl,⟨a,_,rfl,u5 ((zd hT) _ _ an),_,_,rfl,rfl,_,_,rfl,rfl,rfl⟩,rfl⟩;exact Reps.snoc rT (Reps.keep ((ud B7 S8).trans (.of (zd hT))) (xt J) rq)
   ·rcases ju.mp hq with w1 | w1
    ·exact qa q w1
    ·rw[qv.mp w1];exact⟨my,b1,b2,b3,b4⟩
  rintro U H7 ⟨J,rq,ql,qa,S7,B7,qd⟩;rw[zv] at ql qd;have ba:(J.map fun q=>(q.x,q.y)).Nodup:=by rw[qd];exact b8.sublist (Ww _ _)
  have B7:BoxAt H7 b (n+800):=B7.mono (by rw[zv];omega)
  have zl:U.length=as.length:=by rw[rq.len,zv,ql]
  refine⟨by omega,fun D hD=>⟨D,U,rfl,.inl ⟨u3 zc,fun ps ao=>?_⟩⟩⟩
  have sm:=(zd (o:=.lst U) hD).trans (zd (o:=.tup U) ao);have S8:=(aj.trans S6).trans (S7.trans (u8 (b:=b) sm));have B8:=B7.same sm;have ae:=(a9.draw S7 nk).same sm;have P8:Rep K (upd (upd H7 D (.lst U)) ps (.tup U)) (.tup (J.map jq)) (.ref ps):=⟨ps,_,rfl,u5 zc,Reps.keep (.of sm) (xt J) rq⟩;generalize upd (upd H7 D (.lst U)) ps (.tup U)=H8 at sm S8 B8 ae P8;clear aj S6 S7 B5 B6 B7 Rk a9 rq hD ao pa hl;refine⟨_,rfl,_,rfl,_,rfl,_,rfl,b,ks,ps,pl,_,I,J,rfl,B8,by omega,nk,ae,by omega,by omega,P8,by omega,fun fp fs es H9 S9 B9 F9 a7 ee fl fa=>?_⟩
  have P9:=Rep.keep (d:=.tup (J.map jq)) (ud B8 S9) (xt J) P8;refine⟨_,rfl,le0,fun t ht=>⟨b,t,_,[],rfl,B9.new ht,by omega,B9.nne ht,zc,zY _,(fun a h=>nomatch h),fun gp az ai ab gN ga _=>?_⟩⟩
  obtain⟨gx,gy,b6,g1,g2,g3,g4⟩:=ga;refine⟨_,rfl,b,4,_,rfl,ab,by omega,by decide,by decide,fun hd be d0 d1 ac af=>⟨_,_,rfl,rfl,_,rfl,_,rfl,_,rfl,_,rfl,b,m,_,rfl,ac,by omega,m0,by omega,fun ap ah ar a8 ag aw au op bo b5=>⟨leN (by show 5<=1000;decide),fun p hp=>?_⟩⟩⟩
  have t9:SameT H9 a8:=((SameT.of (zd ht)).trans (.draw (B9.new ht) ai)).trans ((ud ab af).trans (.draw ac ag));have bc:SameT az a8:=(ud ab af).trans (.draw ac ag);have up:Same a8 (upd a8 p (.tup [.ref gp,.int (1+hd),.ref fp,.ref ps,.ref ap])):=zd hp;have ax:=Rep.keep (d:=.tup (fs.map jP)) (t9.trans (.of up)) (vz fs) F9;have b0:=Rep.keep (d:=.tup (J.map jq)) (t9.trans (.of up)) (xt J) P9;have av:=Rep.keep (d:=vM ah) (.of up) (xT ah) au;have ay:=(bc.trans (.of up)) gp _ b6 (fun xs h=>nomatch h)
  have bb:J.length=m.toNat:=by omega
  have fk:∀kd∈I,∃f∈fs,f.k=kd:=fun kd b7=>by
   have:=a7.mem_iff.mpr (vm es b7);obtain⟨f,hf,e⟩:=qr.mp this;exact⟨f,hf,e⟩
  refine k p ⟨gx,gy,1+hd,fs,J,ah⟩ ar _ (((S8.trans S9).trans ((u8 (zd ht)).trans ai)).trans ((af.trans ag).new hp)) ((aw.new hp).mono (by omega)) ?_ ?_
  ·exact⟨p,_,rfl,u5 zc,_,_,rfl,⟨gp,_,rfl,u5 ay,_,_,rfl,rfl,_,_,rfl,rfl,rfl⟩,_,_,rfl,rfl,_,_,rfl,ax,_,_,rfl,b0,_,_,rfl,av,rfl⟩
  ·refine⟨⟨g1,g2,g3,g4⟩,by show 1<=1+hd;omega,by show 1+hd<=4;omega,fl,fa,by show J.length<=60;omega,fun q hq=>?_,by show ar.Perm (List.range J.length);rw[bb];exact op,bo,b5,?_,ba,I,by omega,fun p hp=>(qa p hp).1⟩
   ·obtain⟨hk,hi⟩:=qa q hq
    exact⟨ae.2 q.k hk,hi,fk q.k hk⟩
   ·have:=a7.length_eq
    rw[zv,qR] at this;show 1<=fs.length;omega
end
mutual
def Dat.gd(k:Nat):Dat->Bool
 | .int i=>decide (i.natAbs<=10000000000+k)
 | .str x=>x.cps.toList.all fun c=>decide (c<1000000)
 | .lst ds=>Dat.gds k ds
 | .tup ds=>Dat.gds k ds
 | _=>true
def Dat.gds(k:Nat):List Dat->Bool
 | []=>true
 | d::ds=>d.gd k&&Dat.gds k ds
end
mutual
theorem Dat.gd_up{k m:Nat}(h:k<=m):∀{d:Dat},d.gd k=true->d.gd m=true
 | .int i,e=>zQ (by have:=qB (p:=i.natAbs<=10000000000+k) e;omega)
 | .str _,e=>e
 | .lst ds,e=>Dat.gds_up h (ds:=ds) e
 | .tup ds,e=>Dat.gds_up h (ds:=ds) e
 | .non,_=>rfl
 | .bl _,_=>rfl
theorem Dat.gds_up{k m:Nat}(h:k<=m):∀{ds:List Dat},Dat.gds k ds=true->Dat.gds m ds=true
 | [],_=>rfl
 | d::ds,e=>by
  have b:(d.gd k&&Dat.gds k ds)=true:=e;rw[qQ] at b;show(d.gd m&&Dat.gds m ds)=true;rw[Dat.gd_up h b.1,Dat.gds_up h b.2];rfl
end
mutual
theorem Dat.gd_shw{k:Nat}(h:k<=1000):∀{d:Dat},d.gd k=true->d.shw=true
 | .int i,e=>zQ (by have:=qB (p:=i.natAbs<=10000000000+k) e;omega)
 | .str _,e=>e
 | .lst ds,e=>Dat.gds_shw h (ds:=ds) e
 | .tup ds,e=>Dat.gds_shw h (ds:=ds) e
 | .non,_=>rfl
 | .bl _,_=>rfl
theorem Dat.gds_shw{k:Nat}(h:k<=1000):∀{ds:List Dat},Dat.gds k ds=true->Dat.shws ds=true
 | [],_=>rfl
 | d::ds,e=>by
  have b:(d.gd k&&Dat.gds k ds)=true:=e;rw[qQ] at b;show(d.shw&&Dat.shws ds)=true;rw[Dat.gd_shw h b.1,Dat.gds_shw h b.2];rfl
end
structure GdD(k z D:Nat)(d:Dat):Prop where
 g:d.gd k=true
 b:d.blk<=z
 p:d.py.depth<=D
theorem GdD.up{k z D c f b:Nat}{d:Dat}(h:GdD k z D d)(h1:k<=c)(h2:z<=f)(h3:D<=b):GdD c f b d:=⟨Dat.gd_up h1 h.g,qk h.b h2,qk h.p h3⟩
section
variable{P:Program}{w:World}{K:W.Frag}{I:Str->Option Value}{G:Heap}
def DS(K:W.Frag)(F:Hp)(k z D:Nat)(v:V):Prop:=∃d,Rep K F d v/\GdD k z D d
theorem DS.up{F c:Hp}{k z D f i b:Nat}{v:V}(h:DS K F k z D v)(s:Same F c)(h1:k<=f)(h2:z<=i)(h3:D<=b):DS K c f i b v:=let ⟨d,r,g⟩:=h;⟨d,r.same s,g.up h1 h2 h3⟩
theorem yq{F:Hp}{k z D:Nat}:∀{xs:List V},(∀x∈xs,DS K F k z D x)->∃ds,Reps K F ds xs/\Dat.gds k ds=true/\Dat.blks ds<=(z+1)*xs.length/\PyData.depthAll (Dat.pys ds)<=D
 | [],_=>⟨[],rfl,rfl,zY _,zY _⟩
 | x::xs,h=>by
  obtain⟨d,r,g⟩:=h x (by simp)
  obtain⟨ds,c,b,f,i⟩:=yq (xs:=xs) fun y hy=>h y (jh _ hy)
  refine⟨d::ds,⟨x,xs,rfl,r,c⟩,?_,?_,?_⟩
  ·show(d.gd k&&Dat.gds k ds)=true
   rw[g.g,b];rfl
  ·show d.blk+1+Dat.blks ds<=_
   have:=g.b;rw[jv,Nat.mul_succ];omega
  ·show max d.py.depth (PyData.depthAll (Dat.pys ds))<=D
   have:=g.p;omega
theorem DS.lst{F:Hp}{k z D z':Nat}{a:Addr}{c:List V}(h:SqL K F a c)(all:∀x∈c,DS K F k z D x)(f:(z+1)*c.length<=z'):DS K F k z' (D+1) (.ref a):=by
 obtain⟨ds,r,g,b,p⟩:=yq all;refine⟨.lst ds,⟨a,c,rfl,h,r⟩,g,qk b f,?_⟩
 show PyData.depth (.list (Dat.pys ds))<=_;simp only[PyData.depth];omega
theorem DS.tup{F:Hp}{k z D z':Nat}{a:Addr}{c:List V}(h:SqT K F a c)(all:∀x∈c,DS K F k z D x)(f:(z+1)*c.length<=z'):DS K F k z' (D+1) (.ref a):=by
 obtain⟨ds,r,g,b,p⟩:=yq all;refine⟨.tup ds,⟨a,c,rfl,h,r⟩,g,qk b f,?_⟩
 show PyData.depth (.tuple (Dat.pys ds))<=_;simp only[PyData.depth];omega
def uc:=@DS.tup
theorem Qz{F:Hp}{k z D:Nat}:∀{ds:List Dat} {f:List V},Reps K F ds f->Dat.gds k ds=true->Dat.blks ds<=z->PyData.depthAll (Dat.pys ds)<=D->f.length<=z/\∀x∈f,DS K F k (z-1) D x
 | [],_,h,_,_,_=>by rw[show _=_ from h];exact⟨zY _,fun x hx=>nomatch hx⟩
 | d::ds,_,h,g,b,p=>by
  obtain⟨v,r,e,h1,h2⟩:=h;subst e;have c:(d.gd k&&Dat.gds k ds)=true:=g;rw[qQ] at c;have o:d.blk+1+Dat.blks ds<=z:=b;have s:max d.py.depth (PyData.depthAll (Dat.pys ds))<=D:=p;obtain⟨l,i⟩:=Qz (z:=z-1) (k:=k) (D:=D) h2 c.2 (by omega) (by omega)
  refine⟨by rw[jv];omega,fun x hx=>?_⟩
  rcases z9.mp hx with q | q
  ·rw[q];exact⟨d,h1,c.1,by omega,by omega⟩
  ·exact(i x q).up (u4 _) (zi _) (by omega) (zi _)
theorem SqQ.same{H b:Hp}{t:Bool}{a:Addr}{c:List V}(h:SqQ K H t a c)(s:Same H b):SqQ K b t a c:=by
 cases t with
 | true=>exact s.sqT h
 | false=>exact s.seq h
theorem SqQ.or{H:Hp}{t:Bool}{a:Addr}{b:List V}(h:SqQ K H t a b):SqL K H a b\/SqT K H a b:=by
 cases t with
 | true=>exact .inr h
 | false=>exact .inl h
def tyQ(t:Bool):String:=if t=true then "tuple" else "list"
theorem SqQ.ty{H:Hp}{t:Bool}{a:Addr}{b:List V}(h:SqQ K H t a b):TyN K H (.ref a) (tyQ t):=by
 cases t with
 | true=>exact .inr ⟨rfl,b,h⟩
 | false=>exact .inl ⟨rfl,b,h⟩
theorem DS.split{F:Hp}{k z D:Nat}{v:V}(h:DS K F k z D v):v=.non\/(∃c,v=.bl c)\/(∃i:Int,v=.int i/\i.natAbs<=10000000000+k)\/(∃x:Str,v=.str x)\/∃(a:Addr) (t:Bool) (f:List V),v=.ref a/\SqQ K F t a f/\f.length<=z/\1<=D/\∀x∈f,DS K F k (z-1) (D-1) x:=by
 obtain⟨d,r,g,b,p⟩:=h;cases d with
 | non=>exact .inl r
 | bl c=>exact .inr (.inl ⟨c,r⟩)
 | int i=>exact .inr (.inr (.inl ⟨i,r,qB g⟩))
 | str x=>exact .inr (.inr (.inr (.inl ⟨x,r⟩)))
 | lst ds=>
  obtain⟨a,f,e,q,u⟩:=r;have s:PyData.depth (.list (Dat.pys ds))<=D:=p;simp only[PyData.depth] at s;obtain⟨l,o⟩:=Qz (z:=z) (D:=D-1) u g b (by omega)
  exact .inr (.inr (.inr (.inr ⟨a,false,f,e,q,l,by omega,o⟩)))
 | tup ds=>
  obtain⟨a,f,e,q,u⟩:=r;have s:PyData.depth (.tuple (Dat.pys ds))<=D:=p;simp only[PyData.depth] at s;obtain⟨l,o⟩:=Qz (z:=z) (D:=D-1) u g b (by omega)
  exact .inr (.inr (.inr (.inr ⟨a,true,f,e,q,l,by omega,o⟩)))
theorem wQ{k:Nat}{i:Int}(h:i.natAbs<=10000000000+k)(z D:Nat):GdD k z D (.int i):=⟨zQ h,zY _,by show PyData.depth (.int i)<=_;simp[PyData.depth]⟩
theorem DS.non{F:Hp}{k z D:Nat}:DS K F k z D .non:=⟨.non,rfl,rfl,zY _,by show PyData.depth .none<=_;simp[PyData.depth]⟩
theorem DS.bl{F:Hp}{k z D:Nat}(b:Bool):DS K F k z D (.bl b):=⟨.bl b,rfl,rfl,zY _,by show PyData.depth (.bool b)<=_;simp[PyData.depth]⟩
theorem DS.int{F:Hp}{k z D:Nat}{i:Int}(h:i.natAbs<=10000000000+k):DS K F k z D (.int i):=⟨.int i,rfl,wQ h z D⟩
def u9:=@DS.int
theorem DS.str{F:Hp}{k z D:Nat}{x:Str}(h:x.length<=z)(hc:∀c∈x.cps.toList,c<1000000):DS K F k z D (.str x):=⟨.str x,rfl,jw.mpr fun c b=>zQ (hc c b),h,by show PyData.depth (.str x)<=_;simp[PyData.depth]⟩
theorem DS.istr{F:Hp}{k z D:Nat}{i:Int}(h:i.natAbs<1000000000000)(g:13<=z):DS K F k z D (.str (toString i)):=by
 refine DS.str (qk (Wh h) g) fun c hc=>?_
 have e:(Str.ofString (toString i)).cps.toList=(toString i).toList.map Char.toNat:=by rw[Str.ofString_eq_toList]
 have b:c∈(Str.ofString (toString i)).cps.toList:=hc;rw[e] at b;obtain⟨f,h1,rfl⟩:=qr.mp b;have:=int_ascii i f h1;omega
theorem zhd(c:List V)(a b:Nat):(qP c (some (a:Int)) (some (b:Int))).length<=b-a/\(qP c (some (a:Int)) (some (b:Int))).length<=c.length-a:=by
 unfold qP;rw[HT.sIx_nat,HT.sIx_nat];rw[qI,yf];omega
structure Ex(H:Hp)(b:Addr)(ex:List Addr):Prop where
 mem:b∈ex
 al:∀e∈ex,∃o,H e=some o
theorem Ex.next{H c:Hp}{b:Addr}{f:List Addr}{m:Int}(h:Ex H b f)(s:SameB b H c)(B:BoxAt c b m):Ex c b f:=⟨h.mem,fun e g=>by
 by_cases z:e=b
 ·rw[z];exact B.some
 ·obtain⟨o,q⟩:=h.al e g
  exact⟨o,s e o q z⟩⟩
theorem Ex.same{H c:Hp}{b:Addr}{f:List Addr}(h:Ex H b f)(s:Same H c):Ex c b f:=⟨h.mem,fun e g=>let ⟨o,q⟩:=h.al e g;⟨o,s e o q⟩⟩
theorem Ex.out{H:Hp}{b p:Addr}{c:List Addr}(h:Ex H b c)(hp:H p=none):p∉c:=fun z=>by
 obtain⟨o,q⟩:=h.al p z;rw[hp] at q;cases q
theorem Ex.cons{H:Hp}{b m:Addr}{o:HO}{c:List Addr}(h:Ex H b c)(g:H m=some o):Ex H b (m::c):=⟨jh _ h.mem,fun e f=>(z9.mp f).elim (fun z=>⟨o,by rw[z];exact g⟩) (h.al e)⟩
theorem Ex.put{H:Hp}{b m:Addr}{o:HO}{c:List Addr}(h:Ex H b c):Ex (upd H m o) b c:=⟨h.mem,fun e f=>by
 by_cases z:e=m
 ·rw[z];exact⟨o,zc⟩
 ·rw[zt z];exact h.al e f⟩
theorem WX.draw{f:List Addr}{H g:Hp}{b:Addr}(h:b∈f)(s:SameB b H g):Same (WX f H) (WX f g):=fun c u e=>by
 unfold WX at e ⊢;split at e
 ·cases e
 ·rename_i hc
  rw[zB hc];exact s c u e (fun z=>hc (by rw[z];exact h))
def ue:=@WX.draw
theorem zfI{n:Nat}{i:Int}(h:0<=i)(b:i<n):ixN n i=some i.toNat:=by
 unfold ixN;rw[zF h,zF b]
theorem YR{k:Nat}:∀{ds:List Dat} {i:Nat} {d:Dat},Dat.gds k ds=true->d.gd k=true->Dat.gds k (ds.set i d)=true
 | [],_,_,h,_=>h
 | a::ds,0,d,h,b=>by
  have e:(a.gd k&&Dat.gds k ds)=true:=h;rw[qQ] at e;show(d.gd k&&Dat.gds k ds)=true;rw[b,e.2];rfl
 | a::ds,i+1,d,h,b=>by
  have e:(a.gd k&&Dat.gds k ds)=true:=h;rw[qQ] at e;show(a.gd k&&Dat.gds k (ds.set i d))=true;rw[e.1,YR e.2 b];rfl
theorem VM:∀{ds:List Dat} {i:Nat} {d:Dat},Dat.blks (ds.set i d)<=Dat.blks ds+d.blk
 | [],_,_=>zY _
 | a::ds,0,d=>by
  show d.blk+1+Dat.blks ds<=a.blk+1+Dat.blks ds+d.blk;omega
 | a::ds,i+1,d=>by
  show a.blk+1+Dat.blks (ds.set i d)<=a.blk+1+Dat.blks ds+d.blk;have:=VM (ds:=ds) (i:=i) (d:=d);omega
theorem VF:∀{ds:List Dat} {i:Nat} {d:Dat},PyData.depthAll (Dat.pys (ds.set i d))<=max (PyData.depthAll (Dat.pys ds)) d.py.depth
 | [],_,_=>zY _
 | a::ds,0,d=>Nat.max_le.mpr ⟨Xp _ _,qk (Xp _ _) (Xm _ _)⟩
 | a::ds,i+1,d=>Nat.max_le.mpr ⟨qk (Xm _ _) (Xm _ _),qk (VF (ds:=ds) (i:=i) (d:=d)) (Nat.max_le.mpr ⟨qk (Xp _ _) (Xm _ _),Xp _ _⟩)⟩
theorem Reps.set{H:Hp}:∀{ds:List Dat} {c:List V} {i:Nat} {d:Dat} {v:V},Reps K H ds c->Rep K H d v->Reps K H (ds.set i d) (c.set i v)
 | [],_,_,_,_,h,_=>by rw[show _=_ from h];exact rfl
 | a::ds,_,0,d,v,h,b=>by
  obtain⟨x,r,e,_,h2⟩:=h;subst e;exact⟨v,r,rfl,b,h2⟩
 | a::ds,_,i+1,d,v,h,b=>by
  obtain⟨x,r,e,h1,h2⟩:=h;subst e;exact⟨x,r.set i v,rfl,h1,Reps.set h2 b⟩
theorem Qu:∀a b:List Dat,Dat.blks (a++b)=Dat.blks a+Dat.blks b
 | [],b=>by show Dat.blks b=0+Dat.blks b;omega
 | d::a,b=>by
  have:=Qu a b;show d.blk+1+Dat.blks (a++b)=d.blk+1+Dat.blks a+Dat.blks b;omega
theorem YS{k:Nat}:∀{a b:List Dat},Dat.gds k a=true->Dat.gds k b=true->Dat.gds k (a++b)=true
 | [],_,_,h=>h
 | d::a,b,h,c=>by
  have e:(d.gd k&&Dat.gds k a)=true:=h;rw[qQ] at e;show(d.gd k&&Dat.gds k (a++b))=true;rw[e.1,YS e.2 c];rfl
theorem Jw{k:Nat}:∀{a b:List Dat},Dat.gds k (a++b)=true->Dat.gds k a=true/\Dat.gds k b=true
 | [],_,h=>⟨rfl,h⟩
 | d::a,b,h=>by
  have e:(d.gd k&&Dat.gds k (a++b))=true:=h;rw[qQ] at e;obtain⟨h1,h2⟩:=Jw e.2;refine⟨?_,h2⟩
  show(d.gd k&&Dat.gds k a)=true;rw[e.1,h1];rfl
theorem Qr:∀a b:List Dat,PyData.depthAll (Dat.pys (a++b))=max (PyData.depthAll (Dat.pys a)) (PyData.depthAll (Dat.pys b))
 | [],b=>by show PyData.depthAll (Dat.pys b)=max 0 (PyData.depthAll (Dat.pys b));omega
 | d::a,b=>by
  have:=Qr a b;show max d.py.depth (PyData.depthAll (Dat.pys (a++b)))=max (max d.py.depth (PyData.depthAll (Dat.pys a))) (PyData.depthAll (Dat.pys b));omega
def GL(K:W.Frag)(F:Hp)(k z D:Nat)(b:List V):Prop:=∃ds,Reps K F ds b/\Dat.gds k ds=true/\Dat.blks ds<=z/\PyData.depthAll (Dat.pys ds)<=D
theorem GL.up{F f:Hp}{k z D i o c:Nat}{l:List V}(h:GL K F k z D l)(s:Same F f)(h1:k<=i)(h2:z<=o)(h3:D<=c):GL K f i o c l:=let ⟨ds,r,g,b,p⟩:=h;⟨ds,r.same s,Dat.gds_up h1 g,qk b h2,qk p h3⟩
theorem Reps.parts{H:Hp}:∀{ds:List Dat} {xs ys:List V},Reps K H ds (xs++ys)->∃b c,ds=b++c/\Reps K H b xs/\Reps K H c ys
 | ds,[],ys,h=>⟨[],ds,rfl,rfl,h⟩
 | [],x::xs,ys,h=>by cases(show x::(xs++ys)=[] from h)
 | d::ds,x::xs,ys,h=>by
  obtain⟨v,r,e,h1,h2⟩:=h;cases e;obtain⟨b,c,rfl,f,g⟩:=Reps.parts (xs:=xs) (ys:=ys) h2;exact⟨d::b,c,rfl,⟨_,_,rfl,h1,f⟩,g⟩
theorem GL.parts{F:Hp}{k z D:Nat}{xs ys:List V}(h:GL K F k z D (xs++ys)):∃f i,f+i=z/\GL K F k f D xs/\GL K F k i D ys:=by
 obtain⟨ds,r,g,b,p⟩:=h;obtain⟨c,l,rfl,u,A⟩:=Reps.parts r;obtain⟨o,s⟩:=Jw g;rw[Qu] at b;rw[Qr] at p;exact⟨Dat.blks c,z-Dat.blks c,by omega,⟨c,u,o,zi _,by omega⟩,⟨l,A,s,by omega,by omega⟩⟩
theorem GL.app{F:Hp}{k b c D:Nat}{xs ys:List V}(h:GL K F k b D xs)(o:GL K F k c D ys):GL K F k (b+c) D (xs++ys):=by
 obtain⟨f,s,i,b1,A⟩:=h;obtain⟨g,u,l,b2,B⟩:=o;exact⟨f++g,Reps.app s u,YS i l,by rw[Qu];omega,by rw[Qr];omega⟩
theorem GL.one{F:Hp}{k z D:Nat}{v:V}(h:DS K F k z D v):GL K F k (z+1) D [v]:=by
 obtain⟨d,r,g,b,p⟩:=h;refine⟨[d],⟨v,[],rfl,r,rfl⟩,?_,?_,?_⟩
 ·show(d.gd k&&true)=true
  rw[g];rfl
 ·show d.blk+1+0<=_
  omega
 ·show max d.py.depth 0<=D
  omega
def u6:=@GL.one
theorem GL.nil{F:Hp}{k z D:Nat}:GL K F k z D []:=⟨[],rfl,rfl,zY _,zY _⟩
theorem GL.take{F:Hp}{k z D:Nat}{b:List V}(n:Nat)(h:GL K F k z D b):GL K F k z D (b.take n):=by
 rw[<- QV n b] at h;obtain⟨c,f,e,h1,_⟩:=h.parts;exact h1.up (u4 _) (zi _) (by omega) (zi _)
theorem GL.drop{F:Hp}{k z D:Nat}{b:List V}(n:Nat)(h:GL K F k z D b):GL K F k z D (b.drop n):=by
 rw[<- QV n b] at h;obtain⟨c,f,e,_,h2⟩:=h.parts;exact h2.up (u4 _) (zi _) (by omega) (zi _)
theorem GL.cut{F:Hp}{k z D:Nat}{b:List V}(lo c:Option Int)(h:GL K F k z D b):GL K F k z D (qP b lo c):=by
 unfold qP;first| exact(h.drop _).take _ | exact(h.take _).drop _
theorem GL.lst{F:Hp}{k z D:Nat}{a:Addr}{c:List V}(q:SqL K F a c)(h:GL K F k z D c):DS K F k z (D+1) (.ref a):=by
 obtain⟨ds,r,g,b,p⟩:=h;refine⟨.lst ds,⟨a,c,rfl,q,r⟩,g,b,?_⟩
 show PyData.depth (.list (Dat.pys ds))<=_;simp only[PyData.depth];omega
theorem GL.tup{F:Hp}{k z D:Nat}{a:Addr}{c:List V}(q:SqT K F a c)(h:GL K F k z D c):DS K F k z (D+1) (.ref a):=by
 obtain⟨ds,r,g,b,p⟩:=h;refine⟨.tup ds,⟨a,c,rfl,q,r⟩,g,b,?_⟩
 show PyData.depth (.tuple (Dat.pys ds))<=_;simp only[PyData.depth];omega
def ub:=@GL.tup
theorem GL.all{F:Hp}{k z D:Nat}{c:List V}(h:GL K F k z D c):c.length<=z/\∀x∈c,DS K F k z D x:=by
 obtain⟨ds,r,g,b,p⟩:=h;obtain⟨l,f⟩:=Qz r g b p;exact⟨l,fun x hx=>(f x hx).up (u4 _) (zi _) (by omega) (zi _)⟩
theorem GL.some{F:Hp}{k z D:Nat}{c b:List V}(h:GL K F k z D c)(m:∀y∈b,y∈c):GL K F k ((z+1)*b.length) D b:=yq fun y hy=>h.all.2 y (m y hy)
def yY:Dat->Bool
 | .int _=>true
 | _=>false
def Vu:Dat->Bool
 | .bl _=>true
 | _=>false
def iD:Dat->Int
 | .int i=>i
 | _=>0
def xU(k:Nat):Dat->Bool
 | .tup ds=>decide (ds.length=k)
 | _=>false
theorem W1(d:Dat):xn d.tyN "int" = (yY d||Vu d):=by
 cases d with
 | non=>exact(by decide:xn "NoneType" "int" = false)
 | bl _=>exact(by decide:xn "bool" "int" = true)
 | int _=>exact(by decide:xn "int" "int" = true)
 | str _=>exact(by decide:xn "str" "int" = false)
 | lst _=>exact(by decide:xn "list" "int" = false)
 | tup _=>exact(by decide:xn "tuple" "int" = false)
theorem XL(d:Dat):xn d.tyN "bool" = Vu d:=by
 cases d with
 | non=>exact(by decide:xn "NoneType" "bool" = false)
 | bl _=>exact(by decide:xn "bool" "bool" = true)
 | int _=>exact(by decide:xn "int" "bool" = false)
 | str _=>exact(by decide:xn "str" "bool" = false)
 | lst _=>exact(by decide:xn "list" "bool" = false)
 | tup _=>exact(by decide:xn "tuple" "bool" = false)
def jJ:Dat->Bool
 | .tup _=>true
 | _=>false
theorem vE(d:Dat):xn d.tyN "tuple" = jJ d:=by
 cases d with
 | non=>exact(by decide:xn "NoneType" "tuple" = false)
 | bl _=>exact(by decide:xn "bool" "tuple" = false)
 | int _=>exact(by decide:xn "int" "tuple" = false)
 | str _=>exact(by decide:xn "str" "tuple" = false)
 | lst _=>exact(by decide:xn "list" "tuple" = false)
 | tup _=>exact(by decide:xn "tuple" "tuple" = true)
theorem zfA(d:Dat):(if(yY d||Vu d)=true then !Vu d else(yY d||Vu d))=yY d:=by cases d<;>rfl
def zw(lo b:Int):Dat->Bool
 | .int i=>decide (lo<=i)&&decide (i<=b)
 | _=>false
def zeQ(m:Int):Dat->Bool
 | .tup ds=>decide ((ds.length:Int)<=m)
 | _=>false
inductive Yd(K:W.Frag)(b:List V)(H:Hp)(Q:VK):Prop
 | mk (v:V) (d:Dat) (_:b=[v]) (_:Rep K H d v) (_:Q (.bl (yY d)) H):Yd K b H Q
def zee(K:W.Frag):Sp:=fun b H Q _=>Yd K b H Q
theorem zew:zD ["thing"] ["thing"] (zr (topL 4)):=u0
theorem zfs{f:Addr}{g:FuncData}(F:Fun K "is_number" "is_number" (topL 4) f g)(B:Blt I):FnOk P w K I G CX0 1 f g ["thing"] (zee K):=by
 have D:=zew.nd;refine F.ok zew (fun o H Q E h=>?_) (fun l A b s H o Q E u h=>?_)
 ·obtain⟨v,d,rfl,_⟩:=h
  rfl
 ·obtain⟨v,d,rfl,i,k⟩:=h
  refine⟨_,(zj (zq (qU (zk zN rfl B.isinstance boot_isinstance (za (pv 0) (za (zM (v:=.ty "int") rfl B.int wc rfl) zb))) (jV (J3 (zk zN rfl B.isinstance boot_isinstance (za (pv 0) (za (zM (v:=.ty "bool") rfl B.bool vB rfl) zb)))))))),?_⟩
  refine⟨_,rfl,v,d.tyN, "int",rfl,i.ty,(by decide),?_⟩
  rw[W1];rw[<- zfA d] at k;refine⟨_,rfl,zR (fun c=>?_) (fun c=>?_)⟩
  ·rw[zF c] at k
   refine⟨_,rfl,v,d.tyN, "bool",rfl,i.ty,(by decide),?_⟩
   rw[XL];exact⟨_,rfl,k⟩
  ·rw[zB c,(j6 _).mp c] at k
   exact k
inductive XO(K:W.Frag)(c:List V)(H:Hp)(Q:VK):Prop
 | mk (v:V) (d:Dat) (lo b:Int) (_:c=[v,.int lo,.int b]) (_:Rep K H d v) (_:Q (.bl (zw lo b d)) H):XO K c H Q
def vn(K:W.Frag):Sp:=fun b H Q _=>XO K b H Q
theorem zgg:zD ["thing","least","most"] ["thing","least","most"] (zr (topL 5)):=u0
theorem zgI{f:Addr}{u:FuncData}(F:Fun K "is_number_within" "is_number_within" (topL 5) f u)(B:Blt I)(b:Dfn P w K I G "is_number" 1 ["thing"] (zee K)):FnOk P w K I G CX0 2 f u ["thing","least","most"] (vn K):=by
 have N:=zgg.nd;refine F.ok zgg (fun M H Q E h=>?_) (fun J A o s H M Q E L h=>?_)
 ·obtain⟨v,d,lo,c,rfl,_⟩:=h
  rfl
 ·obtain⟨v,d,lo,c,rfl,D,k⟩:=h
  refine⟨_,(zj (zq (qU (zg b L.m rfl (za (pv 0) zb)) (jV (Qe Qj Qj (pv 1) (pv 0) (pv 2)))))),?_⟩
  refine⟨_,rfl,v,d,rfl,D,_,rfl,zR (fun g=>?_) (fun g=>?_)⟩
  ·obtain⟨i,rfl⟩:∃i,d=.int i:=by cases d<;>first| exact⟨_,rfl⟩ | cases g
   cases(show v=.int i from D)
   refine⟨_,rfl,_,rfl,_,_,rfl,rfl,_,rfl,zR (fun l=>⟨_,rfl,_,_,rfl,rfl,?_⟩) (fun l=>?_)⟩
   ·rw[show zw lo c (.int i)=decide (i<=c) by
     show(decide (lo<=i)&&decide (i<=c))=_;rw[l];rfl] at k
    exact k
   ·rw[show zw lo c (.int i)=false by
     show(decide (lo<=i)&&decide (i<=c))=_;rw[(j6 _).mp l];rfl] at k
    exact k
  ·rw[show zw lo c d=false by cases d<;>first| rfl | exact absurd rfl g] at k
   exact k
theorem zer:zD ["_law_thing","_law_least","_law_most"] ["_law_thing","_law_least","_law_most"] (zr (topL 43)):=u0
theorem zfn{f:Addr}{D:FuncData}(F:Fun K "_law_is_number" "_law_is_number" (topL 43) f D)(B:Blt I):FnOk P w K I G CX0 1 f D ["_law_thing","_law_least","_law_most"] (vn K):=by
 have O:=zer.nd;refine F.ok zer (fun M H Q E h=>?_) (fun L A o s H M Q E N h=>?_)
 ·obtain⟨v,d,lo,b,rfl,_⟩:=h
  rfl
 ·obtain⟨v,d,lo,b,rfl,u,k⟩:=h
  have J:yY d=false->zw lo b d=false:=fun z=>by cases d<;>first| rfl | cases z
  refine⟨_,(zj (zq (qU (zk zN rfl B.isinstance boot_isinstance (za (pv 0) (za (zM (v:=.ty "int") rfl B.int wc rfl) zb))) (qU (J3 (zk zN rfl B.isinstance boot_isinstance (za (pv 0) (za (zM (v:=.ty "bool") rfl B.bool vB rfl) zb)))) (jV (Qe Qj Qj (pv 1) (pv 0) (pv 2))))))),?_⟩
  refine⟨_,rfl,v,d.tyN, "int",rfl,u.ty,(by decide),?_⟩
  rw[W1];refine⟨_,rfl,zR (fun c=>?_) (fun c=>?_)⟩
  ·refine⟨_,rfl,v,d.tyN, "bool",rfl,u.ty,(by decide),?_⟩
   rw[XL];refine⟨_,rfl,_,rfl,zR (fun g=>?_) (fun g=>?_)⟩
   ·obtain⟨i,rfl⟩:∃i,d=.int i:=by cases d<;>first| exact⟨_,rfl⟩ | exact Bool.noConfusion (show false=true from g) | exact Bool.noConfusion (show false=true from c)
    cases(show v=.int i from u)
    refine⟨_,rfl,_,rfl,_,_,rfl,rfl,_,rfl,zR (fun l=>⟨_,rfl,_,_,rfl,rfl,?_⟩) (fun l=>?_)⟩
    ·rw[show zw lo b (.int i)=decide (i<=b) by
      show(decide (lo<=i)&&decide (i<=b))=_;rw[l];rfl] at k
     exact k
    ·rw[show zw lo b (.int i)=false by
      show(decide (lo<=i)&&decide (i<=b))=_;rw[(j6 _).mp l];rfl] at k
     exact k
   ·rw[J (by cases d<;>first| rfl | exact absurd rfl g)] at k
    exact k
  ·rw[J (by cases d<;>first| rfl | exact absurd rfl c)] at k
   exact k
inductive W4(K:W.Frag)(b:List V)(H:Hp)(Q:VK):Prop
 | mk (v:V) (d:Dat) (n:Nat) (_:b=[v,.int (n:Int)]) (_:Rep K H d v) (_:Q (.bl (xU n d)) H):W4 K b H Q
def XS(K:W.Frag):Sp:=fun b H Q _=>W4 K b H Q
theorem zgi:zD ["thing","many"] ["thing","many"] (zr (topL 14)):=u0
theorem zgK{f:Addr}{i:FuncData}(F:Fun K "is_tuple_of" "is_tuple_of" (topL 14) f i)(B:Blt I):FnOk P w K I G CX0 1 f i ["thing","many"] (XS K):=by
 have M:=zgi.nd;refine F.ok zgi (fun J H Q E h=>?_) (fun u A g s H J Q E L h=>?_)
 ·obtain⟨v,d,n,rfl,_⟩:=h
  rfl
 ·obtain⟨v,d,n,rfl,l,k⟩:=h
  refine⟨_,(zj (zq (qU (zk zN rfl B.isinstance boot_isinstance (za (pv 0) (za (zM (v:=.ty "tuple") rfl B.tuple zJ rfl) zb))) (jV (qD qV (zk zo rfl B.len boot_len (za (pv 0) zb)) (pv 1) (zC _)))))),?_⟩
  refine⟨_,rfl,v,d.tyN, "tuple",rfl,l.ty,(by decide),?_⟩
  rw[vE];refine⟨_,rfl,zR (fun c=>?_) (fun c=>?_)⟩
  ·cases d with
   | tup ds=>
    obtain⟨a,o,rfl,hq,D⟩:=l;have b:=D.len;refine⟨_,rfl,a,o,rfl,.inr hq,_,rfl,?_⟩
    rw[show xU n (.tup ds)=decide (V.int (o.length:Int)=V.int (n:Int)) by
     show decide (ds.length=n)=_;rw[b];refine yb.mpr ⟨fun h=>by rw[h],fun h=>?_⟩
     cases h;rfl] at k
    exact⟨rfl,k⟩
   | _=>cases c
  ·rw[show xU n d=false by cases d<;>first| rfl | exact absurd rfl c] at k
   exact k
inductive XR(K:W.Frag)(b:List V)(H:Hp)(Q:VK):Prop
 | mk (v:V) (d:Dat) (m:Int) (_:b=[v,.int m]) (_:Rep K H d v) (_:Q (.bl (zeQ m d)) H):XR K b H Q
def JU(K:W.Frag):Sp:=fun b H Q _=>XR K b H Q
theorem zgh:zD ["thing","most"] ["thing","most"] (zr (topL 15)):=u0
theorem zgJ{f:Addr}{g:FuncData}(F:Fun K "is_tuple_upto" "is_tuple_upto" (topL 15) f g)(B:Blt I):FnOk P w K I G CX0 1 f g ["thing","most"] (JU K):=by
 have L:=zgh.nd;refine F.ok zgh (fun D H Q E h=>?_) (fun o A b s H D Q E J h=>?_)
 ·obtain⟨v,d,m,rfl,_⟩:=h
  rfl
 ·obtain⟨v,d,m,rfl,i,k⟩:=h
  refine⟨_,(zj (zq (qU (zk zN rfl B.isinstance boot_isinstance (za (pv 0) (za (zM (v:=.ty "tuple") rfl B.tuple zJ rfl) zb))) (jV (qD Qj (zk zo rfl B.len boot_len (za (pv 0) zb)) (pv 1) (zC _)))))),?_⟩
  refine⟨_,rfl,v,d.tyN, "tuple",rfl,i.ty,(by decide),?_⟩
  rw[vE];refine⟨_,rfl,zR (fun c=>?_) (fun c=>?_)⟩
  ·cases d with
   | tup ds=>
    obtain⟨a,l,rfl,hq,u⟩:=i;refine⟨_,rfl,a,l,rfl,.inr hq,_,rfl,_,_,rfl,rfl,?_⟩
    rw[show zeQ m (.tup ds)=decide ((l.length:Int)<=m) by rw[u.len];rfl] at k
    exact k
   | _=>cases c
  ·rw[show zeQ m d=false by cases d<;>first| rfl | exact absurd rfl c] at k
   exact k
theorem vH(i j:Str):(i++j).length=i.length+j.length:=by
 show(i.cps++j.cps).size=_;rw[Wv];rfl
theorem zdO{i j:Str}{c:Nat}(h:c∈(i++j).cps.toList):c∈i.cps.toList\/c∈j.cps.toList:=by
 have b:c∈(i.cps++j.cps).toList:=h;rw[Xw] at b;exact ju.mp b
theorem zdf{x:Str}{k D:Nat}{F:Hp}(h:decide (x.length<=10)=true)(hc:(x.cps.toList.all fun c=>decide (c<1000000))=true):DS K F k 10 D (.str x):=DS.str (qB h) fun c b=>qB (jw.mp hc c b)
inductive Yb(K:W.Frag)(g:List V)(H:Hp)(Q:VK):Prop
 | mk (b:Addr) (n:Int) (f:List Addr) (_:g=[.ref b]) (_:BoxAt H b n) (_:n<1099511627000) (_:Ex H b f) (_:∀v c,SameB b H c->BoxAt c b (n+1)->DS K (WX f c) 0 10 3 v->Q v c):Yb K g H Q
def Yc(K:W.Frag):Sp:=fun b H Q _=>Yb K b H Q
theorem zem:zD ["_law_box_here","_law_some"] ["_law_box_here"] (zr (topL 46)):=u0
theorem zfi{f:Addr}{fd:FuncData}(F:Fun K "_law_odd" "_law_odd" (topL 46) f fd)(B:Blt I)(g:Dfn P w K I G "_law_take" 1 ["_law_box_here","_law_size"] jU):FnOk P w K I G CX0 2 f fd ["_law_box_here"] (Yc K):=by
 have nd:=zem.nd;refine F.ok zem (fun vs H Q E h=>?_) (fun a7 A a6 s H vs Q E hr h=>?_)
 ·obtain⟨b,n,L,rfl,_⟩:=h
  rfl
 ·obtain⟨b,n,L,rfl,B0,hn,E0,k⟩:=h
  refine⟨_,(zf (zA (i:=1) nd rfl (Or.inl rfl) (zU (zhA j8 qZ qZ ze ze (zb9 VQ ze) ze (zu zce ze ze) xW xW xW xW (zP zb) (zU zb) (zP (za ze zb)) (zU (za ze zb)) (zP (za ze (za ze zb))) (zP (za (zP zb) zb)))))
   (zj (zq (zV zW (pv 1) (zg g hr.m rfl (za (pv 0) (za ze zb))) (fun _ _=>rfl))))),?_⟩
  refine⟨_,rfl,_,_,rfl,rfl,⟨by decide,by decide,by decide⟩,le0,fun T h1=>⟨le0,fun U h2=>⟨le1,fun Y h3=>⟨le1,fun p4 h4=>⟨le2,fun p5 h5=>⟨le0,fun p6 h6=>⟨le1,fun p7 h7=>⟨leN (by show 18<=1000;decide),fun l hl=>?_⟩⟩⟩⟩⟩⟩⟩⟩
  have s1:=zd (o:=.tup []) h1;have s2:=zd (o:=.lst []) h2;have s3:=zd (o:=.tup [.int 0]) h3;have s4:=zd (o:=.lst [.int 0]) h4;have M:=zd (o:=.tup [.int 0,.int 0]) h5;have J:=zd (o:=.tup []) h6;have u:=zd (o:=.tup [.ref p6]) h7;have E1:=E0.same s1;have E2:=E1.same s2;have E3:=E2.same s3;have E4:=E3.same s4;have E5:=E4.same M;have E6:=E5.same J;have E7:=E6.same u;have c:=zd (o:=.lst [.non,.bl true,.bl false,.int 0,.int 1,.int (-1),.int 1001,.int (10^(9:Int).toNat),.str "",.str "a",.str "abcdefghi",.str "A",.ref T,.ref U,.ref Y,.ref p4,.ref p5,.ref p7]) hl;have f1:=(s2.trans (s3.trans (s4.trans (M.trans (J.trans (u.trans c)))))) T _ zc;have f2:=(s3.trans (s4.trans (M.trans (J.trans (u.trans c))))) U _ zc;have f3:=(s4.trans (M.trans (J.trans (u.trans c)))) Y _ zc;have f4:=(M.trans (J.trans (u.trans c))) p4 _ zc;have f5:=(J.trans (u.trans c)) p5 _ zc;have f6:=(u.trans c) p6 _ zc;have f7:=c p7 _ zc;have st:=s1.trans (s2.trans (s3.trans (s4.trans (M.trans (J.trans (u.trans c))))));have n1:=E0.out h1;have n2:=E1.out h2;have n3:=E2.out h3;have n4:=E3.out h4;have n5:=E4.out h5;have n6:=E5.out h6;have n7:=E6.out h7;have E8:=E7.same c;have nl:=E7.out hl;have B8:=B0.same st;have fl:=zc (H:=upd (upd (upd (upd (upd (upd (upd H T (.tup [])) U (.lst [])) Y (.tup [.int 0])) p4 (.lst [.int 0])) p5 (.tup [.int 0,.int 0])) p6 (.tup [])) p7 (.tup [.ref p6])) (a:=l) (o:=.lst [.non,.bl true,.bl false,.int 0,.int 1,.int (-1),.int 1001,.int (10^(9:Int).toNat),.str "",.str "a",.str "abcdefghi",.str "A",.ref T,.ref U,.ref Y,.ref p4,.ref p5,.ref p7]);clear s1 s2 s3 s4 M J u E1 E2 E3 E4 E5 E6 E7 c h1 h2 h3 h4 h5 h6 h7 hl B0;refine⟨_,rfl,_,rfl,b,18,n,rfl,B8,by omega,by decide,by decide,fun r O r0 r1 B1 S1=>?_⟩
  have N:∀p o,p∉L->_=some o->WX L O p=some o:=fun p o hp e=>WX.at hp (S1 p o e (fun z=>hp (by rw[z];exact E0.mem)))
  have g1:=N T _ n1 f1;have g2:=N U _ n2 f2;have g3:=N Y _ n3 f3;have g4:=N p4 _ n4 f4;have g5:=N p5 _ n5 f5;have g6:=N p6 _ n6 f6;have g7:=N p7 _ n7 f7;have gl:=S1 l _ fl (fun z=>nl (by rw[z];exact E0.mem))
  have all:∀x∈[V.non,.bl true,.bl false,.int 0,.int 1,.int (-1),.int 1001,.int (10^(9:Int).toNat),.str "",.str "a",.str "abcdefghi",.str "A",.ref T,.ref U,.ref Y,.ref p4,.ref p5,.ref p7],DS K (WX L O) 0 10 3 x:=by
   have i0:∀D,DS K (WX L O) 0 2 D (.int 0):=fun D=>u9 (by decide)
   have t6:DS K (WX L O) 0 2 1 (.ref p6):=uc (z:=0) (D:=0) (u5 g6) fm0 (zY _);refine fm DS.non (fm (DS.bl _) (fm (DS.bl _) (fm (u9 (by decide)) (fm (u9 (by decide)) (fm (u9 (by decide)) (fm (u9 (by decide)) (fm (u9 (by decide)) (fm (zdf (by decide) (by decide)) (fm (zdf (by decide) (by decide)) (fm (zdf (by decide) (by decide)) (fm (zdf (by decide) (by decide)) ?_)))))))))))
   refine fm ((uc (k:=0) (z:=0) (D:=0) (z':=0) (u5 g1) fm0 (zY _)).up (u4 _) (by decide) (by decide) (by decide)) (fm ((DS.lst (k:=0) (z:=0) (D:=0) (z':=0) (u3 g2) fm0 (zY _)).up (u4 _) (by decide) (by decide) (by decide)) (fm (uc (z:=2) (D:=2) (u5 g3) (fm (i0 2) fm0) (by decide)) (fm (DS.lst (z:=2) (D:=2) (u3 g4) (fm (i0 2) fm0) (by decide)) (fm (uc (z:=2) (D:=2) (u5 g5) (fm (i0 2) (fm (i0 2) fm0)) (by decide)) (fm (uc (z:=2) (D:=2) (u5 g7) (fm (t6.up (u4 _) (by decide) (by decide) (by decide)) fm0) (by show 3*1<=10;decide)) fm0)))))
  obtain⟨v,ev,dv⟩:=zb7 (α:=fun x=>DS K (WX L O) 0 10 3 x) gl r0 r1 all
  exact⟨l,_,_,v,rfl,rfl,u3 gl,ev,k v O ((u8 st).trans S1) B1 dv⟩
def okC(x:Str):Prop:=∀c∈x.cps.toList,c<1000000
theorem okC.app{x y:Str}(h:okC x)(g:okC y):okC (x++y):=fun c hc=>(zdO hc).elim (h c) (g c)
theorem okC.sub{x y:Str}(h:okC x)(s:∀c∈y.cps.toList,c∈x.cps.toList):okC y:=fun c hc=>h c (s c hc)
def zdi:Str:= "abcdefghijklmnopqrstuvwxyzA 0_\n"
theorem zeZ:(zdi.cps.toList.all fun c=>decide (c<1000000))=true:=by decide
theorem zdh:zdi.cps.toList.length=31:=by decide
inductive XQ(f:List V)(H:Hp)(Q:VK):Prop
 | mk (b:Addr) (x:Str) (n:Int) (N:Nat) (_:f=[.ref b,.str x]) (_:BoxAt H b n) (_:n<1099511627000) (_:x.length<=N) (_:N<=60000) (_:okC x) (_:∀(y:Str) c,SameB b H c->BoxAt c b (n+4)->y.length<=3*N+20->okC y->Q (.str y) c):XQ  f H Q
def zbs:Sp:=fun b H Q _=>XQ  b H Q
theorem zbK:zD ["_law_box_here","_law_word","_law_at","_law_way","_law_sign","_law_some"] ["_law_box_here","_law_word"] (zr (topL 47)):=u0
theorem zdy{f:Addr}{fd:FuncData}(F:Fun K "_law_bent_word" "_law_bent_word" (topL 47) f fd)(B:Blt I)(g:Dfn P w K I G "_law_take" 1 ["_law_box_here","_law_size"] jU):FnOk P w K I G CX0 2 f fd ["_law_box_here","_law_word"] zbs:=by
 have T:=zbK.nd;refine F.ok zbK (fun vs H Q E h=>?_) (fun a7 A U s H vs Q E O h=>?_)
 ·obtain⟨b,x,n,N,rfl,_⟩:=h
  rfl
 ·obtain⟨b,x,n,N,rfl,B0,hn,hx,hN,l,k⟩:=h
  have a6:=bG16000000;have D:x.length<=sizeLine:=by omega
  refine⟨_,(zf (Qb (i:=2) (j:=3) rfl T rfl rfl (by decide) rfl rfl (za (zg g O.m rfl (za (pv 0) (za (zu zT (zk xP rfl B.len boot_len (za (pv 1) zb)) ze) zb))) (za (zg g O.m rfl (za (pv 0) (za ze zb))) zb)) (by rfl))
   (zf (zA (i:=4) T rfl (Or.inl rfl) (zV Wg xW (zg g O.m rfl (za (pv 0) (za ze zb))) (fun _ _=>rfl)))
   (zf (zA (i:=5) T rfl (Or.inl rfl) (zU (za (zu xw (zu xw (zK wD (pv 1) qe (zL (pv 2))) (pv 4)) (zK wD (pv 1) (zL (pv 2)) qe)) (za (zu xw (zu xw (zK wD (pv 1) qe (zL (pv 2))) (pv 4)) (zK wD (pv 1) (zL (zu zT (pv 2) ze)) qe)) (za (zu xw (zK wD (pv 1) qe (zL (pv 2))) (zK wD (pv 1) (zL (zu zT (pv 2) ze)) qe)) zb)))))
   (zj (zq (zV zW (zu vo (pv 5) (zU (za (zu Ve (pv 1) ze) (za xW zb)))) (pv 3) (fun _ _=>rfl))))))),?_⟩
  refine⟨_,rfl,_,rfl,x,rfl,D,_,_,rfl,rfl,b,_,n,rfl,B0,by omega,by omega,by omega,fun q H1 q0 q1 B1 S1=>⟨_,rfl,b,5,n+1,rfl,B1,by omega,by decide,by decide,fun a9 H2 w0 w1 B2 S2=>⟨_,_,rfl,?_⟩⟩⟩
  have J:=S1.trans S2;refine⟨_,rfl,b,31,n+1+1,rfl,B2,by omega,by decide,by decide,fun r4 H4 c0 c1 B5 S5=>?_⟩
  obtain⟨c,hc,hm⟩:=vL (xs:=zdi.cps.toList) c0 (by rw[zdh];exact c1)
  refine⟨zdi,_,c,rfl,rfl,by rw[sizeLine_eq];decide,hc,?_⟩
  have oc:okC (⟨#[c]⟩:Str):=fun u hu=>by
   have:u=c:=by simpa using hu
   rw[this];exact qB (jw.mp zeZ c (qY hm))
  have L:=J.trans S5;clear J S5 S1 S2 B1 B2;have lc:(⟨#[c]⟩:Str).length=1:=rfl;refine⟨_,rfl,_,rfl,_,rfl,x,rfl,D,fun y1 e1 o1=>⟨_,rfl,_,_,rfl,rfl,by omega,_,rfl,_,rfl,_,rfl,x,rfl,D,fun y2 e2 o2=>⟨_,_,rfl,rfl,by rw[vH];omega,?_⟩⟩⟩
  refine⟨_,rfl,_,rfl,_,rfl,x,rfl,D,fun y3 e3 o3=>⟨_,rfl,_,_,rfl,rfl,by omega,_,rfl,_,rfl,_,_,rfl,rfl,_,rfl,x,rfl,D,fun y4 e4 o4=>⟨_,_,rfl,rfl,by rw[vH];omega,?_⟩⟩⟩
  refine⟨_,rfl,_,rfl,_,rfl,x,rfl,D,fun y5 e5 o5=>⟨_,rfl,_,rfl,_,_,rfl,rfl,_,rfl,x,rfl,D,fun y6 e6 o6=>⟨_,_,rfl,rfl,by omega,le3,fun l4 h4=>?_⟩⟩⟩
  refine⟨_,rfl,_,rfl,x,3,rfl,rfl,by omega,by decide,by decide,fun Y e7 o7=>⟨le2,fun l5 M=>⟨l4,l5,_,_,rfl,rfl,(zd M) _ _ zc,zc,(by show 3+2<=sizeLine;omega),fun l6 h6=>?_⟩⟩⟩
  have a8:Y.length<=3*x.length:=e7;have L6:=zc (H:=upd (upd H4 l4 (.lst [.str (y1++(⟨#[c]⟩:Str)++y2),.str (y3++(⟨#[c]⟩:Str)++y4),.str (y5++y6)])) l5 (.lst [.str Y,.str ""])) (a:=l6) (o:=.lst ([.str (y1++(⟨#[c]⟩:Str)++y2),.str (y3++(⟨#[c]⟩:Str)++y4),.str (y5++y6)]++[.str Y,.str ""]));have p1:=l.sub o1;obtain⟨v,ev,u,rfl,u1,u2⟩:=zb7 (α:=fun v=>∃u:Str,v=.str u/\u.length<=3*N+20/\okC u) L6 w0 w1 (fm ⟨_,rfl,by rw[vH,vH];omega,((l.sub o1).app oc).app (l.sub o2)⟩ (fm ⟨_,rfl,by rw[vH,vH];omega,((l.sub o3).app oc).app (l.sub o4)⟩ (fm ⟨_,rfl,by rw[vH];omega,(l.sub o5).app (l.sub o6)⟩ (fm ⟨_,rfl,by omega,l.sub o7⟩ (fm ⟨_,rfl,zY _,fun c hc=>nomatch hc⟩ fm0)))))
  refine⟨_,rfl,l6,_,_,_,rfl,rfl,u3 zc,ev,k u _ (((L.new h4).new M).new h6) ((((B5.new h4).new M).new h6).mono (by omega)) u1 u2⟩
inductive XY(K:W.Frag)(l:List V)(H:Hp)(Q:VK):Prop
 | mk (b:Addr) (i:Int) (n:Int) (f:Nat) (g:List Addr) (_:l=[.ref b,.int i]) (_:BoxAt H b n) (_:n<1099511627000) (_:i.natAbs<=10000000000+f) (_:f<=1000) (_:Ex H b g) (_:∀v c,SameB b H c->BoxAt c b (n+1)->DS K (WX g c) (f+1) 20 2 v->Q v c):XY K l H Q
def zbu(K:W.Frag):Sp:=fun b H Q _=>XY K b H Q
theorem zbO:zD ["_law_box_here","_law_number","_law_odd_here"] ["_law_box_here","_law_number"] (zr (topL 48)):=u0
theorem zdB{f:Addr}{fd:FuncData}(F:Fun K "_law_bent_number" "_law_bent_number" (topL 48) f fd)(B:Blt I)(c:Dfn P w K I G "_law_take" 1 ["_law_box_here","_law_size"] jU):FnOk P w K I G CX0 2 f fd ["_law_box_here","_law_number"] (zbu K):=by
 have nd:=zbO.nd;refine F.ok zbO (fun vs H Q E h=>?_) (fun a6 A T s H vs Q E hr h=>?_)
 ·obtain⟨b,i,n,J,u,rfl,_⟩:=h
  rfl
 ·obtain⟨b,i,n,J,u,rfl,U,hn,hi,hN,E0,k⟩:=h
  refine⟨_,(zf (zA (i:=2) nd rfl (Or.inl rfl) (zU (zhB (zu zT (pv 1) ze) (zu xu (pv 1) ze) (zu xu (zb9 VQ ze) (pv 1)) (qD qV (pv 1) ze (zC _)) (zX yG rfl B.str xh (za (pv 1) zb)) (zU (za (pv 1) zb)) (zP (za (pv 1) zb)) j8 ze ze ze)))
   (zj (zq (zV zW (zu vo (pv 2) (zU (pa5 ze ze ze ze ze))) (zg c hr.m rfl (za (pv 0) (za ze zb))) (fun _ _=>rfl))))),?_⟩
  refine⟨_,rfl,_,_,rfl,rfl,_,rfl,_,_,rfl,rfl,_,rfl,_,rfl,_,_,rfl,rfl,_,rfl,rfl,_,rfl,i,rfl,J5 (by omega),_,rfl,le1,fun p1 h1=>⟨_,rfl,le1,fun p2 h2=>⟨leN (by show 11<=1000;decide),fun l1 L=>?_⟩⟩⟩
  refine⟨_,rfl,leN (by show 5<=1000;decide),fun l2 D=>⟨l1,l2,_,_,rfl,rfl,(zd D) _ _ zc,zc,(by show 11+5<=sizeLine;rw[sizeLine_eq];decide),fun l3 O=>?_⟩⟩
  have s2:=zd (o:=.tup [.int i]) h2;have E1:=E0.same (zd (o:=.lst [.int i]) h1);have n1:=E0.out h1;have n2:=E1.out h2;have n3:=((((U.new h1).new h2).new L).new D).nne O;refine⟨_,rfl,b,16,n,rfl,((((U.new h1).new h2).new L).new D).new O,by omega,by decide,by decide,fun r l r0 r1 B4 S4=>?_⟩
  have Y:=S4 l3 _ zc n3;have T2:=(u8 (b:=b) (((zd L).trans (zd D)).trans (zd O))).trans S4;have T1:=(u8 (b:=b) s2).trans T2;have T0:=(u8 (b:=b) (zd (o:=.lst [.int i]) h1)).trans T1;have M:=WX.at n1 (T1 p1 _ zc (fun z=>n1 (by rw[z];exact E0.mem)))
  have N:=WX.at n2 (T2 p2 _ zc (fun z=>n2 (by rw[z];exact E0.mem)))
  have g:∀j:Int,j.natAbs<=10000->DS K (WX u l) (J+1) 20 2 (.int j):=fun j hj=>u9 (by omega)
  have di:DS K (WX u l) (J+1) 3 1 (.int i):=u9 (by omega)
  obtain⟨v,ev,dv⟩:=zb7 (α:=fun v=>DS K (WX u l) (J+1) 20 2 v) Y r0 r1 (fm (u9 (by omega)) (fm (u9 (by omega)) (fm (u9 (by omega)) (fm (DS.bl _) (fm (DS.istr (by omega) (by decide)) (fm (DS.lst (u3 M) (fm di fm0) (by show(3+1)*1<=20;decide)) (fm (uc (u5 N) (fm di fm0) (by show(3+1)*1<=20;decide)) (fm DS.non (fm (g _ (by decide)) (fm (g _ (by decide)) (fm (g _ (by decide)) (fm (g _ (by decide)) (fm (g _ (by decide)) (fm (g _ (by decide)) (fm (g _ (by decide)) (fm (g _ (by decide)) fm0))))))))))))))))
  exact⟨l3,_,_,v,rfl,rfl,u3 Y,ev,k v l T0 B4 dv⟩
inductive X3(K:W.Frag)(i:List V)(H:Hp)(Q:VK):Prop
 | mk (b a:Addr) (t:Bool) (l:List V) (n:Int) (g z D:Nat) (f:List Addr) (_:i=[.ref b,.ref a]) (_:BoxAt H b n) (_:n<1099511000000) (_:Ex H b f) (_:SqQ K (WX f H) t a l) (_:GL K (WX f H) g z D l) (_:z<=60000) (_:∀v c,SameB b H c->BoxAt c b (n+3)->DS K (WX f c) g (4*z+20) (D+4) v->Q v c):X3 K i H Q
def V2(K:W.Frag):Sp:=fun b H Q _=>X3 K b H Q
theorem zbV:zD ["_law_box_here","_law_row","_law_way","_law_at","_law_some"] ["_law_box_here","_law_row"] (zr (topL 49)):=u0
def zam(b:_)(a:_)(f:_)(q:_)(H:_)(n:_)(g:_)(K:_)(l:_)(z:_)(D:_):=fun(o:St) (c:Hp)=>(Ex2 fun(p:Addr) (i:List V)=>An6 (o=[some (.ref b),some (.ref a),some (.int f),some (.int q),some (.ref p)]) (SameB b H c) (BoxAt c b (n+3)) (p∉g) (c p=some (.lst i)) (GL K (WX g c) l (4*z+20) (D+3) i):Prop)
theorem zdH{f:Addr}{fd:FuncData}(F:Fun K "_law_bent_row" "_law_bent_row" (topL 49) f fd)(B:Blt I)(l:Dfn P w K I G "_law_take" 1 ["_law_box_here","_law_size"] jU)(N:Dfn P w K I G "_law_odd" 2 ["_law_box_here"] (Yc K)):FnOk P w K I G CX0 3 f fd ["_law_box_here","_law_row"] (V2 K):=by
 have nd:=zbV.nd;refine F.ok zbV (fun vs H Q E h=>?_) (fun ac A a9 s H vs Q E hr h=>?_)
 ·obtain⟨b,a,t,c,n,kk,z,D,ex,rfl,_⟩:=h
  rfl
 ·obtain⟨b,a,t,c,n,kk,z,D,ex,rfl,B0,hn,E0,hq,gl,hN,k⟩:=h
  have a8:=gl.all.1;have ab:=bG16000000;have a7:=bGe;have sq:∀H',SameB b H H'->SqQ K H' t a c:=fun H' s=>hq.same ((ue E0.mem s).trans WX.le)
  have M:∀H',SameB b H H'->GL K (WX ex H') kk z (D+3) c:=fun H' s=>gl.up (ue E0.mem s) (zi _) (zi _) (by omega)
  refine⟨_,(zf (Qb (i:=2) (j:=3) rfl nd rfl rfl (by decide) rfl rfl (za (zg l hr.m rfl (za (pv 0) (za ze zb))) (za (zg l hr.m rfl (za (pv 0) (za (zu zT (zk zo rfl B.len boot_len (za (pv 1) zb)) ze) zb))) zb)) (by rfl))
   (zf (zA (i:=4) nd rfl (Or.inl rfl) (zX xg rfl B.list jd (za (pv 1) zb)))
   (zf (j7 (z6 (zE qV (pv 2) ze (zC _))
   (zj (zA (i:=4) nd rfl (Or.inl rfl) (zu vo (zK jY (pv 4) qe (zL (pv 3))) (zK jY (pv 4) (zL (zu zT (pv 3) ze)) qe))))
   (zj (z6 (zE qV (pv 2) ze (zC _))
    (zj (zA (i:=4) nd rfl (Or.inl rfl) (zu vo (zu vo (zK jY (pv 4) qe (zL (pv 3))) (zK jY (pv 4) (zL (pv 3)) (zL (zu zT (pv 3) ze)))) (zK jY (pv 4) (zL (pv 3)) qe))))
    (zj (z6 (zE qV (pv 2) ze (zC _))
     (zj (xM (yy yL PySem.F.slot_list_insert PySem.F.type_list_insert Jp (pv 4) (za (pv 3) (za (zg N hr.m rfl (za (pv 0) zb)) zb)))))
     (zj (z6 (zE qV (pv 2) ze (zC _))
      (zj (zA (i:=4) nd rfl (Or.inl rfl) (zu vo (zu vo (zK jY (pv 4) qe (zL (pv 3))) (zaC (zK jY (pv 4) (zL (pv 3)) (zL (zu zT (pv 3) ze))) (zL (zb9 VQ ze)))) (zK jY (pv 4) (zL (zu zT (pv 3) ze)) qe))))
      (zj (z6 (zE qV (pv 2) ze (zC _))
       (zj (zq (jn (zS (zk zN rfl B.isinstance boot_isinstance (za (pv 1) (za (zM (v:=.ty "tuple") rfl B.tuple zJ rfl) zb)))) (pv 4) (zX qM rfl B.tuple zJ (za (pv 4) zb)))))
       (zj (zq (zg N hr.m rfl (za (pv 0) zb))))))))))))))
   (zj (zq (jn (zS (zk zN rfl B.isinstance boot_isinstance (za (pv 1) (za (zM (v:=.ty "tuple") rfl B.tuple zJ rfl) zb)))) (zX qM rfl B.tuple zJ (za (pv 4) zb)) (pv 4))))))),?_⟩
  refine⟨_,rfl,b,6,n,rfl,B0,by omega,by decide,by decide,fun aa H1 w0 w1 B1 S1=>⟨_,rfl,_,rfl,a,c,rfl,(sq _ S1).or,_,_,rfl,rfl,b,_,n+1,rfl,B1,by omega,by omega,by omega,fun q H2 q0 q1 B2 S2=>⟨_,_,rfl,?_⟩⟩⟩
  have U:=S1.trans S2;refine⟨_,rfl,a,c,rfl,(sq _ U).or,fun m hm=>?_⟩
  have E2:=E0.next U B2
  have mH:H m=none:=U.none hm (B2.nne hm);have mb:=B2.nne hm;have mx:=E2.out hm;have u:=U.new (o:=.lst c) hm;have B3:=B2.new (o:=.lst c) hm;have E3:=E2.same (zd (o:=.lst c) hm);have J:upd H2 m (.lst c) m=some (.lst c):=zc;generalize upd H2 m (.lst c)=H3 at u B3 E3 J;clear S1 S2 B1 B2 E2 hm;refine⟨zam b a aa q H n ex K kk z D,?_,?_⟩
  ·have g:∀(lo hi:Option Int),(qP c lo hi).length<=z:=fun lo hi=>qk (vf c lo hi) a8
   refine⟨_,rfl,rfl,_,rfl,zR (fun c0=>?_) (fun c0=>⟨_,rfl,rfl,_,rfl,zR (fun c1=>?_) (fun c1=>⟨_,rfl,rfl,_,rfl,zR (fun c2=>?_) (fun c2=>⟨_,rfl,rfl,_,rfl,zR (fun c3=>?_) (fun c3=>⟨_,rfl,rfl,_,rfl,zR (fun c4=>?_) (fun c4=>?_)⟩)⟩)⟩)⟩)⟩
   ·refine⟨_,rfl,_,rfl,_,rfl,m,c,rfl,u3 J,fun p1 h1=>?_⟩
    refine⟨_,rfl,_,rfl,_,_,rfl,rfl,_,rfl,m,c,rfl,u3 ((zd h1) _ _ J),fun p2 h2=>?_⟩
    have l1:=g none (some q);have l2:=g (some (q+1)) none;refine⟨p1,p2,_,_,rfl,rfl,(zd h2) _ _ zc,zc,by omega,fun p3 h3=>?_⟩
    have L:=M _ (((u.new h1).new h2).new (o:=.lst (qP c none (some q)++qP c (some (q+1)) none)) h3);exact⟨p3,_,rfl,((u.new h1).new h2).new h3,(((B3.new h1).new h2).new h3).mono (by omega),((E3.same (zd h1)).same (zd h2)).out h3,zc,((L.cut _ _).app (L.cut _ _)).up (u4 _) (zi _) (by omega) (zi _)⟩
   ·refine⟨_,rfl,_,rfl,_,rfl,m,c,rfl,u3 J,fun p1 h1=>?_⟩
    refine⟨_,rfl,_,rfl,_,rfl,_,rfl,_,_,rfl,rfl,_,rfl,m,c,rfl,u3 ((zd h1) _ _ J),fun p2 h2=>?_⟩
    have l1:=g none (some q);have l2:=g (some q) (some (q+1));have l3:=g (some q) none;refine⟨p1,p2,_,_,rfl,rfl,(zd h2) _ _ zc,zc,by omega,fun p3 h3=>?_⟩
    refine⟨_,rfl,_,rfl,_,rfl,m,c,rfl,u3 ((((zd h1).trans (zd h2)).trans (zd h3)) _ _ J),fun p4 O=>?_⟩
    refine⟨p3,p4,_,_,rfl,rfl,(zd O) _ _ zc,zc,by rw[qR];omega,fun p5 T=>?_⟩
    have L:=M _ (((((u.new h1).new h2).new h3).new O).new (o:=.lst ((qP c none (some q)++qP c (some q) (some (q+1)))++qP c (some q) none)) T);exact⟨p5,_,rfl,((((u.new h1).new h2).new h3).new O).new T,(((((B3.new h1).new h2).new h3).new O).new T).mono (by omega),((((E3.same (zd h1)).same (zd h2)).same (zd h3)).same (zd O)).out T,zc,(((L.cut _ _).app (L.cut _ _)).app (L.cut _ _)).up (u4 _) (zi _) (by omega) (zi _)⟩
   ·refine⟨_,rfl,.inl ⟨rfl,_,u3 J⟩,_,rfl,_,rfl,b,n+1+1,m::ex,rfl,B3,by omega,E3.cons J,fun v H4 Y B4 dv=>?_⟩
    have f4:=Y m _ J mb;refine⟨m,c,q,v,rfl,rfl,f4,q0,by rw[a7];omega,by omega,?_⟩
    have S5:=(u.trans Y).put (o:=.lst (c.take q.toNat++v::c.drop q.toNat)) mH;have L:=M _ S5;have a6:DS K (WX ex (upd H4 m (.lst (c.take q.toNat++v::c.drop q.toNat)))) kk 10 (D+3) v:=dv.up ((WX.put jx).trans WX.cons) (zY _) (zi _) (by omega)
    exact⟨m,_,rfl,S5,(B4.other mb).mono (by omega),mx,zc,((L.take _).app (xs:=c.take q.toNat) (ys:=[v]++c.drop q.toNat) ((u6 a6).app (L.drop _))).up (u4 _) (zi _) (by omega) (zi _)⟩
   ·refine⟨_,rfl,_,rfl,_,rfl,m,c,rfl,u3 J,fun p1 h1=>?_⟩
    refine⟨_,rfl,_,rfl,_,rfl,_,rfl,_,_,rfl,rfl,_,rfl,m,c,rfl,u3 ((zd h1) _ _ J),fun p2 h2=>?_⟩
    have l1:=g none (some q);have l2:=g (some q) (some (q+2));have l3:=g (some (q+2)) none;refine⟨_,rfl,_,rfl,p2,_,rfl,(by decide),u3 zc,fun zs p3 zm zl h3=>?_⟩
    refine⟨p1,p3,_,_,rfl,rfl,((zd h2).trans (zd h3)) _ _ zc,zc,by omega,fun p4 O=>?_⟩
    refine⟨_,rfl,_,rfl,_,_,rfl,rfl,_,rfl,m,c,rfl,u3 (((((zd h1).trans (zd h2)).trans (zd h3)).trans (zd O)) _ _ J),fun p5 T=>?_⟩
    refine⟨p4,p5,_,_,rfl,rfl,(zd T) _ _ zc,zc,by rw[qR];omega,fun p6 h6=>?_⟩
    have L:=M _ ((((((u.new h1).new h2).new h3).new O).new T).new (o:=.lst ((qP c none (some q)++zs)++qP c (some (q+2)) none)) h6);have z2:zs.length<=2:=by
     have e1:(some q:Option Int)=some ((q.toNat:Nat):Int):=by rw[Int.toNat_of_nonneg q0]
     have e2:(some (q+2):Option Int)=some ((q.toNat+2:Nat):Int):=by rw[show((q.toNat+2:Nat):Int)=q+2 by omega]
     have:=(zhd c q.toNat (q.toNat+2)).1;rw[<- e1,<- e2] at this;omega
    have gz:=(L.cut (some q) (some (q+2))).some zm;have zz:(z+1)*zs.length<=(z+1)*2:=Zs _ z2;exact⟨p6,_,rfl,(((((u.new h1).new h2).new h3).new O).new T).new h6,((((((B3.new h1).new h2).new h3).new O).new T).new h6).mono (by omega),(((((E3.same (zd h1)).same (zd h2)).same (zd h3)).same (zd O)).same (zd T)).out h6,zc,(((L.cut _ _).app gz).app (L.cut _ _)).up (u4 _) (zi _) (by omega) (zi _)⟩
   ·refine⟨_,rfl,_,tyQ t, "tuple",rfl,(sq _ u).ty,(by decide),_,rfl,zR (fun d=>⟨_,rfl,?_⟩) (fun d=>⟨_,rfl,m,c,rfl,.inl ⟨u3 J,fun p hp=>?_⟩⟩)⟩
    ·exact k _ H3 u (B3.mono (by omega)) ((GL.lst (u3 (WX.at mx J)) (M _ u)).up (u4 _) (zi _) (by omega) (zi _))
    ·exact k _ _ (u.new hp) ((B3.new hp).mono (by omega)) ((ub (u5 (WX.at (E3.out hp) zc)) (M _ (u.new hp))).up (u4 _) (zi _) (by omega) (zi _))
   ·exact⟨_,rfl,b,n+1+1,ex,rfl,B3,by omega,E3,fun v H4 Y B4 dv=>k v H4 (u.trans Y) (B4.mono (by omega)) (dv.up (u4 _) (zY _) (by omega) (by omega))⟩
  ·rintro σ' H4 ⟨p,ys,rfl,Y,B4,px,f4,yg⟩
   refine⟨_,rfl,_,tyQ t, "tuple",rfl,(sq _ Y).ty,(by decide),_,rfl,zR (fun d=>⟨_,rfl,p,ys,rfl,.inl ⟨u3 f4,fun p' hp=>?_⟩⟩) (fun d=>⟨_,rfl,?_⟩)⟩
   ·have E4:=E0.next Y B4
    exact k _ _ (Y.new hp) (B4.new hp) (ub (u5 (WX.at (E4.out hp) zc)) (yg.up (WX.new hp) (zi _) (zi _) (zi _)))
   ·exact k _ H4 Y B4 (GL.lst (u3 (WX.at px f4)) yg)
theorem DS.split3{F:Hp}{k z D:Nat}{v:V}(h:DS K F k z D v):v=.non\/(∃c,v=.bl c)\/(∃i:Int,v=.int i/\i.natAbs<=10000000000+k)\/(∃x:Str,v=.str x/\x.length<=z/\okC x)\/∃(a:Addr) (t:Bool) (f:List V) (ds:List Dat),v=.ref a/\SqQ K F t a f/\Reps K F ds f/\Dat.gds k ds=true/\Dat.blks ds<=z/\PyData.depthAll (Dat.pys ds)+1<=D:=by
 have o:=h;obtain⟨d,r,g,b,p⟩:=o;cases d with
 | str x=>exact .inr (.inr (.inr (.inl ⟨x,r,b,fun c hc=>qB (jw.mp g c hc)⟩)))
 | non=>exact .inl r
 | bl c=>exact .inr (.inl ⟨c,r⟩)
 | int i=>exact .inr (.inr (.inl ⟨i,r,qB g⟩))
 | lst ds=>
  obtain⟨a,f,e,q,l⟩:=r;exact .inr (.inr (.inr (.inr ⟨a,false,f,ds,e,q,l,g,b,p⟩)))
 | tup ds=>
  obtain⟨a,f,e,q,l⟩:=r;exact .inr (.inr (.inr (.inr ⟨a,true,f,ds,e,q,l,g,b,p⟩)))
def JV(K:W.Frag):Nat->Sp
 | 0=>fun _ _ _ _=>False
 | j+1=>fun l H Q _=>∃(b:Addr) (v:V) (n:Int) (g z D d:Nat) (f:List Addr),l=[.ref b,v,.int d]/\BoxAt H b n/\n+10*(j+1)<1099510000000/\Ex H b f/\DS K (WX f H) g z D v/\z<=60000/\g<=100/\d<=j/\j<=10 /\
  ∀i c,SameB b H c->BoxAt c b (n+6*(j+1))->DS K (WX f c) (g+1) ((4*z+20)+(j+1)*(z+2)) (D+4) i->Q i c
theorem zbU:zD ["_law_box_here","_law_thing","_law_deep","_law_at","_law_some"] ["_law_box_here","_law_thing","_law_deep"] (zr (topL 50)):=u0
def zal(b:_)(a:_)(d:_)(H:_)(n:_)(f:List V):=fun(g:St) (c:Hp)=>(Ex1 fun(q:Int)=>An5 (g=[some (.ref b),some (.ref a),some (.int d),some (.int q),none]) (SameB b H c) (BoxAt c b (n+3)) (0<=q) (q<f.length):Prop)
theorem YE{f:Addr}{fd:FuncData}(F:Fun K "_law_bent" "_law_bent" (topL 50) f fd)(B:Blt I)(hm:I "_law_bent" = some (.ref f))(hb:Binds K fd ["_law_box_here","_law_thing","_law_deep"] [])
  (u:Dfn P w K I G "_law_take" 1 ["_law_box_here","_law_size"] jU) (N:Dfn P w K I G "_law_odd" 2 ["_law_box_here"] (Yc K)) (l:Dfn P w K I G "_law_bent_word" 2 ["_law_box_here","_law_word"] zbs) (g:Dfn P w K I G "_law_bent_number" 2 ["_law_box_here","_law_number"] (zbu K)) (J:Dfn P w K I G "_law_bent_row" 3 ["_law_box_here","_law_row"] (V2 K)) :
  ∀j:Nat,FnOk P w K I G CX0 (j+3) f fd ["_law_box_here","_law_thing","_law_deep"] (JV K j)
 | 0=>⟨fun _ _ _ _ h=>h.elim,fun _ _ _ _ _ _ _ _ _ _ _ _ _ h=>h.elim⟩
 | j+1=>by
  have a8:Dfn P w K I G "_law_bent" (j+3) ["_law_box_here","_law_thing","_law_deep"] (JV K j):=⟨f,fd,YE F B hm hb u N l g J j,hm,F.kp,hb⟩;have nd:=zbU.nd;refine F.ok zbU (fun vs H Q E h=>?_) (fun am A aj s H vs Q E hr h=>?_)
  ·obtain⟨b,v,n,kk,z,D,d,ex,rfl,_⟩:=h
   rfl
  ·obtain⟨b,v,n,kk,z,D,d,ex,rfl,B0,hn,E0,dv,hN,hk,hd,hj,k⟩:=h
   have ak:=bG16000000;refine⟨_,(zf (z6 (zS (zk zN rfl B.isinstance boot_isinstance (za (pv 1) (za (zM (v:=.ty "str") rfl B.str xh rfl) zb))))
   (zj (zq (jn (zE qV (zg u (hr.mono (by omega)) rfl (za (pv 0) (za ze zb))) ze (zC _)) (zg N (hr.mono (by omega)) rfl (za (pv 0) zb)) (zg l (hr.mono (by omega)) rfl (za (pv 0) (za (pv 1) zb))))))
   zH)
   (zf (z6 (qo (zS (zk Zb rfl B.isinstance boot_isinstance (za (pv 1) (za (zP (za (zM (v:=.ty "list") rfl B.list jd rfl) (za (zM (v:=.ty "tuple") rfl B.tuple zJ rfl) zb))) zb)))))
   (zj (zq (jn (ua (jD (zE yP (pv 1) j8 (zC _)) (jm (zS (zk zN rfl B.isinstance boot_isinstance (za (pv 1) (za (zM (v:=.ty "bool") rfl B.bool vB rfl) zb))))))) (zg N (hr.mono (by omega)) rfl (za (pv 0) zb)) (zg g (hr.mono (by omega)) rfl (za (pv 0) (za (pv 1) zb))))))
   zH)
   (zf (z6 (ua (jD (zE qV (pv 2) ze (zC _)) (jD (zE qV (zk zo rfl B.len boot_len (za (pv 1) zb)) ze (zC _)) (jm (zE qV (zg u (hr.mono (by omega)) rfl (za (pv 0) (za ze zb))) ze (zC _))))))
   (zj (zq (zg J (hr.mono (by omega)) rfl (za (pv 0) (za (pv 1) zb)))))
   zH)
   (zf (j7 (zA (i:=3) nd rfl (Or.inl rfl) (jn (zE qV (zg u (hr.mono (by omega)) rfl (za (pv 0) (za ze zb))) ze (zC _)) (zu xu (zk zo rfl B.len boot_len (za (pv 1) zb)) ze) (zg u (hr.mono (by omega)) rfl (za (pv 0) (za (zk zo rfl B.len boot_len (za (pv 1) zb)) zb))))))
   (zf (zA (i:=4) nd rfl (Or.inl rfl) (zX xg rfl B.list jd (za (pv 1) zb)))
   (zf (xG (zg a8 (hr.mono (by omega)) rfl (za (pv 0) (za (zV zW (pv 4) (pv 3) (fun _ _=>rfl)) (za (zu xu (pv 2) ze) zb)))) (J0 (pv 4) (pv 3) yp))
   (zj (zq (jn (zS (zk zN rfl B.isinstance boot_isinstance (za (pv 1) (za (zM (v:=.ty "tuple") rfl B.tuple zJ rfl) zb)))) (zX qM rfl B.tuple zJ (za (pv 4) zb)) (pv 4)))))))))),?_⟩
   have aa:∀T (m:Int),SameB b H T->BoxAt T b m->m<=n+1->Yc K [.ref b] T Q E:=fun T m M O ai=>
    ⟨b,m,ex,rfl,O,by omega,E0.next M O,fun U Y S' B' a7=>k U Y (M.trans S') (B'.mono (by omega)) (a7.up (u4 _) (zY _) (by omega) (by omega))⟩
   rcases dv.split3 with rfl | ⟨c,rfl⟩ | ⟨i,rfl,h⟩ | ⟨x,rfl,h,ho⟩ | ⟨a,t,L,ds,rfl,hq,rs,gs,bs,an⟩
   ·refine⟨_,rfl,_, "NoneType", "str",rfl,rfl,(by decide),_,rfl,ifF (by decide) ⟨_,rfl,wN,fun p hp=>⟨_, "NoneType",p,["list","tuple"],rfl,rfl,zc,(by decide),_,rfl,ifT (by decide) ⟨_,rfl,rfl,_,rfl,ifT (by simp) (ifT rfl ⟨_,rfl,?_⟩)⟩⟩⟩⟩
    exact aa _ n ((u7 b H).new hp) (B0.new hp) (by omega)
   ·refine⟨_,rfl,_, "bool", "str",rfl,rfl,(by decide),_,rfl,ifF (by decide) ⟨_,rfl,wN,fun p hp=>⟨_, "bool",p,["list","tuple"],rfl,rfl,zc,(by decide),_,rfl,ifT (by decide) ⟨_,rfl,rfl,_,rfl,ifF (by simp) ⟨_,rfl,_, "bool", "bool",rfl,rfl,(by decide),_,rfl,ifT (by decide) ⟨_,rfl,?_⟩⟩⟩⟩⟩⟩
    exact aa _ n ((u7 b H).new hp) (B0.new hp) (by omega)
   ·refine⟨_,rfl,_, "int", "str",rfl,rfl,(by decide),_,rfl,ifF (by decide) ⟨_,rfl,wN,fun p hp=>⟨_, "int",p,["list","tuple"],rfl,rfl,zc,(by decide),_,rfl,ifT (by decide) ⟨_,rfl,rfl,_,rfl,ifF (by simp) ⟨_,rfl,_, "int", "bool",rfl,rfl,(by decide),_,rfl,ifF (by decide) ⟨_,rfl,_,rfl,?_⟩⟩⟩⟩⟩⟩
    exact⟨b,i,n,kk,ex,rfl,B0.new hp,by omega,h,by omega,E0.same (zd hp),fun U Y S' B' a7=>k U Y (((u7 b H).new hp).trans S') (B'.mono (by omega)) (a7.up (u4 _) (zi _) (by omega) (by omega))⟩
   ·refine⟨_,rfl,_, "str", "str",rfl,rfl,(by decide),_,rfl,ifT (by decide) ⟨_,rfl,b,4,n,rfl,B0,by omega,by decide,by decide,fun r T r0 r1 O M=>⟨rfl,_,rfl,zR (fun c=>⟨_,rfl,aa T _ M O (by omega)⟩) (fun c=>⟨_,rfl,_,rfl,?_⟩)⟩⟩⟩
    exact⟨b,x,n+1,z,rfl,O,by omega,h,hN,ho,fun y Y S' B' hy oy=>k (.str y) Y (M.trans S') (B'.mono (by omega)) (DS.str (by omega) oy)⟩
   have sq:∀Y,SameB b H Y->SqQ K Y t a L:=fun Y s=>hq.same ((ue E0.mem s).trans WX.le)
   have ab:∀T (m:Int),SameB b H T->BoxAt T b m->m<=n+1->V2 K [.ref b,.ref a] T Q E:=fun T m M O ai=>
    ⟨b,a,t,L,m,kk,z,D-1,ex,rfl,O,by omega,E0.next M O,hq.same (ue E0.mem M),⟨ds,rs.same (ue E0.mem M),gs,bs,by omega⟩,hN,fun U Y S' B' a7=>k U Y (M.trans S') (B'.mono (by omega)) (a7.up (u4 _) (by omega) (Nat.le_add_right _ _) (by omega))⟩
   obtain⟨lx,al⟩:=Qz (z:=z) (D:=D-1) rs gs bs (by omega)
   have ns:xn (tyQ t) "str" = false:=by cases t<;>decide
   have ny:(!(["list","tuple"].any fun C=>xn (tyQ t) C))=false:=by cases t<;>decide
   have S0:=u7 b H;refine⟨_,rfl,_,tyQ t, "str",rfl,(sq H S0).ty,(by decide),_,rfl,ifF ns ⟨_,rfl,wN,fun p hp=>⟨_,tyQ t,p,["list","tuple"],rfl,(sq _ (S0.new hp)).ty,zc,(by decide),_,rfl,ifF ny ?_⟩⟩⟩
   have M:=S0.new (o:=.tup [V.ty "list",V.ty "tuple"]) hp;have O:=B0.new (o:=.tup [V.ty "list",V.ty "tuple"]) hp;generalize upd H p (.tup [V.ty "list",V.ty "tuple"])=T at M O;refine⟨_,rfl,rfl,_,rfl,zR (fun c=>ifT rfl ⟨_,rfl,_,rfl,ab T n M O (by omega)⟩) (fun c=>⟨_,rfl,a,L,rfl,(sq _ M).or,rfl,_,rfl,zR (fun c2=>ifT rfl ⟨_,rfl,_,rfl,ab T n M O (by omega)⟩) (fun c2=>⟨_,rfl,b,4,n,rfl,O,by omega,by decide,by decide,fun r H2 r0 r1 B2 S2=>⟨rfl,_,rfl,zR (fun c3=>⟨_,rfl,_,rfl,ab H2 _ (M.trans S2) B2 (by omega)⟩) (fun c3=>?_)⟩⟩)⟩)⟩
   have a6:=M.trans S2;have d0:d≠0:=fun z=>c (by rw[z];exact zQ rfl)
   have x0:L.length≠0:=fun z=>c2 (by rw[z];exact zQ rfl)
   clear M S2 O;refine⟨zal b a d H n L,?_,?_⟩
   ·refine⟨_,rfl,b,4,n+1,rfl,B2,by omega,by decide,by decide,fun r2 H3 ao ap B3 S3=>⟨rfl,_,rfl,zR (fun e=>?_) (fun e=>?_)⟩⟩
    ·exact⟨_,rfl,a,L,rfl,(sq _ (a6.trans S3)).or,_,_,rfl,rfl,_,rfl,a6.trans S3,B3.mono (by omega),by omega,by omega⟩
    ·exact⟨_,rfl,_,rfl,a,L,rfl,(sq _ (a6.trans S3)).or,b,_,n+1+1,rfl,B3,by omega,by omega,by omega,fun q H4 q0 q1 B4 S4=>⟨q,rfl,(a6.trans S3).trans S4,B4.mono (by omega),q0,q1⟩⟩
   rintro σ' H3 ⟨q,rfl,S3,B3,q0,q1⟩;clear a6 B2;refine⟨_,rfl,a,L,rfl,(sq _ S3).or,fun m hm=>?_⟩
   have E3:=E0.next S3 B3
   have mH:H m=none:=S3.none hm (B3.nne hm);have mb:=B3.nne hm;have mx:=E3.out hm;have S4:=S3.new (o:=.lst L) hm;have B4:=B3.new (o:=.lst L) hm;have E4:=E3.same (zd (o:=.lst L) hm);have w4:=(ue E0.mem S3).trans (WX.fresh hm (.lst L));have f4:upd H3 m (.lst L) m=some (.lst L):=zc;generalize upd H3 m (.lst L)=H4 at S4 B4 E4 f4 w4;obtain⟨x,ag,ah⟩:=vL (xs:=L) q0 q1;have dx:=(al x (qY ah)).up w4 (zi _) (by omega:z-1<=z) (zi _)
   obtain⟨d',rfl⟩:∃d',d=d'+1:=⟨d-1,by omega⟩
   obtain⟨j',rfl⟩:∃j',j=j'+1:=⟨j-1,by omega⟩
   refine⟨_,rfl,_,rfl,_,rfl,m,L,_,x,rfl,rfl,u3 f4,ag,_,rfl,_,_,rfl,rfl,?_⟩
   refine⟨b,x,n+3,kk,z,D-1,d',m::ex,?_,B4,by omega,E4.cons f4,dx,hN,hk,by omega,by omega,fun U H5 S5 B5 af=>?_⟩
   ·show [V.ref b,x,V.int (((d'+1:Nat):Int)-1)]=[V.ref b,x,V.int (d':Int)]
    have:(((d'+1:Nat):Int)-1)=(d':Int):=by omega
    rw[this]
   have f5:=S5 m _ f4 mb;refine⟨_,rfl,_,rfl,m,L,q,q.toNat,rfl,rfl,f5,zfI q0 q1,?_⟩
   have S6:=(S4.trans S5).put (o:=.lst (L.set q.toNat U)) mH;have B6:=B5.other (o:=.lst (L.set q.toNat U)) mb;have f6:upd H5 m (.lst (L.set q.toNat U)) m=some (.lst (L.set q.toNat U)):=zc;have ac:=af.up ((WX.put (H:=H5) (o:=.lst (L.set q.toNat U)) jx).trans WX.cons) (zi _) (zi _) (zi _);generalize upd H5 m (.lst (L.set q.toNat U))=H6 at S6 B6 f6 ac;have E6:=E0.next S6 B6
   have ae:GL K (WX ex H6) (kk+1) ((4*z+20)+(j'+1+1)*(z+2)) (D+3) (L.set q.toNat U):=by
    obtain⟨d2,rd,gd⟩:=ac;have b6:=VM (ds:=ds) (i:=q.toNat) (d:=d2);have p6:=VF (ds:=ds) (i:=q.toNat) (d:=d2);have gb:=gd.b;have gp:=gd.p;have em:(j'+1+1)*(z+2)=(j'+1)*(z+2)+(z+2):=QH _ _;exact⟨_,Reps.set (i:=q.toNat) (rs.same (ue E0.mem S6)) rd,YR (i:=q.toNat) (d:=d2) (Dat.gds_up (by omega:kk<=kk+1) gs) gd.g,by rw[em];omega,by omega⟩
   refine⟨_,rfl,_,tyQ t, "tuple",rfl,(sq _ S6).ty,(by decide),_,rfl,zR (fun e=>⟨_,rfl,m,_,rfl,.inl ⟨u3 f6,fun p' a9=>?_⟩⟩) (fun e=>⟨_,rfl,?_⟩)⟩
   ·exact k _ _ (S6.new a9) ((B6.new a9).mono (by omega)) (ub (u5 (WX.at (E6.out a9) zc)) (ae.up (WX.new a9) (zi _) (zi _) (zi _)))
   ·exact k _ H6 S6 (B6.mono (by omega)) (GL.lst (u3 (WX.at mx f6)) ae)
def prD(p:Int×Int):Dat:=.tup [.int p.1,.int p.2]
inductive Jg(K:W.Frag)(f:List V)(H:Hp)(Q:VK):Prop
 | mk (t:Addr) (g:List V) (c:List (Int×Int)) (_:f=[.ref t]) (_:SqL K H t g) (_:Reps K H (c.map prD) g) (_:c.length<=1000) (_:∀(l:Addr) (i:List V) b,Same H b->b l=some (.lst i)->Reps K b (c.map fun p=>prD p.swap) i->Q (.ref l) b):Jg K f H Q
def W3(K:W.Frag):Sp:=fun b H Q _=>Jg K b H Q
theorem Yp:zD ["pairs"] ["pairs"] (zr (topL 23)):=u0
theorem zch{f:Addr}{M:FuncData}(F:Fun K "turned" "turned" (topL 23) f M)(B:Blt I):FnOk P w K I G CX0 1 f M ["pairs"] (W3 K):=by
 have nd:=Yp.nd;refine F.ok Yp (fun vs H Q E h=>?_) (fun a6 A D s H vs Q E hr h=>?_)
 ·obtain⟨t,J,g,rfl,_⟩:=h
  rfl
 ·obtain⟨t,J,g,rfl,T,Y,la,k⟩:=h
  have N:=bG100000;have U:=Y.len;rw[zv] at U;refine⟨_,(zj (zq (Qd [] [] rfl rfl (by kernel_rfl) (xN (pv 0)) (fun _ _ _ _=>qN) (fun _ _ _ _=>(zP (za (pv 1) (za (pv 0) zb))))))),?_⟩
  have l2:∀x y:V,[x,y].length<=sizeLine:=fun x y=>by rw[sizeLine_eq];show 2<=_;decide
  refine⟨_,rfl,t,rfl,⟨_,T⟩,yA (K:=K) (a:=t) (xs:=J) (fun i o u=>Reps K u ((g.take i).map fun p=>prD p.swap) o/\Same H u) ⟨rfl,u4 _⟩ (fun i o u ⟨_,c⟩=>c.seq T) ?_ ?_⟩
  ·rintro i x o H1 hx ⟨b,c⟩
   obtain⟨d,e1,r1⟩:=(Y.same c).get hx;rw[jM] at e1;obtain⟨p,L,rfl⟩:=jN.mp e1;have hi:i<g.length:=(qg.mp L).1;obtain⟨a,ws,rfl,qa,x1,a7,rfl,e2,x2,a8,rfl,e3,e4⟩:=r1;cases e2;cases e3;cases e4;refine⟨a,_,rfl,qa,rfl,_,_,rfl,_,_,rfl,rfl,rfl,?_⟩
   refine⟨_,rfl,_,rfl,l2 _ _,fun q hq=>⟨?_,?_,c.trans (zd hq)⟩⟩
   ·have:=b.len
    rw[zv,qI] at this;omega
   ·have e5:g.take (i+1)=g.take i++[p]:=by
     obtain⟨h1,h2⟩:=qg.mp L;rw[<- h2,vV]
    rw[e5,qm];exact Reps.snoc (d:=prD p.swap) ⟨q,_,rfl,u5 zc,_,_,rfl,rfl,_,_,rfl,rfl,rfl⟩ (b.same (zd hq))
  ·rintro o H1 ⟨b,c⟩
   rw[U,jL] at b;refine⟨by have:=b.len;rw[zv] at this;omega,fun l O=>k l o _ (c.trans (zd O)) zc (b.same (zd O))⟩
def xV(b:List (Int×Int))(i:Int):List Int:=(b.filter fun p=>decide (p.1=i)).map (·.2)
structure NB(H0 H:Hp)(kvs:List (Key×V))(as:List (Int×Int)):Prop where
 at_:∀i v,qO kvs (Sum.inl i)=some v->∃l,v=.ref l/\H0 l=none/\H l=some (.lst ((xV as i).map V.int))
 no:∀i,qO kvs (Sum.inl i)=none->xV as i=[]
 inj:∀i j l,qO kvs (Sum.inl i)=some (.ref l)->qO kvs (Sum.inl j)=some (.ref l)->i=j
 few:kvs.length<=as.length
theorem wC(b:List (Int×Int))(x y i:Int):xV (b++[(x,y)]) i=xV b i++(if x=i then [y] else []):=by
 unfold xV;rw[Wx,qm];congr 1
 by_cases h:x=i<;>simp[h]
theorem W2(b:List (Int×Int))(i:Int):(xV b i).length<=b.length:=by
 unfold xV;rw[zv];exact Zu _ _
theorem NB.old{f H g:Hp}{b:List (Key×V)}{c:List (Int×Int)}{x y:Int}{l:Addr}(n:NB f H b c)(s:Same H g)(e:qO b (Sum.inl x)=some (.ref l)) :
  NB f (upd g l (.lst ((xV c x).map V.int++[.int y]))) b (c++[(x,y)]):=by
 refine⟨fun i v hv=>?_,fun i hv=>?_,n.inj,by rw[qR];have:=n.few;omega⟩
 ·obtain⟨o,rfl,h0,h1⟩:=n.at_ i v hv
  refine⟨o,rfl,h0,?_⟩
  rw[wC];by_cases hx:x=i
  ·subst hx
   rw[e] at hv;cases hv;rw[zc,zF rfl,qm];rfl
  ·have ne:o≠l:=fun z=>hx (n.inj x i l e (by rw[<- z];exact hv))
   rw[zt ne,zB hx,wg];exact s _ _ h1
 ·rw[wC,n.no i hv,zB (fun z=>by rw[<- z,e] at hv;cases hv)]
  rfl
theorem NB.new{g H:Hp}{b:List (Key×V)}{o:List (Int×Int)}{x y:Int}{m d:Addr}(n:NB g H b o)(A:H m=none)(h0:g m=none)(u:H d=some (.dK b))(e:qO b (Sum.inl x)=none) :
  NB g (upd (upd (upd H m (.lst [])) d (.dK (xo b (Sum.inl x) (.ref m)))) m (.lst ([]++[.int y]))) (xo b (Sum.inl x) (.ref m)) (o++[(x,y)]):=by
 have old:∀i l,qO b (Sum.inl i)=some (.ref l)->H l=some (.lst ((xV o i).map V.int))/\l≠m/\l≠d:=fun i l h=>by
  obtain⟨D,z,_,h1⟩:=n.at_ i _ h;cases z;refine⟨h1,fun z=>?_,fun z=>?_⟩
  ·rw[z,A] at h1;cases h1
  ·rw[z,u] at h1;cases h1
 refine⟨fun i v hv=>?_,fun i hv=>?_,fun i j l c f=>?_,?_⟩
 ·rw[ZY] at hv
  rw[wC];by_cases hx:i=x
  ·subst hx
   rw[zF rfl] at hv;cases hv;refine⟨m,rfl,h0,?_⟩
   rw[zc,n.no _ e,zF rfl];rfl
  ·rw[zB (fun z=>hx (vP z))] at hv
   obtain⟨l,rfl,h1,h2⟩:=n.at_ i v hv;obtain⟨_,s,B⟩:=old i l hv;refine⟨l,rfl,h1,?_⟩
   rw[zt s,zt B,zt s,zB (qA hx),wg];exact h2
 ·rw[ZY] at hv
  by_cases hx:i=x
  ·subst hx;rw[zF rfl] at hv;cases hv
  ·rw[zB (fun z=>hx (vP z))] at hv
   rw[wC,n.no i hv,zB (qA hx)];rfl
 ·rw[ZY] at c f
  by_cases h1:i=x<;>by_cases h2:j=x
  ·rw[h1,h2]
  ·rw[zF (by rw[h1])] at c
   rw[zB (fun z=>h2 (vP z))] at f
   cases c;exact absurd rfl (old j _ f).2.1
  ·rw[zB (fun z=>h1 (vP z))] at c
   rw[zF (by rw[h2])] at f
   cases f;exact absurd rfl (old i _ c).2.1
  ·rw[zB (fun z=>h1 (vP z))] at c
   rw[zB (fun z=>h2 (vP z))] at f
   exact n.inj i j l c f
 ·have:=xC b (Sum.inl x) (.ref m)
  have:=n.few;rw[qR,WK];omega
inductive XZ(K:W.Frag)(i:List V)(H:Hp)(Q:VK):Prop
 | mk (t:Addr) (g:List V) (f:List (Int×Int)) (_:i=[.ref t]) (_:(SqL K H t g\/SqT K H t g)) (_:Reps K H (f.map prD) g) (_:f.length<=1000) (_:∀(d:Addr) (b:List (Key×V)) c,Same H c->H d=none->c d=some (.dK b)->NB H c b f->Q (.ref d) c):XZ K i H Q
def zby(K:W.Frag):Sp:=fun b H Q _=>XZ K b H Q
theorem zbP:zD ["pairs","rows","one","other"] ["pairs"] (zr (topL 24)):=u0
theorem zdC{f:Addr}{fd:FuncData}(F:Fun K "next_by" "next_by" (topL 24) f fd)(B:Blt I):FnOk P w K I G CX0 1 f fd ["pairs"] (zby K):=by
 have T:=zbP.nd;refine F.ok zbP (fun vs H Q E h=>?_) (fun a9 A a7 s H vs Q E hr h=>?_)
 ·obtain⟨t,O,M,rfl,_⟩:=h
  rfl
 ·obtain⟨t,O,M,rfl,ht,rp,la,k⟩:=h
  have a8:=bG100000;have aa:=Vw hr;have lx:=rp.len;rw[zv] at lx;refine⟨_,(zf (zA (i:=1) T rfl (Or.inl rfl) zca)
   (zf (jH xm rfl (zfa (pv 0)) (xH rfl (zI (zG (i:=2) T rfl (Or.inl rfl)) (zI (zG (i:=3) T rfl (Or.inl rfl)) jZ)))
   (zj (xM (yy yL QC QB xA (zfd (pv 1) (pv 2) (zU zb) ⟨rfl,rfl,rfl,rfl⟩) (za (pv 3) zb)))))
   (zj (zq (pv 1))))),?_⟩
  refine fun d hd=>?_
  have e0:NB H (upd H d (.dK [])) [] ([]:List (Int×Int)):=⟨(fun i v z=>nomatch z),(fun _ _=>rfl),(fun i j l z=>nomatch z),zi _⟩
  have s0:Same H (upd H d (.dK [])):=zd hd;have step:∀(i:Nat) (x:V) (u:Hp) (b:List (Key×V)),O[i]? =some x->u d=some (.dK b)->NB H u b (M.take i)->Same H u->∃(a:Addr) (p:Int×Int),x=.ref a/\SqT K u a [.int p.1,.int p.2]/\M[i]? =some p/\i<M.length/\M.take (i+1)=M.take i++[p]:=fun i x u b hx _ _ g=>by
   obtain⟨dd,e1,r1⟩:=(rp.same g).get hx;rw[jM] at e1;obtain⟨p,ep,rfl⟩:=jN.mp e1;obtain⟨h1,h2⟩:=qg.mp ep;obtain⟨a,ws,rfl,qa,x1,ab,rfl,e2,x2,ac,rfl,e3,e4⟩:=r1;cases e2;cases e3;cases e4;exact⟨a,p,rfl,qa,ep,h1,by rw[<- h2,vV]⟩
  refine⟨_,rfl,t,rfl,ht.elim (fun hL=>.inl ⟨⟨_,s0.seq hL⟩,wb (K:=K) (a:=t) (xs:=O) (fun i σ J=>Ex3 fun(Y v3:Option V) (b:List (Key×V))=>An4 (σ=[some (.ref t),some (.ref d),Y,v3]) (J d=some (.dK b)) (NB H J b (M.take i)) (Same H J))
   ⟨_,_,[],rfl,zc,e0,s0⟩ (fun i σ J _ ⟨_,_,_,_,_,_,g⟩=>g.seq hL) ?s1 ?e1⟩) (fun hT=>.inr ⟨⟨_,s0.sqT hT⟩,zdV (K:=K) (a:=t) (xs:=O) (fun i σ J=>Ex3 fun(Y v3:Option V) (b:List (Key×V))=>An4 (σ=[some (.ref t),some (.ref d),Y,v3]) (J d=some (.dK b)) (NB H J b (M.take i)) (Same H J))
   ⟨_,_,[],rfl,zc,e0,s0⟩ (fun i σ J _ ⟨_,_,_,_,_,_,g⟩=>g.sqT hT) ?s2 ?e2⟩)⟩
  case e1 | e2=>
   rintro σ u ⟨Y,v3,b,rfl,h1,N,g⟩;rw[lx,jL] at N;exact⟨_,rfl,k d b u g hd h1 N⟩
  case s1 | s2=>
   rintro i x σ u hx ⟨Y,v3,b,rfl,h1,N,g⟩;obtain⟨a,p,rfl,qa,ep,hi,et⟩:=step i x u b hx h1 N g;rw[et];have a6:=N.few;rw[qI] at a6;refine⟨a,_,rfl,qa,rfl,_,_,rfl,_,_,rfl,rfl,?_⟩
   refine⟨_,rfl,d,rfl,.inl ⟨_,.inl h1⟩,_,rfl,le0,fun m D=>⟨b,Sum.inl p.1,(zd (o:=.lst []) D) _ _ h1,rfl,by omega,fun v hv=>?_,fun hv=>?_⟩⟩
   ·obtain⟨l,rfl,l0,ll⟩:=N.at_ _ v hv
    have L:=(zd (o:=.lst []) D) _ _ ll;have T:d≠l:=fun z=>by rw[<- z,h1] at ll;cases ll
    have sl:=W2 (M.take i) p.1;rw[qI] at sl;refine⟨.inl ⟨rfl,_,u3 L⟩,_,rfl,l,_,_,rfl,rfl,L,by rw[zv];omega,?_⟩
    exact⟨_,_,b,rfl,by rw[zt T];exact(zd (o:=.lst []) D) _ _ h1,N.old (zd D) hv,fun c o e=>by rw[zt (zp e l0)];exact(zd D) _ _ (g _ _ e)⟩
   ·have U:m≠d:=fun z=>by rw[z,h1] at D;cases D
    have m0:H m=none:=by
     cases z:H m with
     | none=>rfl
     | some o=>rw[g _ _ z] at D;cases D
    have L:upd (upd u m (.lst [])) d (.dK (xo b (Sum.inl p.1) (.ref m))) m=some (.lst []):=by rw[zt U];exact zc
    refine⟨.inl ⟨rfl,_,u3 L⟩,_,rfl,m,_,_,rfl,rfl,L,by show 0<_;omega,?_⟩
    exact⟨_,_,_,rfl,by rw[zt (qA U)];exact zc,N.new D m0 h1 hv,fun c o e=>by rw[zt (zp e m0),zt (zp e hd),zt (zp e m0)];exact g _ _ e⟩
end
section
variable{f:List (Int×Int)}
theorem Wk.closed{C:Int->Prop}(c:∀x y,C x->(x,y)∈f->C y):∀{n:Nat} {i j:Int},C i->Wk f n i j->C j
 | 0,i,j,h,e=>by cases(show i=j from e);exact h
 | n+1,i,j,h,⟨m,e,w⟩=>Wk.closed c (c i m h e) w
theorem jA{i j:Int}:j∈xV f i↔(i,j)∈f:=by
 unfold xV;rw[qr];constructor
 ·rintro⟨⟨a,b⟩,h,rfl⟩
  obtain⟨h1,h2⟩:=wI.mp h;rw[<- qB h2];exact h1
 ·intro h
  exact⟨(i,j),wI.mpr ⟨h,zQ rfl⟩,rfl⟩
end
def dkI(b:List (Int×Int)):List (Key×V):=b.map fun p=>(Sum.inl p.1,V.int p.2)
theorem zdX(b:List (Int×Int)):(dkI b).length=b.length:=zv _
theorem yD:∀(b:List (Int×Int)) (i:Int),(∃v,qO (dkI b) (Sum.inl i)=some (.int v)/\i∈b.map (·.1))\/(qO (dkI b) (Sum.inl i)=none/\i∉b.map (·.1))
 | [],i=>.inr ⟨rfl,by simp⟩
 | p::b,i=>by
  by_cases h:p.1=i
  ·exact .inl ⟨p.2,ji (by show Sum.inl p.1=_;rw[h]),by simp[h]⟩
  ·have e:qO (dkI (p::b)) (Sum.inl i)=qO (dkI b) (Sum.inl i):=jk (fun z=>h (vP z))
   rcases yD b i with ⟨v,h1,h2⟩ | ⟨h1,h2⟩
   ·exact .inl ⟨v,e.trans h1,by simp only[jf,z9];exact .inr h2⟩
   ·exact .inr ⟨e.trans h1,by simp only[jf,z9];rintro(z | z);exact h z.symm;exact h2 z⟩
theorem zdW{b:List (Int×Int)}{i v:Int}(h:qO (dkI b) (Sum.inl i)=none):xo (dkI b) (Sum.inl i) (.int v)=dkI (b++[(i,v)]):=by
 rw[zb1 _ h];unfold dkI;rw[qm];rfl
structure RowsOk(H:Hp)(rk:List (Key×V))(as:List (Int×Int)):Prop where
 at_:∀i v,qO rk (Sum.inl i)=some v->∃l,v=.ref l/\H l=some (.lst ((xV as i).map V.int))
 no:∀i,qO rk (Sum.inl i)=none->xV as i=[]
theorem RowsOk.same{H c:Hp}{g:List (Key×V)}{f:List (Int×Int)}(r:RowsOk H g f)(s:Same H c):RowsOk c g f:=⟨fun i v e=>let ⟨l,a,b⟩:=r.at_ i v e;⟨l,a,s _ _ b⟩,r.no⟩
theorem zcJ{b:List (Int×Int)}(c:(b.map (·.1)).Nodup){i v:Int}:qO (dkI b) (Sum.inl i)=some (.int v)↔(i,v)∈b:=by
 induction b with
 | nil=>exact⟨fun h=>(nomatch h),fun h=>nomatch h⟩
 | cons p b f=>
  rw[jf,wf] at c;by_cases h:p.1=i
  ·have e:qO (dkI (p::b)) (Sum.inl i)=some (.int p.2):=ji (by show Sum.inl p.1=_;rw[h])
   rw[e];constructor
   ·intro q
    cases q;exact z9.mpr (.inl (by rw[<- h]))
   ·intro q
    rcases z9.mp q with z | z
    ·rw[<- z]
    ·exact absurd (qr.mpr ⟨(i,v),z,h.symm⟩) c.1
  ·have e:qO (dkI (p::b)) (Sum.inl i)=qO (dkI b) (Sum.inl i):=jk (fun z=>h (vP z))
   rw[e,f c.2,z9];exact⟨fun z=>.inr z,fun z=>z.elim (fun y=>absurd (by rw[<- y]) h) id⟩
structure Lvl(as:List (Int×Int))(s:Int)(k:Nat)(ps:List (Int×Int))(es:List Int):Prop where
 nd:(ps.map (·.1)).Nodup
 snd:∀p∈ps,∃d:Nat,p.2=d/\d<=k/\Dist as d s p.1
 all:∀j d,d<=k->Dist as d s j->j∈ps.map (·.1)
 edge:∀j,j∈es↔Dist as k s j
theorem Dist.pre{c:List (Int×Int)}{s:Int}{k:Nat}:∀{d:Nat} {j:Int},k<=d->Dist c d s j->∃x,Dist c k s x
 | 0,j,h,b=>⟨j,by rw[show k=0 by omega];exact b⟩
 | d+1,j,h,b=>by
  by_cases e:k=d+1
  ·exact⟨j,by rw[e];exact b⟩
  ·obtain⟨x,w,hx⟩:=b.1.unsnoc
   exact Dist.pre (j:=x) (by omega) ⟨w,fun f i g=>b.2 (f+1) (by omega) (g.snoc hx)⟩
def xx(k:Nat)(b:List Int):List (Int×Int):=b.map fun j=>(j,((k+1:Nat):Int))
theorem yT(k:Nat)(b:List Int):(xx k b).map (·.1)=b:=by
 unfold xx;rw[vt];exact List.map_id'' (fun _=>rfl) b
theorem Lvl.next{f:List (Int×Int)}{s:Int}{k:Nat}{i:List (Int×Int)}{o c:List Int}(h:Lvl f s k i o)(B:((i++xx k c).map (·.1)).Nodup)(g:∀j∈c,Dist f (k+1) s j)
  (u:∀x∈o,∀y,(x,y)∈f->y∈(i++xx k c).map (·.1)):Lvl f s (k+1) (i++xx k c) c:=by
 have all:∀j d,d<=k+1->Dist f d s j->j∈(i++xx k c).map (·.1):=fun j d E b=>by
  by_cases e:d=k+1
  ·subst e
   obtain⟨x,w,hx⟩:=b.1.unsnoc;exact u x ((h.edge x).mpr ⟨w,fun A G D=>b.2 (A+1) (by omega) (D.snoc hx)⟩) j hx
  ·rw[qm]
   exact vm _ (h.all j d (by omega) b)
 refine⟨B,fun p hp=>?_,all,fun j=>⟨g j,fun b=>?_⟩⟩
 ·rcases ju.mp hp with z | z
  ·obtain⟨d,e1,e2,l⟩:=h.snd p z
   exact⟨d,e1,by omega,l⟩
  ·obtain⟨j,b,rfl⟩:=qr.mp z
   exact⟨k+1,rfl,zi _,g j b⟩
 ·have:=all j (k+1) (zi _) b
  rw[qm,yT] at this;rcases ju.mp this with z | z
  ·obtain⟨p,hp,rfl⟩:=qr.mp z
   obtain⟨d,_,e2,l⟩:=h.snd p hp;have:=l.uniq b;omega
  ·exact z
theorem Lvl.done{f:List (Int×Int)}{s:Int}{k:Nat}{g:List (Int×Int)}(h:Lvl f s k g []):∀j v,(j,v)∈g↔∃d:Nat,v=d/\Dist f d s j:=fun j v=>by
 constructor
 ·intro hp
  obtain⟨d,e1,_,b⟩:=h.snd _ hp;exact⟨d,e1,b⟩
 ·rintro⟨d,rfl,c⟩
  rcases Zf d k with z | z
  ·obtain⟨p,hp,e⟩:=qr.mp (h.all j d (by omega) c)
   obtain⟨i,e1,_,b⟩:=h.snd p hp;have e:p.1=j:=e;rw[e] at b;have:=b.uniq c;subst this;rw[<- e,<- e1];exact hp
  ·obtain⟨x,hx⟩:=c.pre z
   exact absurd ((h.edge x).mpr hx) (by simp)
def WSt(H:Hp)(g:List (Int×Int))(n:Nat)(s:Int)(r d:Addr)(m:Nat)(σ:St)(c:Hp):Prop:=
 ∃(e:Addr) (b:List Int) (f:List (Int×Int)) (i:Nat) (l o u:Option V),σ=[some (.int s),some (.ref r),some (.ref d),some (.ref e),l,o,u]/\H e=none/\e≠d/\c e=some (.lst (b.map V.int))/\c d=some (.dK (dkI f))/\Same H c /\
  Lvl g s i f b/\b.length<=60/\m=2*(n-f.length)+(if b=[] then 0 else 1)
structure RSt(as:List (Int×Int))(s:Int)(d l:Addr)(kk:Nat)(ps:List (Int×Int))(H H':Hp)(rs:List Int):Prop where
 hd:H' d=some (.dK (dkI (ps++xx kk rs)))
 hl:H' l=some (.lst (rs.map V.int))
 sm:Same H H'
 nd:((ps++xx kk rs).map (·.1)).Nodup
 snd:∀j∈rs,Dist as (kk+1) s j
section
variable{P:Program}{w:World}{K:W.Frag}{I:Str->Option Value}{G:Heap}
inductive Jh(K:W.Frag)(i:List V)(H:Hp)(Q:VK):Prop
 | mk (s:Int) (r:Addr) (g:List (Key×V)) (c:List (Int×Int)) (n:Nat) (_:i=[.int s,.ref r]) (_:H r=some (.dK g)) (_:RowsOk H g c) (_:n<=60) (_:InN n s) (_:(∀p∈c,InN n p.2)) (_:c.length<=1000) (_:∀(d:Addr) (f:List (Int×Int)) H',Same H H'->H d=none->H' d=some (.dK (dkI f))->(f.map (·.1)).Nodup->(∀j v,(j,v)∈f↔∃k:Nat,v=k/\Dist c k s j)->Q (.ref d) H'):Jh K i H Q
def W5(K:W.Frag):Sp:=fun c H Q _=>Jh K c H Q
theorem Yq:zD ["start","rows","steps","edge","reached","part","other"] ["start","rows"] (zr (topL 25)):=u0
theorem zci{f:Addr}{fd:FuncData}(F:Fun K "steps_from" "steps_from" (topL 25) f fd)(B:Blt I):FnOk P w K I G CX0 1 f fd ["start","rows"] (W5 K):=by
 have nd:=Yq.nd;refine F.ok Yq (fun vs H Q E h=>?_) (fun b6 A az s H vs Q E hr h=>?_)
 ·obtain⟨s,r,rk,O,n,rfl,_⟩:=h
  rfl
 ·obtain⟨s,r,rk,O,n,rfl,hR,ro,b7,ins,ag,al,k⟩:=h
  have b5:=bG100000;have ac:=Vw hr;refine⟨_,(zf (zA (i:=2) nd rfl (Or.inl rfl) (zdt (zb4 (pv 0) ze zdo) rfl rfl (by intro z;cases z) (by show 1<=15;decide)))
   (zf (zA (i:=3) nd rfl (Or.inl rfl) (zU (za (pv 0) zb)))
   (zf (Vb xm (zdm (pv 3))
   (zf (zA (i:=4) nd rfl (Or.inl rfl) (zU zb))
    (zf (jH xm rfl (xN (pv 3)) (zG (i:=5) nd rfl (Or.inl rfl))
    (zj (jH xm rfl (xN (Vd ac (pv 1) (pv 5) (zU zb) ⟨rfl,rfl,rfl,rfl⟩)) (zG (i:=6) nd rfl (Or.inl rfl))
     (zj (z6 (zb2 (zaD ac (pv 6) (pv 2)))
      (zf (zdn ac (pv 2) (pv 6) (zu zT (J4 ac (pv 2) (pv 5) (fun _ _=>rfl)) ze) rfl)
       (zj (xM (yy yL QC QB xA (pv 4) (za (pv 6) zb)))))
      zH)))))
    (zj (zA (i:=3) nd rfl (Or.inl rfl) (pv 4))))))
   (zj (zq (pv 2)))))),?_⟩
  refine fun d hd=>⟨_,rfl,zc,[(Sum.inl s,.int 0)],rfl,(by show 1<=15;decide),_,rfl,le1,fun e he=>?_⟩
  have ed:e≠d:=fun z=>by rw[z,zc] at he;cases he
  have e0:H e=none:=by rw[zt ed,zt ed] at he;exact he
  have s0:Same H (upd (upd (upd H d (.dK [])) d (.dK (vG [] [(Sum.inl s,V.int 0)]))) e (.lst [.int s])):=fun c o z=>by rw[zt (zp z e0),zt (zp z hd),zt (zp z hd)];exact z
  have ak:(upd (upd (upd H d (.dK [])) d (.dK (vG [] [(Sum.inl s,V.int 0)]))) e (.lst [.int s])) d=some (.dK (dkI [(s,0)])):=by rw[zt (qA ed),zc];rfl
  have am:(upd (upd (upd H d (.dK [])) d (.dK (vG [] [(Sum.inl s,V.int 0)]))) e (.lst [.int s])) e=some (.lst ([s].map V.int)):=zc;generalize upd (upd (upd H d (.dK [])) d (.dK (vG [] [(Sum.inl s,V.int 0)]))) e (.lst [.int s])=H1 at s0 ak am;refine⟨WSt H O n s r d,⟨_,e,[s],[(s,0)],0,_,_,_,rfl,e0,ed,am,ak,s0,⟨by simp,fun p hp=>by rw[qv.mp hp];exact⟨0,rfl,zi _,Dist.zero O s⟩,fun j k hk T=>by
   rw[show k=0 by omega] at T
   rw[<- show s=j from T.1];simp,fun j=>⟨fun T=>by rw[qv.mp T];exact Dist.zero O s,fun T=>by rw[<- show s=j from T.1];simp⟩⟩,by simp,rfl⟩,?_⟩
  rintro m σ H2 ⟨e,es,D,M,v4,v5,v6,rfl,en,ay,aa,ae,s2,lv,el,rfl⟩;have ah:=lv.nd;have aq:∀j∈D.map (·.1),InN n j:=fun j T=>by
   obtain⟨p,hp,rfl⟩:=qr.mp T;obtain⟨k,_,_,dk⟩:=lv.snd p hp;exact Wk.closed (C:=InN n) (fun x y _ h=>ag _ h) ins dk.1
  have pl:D.length<=n:=by have:=v1 ah aq;rwa[zv] at this
  refine⟨_,rfl,e,_,rfl,u3 aa,?_⟩
  cases es with
  | nil=>
   refine ifF (by rfl) ?_
   refine⟨_,rfl,k d D H2 s2 hd ae ah lv.done⟩
  | cons e1 er=>
   refine ifT (by rfl) ?_
   refine⟨fun σ' H'=>∃m',m'<2*(n-D.length)+(if e1::er=[] then 0 else 1)/\WSt H O n s r d m' σ' H',fun _ _ h=>h,?_⟩
   refine⟨le0,fun l hl=>?_⟩
   have lH:H l=none:=by
    cases z:H l with
    | none=>rfl
    | some o=>rw[s2 _ _ z] at hl;cases hl
   have ld:l≠d:=fun z=>by rw[z,ae] at hl;cases hl
   have le:l≠e:=fun z=>by rw[z,aa] at hl;cases hl
   refine⟨_,rfl,e,rfl,⟨_,u3 ((zd hl) _ _ aa)⟩,wb (K:=K) (a:=e) (xs:=(e1::er).map V.int) (fun i σ H'=>Ex3 fun(v5 v6:Option V) (g:List Int)=>An4 (σ=[some (.int s),some (.ref r),some (.ref d),some (.ref e),some (.ref l),v5,v6]) (H' e=some (.lst ((e1::er).map V.int))) (RSt O s d l M D H H' g) ((∀x∈(e1::er).take i,∀y,(x,y)∈O->y∈(D++xx M g).map (·.1))))
    ⟨_,_,[],rfl,(zd hl) _ _ aa,⟨by rw[show D++xx M []=D from wg D];exact(zd hl) _ _ ae,zc,s2.trans (zd hl),by rw[show D++xx M []=D from wg D];exact ah,fun j T=>nomatch T⟩,by simp⟩ (fun i σ H' _ ⟨_,_,_,_,h,_,_⟩=>u3 h) ?_ ?_⟩
   ·rintro i x σ H3 hx ⟨v5,v6,g,rfl,ao,N,a8⟩
    rw[jM] at hx;obtain⟨x,ex,rfl⟩:=jN.mp hx;have et:(e1::er).take (i+1)=(e1::er).take i++[x]:=by
     obtain⟨h1,h2⟩:=qg.mp ex;rw[<- h2,vV]
    have xd:Dist O M s x:=(lv.edge x).mp (qY ex);have xk:x∈D.map (·.1):=lv.all x M (zi _) xd
    refine⟨_,rfl,r,rfl,.inl ⟨_,.inl (N.sm _ _ hR)⟩,_,rfl,le0,fun q hq=>?_⟩
    have sq:=zd (H:=H3) (o:=.lst []) hq;have qd:q≠d:=fun z=>by rw[z,N.hd] at hq;cases hq
    have ql:q≠l:=fun z=>by rw[z,N.hl] at hq;cases hq
    refine⟨_,.inl ⟨rk,Sum.inl x,.inl (sq _ _ (N.sm _ _ hR)),rfl,rfl⟩,?_⟩
    have tt:∃t,(qO rk (Sum.inl x)).getD (.ref q)=.ref t/\upd H3 q (.lst []) t=some (.lst ((xV O x).map V.int))/\t≠d/\t≠l:=by
     cases z:qO rk (Sum.inl x) with
     | none=>exact⟨q,rfl,by rw[ro.no x z];exact zc,qd,ql⟩
     | some v=>
      obtain⟨t,rfl,ht⟩:=ro.at_ x v z;exact⟨t,rfl,sq _ _ (N.sm _ _ ht),zp ht hd,zp ht lH⟩
    obtain⟨t,ar,ht,td,tl⟩:=tt;rw[ar];refine⟨t,rfl,⟨_,u3 ht⟩,wb (K:=K) (a:=t) (xs:=(xV O x).map V.int) (fun k σ H'=>Ex2 fun(v6:Option V) (g:List Int)=>An6 (σ=[some (.int s),some (.ref r),some (.ref d),some (.ref e),some (.ref l),some (.int x),v6]) (H' e=some (.lst ((e1::er).map V.int))) (H' t=some (.lst ((xV O x).map V.int))) (RSt O s d l M D H H' g) ((∀x∈(e1::er).take i,∀y,(x,y)∈O->y∈(D++xx M g).map (·.1))) (∀y∈(xV O x).take k,y∈(D++xx M g).map (·.1)))
     ⟨_,g,rfl,sq _ _ ao,ht,⟨sq _ _ N.hd,sq _ _ N.hl,N.sm.trans sq,N.nd,N.snd⟩,a8,by simp⟩ (fun i σ H' _ ⟨_,_,_,_,h,_,_,_⟩=>u3 h) ?_ ?_⟩
    ·rintro j y σ H4 hy ⟨v6,g,rfl,ab,af,U,a9,a6⟩
     rw[jM] at hy;obtain⟨y,ey,rfl⟩:=jN.mp hy;have an:(xV O x).take (j+1)=(xV O x).take j++[y]:=by
      obtain⟨h1,h2⟩:=qg.mp ey;rw[<- h2,vV]
     have xy:(x,y)∈O:=jA.mp (qY ey);have b4:x∈(D++xx M g).map (·.1):=by rw[qm];exact vm _ xk
     refine⟨_,rfl,_,rfl,d,_,rfl,.inl ⟨_,Sum.inl y,.inl U.hd,rfl,rfl⟩,?_⟩
     rcases yD (D++xx M g) y with ⟨v,hv,my⟩ | ⟨hv,my⟩
     ·rw[hv]
      refine⟨_,rfl,ifF (by rfl) ?_⟩
      refine⟨_,g,rfl,ab,af,U,a9,fun z Y=>?_⟩
      rw[an] at Y;rcases ju.mp Y with h | h
      ·exact a6 z h
      ·rw[qv.mp h];exact my
     ·rw[hv]
      refine⟨_,rfl,ifT (by rfl) ?_⟩
      rcases yD (D++xx M g) x with ⟨vx,ap,_⟩ | ⟨_,z⟩
      ·have au:vx=(M:Int):=by
        rcases ju.mp ((zcJ U.nd).mp ap) with z | z
        ·obtain⟨d0,e1,_,e3⟩:=lv.snd _ z
         rw[show vx=(d0:Int) from e1,e3.uniq xd]
        ·obtain⟨j0,av,e⟩:=qr.mp z
         have e:j0=x:=congrArg Prod.fst e;have:=(U.snd j0 av);rw[e] at this;have:=this.uniq xd;omega
       subst au;have yd:Dist O (M+1) s y:=⟨xd.1.snoc xy,fun k' lt w'=>by
        obtain⟨d0,l0,h0⟩:=w'.dist;exact my (by rw[qm];exact vm _ (lv.all y d0 (by omega) h0))⟩
       have ai:∀j∈g,InN n j:=fun j T=>Wk.closed (C:=InN n) (fun x y _ h=>ag _ h) ins (U.snd j T).1
       have b0:g.Nodup:=by
        have:=U.nd;rw[qm,yT] at this;exact(Zn.mp this).2.1
       have ql:g.length<=n:=v1 b0 ai;have nl:(xx M g).length=g.length:=zv _;refine⟨_,rfl,_,rfl,d,_,rfl,.inl ⟨_,Sum.inl x,.inl U.hd,rfl,ap.symm⟩,_,_,rfl,rfl,_,rfl,_,rfl,d,_,rfl,.inl ⟨_,Sum.inl y,U.hd,rfl,by rw[zdX,qR,nl];omega,rfl⟩,?_⟩
       rw[zdW hv];have eq:(D++xx M g)++[(y,(M:Int)+1)]=D++xx M (g++[y]):=by
        unfold xx;rw[qm,QQ];rfl
       rw[eq];have aj:upd H4 d (.dK (dkI (D++xx M (g++[y])))) l=some (.lst (g.map V.int)):=by rw[zt ld];exact U.hl
       have a7:((D++xx M (g++[y])).map (·.1))=(D++xx M g).map (·.1)++[y]:=by rw[<- eq,qm];rfl
       refine⟨_,rfl,.inl ⟨rfl,_,u3 aj⟩,_,rfl,l,_,_,rfl,rfl,aj,by rw[zv];omega,?_⟩
       refine⟨_,g++[y],rfl,by rw[zt (qA le),zt ay];exact ab,by rw[zt tl,zt td];exact af,⟨by rw[zt (qA ld)];exact zc,by rw[zc,qm];rfl,fun c o z=>by rw[zt (zp z lH),zt (zp z hd)];exact U.sm _ _ z,?_,?_⟩,fun z Y u hu=>?_,fun z Y=>?_⟩
       ·rw[a7]
        exact Wc U.nd my
       ·intro z Y
        rcases ju.mp Y with h | h
        ·exact U.snd z h
        ·rw[qv.mp h];exact yd
       ·rw[a7]
        exact vm _ (a9 z Y u hu)
       ·rw[an] at Y
        rw[a7];rcases ju.mp Y with h | h
        ·exact vm _ (a6 z h)
        ·exact jT _ h
      ·exact absurd b4 z
    ·rintro σ H4 ⟨v6,g,rfl,ab,af,U,a9,a6⟩
     rw[zv,jL] at a6;refine⟨_,_,g,rfl,ab,U,fun z Y y hy=>?_⟩
     rw[et] at Y;rcases ju.mp Y with h | h
     ·exact a9 z h y hy
     ·rw[qv.mp h] at hy
      exact a6 y (jA.mpr hy)
   ·rintro σ H3 ⟨v5,v6,g,rfl,ao,N,a8⟩
    rw[zv,jL] at a8;have ai:∀j∈g,InN n j:=fun j T=>Wk.closed (C:=InN n) (fun x y _ h=>ag _ h) ins (N.snd j T).1
    have ax:=lv.next N.nd N.snd a8
    have aw:∀j∈(D++xx M g).map (·.1),InN n j:=fun j T=>by
     rw[qm,yT] at T;rcases ju.mp T with h | h
     ·exact aq j h
     ·exact ai j h
    have nl:(xx M g).length=g.length:=zv _;have ql:D.length+g.length<=n:=by have:=v1 N.nd aw;rwa[zv,qR,nl] at this
    refine⟨_,rfl,2*(n-(D++xx M g).length)+(if g=[] then 0 else 1),?_,l,g,D++xx M g,M+1,_,_,_,rfl,lH,ld,N.hl,N.hd,N.sm,ax,by omega,rfl⟩
    rw[zB (by simp:¬e1::er=[]),qR,nl]
    split
    ·omega
    ·rename_i h
     have:=WD.mpr h;omega
def zbg(c:List (Int×Int))(x:Int):Option Int:=match qO (dkI c) (Sum.inl x) with | some (.int v)=>some v | _=>none
def prs(f:List (Int×Int))(c:List Int):List (Int×Int):=c.filterMap fun x=>(zbg f x).map fun v=>(v,x)
theorem WZ{c:List (Int×Int)}(f:(c.map (·.1)).Nodup){x v:Int}:zbg c x=some v↔(x,v)∈c:=by
 rw[<- zcJ f];unfold zbg;rcases yD c x with ⟨u,h,_⟩ | ⟨h,_⟩
 ·rw[h]
  constructor
  ·intro e;cases e;rfl
  ·intro e;cases e;rfl
 ·rw[h]
  constructor
  ·intro e;cases e
  ·intro e;cases e
theorem J6{c:List (Int×Int)}(f:(c.map (·.1)).Nodup){g:List Int}{v x:Int}:(v,x)∈prs c g↔x∈g/\(x,v)∈c:=by
 unfold prs;rw[ZF];constructor
 ·rintro⟨y,hy,e⟩
  obtain⟨u,hu,e⟩:=jN.mp e;cases e;exact⟨hy,(WZ f).mp hu⟩
 ·rintro⟨hx,hp⟩
  exact⟨x,hx,by rw[(WZ f).mpr hp];rfl⟩
inductive X0(K:W.Frag)(g:List V)(H:Hp)(Q:VK):Prop
 | mk (l d:Addr) (c:List Int) (f:List (Int×Int)) (_:g=[.ref l,.ref d]) (_:SqL K H l (c.map V.int)) (_:H d=some (.dK (dkI f))) (_:(f.map (·.1)).Nodup) (_:c.length<=1000) (_:(∀H',Same H H'->(∀x∈c,∀v,(x,v)∉f)->Q .non H')) (_:∀H' x v,Same H H'->x∈c->(x,v)∈f->(∀y u,y∈c->(y,u)∈f->v<u\/v=u/\x<=y)->Q (.int x) H'):X0 K g H Q
def zbz(K:W.Frag):Sp:=fun c H Q _=>X0 K c H Q
theorem zbQ:zD ["parts","steps","found"] ["parts","steps"] (zr (topL 26)):=u0
theorem zdD{f:Addr}{fd:FuncData}(F:Fun K "nearest_of" "nearest_of" (topL 26) f fd)(B:Blt I):FnOk P w K I G CX0 1 f fd ["parts","steps"] (zbz K):=by
 have nd:=zbQ.nd;refine F.ok zbQ (fun vs H Q E h=>?_) (fun a7 A a6 s H vs Q E hr h=>?_)
 ·obtain⟨l,d,c,g,rfl,_⟩:=h
  rfl
 ·obtain⟨l,d,c,g,rfl,hl,hd,nk,nl,k1,k2⟩:=h
  have sz:sizeLine=16777216:=sizeLine_eq;have U:=Vw hr;have Y:=hr.units;refine⟨_,(zf (zA (i:=2) nd rfl (Or.inl rfl) (V9 (za3 rfl Y) rfl B.min zcQ (za (qS ["steps"] [1] rfl rfl (by kernel_rfl) (xN (pv 0)) (fun _ _ _ _=>(J2 (zb2 (zfe U (pv 0) (pv 1))))) (fun _ _ _ _=>(zP (za (J4 U (pv 1) (pv 0) (fun _ _=>rfl)) (za (pv 0) zb))))) zb) j8))
   (zf (z6 (zE yP (pv 2) j8 (zC _))
   (zj (zq j8))
   zH)
   (zj (zq (zV xc (pv 2) ze (fun _ _=>rfl)))))),?_⟩
  refine⟨_,rfl,l,rfl,⟨_,hl⟩,yA (K:=K) (a:=l) (xs:=c.map V.int) (fun i N O=>Same H O/\PrR O N (prs g (c.take i))) ⟨u4 _,PrR.nil⟩ (fun i N O ⟨s1,_⟩=>s1.seq hl) ?_ ?_⟩
  ·rintro i x N O hx ⟨s1,w1⟩
   rw[jM] at hx;obtain⟨x,ex,rfl⟩:=jN.mp hx;have hi:=(qg.mp ex).1;have et:c.take (i+1)=c.take i++[x]:=by
    obtain⟨h1,h2⟩:=qg.mp ex;rw[<- h2,vV]
   have ep:prs g (c.take (i+1))=prs g (c.take i)++prs g [x]:=by rw[et];unfold prs;rw[List.filterMap_append]
   rw[ep];have zl:N.length<=i:=by
    rw[w1.1];refine qk (List.length_filterMap_le _ _) ?_
    rw[qI];omega
   refine⟨rfl,_,rfl,_,rfl,d,_,rfl,.inl ⟨_,Sum.inl x,.inl (s1 _ _ hd),rfl,rfl⟩,?_⟩
   rcases yD g x with ⟨v,hv,mx⟩ | ⟨hv,mx⟩
   ·have e1:prs g [x]=[(v,x)]:=by
     show List.filterMap _ [x]=_;simp[zbg,hv]
    rw[hv,e1];refine⟨_,rfl,ifT rfl ⟨_,rfl,_,rfl,d,_,rfl,.inl ⟨_,Sum.inl x,.inl (s1 _ _ hd),rfl,hv.symm⟩,_,rfl,(by show 2<=_;omega),fun T hT=>⟨by omega,s1.trans (zd hT),?_⟩⟩⟩
    exact PrR.snoc (q:=(v,x)) (w1.same (zd hT)) zc
   ·have e1:prs g [x]=[]:=by
     show List.filterMap _ [x]=_;simp[zbg,hv]
    rw[hv,e1,wg];exact⟨_,rfl,ifF rfl ⟨s1,w1⟩⟩
  ·rintro N O ⟨s1,w1⟩
   rw[zv,jL] at w1;have zl:=w1.1;have pl:(prs g c).length<=c.length:=List.length_filterMap_le _ _;refine⟨by omega,fun D hD=>?_⟩
   have s2:=s1.trans (zd (o:=.lst N) hD);refine⟨D,N,prs g c,rfl,u3 zc,w1.same (zd hD),fun e=>?_,fun v ne ev=>?_⟩
   ·refine⟨_,rfl,rfl,_,rfl,ifT (by decide) (k1 _ s2 fun x hx v hp=>?_)⟩
    have:=(J6 nk).mpr ⟨hx,hp⟩;rw[e] at this;cases this
   ·have hm:=YG ne
    have eq:(prs g c)[ZS (prs g c)]? =some ((prs g c).getD (ZS (prs g c)) (0,0)):=by rw[JM,xL hm];rfl
    obtain⟨T,e1,e2⟩:=w1.2 _ _ eq;rw[ev] at e1;cases e1;have M:∀q∈prs g c,ltP q ((prs g c).getD (ZS (prs g c)) (0,0))=false:=fun q hq=>by
     obtain⟨j,hj,rfl⟩:=WC hq;have:=zdN hj;rwa[JM (i:=j),xL hj] at this
    have mem:=qY eq;generalize (prs g c).getD (ZS (prs g c)) (0,0)=q at e2 M mem;obtain⟨v,x⟩:=q;obtain⟨hx,hp⟩:=(J6 nk).mp mem;refine⟨_,rfl,rfl,_,rfl,ifF (by simp) ⟨_,rfl,T,_,_,.int x,rfl,rfl,u5 (zd hD _ _ e2),rfl,k2 _ x v s2 hx hp fun y u hy hu=>?_⟩⟩
    have:=Zp (M (u,y) ((J6 nk).mpr ⟨hy,hu⟩));have this:¬(u<v\/u=v/\y<x):=this;omega
structure Pre(as:List (Int×Int))(s:Int)(c:Nat)(rs:List Int)(x:Int):Prop where
 pos:1<=rs.length
 le:rs.length<=c
 head:rs[0]? =some s
 next:∀i,i+1<rs.length->∃a b,rs[i]? =some a/\rs[i+1]? =some b/\(a,b)∈as/\Dist as (c-1-i) b s/\∀b',(a,b')∈as->Dist as (c-1-i) b' s->b<=b'
 last:∃a,rs[rs.length-1]? =some a/\(a,x)∈as/\Dist as (c-rs.length) x s/\∀b',(a,b')∈as->Dist as (c-rs.length) b' s->x<=b'
theorem Pre.done{f:List (Int×Int)}{s:Int}{c:Nat}{g:List Int}(h:Pre f s c g s):RingAt f s c g:=by
 obtain⟨a,_,_,d,_⟩:=h.last;have:=d.uniq (Dist.zero f s);have e:g.length=c:=by have:=h.le;omega
 exact⟨e,h.head,fun i l=>h.next i (by omega)⟩
theorem Pre.more{g:List (Int×Int)}{s:Int}{c:Nat}{f:List Int}{x y:Int}{k:Nat}(h:Pre g s c f x)(M:c-f.length=k+1)(e:(x,y)∈g)(d:Dist g k y s)(m:∀l,(x,l)∈g->Dist g k l s->y<=l):Pre g s c (f++[x]) y:=by
 obtain⟨a,h1,h2,h3,D⟩:=h.last;have hp:=h.pos;have o:(f++[x]).length=f.length+1:=by rw[qR];rfl
 refine⟨by omega,by omega,by rw[xq hp];exact h.head,fun i E=>?_,⟨x,?_,e,?_,fun l hb=>?_⟩⟩
 ·rw[o] at E
  by_cases z:i+1<f.length
  ·obtain⟨u,v,e1,e2,A⟩:=h.next i z
   exact⟨u,v,by rw[xq (by omega)];exact e1,by rw[xq z];exact e2,A⟩
  ·have B:i=f.length-1:=by omega
   refine⟨a,x,by rw[xq (by omega),B];exact h1,by rw[show i+1=f.length by omega,xF (zi _),wo];rfl,h2,?_⟩
   rw[show c-1-i=c-f.length by omega]
   exact⟨h3,D⟩
 ·rw[o,Nat.add_sub_cancel,xF (zi _),wo];rfl
 ·rw[o,show c-(f.length+1)=k by omega];exact d
 ·rw[o,show c-(f.length+1)=k by omega];exact m l hb
inductive Z2(K:W.Frag)(u:List V)(H:Hp)(Q:VK):Prop
 | mk (g:Int) (r d:Addr) (o:List (Key×V)) (f i:List (Int×Int)) (n:Nat) (_:u=[.int g,.ref r,.ref d]) (_:n<=60) (_:(∀p∈f,InN n p.1)) (_:H r=some (.dK o)) (_:RowsOk H o f) (_:H d=some (.dK (dkI i))) (_:(i.map (·.1)).Nodup) (_:(∀j v,(j,v)∈i↔∃k:Nat,v=k/\Dist f k j g)) (_:f.length<=1000) (_:(∀H',Same H H'->(∀c,¬Cyc f g g c)->Q .non H')) (_:∀H' l s c,Same H H'->H l=none->H' l=some (.lst (s.map V.int))->Cyc f g g c->RingAt f g c s->Q (.ref l) H'):Z2 K u H Q
def XW(K:W.Frag):Sp:=fun c H Q _=>Z2 K c H Q
theorem X8:zD ["first","rows","steps","ring","part"] ["first","rows","steps"] (zr (topL 27)):=u0
theorem zaH{f:Addr}{fd:FuncData}(F:Fun K "ring_by" "ring_by" (topL 27) f fd)(B:Blt I)(g:Dfn P w K I G "nearest_of" 1 ["parts","steps"] (zbz K)):FnOk P w K I G CX0 2 f fd ["first","rows","steps"] (XW K):=by
 have nd:=X8.nd;refine F.ok X8 (fun vs H Q E h=>?_) (fun ai A ah s H vs Q E hr h=>?_)
 ·obtain⟨D,r,d,rk,U,ps,n,rfl,_⟩:=h
  rfl
 ·obtain⟨D,r,d,rk,U,ps,n,rfl,hn,af,hR,ro,hd,nk,Y,al,k1,k2⟩:=h
  have sz:sizeLine=16777216:=sizeLine_eq;have ab:=Vw hr;refine⟨_,(zf (zA (i:=3) nd rfl (Or.inl rfl) (zU (za (pv 0) zb)))
   (zf (zA (i:=4) nd rfl (Or.inl rfl) (zg g hr.m rfl (za (Vd ab (pv 1) (pv 0) (zU zb) ⟨rfl,rfl,rfl,rfl⟩) (za (pv 2) zb))))
   (zf (z6 (zE yP (pv 4) j8 (zC _))
   (zj (zq j8))
   zH)
   (zf (Vb xm (zE yz (pv 4) (pv 0) (zC _))
   (zf (xM (yy yL QC QB xA (pv 3) (za (pv 4) zb)))
    (zj (zA (i:=4) nd rfl (Or.inl rfl) (zg g hr.m rfl (za (J4 ab (pv 1) (pv 4) (fun _ _=>rfl)) (za (pv 2) zb)))))))
   (zj (zq (pv 3))))))),?_⟩
  refine⟨_,rfl,(by show 1<=_;omega),fun l hl=>?_⟩
  have s1:=zd (o:=.lst [V.int D]) hl;have l1:upd H l (.lst [V.int D]) l=some (.lst ([D].map V.int)):=zc;generalize upd H l (.lst [V.int D])=H1 at s1 l1;have sl:∀x,(xV U x).length<=1000:=fun x=>qk (W2 U x) al
  refine⟨_,rfl,r,rfl,.inl ⟨_,.inl (s1 _ _ hR)⟩,_,rfl,(by show 0<=_;omega),fun q hq=>?_⟩
  have sq:=zd (H:=H1) (o:=.lst []) hq;have s2:=s1.trans sq;have l2:=sq _ _ l1;refine⟨_,.inl ⟨rk,Sum.inl D,.inl (s2 _ _ hR),rfl,rfl⟩,?_⟩
  have tt:∃t,(qO rk (Sum.inl D)).getD (.ref q)=.ref t/\upd H1 q (.lst []) t=some (.lst ((xV U D).map V.int)):=by
   cases z:qO rk (Sum.inl D) with
   | none=>exact⟨q,rfl,by rw[ro.no D z];exact zc⟩
   | some v=>
    obtain⟨t,rfl,ht⟩:=ro.at_ D v z;exact⟨t,rfl,s2 _ _ ht⟩
  obtain⟨t,ae,ht⟩:=tt;rw[ae];have aa:H l=none:=hl;refine⟨_,rfl,t,d,xV U D,ps,rfl,u3 ht,s2 _ _ hd,nk,sl D,fun H3 s3 no=>?_,fun H3 x v s3 hx hp M=>?_⟩
  ·refine⟨_,rfl,rfl,_,rfl,ifT (by decide) (k1 _ (s2.trans s3) fun c hc=>?_)⟩
   obtain⟨c,rfl⟩:∃j,c=j+1:=⟨c-1,by have:=hc.1;omega⟩
   obtain⟨⟨y,e,dy⟩,_⟩:=hc.down;exact no y (jA.mpr e) c ((Y y c).mpr ⟨c,rfl,dy⟩)
  obtain⟨O,rfl,a8⟩:=(Y x v).mp hp;have xe:=jA.mp hx;have a6:Cyc U D D (O+1):=Cyc.of xe a8 fun y d' e hy=>by
   have:=M y d' (jA.mpr e) ((Y y d').mpr ⟨d',rfl,hy⟩);omega
  have T:Pre U D (O+1) [D] x:=⟨zi _,by show 1<=O+1;omega,rfl,fun i hi=>absurd hi (by show ¬i+1<1;omega),D,rfl,xe,a8,fun b' e hb=>by
   have hb:Dist U O b' D:=hb;have:=M b' O (jA.mpr e) ((Y b' O).mpr ⟨O,rfl,hb⟩);omega⟩
  refine⟨_,rfl,rfl,_,rfl,ifF (by simp) ?_⟩
  refine⟨fun m σ H4=>∃(N:List Int) (x:Int),σ=[some (.int D),some (.ref r),some (.ref d),some (.ref l),some (.int x)]/\Same H H4/\H4 l=some (.lst (N.map V.int))/\Pre U D (O+1) N x/\m=O+1-N.length,⟨_,[D],x,rfl,s2.trans s3,s3 _ _ l2,T,rfl⟩,?_⟩
  rintro m σ H4 ⟨N,x,rfl,s4,l4,T,rfl⟩;refine⟨_,rfl,_,rfl,rfl,_,rfl,?_⟩
  by_cases ex:x=D
  ·subst ex
   refine Eq.mpr (zB (by simp)) ⟨_,rfl,k2 _ l N (O+1) s4 aa l4 a6 T.done⟩
  refine Eq.mpr (zF (by simp[ex])) ?_
  obtain⟨a,_,_,dx,_⟩:=T.last;obtain⟨k,ek⟩:∃k,O+1-N.length=k+1:=by
   rcases Wz (O+1-N.length) with z | z
   ·rw[z] at dx;exact absurd dx.1 ex
   ·exact⟨O+1-N.length-1,by omega⟩
  rw[ek] at dx;obtain⟨⟨y0,e0,a7⟩,ag⟩:=dx.down;have rl:N.length<=O+1:=T.le;have ac:N.length<sizeLine:=by
   have:=a6.le af;omega
  refine⟨_,fun _ _ h=>h,?_⟩
  refine⟨_,rfl,.inl ⟨rfl,_,u3 l4⟩,_,rfl,l,_,_,rfl,rfl,l4,by rw[zv];exact ac,?_⟩
  have s5:Same H (upd H4 l (.lst (N.map V.int++[.int x]))):=fun b u e=>by rw[zt (zp e aa)];exact s4 _ _ e
  have l5:upd H4 l (.lst (N.map V.int++[.int x])) l=some (.lst ((N++[x]).map V.int)):=by rw[zc,qm];rfl
  generalize upd H4 l (.lst (N.map V.int++[.int x]))=H5 at s5 l5;obtain⟨v,hv⟩:∃v,qO rk (Sum.inl x)=some v:=by
   cases z:qO rk (Sum.inl x) with
   | none=>
    have:=jA.mpr e0;rw[ro.no x z] at this;cases this
   | some v=>exact⟨v,rfl⟩
  obtain⟨t,rfl,ht⟩:=ro.at_ x v hv;refine⟨_,rfl,_,rfl,r,_,rfl,.inl ⟨_,Sum.inl x,.inl (s5 _ _ hR),rfl,hv.symm⟩,_,rfl,t,d,xV U x,ps,rfl,u3 (s5 _ _ ht),s5 _ _ hd,nk,sl x,fun H6 s6 no=>?_,fun H6 y u s6 hy hp M=>?_⟩
  ·exact absurd ((Y y0 k).mpr ⟨k,rfl,a7⟩) (no y0 (jA.mpr e0) k)
  ·obtain⟨dy,rfl,a9⟩:=(Y y u).mp hp
   have b0:=M y0 k (jA.mpr e0) ((Y y0 k).mpr ⟨k,rfl,a7⟩);have lo:=ag y dy (jA.mp hy) a9;have e:dy=k:=by omega
   subst e;refine⟨O+1-(N++[x]).length,by rw[qR];show O+1-(N.length+1)<_;omega,N++[x],y,rfl,s5.trans s6,s6 _ _ l5,T.more ek (jA.mp hy) a9 fun b' e hb=>?_,rfl⟩
   have:=M b' dy (jA.mpr e) ((Y b' dy).mpr ⟨dy,rfl,hb⟩);omega
def Told(f:List (Int×Int))(i:Nat)(H0 H:Hp)(v:V):Prop:=
 (v=.non/\∀s c,InN i s->¬Cyc f s s c)\/∃l s c g,v=.ref l/\H0 l=none/\H l=some (.lst (g.map V.int))/\Best f i s c/\RingAt f s c g
theorem Told.same{f:List (Int×Int)}{i:Nat}{H0 H H':Hp}{v:V}(h:Told f i H0 H v)(s:Same H H'):Told f i H0 H' v:=by
 rcases h with h | ⟨l,st,c,o,h1,h2,h3,g⟩
 ·exact .inl h
 ·exact .inr ⟨l,st,c,o,h1,h2,s _ _ h3,g⟩
inductive Z1(K:W.Frag)(f:List V)(H:Hp)(Q:VK):Prop
 | mk (n:Nat) (t:Addr) (g:List V) (c:List (Int×Int)) (_:f=[.int (n:Int),.ref t]) (_:SqL K H t g) (_:Reps K H (c.map prD) g) (_:c.length<=1000) (_:n<=60) (_:(∀p∈c,InN n p.1/\InN n p.2)) (_:∀v H',Same H H'->Told c n H H' v->Q v H'):Z1 K f H Q
def XV(K:W.Frag):Sp:=fun c H Q _=>Z1 K c H Q
theorem X7:zD ["many","aheads","onward","backward","best","first","ring"] ["many","aheads"] (zr (topL 28)):=u0
def Y7(n:Nat)(t:_)(o:_)(l:_)(f:_)(g:_)(H:_):=fun(i:Nat) (σ:St) (c:Hp)=>(Ex3 fun(v:V) (s u:Option V)=>An3 (σ=[some (.int (n:Int)),some (.ref t),some (.ref o),some (.ref l),some v,s,u]) (Same f c) (Told g i H c v):Prop)
theorem zaG{f:Addr}{fd:FuncData}(F:Fun K "ring_in" "ring_in" (topL 28) f fd)(B:Blt I)(O:Dfn P w K I G "turned" 1 ["pairs"] (W3 K))(g:Dfn P w K I G "next_by" 1 ["pairs"] (zby K))(o:Dfn P w K I G "steps_from" 1 ["start","rows"] (W5 K))(N:Dfn P w K I G "ring_by" 2 ["first","rows","steps"] (XW K)) :
  FnOk P w K I G CX0 3 f fd ["many","aheads"] (XV K):=by
 have nd:=X7.nd;refine F.ok X7 (fun vs H Q E h=>?_) (fun aw A aq s H vs Q E hr h=>?_)
 ·obtain⟨n,t,xs,T,rfl,_⟩:=h
  rfl
 ·obtain⟨n,t,xs,T,rfl,ht,rp,la,af,ae,k⟩:=h
  have sz:sizeLine=16777216:=sizeLine_eq;have a8:(2^62:Int)=4611686018427387904:=by decide
  refine⟨_,(zf (zA (i:=2) nd rfl (Or.inl rfl) (zg g hr.m rfl (za (pv 1) zb)))
   (zf (zA (i:=3) nd rfl (Or.inl rfl) (zg g hr.m rfl (za (zg O hr.m rfl (za (pv 1) zb)) zb)))
   (zf (zA (i:=4) nd rfl (Or.inl rfl) j8)
   (zf (jH xm rfl (qG rfl B.range (za (pv 0) zb)) (zG (i:=5) nd rfl (Or.inl rfl))
   (zf (zA (i:=6) nd rfl (Or.inl rfl) (zg N hr.m rfl (za (pv 5) (za (pv 2) (za (zg o hr.m rfl (za (pv 5) (za (pv 3) zb))) zb)))))
    (zj (z6 (ua (Qa (zE zdw (pv 6) j8 (zC _)) (yr (ua (jD (zE yP (pv 4) j8 (zC _)) (jm (zE Vf (zk zo rfl B.len boot_len (za (pv 6) zb)) (zk zo rfl B.len boot_len (za (pv 4) zb)) (zC _))))))))
    (zj (zA (i:=4) nd rfl (Or.inl rfl) (pv 6)))
    zH))))
   (zj (zq (pv 4))))))),?_⟩
  refine⟨_,rfl,t,xs,T,rfl,.inl ht,rp,la,fun ro aj H1 s1 ay ac ag=>?_⟩
  refine⟨_,rfl,t,xs,T,rfl,s1.seq ht,rp.same s1,la,fun tl ys H2 s2 an ak=>?_⟩
  have em:(T.map fun p=>prD p.swap)=(T.map Prod.swap).map prD:=by rw[vt];rfl
  rw[em] at ak;refine⟨tl,ys,T.map Prod.swap,rfl,.inl (u3 an),ak,by rw[zv];exact la,fun rb ai H3 s3 ax ab ah=>?_⟩
  have a7:=s2.trans s3;have au:RowsOk H3 aj T:=(RowsOk.mk (fun i v e=>let ⟨l,a,_,b⟩:=ag.at_ i v e;⟨l,a,b⟩) ag.no).same a7
  have ar:RowsOk H3 ai (T.map Prod.swap):=RowsOk.mk (fun i v e=>let ⟨l,a,_,b⟩:=ah.at_ i v e;⟨l,a,b⟩) ah.no
  have h3:=a7 _ _ ac;have al:=s1.trans a7;refine⟨_,rfl,_,rfl,by rw[a8];omega,by rw[a8];omega,?_⟩
  rw[Zo];refine jt (n:=n) (Y7 n t ro rb H3 T H) ⟨.non,_,_,rfl,u4 _,.inl ⟨rfl,fun s c hs=>absurd hs.2 (by have:=hs.1;omega)⟩⟩ ?_ ?_
  ·rintro i σ H4 hi ⟨v,v5,v6,rfl,s4,M⟩
   have ao:InN n (0+(i:Int)):=⟨by omega,by omega⟩
   refine⟨_,rfl,_,rfl,_,rfl,_,rfl,0+(i:Int),rb,ai,T.map Prod.swap,n,rfl,s4 _ _ ab,ar.same s4,af,ao,fun p hp=>?_,by rw[zv];exact la,fun d ps H5 s5 hd am ap dm=>?_⟩
   ·obtain⟨q,hq,rfl⟩:=qr.mp hp
    exact(ae q hq).1
   have u:=s4.trans s5;rw[QE] at dm;refine⟨0+(i:Int),ro,d,aj,T,ps,n,rfl,af,fun p hp=>(ae p hp).1,u _ _ h3,au.same u,am,ap,fun j v=>?_,la,fun H6 s6 no=>?_,fun H6 l rs c s6 hl Y U ring=>?_⟩
   ·rw[QE,dm j v]
    exact⟨fun ⟨k,e,h⟩=>⟨k,e,Dist.turn.mp h⟩,fun ⟨k,e,h⟩=>⟨k,e,Dist.turn.mpr h⟩⟩
   ·rw[QE] at no
    have D:=M.same (s5.trans s6);refine⟨_,rfl,rfl,_,rfl,ifF (by simp) ?_⟩
    refine⟨v,_,_,rfl,u.trans s6,?_⟩
    rcases D with ⟨rfl,a6⟩ | ⟨l,st,c,rs,h1,h2,h3,h4,h5⟩
    ·exact .inl ⟨rfl,zaL a6 no⟩
    ·exact .inr ⟨l,st,c,rs,h1,h2,h3,h4.keep fun c' hc=>absurd hc (no c'),h5⟩
   ·rw[QE] at U ring
    have D:=M.same (s5.trans s6);have aa:H l=none:=Same.free (al.trans u) hl;refine⟨_,rfl,rfl,_,rfl,ifT (by simp) ?_⟩
    rcases D with ⟨rfl,a6⟩ | ⟨l',st,c',av,rfl,h2,a9,h4,h5⟩
    ·refine⟨_,rfl,rfl,_,rfl,ifT (by decide) (ifT rfl ⟨_,rfl,_,_,_,rfl,u.trans s6,.inr ⟨l,_,c,rs,rfl,aa,Y,Best.first a6 U,ring⟩⟩)⟩
    ·have r1:=ring.len
     have r2:=h5.len;refine⟨_,rfl,rfl,_,rfl,ifF (by simp) ⟨_,rfl,l,_,rfl,.inl (u3 Y),_,rfl,l',_,rfl,.inl (u3 a9),_,_,rfl,rfl,_,rfl,?_⟩⟩
     rw[zv,zv,r1,r2];refine zR (fun c1=>?_) (fun c1=>?_)
     ·have lt:c<c':=by have:=qB c1;omega
      exact⟨_,rfl,_,_,_,rfl,u.trans s6,.inr ⟨l,_,c,rs,rfl,aa,Y,h4.less U lt,ring⟩⟩
     ·have le:c'<=c:=by
       rcases Zf c c' with z | z
       ·exact absurd (zQ (by omega)) c1
       ·exact z
      exact⟨_,_,_,rfl,u.trans s6,.inr ⟨l',st,c',av,rfl,h2,a9,h4.keep fun d hd=>by rw[<- U.uniq hd];exact le,h5⟩⟩
  ·rintro σ H4 ⟨v,v5,v6,rfl,s4,M⟩
   exact⟨_,rfl,k v H4 (al.trans s4) M⟩
theorem Vv(i:Int)(c:List Int):inV (.int i) (c.map V.int)=decide (i∈c):=by
 unfold inV;rw[List.any_map,vh,yI,vD];constructor
 ·rintro⟨x,hx,e⟩
  have:x=i:=qB e;rw[<- this];exact hx
 ·intro h
  exact⟨i,h,zQ rfl⟩
theorem yZ:∀c:List Int,(c.map V.int).all vO=true
 | []=>rfl
 | m::c=>by rw[jf,QJ,yZ c];rfl
def jX(f:List Int)(c:List (Int×Int)):List Int:=(c.filter fun p=>decide (p.1∈f)).map (·.2)
theorem zco{f:List Int}{c:List (Int×Int)}{y:Int}:y∈jX f c↔∃x,x∈f/\(x,y)∈c:=by
 unfold jX;rw[qr];constructor
 ·rintro⟨p,hp,rfl⟩
  obtain⟨h1,h2⟩:=wI.mp hp;exact⟨p.1,qB h2,h1⟩
 ·rintro⟨x,hx,hp⟩
  exact⟨(x,y),wI.mpr ⟨hp,zQ hx⟩,rfl⟩
def Left(f:List (Int×Int))(n t:Nat)(c:List Int):Prop:=c.length<=n/\∀k,k∈c↔InN n k/\∃x,Wk f t x k
theorem Left.next{c:List (Int×Int)}{n t:Nat}{g:List Int}(f:∀p∈c,InN n p.1/\InN n p.2)(h:Left c n t g):Left c n (t+1) (g.filter fun k=>decide (k∈jX g c)):=by
 refine⟨qk (Zu _ _) h.1,fun k=>?_⟩
 rw[wI,decide_eq_true_eq,zco,h.2 k];constructor
 ·rintro⟨⟨hk,_⟩,x,hx,e⟩
  obtain⟨_,y,w⟩:=(h.2 x).mp hx;exact⟨hk,y,w.snoc e⟩
 ·rintro⟨hk,y,w⟩
  obtain⟨x,i,e⟩:=w.unsnoc;exact⟨⟨hk,w.tail t (by omega)⟩,x,(h.2 x).mpr ⟨(f _ e).1,y,i⟩,e⟩
theorem Left.ring{f:List (Int×Int)}{n:Nat}{i:List Int}(c:∀p∈f,InN n p.1/\InN n p.2)(h:Left f n n i):i≠[]↔∃s k,1<=k/\Wk f k s s:=by
 constructor
 ·intro ne
  obtain⟨k,hk⟩:=List.exists_mem_of_ne_nil _ ne;obtain⟨g,x,w⟩:=(h.2 k).mp hk;have o:InN n x:=by
   cases n with
   | zero=>exact absurd g.2 (by have:=g.1;omega)
   | succ n=>
    obtain⟨y,e,_⟩:=w;exact(c _ e).1
  exact JX c o w
 ·rintro⟨s,k,h1,w⟩ e
  have l:InN n s:=by
   obtain⟨k,rfl⟩:∃j,k=j+1:=⟨k-1,by omega⟩
   obtain⟨y,e,_⟩:=w;exact(c _ e).1
  obtain⟨x,wx⟩:=w.rep n;have:=(h.2 s).mpr ⟨l,wx.tail n (Nat.le_mul_of_pos_right n h1)⟩;rw[e] at this;cases this
inductive zbD(K:W.Frag)(f:List V)(H:Hp)(Q:VK):Prop
 | mk (n:Nat) (t:Addr) (g:List V) (c:List (Int×Int)) (_:f=[.int (n:Int),.ref t]) (_:SqT K H t g) (_:Reps K H (c.map prD) g) (_:c.length<=1000) (_:n<=60) (_:(∀p∈c,InN n p.1/\InN n p.2)) (_:∀(b:Bool) H',Same H H'->(b=true↔∃s k,1<=k/\Wk c k s s)->Q (.bl b) H'):zbD K f H Q
def zgc(K:W.Frag):Sp:=fun c H Q _=>zbD K c H Q
theorem zdv{c:List (Int×Int)}{f:List V}{H:Hp}{i:Nat}{x:V}(D:Reps K H (c.map prD) f)(hx:f[i]? =some x):∃p a,c[i]? =some p/\x=.ref a/\SqT K H a [.int p.1,.int p.2]:=by
 obtain⟨d,e1,u⟩:=D.get hx;rw[jM] at e1;obtain⟨p,o,rfl⟩:=jN.mp e1;obtain⟨a,E,rfl,s,M,A,rfl,e2,N,B,rfl,g,l⟩:=u;cases e2;cases g;cases l;exact⟨p,a,o,rfl,s⟩
theorem zgo:zD ["_law_many","_law_aheads_here","_law_left","_law_turn","_law_late"] ["_law_many","_law_aheads_here"] (zr (topL 51)):=u0
def Y6(n:Nat)(t:_)(H:_)(g:_):=fun(i:Nat) (σ:St) (c:Hp)=>(Ex4 fun(l:Addr) (f:List Int) (o s:Option V)=>An4 (σ=[some (.int (n:Int)),some (.ref t),some (.ref l),o,s]) (Same H c) (c l=some (.lst (f.map V.int))) (Left g n i f):Prop)
theorem zgQ{f:Addr}{fd:FuncData}(F:Fun K "_law_goes_round" "_law_goes_round" (topL 51) f fd)(B:Blt I):FnOk P w K I G CX0 1 f fd ["_law_many","_law_aheads_here"] (zgc K):=by
 have nd:=zgo.nd;refine F.ok zgo (fun vs H Q E h=>?_) (fun a9 A a8 s H vs Q E hr h=>?_)
 ·obtain⟨n,t,xs,u,rfl,_⟩:=h
  rfl
 ·obtain⟨n,t,xs,u,rfl,ht,rp,la,aa,U,k⟩:=h
  have sz:sizeLine=16777216:=sizeLine_eq;have O:(2^62:Int)=4611686018427387904:=by decide
  have hu:=hr.units0;have lx:=rp.len;rw[zv] at lx;refine⟨_,(zf (zA (i:=2) nd rfl (Or.inr rfl) (yx rfl rfl B.list rfl B.range jd (za (pv 0) zb)))
   (zf (jH xm rfl (qG rfl B.range (za (pv 0) zb)) (zG (i:=3) nd rfl (Or.inl rfl))
   (zf (zA (i:=4) nd rfl (Or.inr rfl) (Qd ["_law_left"] [2] rfl rfl (by kernel_rfl) (jI (pv 1)) (fun _ _ _ _=>(J2 (zE (Qk (K:=K) rfl) (pv 0) (pv 2) (by with_unfolding_all rfl)))) (fun _ _ _ _=>(pv 1))))
    (zj (zA (i:=2) nd rfl (Or.inr rfl) (qS ["_law_late"] [4] rfl rfl (by kernel_rfl) (xN (pv 2)) (fun _ _ _ _=>(J2 (zE (Qk (K:=K) rfl) (pv 0) (pv 1) (by with_unfolding_all rfl)))) (fun _ _ _ _=>(pv 0)))))))
   (zj (zq (qD (zcf hu) (pv 2) (zU zb) (zC _)))))),?_⟩
  refine⟨_,rfl,(n:Int),rfl,by omega,by omega,fun l0 a6=>?_⟩
  rw[Zo];have s1:=zd (o:=.lst ((List.range n).map fun(k:Nat)=>V.int (k:Int))) a6
  have l1:upd H l0 (.lst ((List.range n).map fun(k:Nat)=>V.int (k:Int))) l0=some (.lst (((List.range n).map fun(k:Nat)=>(k:Int)).map V.int)):=by rw[zc,vt];rfl
  generalize upd H l0 (.lst ((List.range n).map fun(k:Nat)=>V.int (k:Int)))=H1 at s1 l1
  refine⟨_,rfl,_,rfl,by rw[O];omega,by rw[O];omega,?_⟩
  rw[Zo];refine jt (n:=n) (Y6 n t H u) ⟨l0,_,_,_,rfl,s1,l1,by rw[zv,wm];exact zi _,fun k=>⟨fun h=>?_,fun h=>?_⟩⟩ ?_ ?_
  ·obtain⟨j,hj,rfl⟩:=qr.mp h
   have:=jF.mp hj;exact⟨⟨by omega,by omega⟩,(j:Int),rfl⟩
  ·exact qr.mpr ⟨k.toNat,jF.mpr (by have:=h.1.1;have:=h.1.2;omega),by have:=h.1.1;omega⟩
  ·rintro i σ H2 hi ⟨l,g,v3,v4,rfl,s2,l2,lf⟩
   refine⟨_,rfl,t,rfl,⟨_,s2.sqT ht⟩,jW (K:=K) (a:=t) (xs:=xs) (fun i M N=>Same H2 N/\M=(jX g (u.take i)).map V.int) ⟨u4 _,rfl⟩ (fun i M N ⟨D,_⟩=>(s2.trans D).sqT ht) ?_ ?_⟩
   ·rintro j x M N hx ⟨D,rfl⟩
    obtain⟨p,a,ep,rfl,qa⟩:=zdv (rp.same (s2.trans D)) hx;have hj:=(qg.mp ep).1;have et:u.take (j+1)=u.take j++[p]:=by
     obtain⟨h1,h2⟩:=qg.mp ep;rw[<- h2,vV]
    have ll:(jX g (u.take j)).length<=j:=by
     unfold jX;rw[zv];refine qk (Zu _ _) ?_
     rw[qI];omega
    refine⟨a,_,rfl,qa,rfl,_,_,rfl,_,_,rfl,rfl,rfl,?_⟩
    refine⟨_,rfl,_,rfl,l,_,rfl,.inl (u3 (D _ _ l2)),rfl,yZ g,?_⟩
    show IsB (.bl (inV (.int p.1) (g.map V.int))) _ _;rw[Vv];refine⟨_,rfl,?_⟩
    have el:jX g (u.take (j+1))=jX g (u.take j)++(if decide (p.1∈g)=true then [p.2] else []):=by
     rw[et];unfold jX;rw[Wx,qm];congr 1
     by_cases h:p.1∈g<;>simp[h]
    rw[el];refine zR (fun c=>?_) (fun c=>?_)
    ·rw[zF c]
     exact⟨_,rfl,by rw[zv];omega,D,by rw[qm];rfl⟩
    ·rw[zB c,wg]
     exact⟨D,rfl⟩
   rintro M N ⟨D,rfl⟩;rw[lx,jL];have ll:(jX g u).length<=u.length:=by
    unfold jX;rw[zv];exact Zu _ _
   refine⟨by rw[zv];omega,fun lt T=>?_⟩
   have s4:=s2.trans (D.trans (zd (o:=.lst ((jX g u).map V.int)) T));have l4:=zd (o:=.lst ((jX g u).map V.int)) T _ _ (D _ _ l2);have t4:upd N lt (.lst ((jX g u).map V.int)) lt=some (.lst ((jX g u).map V.int)):=zc;generalize upd N lt (.lst ((jX g u).map V.int))=H4 at s4 l4 t4;have ml:=lf.1;refine⟨_,rfl,l,rfl,⟨_,u3 l4⟩,yA (K:=K) (a:=l) (xs:=g.map V.int) (fun i M Y=>Y=H4/\M=((g.take i).filter fun k=>decide (k∈jX g u)).map V.int) ⟨rfl,rfl⟩ (fun i M Y ⟨e,_⟩=>by rw[e];exact u3 l4) ?_ ?_⟩
   ·rintro j x M Y hx ⟨rfl,rfl⟩
    rw[jM] at hx;obtain⟨x,ex,rfl⟩:=jN.mp hx;have hj:=(qg.mp ex).1;have et:g.take (j+1)=g.take j++[x]:=by
     obtain⟨h1,h2⟩:=qg.mp ex;rw[<- h2,vV]
    have fl:((g.take j).filter fun k=>decide (k∈jX g u)).length<=j:=by
     refine qk (Zu _ _) ?_
     rw[qI];omega
    refine⟨rfl,_,rfl,_,rfl,lt,_,rfl,.inl (u3 t4),rfl,yZ _,?_⟩
    show IsB (.bl (inV (.int x) ((jX g u).map V.int))) _ _;rw[Vv,et,Wx];refine⟨_,rfl,zR (fun c=>?_) (fun c=>?_)⟩
    ·rw[show List.filter (fun k=>decide (k∈jX g u)) [x]=[x] by simp[qB c]]
     exact⟨_,rfl,by rw[zv];omega,rfl,by rw[qm];rfl⟩
    ·rw[show List.filter (fun k=>decide (k∈jX g u)) [x]=[] by simp;exact fun z=>c (zQ z),wg]
     exact⟨rfl,rfl⟩
   ·rintro M Y ⟨rfl,rfl⟩
    rw[show g.take (g.map V.int).length=g by rw[zv,jL]]
    refine⟨by rw[zv];exact qk (Zu _ _) (by omega),fun ln a7=>?_⟩
    exact⟨ln,_,_,_,rfl,s4.trans (zd a7),zc,lf.next U⟩
  ·rintro σ H2 ⟨l,g,v3,v4,rfl,s2,l2,lf⟩
   refine⟨_,rfl,(by show 0<=_;omega),fun e he=>⟨l,e,g.map V.int,rfl,rfl,u3 (zd he _ _ l2),u3 zc,k _ _ (s2.trans (zd he)) ?_⟩⟩
   rw[<- lf.ring U];cases g with
   | nil=>simp
   | cons m g=>simp
def v7:V->Bool
 | .str x=>decide (1<=(x.length:Int))&&(decide ((x.length:Int)<=8)&&(x.cps.toList.map xO).all id)
 | _=>false
theorem xz(x:Str):v7 (.str x)=(decide (1<=(x.length:Int))&&(decide ((x.length:Int)<=8)&&(x.cps.toList.map xO).all id)):=rfl
theorem zfB(c:Nat):(!(Builtin.Str.occurrences zaz ⟨#[c]⟩ 0 zaz.length 1).isEmpty)=xO c:=by
 rw[StrLaws.found_one,Vn,vh];unfold xO;rw[vD,List.mem_range'_1,qQ,vD,vD];omega
theorem J7(c d:Nat):decide ([c]<[d])=decide (c<d):=by
 rw[vh];simp[List.cons_lt_cons_iff]
theorem wO{x:Str}{i c:Nat}(h:x.cps[i]? =some c)(f:Nat->V):(x.cps.toList.take i).map f++[f c]=(x.cps.toList.take (i+1)).map f:=by
 have e:x.cps.toList[i]? =some c:=by simpa using h
 obtain⟨h1,h2⟩:=qg.mp e;rw[<- h2,<- vV h1,qm];rfl
def vy:Dat->Bool
 | .str x=>v7 (.str x)
 | _=>false
inductive zbw(K:W.Frag)(c:List V)(H:Hp)(Q:VK):Prop
 | mk (v:V) (d:Dat) (_:c=[v]) (_:Rep K H d v) (_:(∀x,d=.str x->x.length<=700000)) (_:∀H',Same H H'->Q (.bl (vy d)) H'):zbw K c H Q
def zbx(K:W.Frag):Sp:=fun c H Q _=>zbw K c H Q
theorem zgm:zD ["thing"] ["thing"] (zr (topL 6)):=u0
theorem zgO{f:Addr}{Y:FuncData}{tl tn:Tok}(F:Fun K "is_name" "is_name" (topL 6) f Y)(B:Blt I)(l:I "LETTERS" = some (.str zaz tl))(g:I "LONGEST_NAME" = some (.int 8 tn)):FnOk P w K I G CX0 1 f Y ["thing"] (zbx K):=by
 have nd:=zgm.nd;refine F.ok zgm (fun vs H Q E h=>?_) (fun a7 A N s H vs Q E hr h=>?_)
 ·obtain⟨v,U,rfl,_⟩:=h
  rfl
 ·obtain⟨v,U,rfl,o,hn,k⟩:=h
  have a6:=bG16000000;refine⟨_,(zf (z6 (ua (jD (qo (zS (zk zN rfl B.isinstance boot_isinstance (za (pv 0) (za (zM (v:=.ty "str") rfl B.str xh rfl) zb))))) (jm (qo (zb3 Qj Qj ze (zk xP rfl B.len boot_len (za (pv 0) zb)) (vd (v:=.int 8) rfl g ⟨_,rfl⟩))))))
   (zj (zq qZ))
   zH)
   (zj (zq (zk (qK rfl) rfl B.all boot_all (za (qS [] [] rfl rfl (by kernel_rfl) (zb8 (pv 0)) (fun _ _ _ _=>qN) (fun _ _ _ _=>(qD zaF (pv 0) (vd (v:=.str zaz) rfl l ⟨_,rfl⟩) (by with_unfolding_all rfl)))) zb))))),?_⟩
  cases U with
  | non=>exact⟨_,rfl,v, "NoneType", "str",rfl,o.ty,(by decide),_,rfl,ifT (by decide) (ifT rfl (k H (u4 _)))⟩
  | bl b=>exact⟨_,rfl,v, "bool", "str",rfl,o.ty,(by decide),_,rfl,ifT (by decide) (ifT rfl (k H (u4 _)))⟩
  | int i=>exact⟨_,rfl,v, "int", "str",rfl,o.ty,(by decide),_,rfl,ifT (by decide) (ifT rfl (k H (u4 _)))⟩
  | lst ds=>exact⟨_,rfl,v, "list", "str",rfl,o.ty,(by decide),_,rfl,ifT (by decide) (ifT rfl (k H (u4 _)))⟩
  | tup ds=>exact⟨_,rfl,v, "tuple", "str",rfl,o.ty,(by decide),_,rfl,ifT (by decide) (ifT rfl (k H (u4 _)))⟩
  | str x=>
   cases(show v=.str x from o)
   have h:=hn x rfl;have k:∀H',Same H H'->Q (.bl (v7 (.str x))) H':=k;have hz:x.length<=sizeLine:=by omega
   refine⟨_,rfl,_, "str", "str",rfl,rfl,(by decide),_,rfl,ifF (by decide) ⟨_,rfl,x,rfl,hz,_,_,rfl,rfl,_,rfl,zR (fun c=>⟨_,_,rfl,rfl,_,rfl,zR (fun d=>?_) (fun d=>?_)⟩) (fun c=>⟨_,rfl,ifT rfl ?_⟩)⟩⟩
   ·have e:v7 (.str x)=false:=by
     rw[xz];have M:decide ((x.length:Int)<=8)=false:=by simpa using d
     rw[M];simp
    have:=k H (u4 _);rw[e] at this;exact this
   ·have e:v7 (.str x)=(x.cps.toList.map xO).all id:=by
     rw[xz];have M:decide ((x.length:Int)<=8)=true:=by simpa using d
     rw[c,M];rfl
    refine⟨_,rfl,x,rfl,zcw (fun i T u=>T=(x.cps.toList.take i).map (fun c=>V.bl (xO c))/\Same H u) ⟨rfl,u4 _⟩ ?_ ?_⟩
    ·rintro i c T u hc ⟨rfl,O⟩
     refine⟨rfl,⟨_,rfl,_,_,rfl,rfl,?_,?_,O⟩⟩
     ·rw[zv,qI]
      have:x.cps.toList.length=x.length:=by simp[Str.length]
      omega
     ·rw[zfB,<- wO hc]
    ·rintro T u ⟨rfl,O⟩
     have hx:x.cps.toList.take x.cps.size=x.cps.toList:=by
      apply JL
      simp
     rw[hx];refine⟨?_,fun D hD=>⟨D,x.cps.toList.map xO,rfl,u3 ?_,?_⟩⟩
     ·rw[zv]
      have:x.cps.toList.length=x.length:=by simp[Str.length]
      omega
     ·rw[zc,vt];rfl
     ·rw[<- e]
      exact k _ (O.trans (zd hD))
   ·have e:v7 (.str x)=false:=by
     rw[xz];rw[Bool.eq_false_iff.mpr c];rfl
    have:=k H (u4 _);rw[e] at this;exact this
theorem zeq:zD ["_law_thing"] ["_law_thing"] (zr (topL 44)):=u0
theorem zfm{f:Addr}{T:FuncData}(F:Fun K "_law_is_name" "_law_is_name" (topL 44) f T)(B:Blt I):FnOk P w K I G CX0 1 f T ["_law_thing"] (zbx K):=by
 have nd:=zeq.nd;refine F.ok zeq (fun vs H Q E h=>?_) (fun a6 A M s H vs Q E hr h=>?_)
 ·obtain⟨v,O,rfl,_⟩:=h
  rfl
 ·obtain⟨v,O,rfl,g,hn,k⟩:=h
  have U:=bG16000000;refine⟨_,(zf (z6 (ua (jD (qo (zS (zk zN rfl B.isinstance boot_isinstance (za (pv 0) (za (zM (v:=.ty "str") rfl B.str xh rfl) zb))))) (jD (zE Vf (zk xP rfl B.len boot_len (za (pv 0) zb)) ze (zC _)) (jm (zE Zz (zk xP rfl B.len boot_len (za (pv 0) zb)) ze (zC _))))))
   (zj (zq qZ))
   zH)
   (zj (zq (zk (qK rfl) rfl B.all boot_all (za (qS [] [] rfl rfl (by kernel_rfl) (zb8 (pv 0)) (fun _ _ _ _=>qN) (fun _ _ _ _=>(Qe Jm Jm xW (pv 0) xW))) zb))))),?_⟩
  cases O with
  | non=>exact⟨_,rfl,v, "NoneType", "str",rfl,g.ty,(by decide),_,rfl,ifT (by decide) (ifT rfl (k H (u4 _)))⟩
  | bl b=>exact⟨_,rfl,v, "bool", "str",rfl,g.ty,(by decide),_,rfl,ifT (by decide) (ifT rfl (k H (u4 _)))⟩
  | int i=>exact⟨_,rfl,v, "int", "str",rfl,g.ty,(by decide),_,rfl,ifT (by decide) (ifT rfl (k H (u4 _)))⟩
  | lst ds=>exact⟨_,rfl,v, "list", "str",rfl,g.ty,(by decide),_,rfl,ifT (by decide) (ifT rfl (k H (u4 _)))⟩
  | tup ds=>exact⟨_,rfl,v, "tuple", "str",rfl,g.ty,(by decide),_,rfl,ifT (by decide) (ifT rfl (k H (u4 _)))⟩
  | str x=>
   cases(show v=.str x from g)
   have h:=hn x rfl;have k:∀H',Same H H'->Q (.bl (v7 (.str x))) H':=k;have hz:x.length<=sizeLine:=by omega
   refine⟨_,rfl,_, "str", "str",rfl,rfl,(by decide),_,rfl,ifF (by decide) ⟨_,rfl,x,rfl,hz,_,_,rfl,rfl,_,rfl,zR (fun c=>ifT rfl ?_) (fun c=>⟨_,rfl,x,rfl,hz,_,_,rfl,rfl,_,rfl,zR (fun d=>?_) (fun d=>?_)⟩)⟩⟩
   ·have c':(x.length:Int)<1:=qB c
    have e:v7 (.str x)=false:=by
     rw[xz];rw[qy (by omega)];rfl
    have:=k H (u4 _);rw[e] at this;exact this
   ·have d':(8:Int)<x.length:=qB d
    have e:v7 (.str x)=false:=by
     rw[xz];rw[qy (show ¬(x.length:Int)<=8 by omega)];simp
    have:=k H (u4 _);rw[e] at this;exact this
   ·have c':¬(x.length:Int)<1:=fun z=>c (zQ z)
    have d':¬(8:Int)<x.length:=fun z=>d (zQ z)
    have e:v7 (.str x)=(x.cps.toList.map xO).all id:=by
     rw[xz];rw[zQ (by omega),zQ (by omega)];rfl
    refine⟨_,rfl,x,rfl,zcw (fun i N u=>N=(x.cps.toList.take i).map (fun c=>V.bl (xO c))/\Same H u) ⟨rfl,u4 _⟩ ?_ ?_⟩
    ·rintro i c N u hc ⟨rfl,o⟩
     have Y:((x.cps.toList.take i).map (fun c=>V.bl (xO c))).length<sizeLine:=by
      rw[zv,qI];have:x.cps.toList.length=x.length:=by simp[Str.length]
      omega
     refine⟨rfl,⟨_,rfl,_,_,rfl,rfl,_,rfl,zR (fun a=>⟨_,_,rfl,rfl,Y,?_,o⟩) (fun a=>⟨Y,?_,o⟩)⟩⟩
     ·have l:(!decide ([c]<[97]))=true:=a
      rw[J7] at l;have e2:(!decide ([122]<[c]))=xO c:=by
       rw[J7];unfold xO;have:97<=c:=by simpa using l
       rw[zQ this,jQ,vh];simp
      show _++[V.bl (!decide ([122]<[c]))]=_;rw[e2,<- wO hc]
     ·have l:¬(!decide ([c]<[97]))=true:=a
      rw[J7] at l;have e2:xO c=false:=by
       unfold xO;have:¬97<=c:=by simpa using l
       rw[qy this];rfl
      rw[<- e2,<- wO hc]
    ·rintro N u ⟨rfl,o⟩
     have hx:x.cps.toList.take x.cps.size=x.cps.toList:=by
      apply JL
      simp
     rw[hx];refine⟨?_,fun D hD=>⟨D,x.cps.toList.map xO,rfl,u3 ?_,?_⟩⟩
     ·rw[zv]
      have:x.cps.toList.length=x.length:=by simp[Str.length]
      omega
     ·rw[zc,vt];rfl
     ·rw[<- e]
      exact k _ (o.trans (zd hD))
theorem jy{α:Type}{l:List α}{i:Nat}{x:α}(h:l[i]? =some x):l.take (i+1)=l.take i++[x]:=by
 obtain⟨h1,h2⟩:=qg.mp h;rw[<- h2,vV]
def qC:Dat->Bool
 | .tup ds=>decide ((ds.length:Int)=2)&&(ds.map (zw 0 1000)).all id
 | _=>false
inductive W9(K:W.Frag)(c:List V)(H:Hp)(Q:VK):Prop
 | mk (v:V) (d:Dat) (_:c=[v]) (_:Rep K H d v) (_:(∀ds,d=.tup ds->ds.length<=700000)) (_:∀H',Same H H'->Q (.bl (qC d)) H'):W9 K c H Q
def Zw(K:W.Frag):Sp:=fun c H Q _=>W9 K c H Q
theorem zel:zD ["thing"] ["thing"] (zr (topL 7)):=u0
theorem zfh{f:Addr}{fd:FuncData}{tf:Tok}(F:Fun K "is_place" "is_place" (topL 7) f fd)(B:Blt I)(g:Dfn P w K I G "is_number_within" 2 ["thing","least","most"] (vn K))(l:I "FARTHEST" = some (.int 1000 tf)):FnOk P w K I G CX0 3 f fd ["thing"] (Zw K):=by
 have nd:=zel.nd;refine F.ok zel (fun vs H Q E h=>?_) (fun a8 A a6 s H vs Q E hr h=>?_)
 ·obtain⟨v,d,rfl,_⟩:=h
  rfl
 ·obtain⟨v,d0,rfl,u,hn,k⟩:=h
  have a7:=bG16000000;refine⟨_,(zf (z6 (ua (jD (qo (zS (zk zN rfl B.isinstance boot_isinstance (za (pv 0) (za (zM (v:=.ty "tuple") rfl B.tuple zJ rfl) zb))))) (jm (zE yz (zk zo rfl B.len boot_len (za (pv 0) zb)) ze (zC _)))))
   (zj (zq qZ))
   zH)
   (zj (zq (zk (qK rfl) rfl B.all boot_all (za (qS [] [] rfl rfl (by kernel_rfl) (jI (pv 0)) (fun _ _ _ _=>qN) (fun _ _ _ _=>(zg g hr.m rfl (za (pv 0) (za ze (za (vd (v:=.int 1000) rfl l ⟨_,rfl⟩) zb)))))) zb))))),?_⟩
  cases d0 with
  | non=>exact⟨_,rfl,v, "NoneType", "tuple",rfl,u.ty,(by decide),_,rfl,ifT (by decide) (ifT rfl (k H (u4 _)))⟩
  | bl b=>exact⟨_,rfl,v, "bool", "tuple",rfl,u.ty,(by decide),_,rfl,ifT (by decide) (ifT rfl (k H (u4 _)))⟩
  | int i=>exact⟨_,rfl,v, "int", "tuple",rfl,u.ty,(by decide),_,rfl,ifT (by decide) (ifT rfl (k H (u4 _)))⟩
  | str x=>exact⟨_,rfl,v, "str", "tuple",rfl,u.ty,(by decide),_,rfl,ifT (by decide) (ifT rfl (k H (u4 _)))⟩
  | lst ds=>exact⟨_,rfl,v, "list", "tuple",rfl,u.ty,(by decide),_,rfl,ifT (by decide) (ifT rfl (k H (u4 _)))⟩
  | tup ds=>
   have ty:=u.ty;obtain⟨a,O,rfl,h,rx⟩:=u;have Y:=rx.len;have hl:=hn ds rfl;have k:∀H',Same H H'->Q (.bl (decide ((ds.length:Int)=2)&&(ds.map (zw 0 1000)).all id)) H':=k;refine⟨_,rfl,_, "tuple", "tuple",rfl,ty,(by decide),_,rfl,ifF (by decide) ⟨_,rfl,a,O,rfl,.inr h,rfl,_,rfl,zR (fun c=>?_) (fun c=>?_)⟩⟩
   ·have U:¬(ds.length:Int)=2:=by rw[Y] at c;simpa using c
    have:=k H (u4 _);rw[qy U] at this;exact this
   ·have U:(ds.length:Int)=2:=by rw[Y] at c;simpa using c
    refine⟨_,rfl,a,rfl,⟨O,h⟩,jW (K:=K) (xs:=O) (fun i T N=>T=((ds.take i).map (zw 0 1000)).map V.bl/\Same H N) ⟨rfl,u4 _⟩ (fun i T N ⟨_,M⟩=>M.sqT h) ?_ ?_⟩
    ·rintro i x T N hx ⟨rfl,M⟩
     obtain⟨d,ed,r1⟩:=(rx.same M).get hx;have hi:=(qg.mp ed).1;refine⟨rfl,⟨_,rfl,x,d,0,1000,rfl,r1,?_,?_,M⟩⟩
     ·rw[zv,zv,qI];omega
     ·rw[jy ed,qm,qm];rfl
    ·rintro T N ⟨rfl,M⟩
     rw[Y,jL];refine⟨by rw[zv,zv];omega,fun D hD=>⟨D,ds.map (zw 0 1000),rfl,u3 zc,?_⟩⟩
     have:=k _ (M.trans (zd (o:=.lst ((ds.map (zw 0 1000)).map V.bl)) hD));rw[zQ U,jQ] at this;exact this
theorem zbR:zD ["_law_thing"] ["_law_thing"] (zr (topL 45)):=u0
theorem zdE{f:Addr}{fd:FuncData}(F:Fun K "_law_is_place" "_law_is_place" (topL 45) f fd)(B:Blt I)(g:Dfn P w K I G "_law_is_number" 1 ["_law_thing","_law_least","_law_most"] (vn K)):FnOk P w K I G CX0 2 f fd ["_law_thing"] (Zw K):=by
 have nd:=zbR.nd;refine F.ok zbR (fun vs H Q E h=>?_) (fun a7 A Y s H vs Q E hr h=>?_)
 ·obtain⟨v,d,rfl,_⟩:=h
  rfl
 ·obtain⟨v,d0,rfl,l,hn,k⟩:=h
  have a6:=bG16000000;refine⟨_,(zj (zq (qU (zk zN rfl B.isinstance boot_isinstance (za (pv 0) (za (zM (v:=.ty "tuple") rfl B.tuple zJ rfl) zb))) (qU (qD qV (zk zo rfl B.len boot_len (za (pv 0) zb)) ze (zC _)) (jV (zk (qK rfl) rfl B.all boot_all (za (qS [] [] rfl rfl (by kernel_rfl) (jI (pv 0)) (fun _ _ _ _=>qN) (fun _ _ _ _=>(zg g hr.m rfl (za (pv 0) (za ze (za ze zb)))))) zb))))))),?_⟩
  cases d0 with
  | non=>exact⟨_,rfl,v, "NoneType", "tuple",rfl,l.ty,(by decide),_,rfl,ifF (by decide) (k H (u4 _))⟩
  | bl b=>exact⟨_,rfl,v, "bool", "tuple",rfl,l.ty,(by decide),_,rfl,ifF (by decide) (k H (u4 _))⟩
  | int i=>exact⟨_,rfl,v, "int", "tuple",rfl,l.ty,(by decide),_,rfl,ifF (by decide) (k H (u4 _))⟩
  | str x=>exact⟨_,rfl,v, "str", "tuple",rfl,l.ty,(by decide),_,rfl,ifF (by decide) (k H (u4 _))⟩
  | lst ds=>exact⟨_,rfl,v, "list", "tuple",rfl,l.ty,(by decide),_,rfl,ifF (by decide) (k H (u4 _))⟩
  | tup ds=>
   have ty:=l.ty;obtain⟨a,N,rfl,h,rx⟩:=l;have U:=rx.len;have hl:=hn ds rfl;have k:∀H',Same H H'->Q (.bl (decide ((ds.length:Int)=2)&&(ds.map (zw 0 1000)).all id)) H':=k;refine⟨_,rfl,_, "tuple", "tuple",rfl,ty,(by decide),_,rfl,ifT (by decide) ⟨_,rfl,a,N,rfl,.inr h,rfl,_,rfl,zR (fun c=>?_) (fun c=>?_)⟩⟩
   rotate_left
   ·have T:¬(ds.length:Int)=2:=by rw[U] at c;simpa using c
    have:=k H (u4 _);rw[qy T] at this;exact this
   ·have T:(ds.length:Int)=2:=by rw[U] at c;simpa using c
    refine⟨_,rfl,a,rfl,⟨N,h⟩,jW (K:=K) (xs:=N) (fun i O M=>O=((ds.take i).map (zw 0 1000)).map V.bl/\Same H M) ⟨rfl,u4 _⟩ (fun i O M ⟨_,u⟩=>u.sqT h) ?_ ?_⟩
    ·rintro i x O M hx ⟨rfl,u⟩
     obtain⟨d,ed,r1⟩:=(rx.same u).get hx;have hi:=(qg.mp ed).1;refine⟨rfl,⟨_,rfl,x,d,0,1000,rfl,r1,?_,?_,u⟩⟩
     ·rw[zv,zv,qI];omega
     ·rw[jy ed,qm,qm];rfl
    ·rintro O M ⟨rfl,u⟩
     rw[U,jL];refine⟨by rw[zv,zv];omega,fun D hD=>⟨D,ds.map (zw 0 1000),rfl,u3 zc,?_⟩⟩
     have:=k _ (u.trans (zd (o:=.lst ((ds.map (zw 0 1000)).map V.bl)) hD));rw[zQ T,jQ] at this;exact this
theorem wd:∀ds:List Dat,ds.length<=Dat.blks ds
 | []=>zi _
 | d::ds=>by
  have:=wd ds;show ds.length+1<=d.blk+1+Dat.blks ds;omega
def jB:Dat->Bool
 | .tup [k,p,m]=>vy k&&(qC p&&zw 0 400 m)
 | _=>false
inductive zbG(K:W.Frag)(c:List V)(H:Hp)(Q:VK):Prop
 | mk (v:V) (d:Dat) (_:c=[v]) (_:Rep K H d v) (_:d.blk<=700000) (_:∀H',Same H H'->Q (.bl (jB d)) H'):zbG K c H Q
def zdg(K:W.Frag):Sp:=fun c H Q _=>zbG K c H Q
theorem zgp:zD ["thing","kind","place","many"] ["thing"] (zr (topL 16)):=u0
theorem zgR{f:Addr}{fd:FuncData}{tf:Tok}(F:Fun K "is_feeder" "is_feeder" (topL 16) f fd)(B:Blt I)(o:Dfn P w K I G "is_tuple_of" 1 ["thing","many"] (XS K))(D:Dfn P w K I G "is_name" 1 ["thing"] (zbx K))(u:Dfn P w K I G "is_place" 3 ["thing"] (Zw K))(g:Dfn P w K I G "is_number_within" 2 ["thing","least","most"] (vn K))(l:I "MOST_IN_FEEDER" = some (.int 400 tf)):FnOk P w K I G CX0 4 f fd ["thing"] (zdg K):=by
 have nd:=zgp.nd;refine F.ok zgp (fun vs H Q E h=>?_) (fun a7 A a6 s H vs Q E O h=>?_)
 ·obtain⟨v,d,rfl,_⟩:=h
  rfl
 ·obtain⟨v,d,rfl,rd,hb,k⟩:=h
  refine⟨_,(zf (z6 (qo (zS (zg o O.m rfl (za (pv 0) (za ze zb)))))
   (zj (zq qZ))
   zH)
   (zf (xG (pv 0) (xH rfl (zI (zG (i:=1) nd rfl (Or.inl rfl)) (zI (zG (i:=2) nd rfl (Or.inl rfl)) (zI (zG (i:=3) nd rfl (Or.inl rfl)) jZ)))))
   (zj (zq (qU (zg D O.m rfl (za (pv 1) zb)) (qU (zg u O.m rfl (za (pv 2) zb)) (jV (zg g O.m rfl (za (pv 3) (za ze (za (vd (v:=.int 400) rfl l ⟨_,rfl⟩) zb))))))))))),?_⟩
  have M:∀{ds:List Dat},ds.length=3->∃a b c,ds=[a,b,c]:=fun {ds} h=>by
   match ds,h with
   | [a,b,c],_=>exact⟨a,b,c,rfl⟩
  by_cases c:xU 3 d=true
  ·obtain⟨ds,rfl⟩:∃ds,d=.tup ds:=by cases d<;>first| exact⟨_,rfl⟩ | cases c
   obtain⟨k0,T,Y,rfl⟩:=M (show ds.length=3 by simpa [xU] using c)
   have hb:(k0.blk+1+(T.blk+1+(Y.blk+1+0)):Nat)<=700000:=hb;refine⟨_,rfl,v,_,3,rfl,rd,_,rfl,ifF (by rw[c];rfl) ?_⟩
   obtain⟨a,xs,rfl,qa,x1,_,rfl,r1,x2,_,rfl,r2,x3,_,rfl,r3,rfl⟩:=rd;have k:∀H',Same H H'->Q (.bl (vy k0&&(qC T&&zw 0 400 Y))) H':=k;have nb:∀x,k0=.str x->x.length<=700000:=fun x e=>by
    subst e;have:x.cps.size<=700000:=by show Dat.blk (.str x)<=_;omega
    exact this
   have pb:∀ds,T=.tup ds->ds.length<=700000:=fun ds e=>by
    subst e;have h1:Dat.blks ds<=700000:=by show Dat.blk (.tup ds)<=_;omega
    exact qk (wd ds) h1
   refine⟨_,rfl,a,_,rfl,qa,rfl,_,_,rfl,_,_,rfl,_,_,rfl,rfl,?_⟩
   refine⟨_,rfl,x1,k0,rfl,r1,nb,fun H1 s1=>⟨_,rfl,zR (fun N=>⟨_,rfl,x2,T,rfl,r2.same s1,pb,fun H2 s2=>⟨_,rfl,zR (fun U=>⟨_,rfl,x3,Y,0,400,rfl,r3.same (s1.trans s2),?_⟩) (fun U=>?_)⟩⟩) (fun N=>?_)⟩⟩
   ·have:=k _ (s1.trans s2)
    rw[N,U,jQ,jQ] at this;exact this
   ·have:=k _ (s1.trans s2)
    rw[N,(j6 _).mp U] at this;exact this
   ·have:=k _ s1
    rw[(j6 _).mp N] at this;exact this
  ·refine⟨_,rfl,v,d,3,rfl,rd,_,rfl,ifT (by rw[(j6 _).mp c];rfl) ?_⟩
   have e:jB d=false:=by
    unfold jB;split
    ·exact absurd rfl c
    ·rfl
   have:=k H (u4 _);rw[e] at this;exact this
theorem yH:∀{ds:List Dat} {d:Dat},d∈ds->d.blk<=Dat.blks ds
 | e::ds,d,h=>by
  show d.blk<=e.blk+1+Dat.blks ds;rcases z9.mp h with rfl | h
  ·omega
  ·have:=yH h
   omega
def jK:Dat->Bool
 | .tup ds=>decide ((ds.length:Int)<=20)&&(ds.map jB).all id
 | _=>false
def jr(c:List Str):Dat->Bool
 | .tup [k,p]=>Qm k c&&qC p
 | _=>false
inductive Yl(K:W.Frag)(c:List V)(H:Hp)(Q:VK):Prop
 | mk (v:V) (d:Dat) (_:c=[v]) (_:Rep K H d v) (_:d.blk<=700000) (_:∀H',Same H H'->Q (.bl (jK d)) H'):Yl K c H Q
def zeh(K:W.Frag):Sp:=fun c H Q _=>Yl K c H Q
theorem zex:zD ["thing"] ["thing"] (zr (topL 17)):=u0
theorem zft{f:Addr}{fd:FuncData}{tf:Tok}(F:Fun K "are_feeders" "are_feeders" (topL 17) f fd)(B:Blt I)(g:Dfn P w K I G "is_tuple_upto" 1 ["thing","most"] (JU K))(u:Dfn P w K I G "is_feeder" 4 ["thing"] (zdg K))(l:I "MOST_FEEDERS" = some (.int 20 tf)):FnOk P w K I G CX0 5 f fd ["thing"] (zeh K):=by
 have nd:=zex.nd;refine F.ok zex (fun vs H Q E h=>?_) (fun a7 A Y s H vs Q E hr h=>?_)
 ·obtain⟨v,d,rfl,_⟩:=h
  rfl
 ·obtain⟨v,d,rfl,rd,hb,k⟩:=h
  have a6:=bG16000000;refine⟨_,(zj (zq (qU (zg g hr.m rfl (za (pv 0) (za (vd (v:=.int 20) rfl l ⟨_,rfl⟩) zb))) (jV (zk (qK rfl) rfl B.all boot_all (za (qS [] [] rfl rfl (by kernel_rfl) (jI (pv 0)) (fun _ _ _ _=>qN) (fun _ _ _ _=>(zg u hr.m rfl (za (pv 0) zb)))) zb)))))),?_⟩
  refine⟨_,rfl,v,d,20,rfl,rd,_,rfl,zR (fun c=>?_) (fun c=>?_)⟩
  ·obtain⟨ds,rfl⟩:∃ds,d=.tup ds:=by cases d<;>first| exact⟨_,rfl⟩ | exact Bool.noConfusion (show false=true from c)
   have T:(ds.length:Int)<=20:=qB c;obtain⟨a,xs,rfl,qa,rx⟩:=rd;have lx:=rx.len;have hb:Dat.blks ds<=700000:=hb;refine⟨_,rfl,a,rfl,⟨_,qa⟩,jW (K:=K) (xs:=xs) (fun i O N=>O=((ds.take i).map jB).map V.bl/\Same H N) ⟨rfl,u4 _⟩ (fun i O N ⟨_,M⟩=>M.sqT qa) ?_ ?_⟩
   ·rintro i z O N hz ⟨rfl,M⟩
    obtain⟨dd,U,r1⟩:=(rx.same M).get hz;have hi:=(qg.mp U).1;exact⟨rfl,⟨_,rfl,z,dd,rfl,r1,qk (yH (qY U)) hb,fun H4 s4=>⟨by rw[zv,zv,qI];omega,by rw[jy U,qm,qm];rfl,M.trans s4⟩⟩⟩
   ·rintro O N ⟨rfl,M⟩
    rw[lx,jL];refine⟨by rw[zv,zv];omega,fun D hD=>⟨D,ds.map jB,rfl,u3 zc,?_⟩⟩
    have:=k _ (M.trans (zd (o:=.lst ((ds.map jB).map V.bl)) hD));rw[show jK (.tup ds)=(ds.map jB).all id by
     show(decide ((ds.length:Int)<=20)&&_)=_;rw[zQ T,jQ]] at this
    exact this
  ·have e:jK d=false:=by
    cases d with
    | tup ds=>
     have T:decide ((ds.length:Int)<=20)=false:=(j6 _).mp c;show(decide ((ds.length:Int)<=20)&&_)=false;rw[T];rfl
    | _=>rfl
   have:=k H (u4 _);rw[e] at this;exact this
inductive zbt(K:W.Frag)(f:List V)(H:Hp)(Q:VK):Prop
 | mk (v:V) (d:Dat) (p:Addr) (c:List Str) (_:f=[v,.ref p]) (_:Rep K H d v) (_:SqL K H p (c.map V.str)) (_:d.blk<=700000) (_:∀H',Same H H'->Q (.bl (jr c d)) H'):zbt K f H Q
def zgb(K:W.Frag):Sp:=fun c H Q _=>zbt K c H Q
theorem zgk:zD ["thing","kinds","kind","place"] ["thing","kinds"] (zr (topL 18)):=u0
theorem zgM{f:Addr}{Y:FuncData}(F:Fun K "is_part" "is_part" (topL 18) f Y)(B:Blt I)(g:Dfn P w K I G "is_tuple_of" 1 ["thing","many"] (XS K))(l:Dfn P w K I G "is_place" 3 ["thing"] (Zw K)):FnOk P w K I G CX0 4 f Y ["thing","kinds"] (zgb K):=by
 have nd:=zgk.nd;refine F.ok zgk (fun vs H Q E h=>?_) (fun a6 A T s H vs Q E O h=>?_)
 ·obtain⟨v,d,p,M,rfl,_⟩:=h
  rfl
 ·obtain⟨v,d,p,M,rfl,U,qp,hb,k⟩:=h
  have o:=O.units;refine⟨_,(zf (z6 (qo (zS (zg g O.m rfl (za (pv 0) (za ze zb)))))
   (zj (zq qZ))
   zH)
   (zf (xG (pv 0) (xH rfl (zI (zG (i:=2) nd rfl (Or.inl rfl)) (zI (zG (i:=3) nd rfl (Or.inl rfl)) jZ))))
   (zj (zq (qU (qD (YA rfl o) (pv 2) (pv 1) (by with_unfolding_all rfl)) (jV (zg l O.m rfl (za (pv 3) zb)))))))),?_⟩
  have u:∀{ds:List Dat},ds.length=2->∃a b,ds=[a,b]:=fun {ds} h=>by
   match ds,h with
   | [a,b],_=>exact⟨a,b,rfl⟩
  by_cases c:xU 2 d=true
  ·obtain⟨ds,rfl⟩:∃ds,d=.tup ds:=by cases d<;>first| exact⟨_,rfl⟩ | cases c
   obtain⟨k0,D,rfl⟩:=u (show ds.length=2 by simpa [xU] using c)
   have hb:(k0.blk+1+(D.blk+1+0):Nat)<=700000:=hb;refine⟨_,rfl,v,_,2,rfl,U,_,rfl,ifF (by rw[c];rfl) ?_⟩
   obtain⟨a,xs,rfl,qa,x1,_,rfl,r1,x2,_,rfl,r2,rfl⟩:=U;have k:∀H',Same H H'->Q (.bl (Qm k0 M&&qC D)) H':=k;have pb:∀ds,D=.tup ds->ds.length<=700000:=fun ds e=>by
    subst e;have h1:Dat.blks ds<=700000:=by show Dat.blk (.tup ds)<=_;omega
    exact qk (wd ds) h1
   refine⟨_,rfl,a,_,rfl,qa,rfl,_,_,rfl,_,_,rfl,rfl,?_⟩
   refine⟨_,rfl,_,rfl,p,k0,M,rfl,r1,qp,_,rfl,zR (fun N=>⟨_,rfl,x2,D,rfl,r2,pb,fun H1 s1=>?_⟩) (fun N=>?_)⟩
   ·have:=k _ s1
    rw[N,jQ] at this;exact this
   ·have:=k _ (u4 _)
    rw[(j6 _).mp N] at this;exact this
  ·refine⟨_,rfl,v,d,2,rfl,U,_,rfl,ifT (by rw[(j6 _).mp c];rfl) ?_⟩
   have e:jr M d=false:=by
    unfold jr;split
    ·exact absurd rfl c
    ·rfl
   have:=k H (u4 _);rw[e] at this;exact this
def qx:Dat->Str
 | .tup (.str x::_)=>x
 | _=> ""
def yu:Dat->List Key
 | .tup [_,.tup [.int x,.int y]]=>[.inl x,.inl y]
 | _=>[]
noncomputable def jz (c:List Str):Dat->Bool
 | .tup ds=>decide ((ds.length:Int)<=60)&&((ds.map (jr c)).all id&&@decide ((ds.map yu).Nodup) (Classical.propDecidable _))
 | _=>false
theorem Zy{d:Dat}(h:qC d=true):∃x y,d=.tup [.int x,.int y]/\0<=x/\x<=1000/\0<=y/\y<=1000:=by
 cases d with
 | tup ds=>
  have f:(decide ((ds.length:Int)=2)&&(ds.map (zw 0 1000)).all id)=true:=h;rw[qQ] at f;have g:ds.length=2:=by have:=qB f.1;omega
  match ds,g with
  | [a,b],_=>
   have h2:(zw 0 1000 a&&(zw 0 1000 b&&true))=true:=f.2;rw[qQ,qQ] at h2;have w:∀{e:Dat},zw 0 1000 e=true->∃i,e=.int i/\0<=i/\i<=1000:=fun {e} c=>by
    cases e with
    | int i=>
     have c:(decide (0<=i)&&decide (i<=1000))=true:=c;rw[qQ] at c;exact⟨i,rfl,qB c.1,qB c.2⟩
    | _=>exact Bool.noConfusion (show false=true from c)
   obtain⟨x,rfl,l,o⟩:=w h2.1;obtain⟨y,rfl,s,u⟩:=w h2.2.1;exact⟨x,y,rfl,l,o,s,u⟩
 | _=>exact Bool.noConfusion (show false=true from h)
theorem wR{d:Dat}(h:jB d=true):∃x p m,d=.tup [.str x,p,m]:=by
 unfold jB at h;split at h
 ·rename_i k p m
  rw[qQ] at h;cases k with
  | str x=>exact⟨x,p,m,rfl⟩
  | _=>exact Bool.noConfusion (show false=true from h.1)
 ·cases h
theorem Wa{c:List Str}{d:Dat}(h:jr c d=true):∃k x y,d=.tup [k,.tup [.int x,.int y]]:=by
 unfold jr at h;split at h
 ·rename_i k p
  rw[qQ] at h;obtain⟨x,y,rfl,_⟩:=Zy h.2;exact⟨k,x,y,rfl⟩
 ·cases h
theorem zaM{c:List (List Key×Addr)}{p q:List Key×Addr}(h:q∈jO c p):q∈c\/q=p:=by
 unfold jO at h;split at h
 ·exact .inl h
 ·rcases ju.mp h with h | h
  ·exact .inl h
  ·exact .inr (qv.mp h)
inductive W8(K:W.Frag)(g:List V)(H:Hp)(Q:VK):Prop
 | mk (v:V) (d:Dat) (b:Addr) (f:List V) (c:List Dat) (_:g=[v,.ref b]) (_:Rep K H d v) (_:SqT K H b f) (_:Reps K H c f) (_:c.length<=20) (_:(∀e∈c,jB e=true)) (_:d.blk<=700000) (_:∀H',Same H H'->Q (.bl (jz (c.map qx) d)) H'):W8 K g H Q
def zed(K:W.Frag):Sp:=fun c H Q _=>W8 K c H Q
theorem zek:zD ["thing","feeders","kinds"] ["thing","feeders"] (zr (topL 19)):=u0
theorem zfg{f:Addr}{fd:FuncData}{tf:Tok}(F:Fun K "are_parts" "are_parts" (topL 19) f fd)(B:Blt I)(g:Dfn P w K I G "is_tuple_upto" 1 ["thing","most"] (JU K))(O:Dfn P w K I G "is_part" 4 ["thing","kinds"] (zgb K))(l:I "MOST_PARTS" = some (.int 60 tf)):FnOk P w K I G CX0 5 f fd ["thing","feeders"] (zed K):=by
 have nd:=zek.nd;refine F.ok zek (fun vs H Q E h=>?_) (fun ae A aa s H vs Q E hr h=>?_)
 ·obtain⟨v,d,b,fv,fs,rfl,_⟩:=h
  rfl
 ·obtain⟨v,d,b,fv,fs,rfl,rd,qb,rf,fl,ok,hb,k⟩:=h
  have ac:=bG16000000;have a9:=Vw hr;have lf:=rf.len;refine⟨_,(zf (zA (i:=2) nd rfl (Or.inr rfl) (qS [] [] rfl rfl (by kernel_rfl) (jI (pv 1)) (fun _ _ _ _=>qN) (fun _ _ _ _=>(zV (ZV (K:=K) rfl) (pv 0) ze (fun _ _=>rfl)))))
   (zf (z6 (ua (jD (qo (zS (zg g hr.m rfl (za (pv 0) (za (vd (v:=.int 60) rfl l ⟨_,rfl⟩) zb))))) (jm (qo (zS (zk (qK rfl) rfl B.all boot_all (za (qS ["kinds"] [2] rfl rfl (by kernel_rfl) (jI (pv 0)) (fun _ _ _ _=>qN) (fun _ _ _ _=>(zg O hr.m rfl (za (pv 0) (za (pv 1) zb))))) zb)))))))
   (zj (zq qZ))
   zH)
   (zj (zq (qD qV (zk Qt rfl B.len boot_len (za (zfc a9 [] [] rfl rfl (by kernel_rfl) (jI (pv 0)) (fun _ _ _ _=>qN) (fun _ _ _ _=>(zV (ZV (K:=K) rfl) (pv 0) ze (fun _ _=>rfl)))) zb)) (zk zo rfl B.len boot_len (za (pv 0) zb)) (zC _)))))),?_⟩
  refine⟨_,rfl,b,rfl,⟨_,qb⟩,jW (K:=K) (xs:=fv) (fun i N Y=>N=((fs.take i).map qx).map V.str/\Same H Y) ⟨rfl,u4 _⟩ (fun i N Y ⟨_,U⟩=>U.sqT qb) ?_ ?_⟩
  ·rintro i z N Y hz ⟨rfl,U⟩
   obtain⟨dd,ep,r1⟩:=(rf.same U).get hz;have hi:=(qg.mp ep).1;obtain⟨x,p,m,rfl⟩:=wR (ok dd (qY ep));obtain⟨u,_,rfl,qu,y1,_,rfl,g1,y2,_,rfl,g2,y3,_,rfl,g3,rfl⟩:=r1;cases(show y1=.str x from g1)
   exact⟨rfl,⟨_,rfl,u,_,_,_,rfl,rfl,qu,rfl,by rw[zv,zv,qI];omega,by rw[jy ep,qm,qm];rfl,U⟩⟩
  rintro N H1 ⟨rfl,s1⟩;rw[lf,jL];refine⟨by rw[zv,zv];omega,fun kl a8=>?_⟩
  have s2:=s1.trans (zd (o:=.lst ((fs.map qx).map V.str)) a8);have K2:upd H1 kl (.lst ((fs.map qx).map V.str)) kl=some (.lst ((fs.map qx).map V.str)):=zc;generalize upd H1 kl (.lst ((fs.map qx).map V.str))=H2 at s2 K2;generalize fs.map qx=T at *
  refine⟨_,rfl,v,d,60,rfl,rd.same s2,_,rfl,zR (fun c=>?_) (fun c=>?_)⟩
  ·have e:jz T d=false:=by
    cases d with
    | tup ds=>
     have c':(!decide ((ds.length:Int)<=60))=true:=c;show(decide ((ds.length:Int)<=60)&&_)=false;rw[show decide ((ds.length:Int)<=60)=false by simpa using c'];rfl
    | _=>rfl
   have:=k _ s2;rw[e] at this;first| exact this | exact ifT rfl this
  ·obtain⟨ds,rfl⟩:∃ds,d=.tup ds:=by cases d<;>first| exact⟨_,rfl⟩ | exact absurd rfl c
   have c':(ds.length:Int)<=60:=by
    have c1:¬(!decide ((ds.length:Int)<=60))=true:=c;simpa using c1
   obtain⟨a,xs,rfl,qa,rx⟩:=rd;have lx:=rx.len;have hb:Dat.blks ds<=700000:=hb;have eb:jz T (.tup ds)=((ds.map (jr T)).all id&&@decide ((ds.map yu).Nodup) (Classical.propDecidable _)):=by
    show(decide ((ds.length:Int)<=60)&&_)=_;rw[zQ c',jQ]
   rw[eb] at k;clear eb;have k2:∀H',Same H2 H'->Q (.bl ((ds.map (jr T)).all id&&@decide ((ds.map yu).Nodup) (Classical.propDecidable _))) H':=fun H' s=>k H' (s2.trans s)
   have qa:=s2.sqT qa;have rx:=rx.same s2;clear k;refine⟨_,rfl,a,rfl,⟨_,qa⟩,jW (K:=K) (xs:=xs) (fun i N Y=>N=((ds.take i).map (jr T)).map V.bl/\Same H2 Y) ⟨rfl,u4 _⟩ (fun i N Y ⟨_,U⟩=>U.sqT qa) ?_ ?_⟩
   ·rintro i z N Y hz ⟨rfl,U⟩
    obtain⟨dd,ed,r1⟩:=(rx.same U).get hz;have hi:=(qg.mp ed).1;exact⟨rfl,⟨_,rfl,_,rfl,z,dd,kl,T,rfl,r1,u3 (U _ _ K2),qk (yH (qY ed)) hb,fun H4 s4=>⟨by rw[zv,zv,qI];omega,by rw[jy ed,qm,qm];rfl,U.trans s4⟩⟩⟩
   rintro N Y ⟨rfl,s3⟩;rw[lx,jL];refine⟨by rw[zv,zv];omega,fun D hD=>⟨D,ds.map (jr T),rfl,u3 zc,_,rfl,zR (fun c2=>?_) (fun c2=>?_)⟩⟩
   ·have:=k2 _ (s3.trans (zd (o:=.lst ((ds.map (jr T)).map V.bl)) hD))
    rw[show(ds.map (jr T)).all id=false by simpa using c2,vg] at this
    exact this
   have all:(ds.map (jr T)).all id=true:=by simpa using c2
   rw[all,jQ] at k2;have s4:=s3.trans (zd (o:=.lst ((ds.map (jr T)).map V.bl)) hD);generalize upd Y D (.lst ((ds.map (jr T)).map V.bl))=H4 at s4;have a6:=s4.sqT qa;have ab:=rx.same s4;rw[vv,jw] at all;refine⟨_,rfl,a,rfl,⟨_,a6⟩,zeX (K:=K) (xs:=xs) (fun i N H5=>∃M:List (List Key×Addr),N=M.foldl jO []/\M.map (·.1)=(ds.take i).map yu/\Same H4 H5/\∀p∈N,SqT K H5 p.2 (p.1.map kV)) ⟨[],rfl,rfl,u4 _,fun p h=>(nomatch h)⟩ (fun i N H5 ⟨_,_,_,s5,q⟩=>⟨s5.sqT a6,q⟩) ?_ ?_⟩
   ·rintro i z N H5 hz ⟨M,rfl,e5,s5,q5⟩
    obtain⟨dd,ed,r1⟩:=(ab.same s5).get hz;have hi:=(qg.mp ed).1;obtain⟨k0,x,y,rfl⟩:=Wa (all dd (qY ed));obtain⟨u,_,rfl,qu,y1,_,rfl,g1,y2,_,rfl,g2,rfl⟩:=r1;obtain⟨c,_,rfl,qc,z1,_,rfl,g3,z2,_,rfl,g4,rfl⟩:=g2;cases(show z1=.int x from g3)
    cases(show z2=.int y from g4)
    have zl:=congrArg List.length e5;rw[zv,zv,qI] at zl;have fl:=yC M [];refine⟨rfl,⟨_,rfl,u,_,_,_,rfl,rfl,qu,rfl,[.inl x,.inl y],c,rfl,qc,?_,M++[([.inl x,.inl y],c)],?_,?_,s5,fun p hp=>?_⟩⟩
    ·rw[wY] at fl;omega
    ·rw[List.foldl_append];rfl
    ·rw[qm,e5,jy ed,qm];rfl
    ·rcases zaM hp with h | h
     ·exact q5 p h
     ·rw[h];exact qc
   ·rintro N H5 ⟨M,rfl,e5,s5,q5⟩ D5 a7
    rw[lx,jL] at e5;have zl:=congrArg List.length e5;rw[zv,zv] at zl;have sl:=X5 M;rw[e5] at sl;refine⟨D5,(M.foldl jO []).length,rfl,zc,_,rfl,a,xs,rfl,.inr ((s5.trans (zd a7)).sqT a6),rfl,?_⟩
    have e:decide (V.int ((M.foldl jO []).length:Int)=V.int (xs.length:Int))=@decide ((ds.map yu).Nodup) (Classical.propDecidable _):=by
     refine yb.mpr ⟨fun h=>sl.mp ?_,fun h=>?_⟩
     ·injection h with h
      omega
     ·rw[sl.mpr h,zl,lx]
    rw[e];exact k2 _ (s4.trans (s5.trans (zd a7)))
def ja(n:Int):Dat->Bool
 | .tup [a,b]=>zw 0 (n-1) a&&(zw 0 (n-1) b&&!decide (iD a=iD b))
 | _=>false
def qT(n:Int):Dat->Bool
 | .tup ds=>decide ((ds.length:Int)<=200)&&(ds.map (ja n)).all id
 | _=>false
theorem xr{lo f:Int}{d:Dat}(h:zw lo f d=true):∃i,d=.int i/\lo<=i/\i<=f:=by
 cases d with
 | int i=>
  have c:(decide (lo<=i)&&decide (i<=f))=true:=h;rw[qQ] at c;exact⟨i,rfl,qB c.1,qB c.2⟩
 | _=>cases h
theorem zcu:∀{ds:List Dat},ds.length=2->∃a b,ds=[a,b]:=fun {ds} h=>by
 match ds,h with
 | [a,b],_=>exact⟨a,b,rfl⟩
inductive zbI(K:W.Frag)(c:List V)(H:Hp)(Q:VK):Prop
 | mk (v:V) (d:Dat) (n:Int) (_:c=[v,.int n]) (_:Rep K H d v) (_:Q (.bl (ja n d)) H):zbI K c H Q
def zgd(K:W.Frag):Sp:=fun c H Q _=>zbI K c H Q
theorem zgq:zD ["thing","many","one","other"] ["thing","many"] (zr (topL 20)):=u0
theorem zgS{f:Addr}{T:FuncData}(F:Fun K "is_ahead" "is_ahead" (topL 20) f T)(B:Blt I)(l:Dfn P w K I G "is_tuple_of" 1 ["thing","many"] (XS K))(g:Dfn P w K I G "is_number_within" 2 ["thing","least","most"] (vn K)):FnOk P w K I G CX0 3 f T ["thing","many"] (zgd K):=by
 have U:=zgq.nd;refine F.ok zgq (fun vs H Q E h=>?_) (fun a6 A N s H vs Q E M h=>?_)
 ·obtain⟨v,d,n,rfl,_⟩:=h
  rfl
 ·obtain⟨v,d,n,rfl,O,k⟩:=h
  refine⟨_,(zf (z6 (qo (zS (zg l M.m rfl (za (pv 0) (za ze zb)))))
   (zj (zq qZ))
   zH)
   (zf (xG (pv 0) (xH rfl (zI (zG (i:=2) U rfl (Or.inl rfl)) (zI (zG (i:=3) U rfl (Or.inl rfl)) jZ))))
   (zf (z6 (ua (jD (qo (zS (zg g M.m rfl (za (pv 2) (za ze (za (zu xu (pv 1) ze) zb)))))) (jm (qo (zS (zg g M.m rfl (za (pv 3) (za ze (za (zu xu (pv 1) ze) zb)))))))))
   (zj (zq qZ))
   zH)
   (zj (zq (qD yz (pv 2) (pv 3) (zC _))))))),?_⟩
  by_cases c:xU 2 d=true
  ·obtain⟨ds,rfl⟩:∃ds,d=.tup ds:=by cases d<;>first| exact⟨_,rfl⟩ | cases c
   obtain⟨a0,o,rfl⟩:=zcu (show ds.length=2 by simpa [xU] using c)
   refine⟨_,rfl,v,_,2,rfl,O,_,rfl,ifF (by rw[c];rfl) ?_⟩
   obtain⟨a,xs,rfl,qa,x1,_,rfl,Y,x2,_,rfl,r2,rfl⟩:=O;have k:Q (.bl (zw 0 (n-1) a0&&(zw 0 (n-1) o&&!decide (iD a0=iD o)))) H:=k;refine⟨_,rfl,a,_,rfl,qa,rfl,_,_,rfl,_,_,rfl,rfl,?_⟩
   refine⟨_,rfl,_,rfl,_,_,rfl,rfl,x1,a0,0,n-1,rfl,Y,_,rfl,zR (fun u=>ifT rfl ?_) (fun u=>⟨_,rfl,_,rfl,_,_,rfl,rfl,x2,o,0,n-1,rfl,r2,_,rfl,zR (fun D=>?_) (fun D=>?_)⟩)⟩
   ·rw[show zw 0 (n-1) a0=false by simpa using u] at k
    exact k
   ·rw[show zw 0 (n-1) o=false by simpa using D] at k
    rw[vg,qF] at k;exact k
   ·have e1:zw 0 (n-1) a0=true:=by simpa using u
    have e2:zw 0 (n-1) o=true:=by simpa using D
    rw[e1,e2,jQ,jQ] at k;obtain⟨i,rfl,_⟩:=xr e1;obtain⟨j,rfl,_⟩:=xr e2;cases(show x1=.int i from Y)
    cases(show x2=.int j from r2)
    have e3:(!decide (V.int i=V.int j))=!decide (i=j):=by
     congr 1
     exact yb.mpr ⟨fun h=>by injection h,fun h=>by rw[h]⟩
    refine⟨_,rfl,_,rfl,rfl,?_⟩
    rw[e3];exact k
  ·refine⟨_,rfl,v,d,2,rfl,O,_,rfl,ifT (by rw[(j6 _).mp c];rfl) ?_⟩
   have e:ja n d=false:=by
    unfold ja;split
    ·exact absurd rfl c
    ·rfl
   rw[e] at k;exact k
inductive Yo(K:W.Frag)(c:List V)(H:Hp)(Q:VK):Prop
 | mk (v:V) (d:Dat) (n:Int) (_:c=[v,.int n]) (_:Rep K H d v) (_:∀H',Same H H'->Q (.bl (qT n d)) H'):Yo K c H Q
def zej(K:W.Frag):Sp:=fun c H Q _=>Yo K c H Q
theorem zeA:zD ["thing","many"] ["thing","many"] (zr (topL 21)):=u0
theorem zfw{f:Addr}{Y:FuncData}{tf:Tok}(F:Fun K "are_aheads" "are_aheads" (topL 21) f Y)(B:Blt I)(g:Dfn P w K I G "is_tuple_upto" 1 ["thing","most"] (JU K))(u:Dfn P w K I G "is_ahead" 3 ["thing","many"] (zgd K))(l:I "MOST_AHEADS" = some (.int 200 tf)):FnOk P w K I G CX0 4 f Y ["thing","many"] (zej K):=by
 have nd:=zeA.nd;refine F.ok zeA (fun vs H Q E h=>?_) (fun a7 A T s H vs Q E hr h=>?_)
 ·obtain⟨v,d,n,rfl,_⟩:=h
  rfl
 ·obtain⟨v,d,n,rfl,rd,k⟩:=h
  have a6:=bG16000000;refine⟨_,(zj (zq (qU (zg g hr.m rfl (za (pv 0) (za (vd (v:=.int 200) rfl l ⟨_,rfl⟩) zb))) (jV (zk (qK rfl) rfl B.all boot_all (za (qS ["many"] [1] rfl rfl (by kernel_rfl) (jI (pv 0)) (fun _ _ _ _=>qN) (fun _ _ _ _=>(zg u hr.m rfl (za (pv 0) (za (pv 1) zb))))) zb)))))),?_⟩
  refine⟨_,rfl,v,d,200,rfl,rd,_,rfl,zR (fun c=>?_) (fun c=>?_)⟩
  ·obtain⟨ds,rfl⟩:∃ds,d=.tup ds:=by cases d<;>first| exact⟨_,rfl⟩ | exact Bool.noConfusion (show false=true from c)
   have O:(ds.length:Int)<=200:=qB c;obtain⟨a,xs,rfl,qa,rx⟩:=rd;have lx:=rx.len;refine⟨_,rfl,a,rfl,⟨_,qa⟩,jW (K:=K) (xs:=xs) (fun i N M=>N=((ds.take i).map (ja n)).map V.bl/\M=H) ⟨rfl,rfl⟩ (fun i N M ⟨_,sm⟩=>by rw[sm];exact qa) ?_ ?_⟩
   ·rintro i z N M hz ⟨rfl,rfl⟩
    obtain⟨dd,U,r1⟩:=rx.get hz;have hi:=(qg.mp U).1;exact⟨rfl,⟨_,rfl,_,rfl,z,dd,n,rfl,r1,⟨by rw[zv,zv,qI];omega,by rw[jy U,qm,qm];rfl,rfl⟩⟩⟩
   ·rintro N M ⟨rfl,rfl⟩
    rw[lx,jL];refine⟨by rw[zv,zv];omega,fun D hD=>⟨D,ds.map (ja n),rfl,u3 zc,?_⟩⟩
    have:=k _ (zd (o:=.lst ((ds.map (ja n)).map V.bl)) hD);rw[show qT n (.tup ds)=(ds.map (ja n)).all id by
     show(decide ((ds.length:Int)<=200)&&_)=_;rw[zQ O,jQ]] at this
    exact this
  ·have e:qT n d=false:=by
    cases d with
    | tup ds=>
     have O:decide ((ds.length:Int)<=200)=false:=(j6 _).mp c;show(decide ((ds.length:Int)<=200)&&_)=false;rw[O];rfl
    | _=>rfl
   have:=k H (u4 _);rw[e] at this;exact this
def zbd(c:List (Int×Int)):Prop:=∀s k,¬Wk c (k+1) s s
def tpL:Dat->List Dat
 | .tup ds=>ds
 | _=>[]
def yt:Dat->Int×Int
 | .tup [a,b]=>(iD a,iD b)
 | _=>(0,0)
noncomputable def zaA:Dat->Bool
 | .tup [g,h,f,p,a]=>qC g&&(zw 1 4 h&&(jK f&&(jz ((tpL f).map qx) p&&qT ((tpL p).length:Int) a)))
 | _=>false
def asD:Dat->List (Int×Int)
 | .tup [_,_,_,_,a]=>(tpL a).map yt
 | _=>[]
def JobB(d:Dat)(b:Bool):Prop:=b=true↔zaA d=true/\zbd (asD d)
theorem JobB.uniq{d:Dat}{b c:Bool}(h:JobB d b)(f:JobB d c):b=c:=by
 have e:(b=true↔c=true):=h.trans f.symm;cases b<;>cases c<;>simp at e ⊢
theorem JobB.no{d:Dat}(h:zaA d=false):JobB d false:=⟨fun z=>(nomatch z),fun z=>by rw[h] at z;exact z.1⟩
theorem zba{n:Nat}{d:Dat}(h:ja (n:Int) d=true):d=prD (yt d)/\InN n (yt d).1/\InN n (yt d).2:=by
 unfold ja at h;split at h
 ·rename_i a b
  rw[qQ,qQ] at h;obtain⟨h1,h2,_⟩:=h;obtain⟨i,rfl,c,g⟩:=xr h1;obtain⟨j,rfl,f,l⟩:=xr h2;exact⟨rfl,⟨c,by show i<_;omega⟩,f,by show j<_;omega⟩
 ·cases h
theorem yi{n:Nat}:∀{ds:List Dat},(ds.map (ja (n:Int))).all id=true->(ds.map yt).map prD=ds/\∀p∈ds.map yt,InN n p.1/\InN n p.2
 | [],_=>⟨rfl,fun _ h=>nomatch h⟩
 | d::ds,h=>by
  rw[jf,QJ,qQ] at h;obtain⟨e,a,b⟩:=zba h.1;obtain⟨e2,c⟩:=yi h.2;refine⟨by rw[jf,jf,e2,<- e],fun p hp=>?_⟩
  rcases z9.mp hp with rfl | hp
  ·exact⟨a,b⟩
  ·exact c p hp
theorem zaT{d:Dat}(h:jK d=true):∃ds,d=.tup ds/\ds.length<=20/\∀e∈ds,jB e=true:=by
 cases d with
 | tup ds=>
  have c:(decide ((ds.length:Int)<=20)&&(ds.map jB).all id)=true:=h;rw[qQ,vv,jw] at c;exact⟨ds,rfl,by have:=qB c.1;omega,fun e f=>c.2 e f⟩
 | _=>exact Bool.noConfusion (show false=true from h)
theorem zaE{f:List Str}{d:Dat}(h:jz f d=true):∃ds,d=.tup ds/\ds.length<=60:=by
 cases d with
 | tup ds=>
  have c:(decide ((ds.length:Int)<=60)&&((ds.map (jr f)).all id&&@decide ((ds.map yu).Nodup) (Classical.propDecidable _)))=true:=h;rw[qQ] at c;exact⟨ds,rfl,by have:=qB c.1;omega⟩
 | _=>exact Bool.noConfusion (show false=true from h)
theorem zd8{n:Nat}{d:Dat}(h:qT (n:Int) d=true):∃ds,d=.tup ds/\ds.length<=200/\(ds.map yt).map prD=ds/\∀p∈ds.map yt,InN n p.1/\InN n p.2:=by
 cases d with
 | tup ds=>
  have c:(decide ((ds.length:Int)<=200)&&(ds.map (ja n)).all id)=true:=h;rw[qQ] at c;exact⟨ds,rfl,by have:=qB c.1;omega,yi c.2⟩
 | _=>exact Bool.noConfusion (show false=true from h)
theorem zaq{g:List (Int×Int)}{n:Nat}{H0 H:Hp}{v:V}(i:∀p∈g,InN n p.1/\InN n p.2)(h:Told g n H0 H v):decide (v=.non)=true↔zbd g:=by
 rw[vD];rcases h with ⟨rfl,u⟩ | ⟨l,s,c,B,rfl,_,_,b,_⟩
 ·refine⟨fun _ s k w=>?_,fun _=>rfl⟩
  obtain⟨m,e,_⟩:=id w;obtain⟨d,_,o⟩:=Wk.cyc (by omega:1<=k+1) w
  exact u s d (i _ e).1 o
 ·refine⟨(fun z=>nomatch z),fun f=>?_⟩
  obtain⟨_,⟨A,w,_⟩,_⟩:=b;obtain⟨k,rfl⟩:∃k,c=k+1:=⟨c-1,by omega⟩
  exact absurd w (f s k)
theorem zeJ:∀{ds:List Dat},ds.length=5->∃a b c d e,ds=[a,b,c,d,e]:=fun {ds} h=>by
 match ds,h with
 | [a,b,c,d,e],_=>exact⟨a,b,c,d,e,rfl⟩
inductive zbC(K:W.Frag)(c:List V)(H:Hp)(Q:VK):Prop
 | mk (v:V) (d:Dat) (_:c=[v]) (_:Rep K H d v) (_:d.blk<=700000) (_:∀(b:Bool) H',Same H H'->JobB d b->Q (.bl b) H'):zbC K c H Q
def zat(K:W.Frag):Sp:=fun c H Q _=>zbC K c H Q
theorem zgn:zD ["thing","gate","heads","feeders","parts","aheads"] ["thing"] (zr (topL 22)):=u0
theorem zgP{f:Addr}{fd:FuncData}{tf:Tok}(F:Fun K "is_job" "is_job" (topL 22) f fd)(B:Blt I)(D:Dfn P w K I G "is_tuple_of" 1 ["thing","many"] (XS K))(T:Dfn P w K I G "is_place" 3 ["thing"] (Zw K))(g:Dfn P w K I G "is_number_within" 2 ["thing","least","most"] (vn K))
  (u:Dfn P w K I G "are_feeders" 5 ["thing"] (zeh K)) (O:Dfn P w K I G "are_parts" 5 ["thing","feeders"] (zed K)) (N:Dfn P w K I G "are_aheads" 4 ["thing","many"] (zej K)) (U:Dfn P w K I G "ring_in" 3 ["many","aheads"] (XV K)) (M:I "MOST_HEADS" = some (.int 4 tf)):FnOk P w K I G CX0 6 f fd ["thing"] (zat K):=by
 have nd:=zgn.nd;refine F.ok zgn (fun vs H Q E h=>?_) (fun a9 A a8 s H vs Q E hr h=>?_)
 ·obtain⟨v,d,rfl,_⟩:=h
  rfl
 ·obtain⟨v,d,rfl,rd,hb,k⟩:=h
  refine⟨_,(zf (z6 (qo (zS (zg D hr.m rfl (za (pv 0) (za ze zb)))))
   (zj (zq qZ))
   zH)
   (zf (xG (pv 0) (xH rfl (zI (zG (i:=1) nd rfl (Or.inl rfl)) (zI (zG (i:=2) nd rfl (Or.inl rfl)) (zI (zG (i:=3) nd rfl (Or.inl rfl)) (zI (zG (i:=4) nd rfl (Or.inl rfl)) (zI (zG (i:=5) nd rfl (Or.inl rfl)) jZ)))))))
   (zf (z6 (ua (jD (qo (zS (zg T hr.m rfl (za (pv 1) zb)))) (jm (qo (zS (zg g hr.m rfl (za (pv 2) (za ze (za (vd (v:=.int 4) rfl M ⟨_,rfl⟩) zb)))))))))
   (zj (zq qZ))
   zH)
   (zf (z6 (ua (jD (qo (zS (zg u hr.m rfl (za (pv 3) zb)))) (jm (qo (zS (zg O hr.m rfl (za (pv 4) (za (pv 3) zb))))))))
   (zj (zq qZ))
   zH)
   (zf (z6 (qo (zS (zg N hr.m rfl (za (pv 5) (za (zk zo rfl B.len boot_len (za (pv 4) zb)) zb)))))
   (zj (zq qZ))
   zH)
   (zj (zq (qD yP (zg U hr.m rfl (za (zk zo rfl B.len boot_len (za (pv 4) zb)) (za (zX xg rfl B.list jd (za (pv 5) zb)) zb))) j8 (zC _))))))))),?_⟩
  by_cases c:xU 5 d=true
  ·obtain⟨ds,rfl⟩:∃ds,d=.tup ds:=by cases d<;>first| exact⟨_,rfl⟩ | cases c
   obtain⟨Y,h0,f0,p0,a0,rfl⟩:=zeJ (show ds.length=5 by simpa [xU] using c)
   have hb:(Y.blk+1+(h0.blk+1+(f0.blk+1+(p0.blk+1+(a0.blk+1+0)))):Nat)<=700000:=hb;refine⟨_,rfl,v,_,5,rfl,rd,_,rfl,ifF (by rw[c];rfl) ?_⟩
   obtain⟨a,xs,rfl,qa,x1,_,rfl,r1,x2,_,rfl,r2,x3,_,rfl,r3,x4,_,rfl,r4,x5,_,rfl,r5,rfl⟩:=rd;have pb:∀ds,Y=.tup ds->ds.length<=700000:=fun ds e=>by
    subst e;have h1:Dat.blks ds<=700000:=by show Dat.blk (.tup ds)<=_;omega
    exact qk (wd ds) h1
   have no:∀H',Same H H'->(qC Y&&(zw 1 4 h0&&(jK f0&&(jz ((tpL f0).map qx) p0&&qT ((tpL p0).length:Int) a0))))=false->Q (.bl false) H':=fun H' s e=>k false H' s (JobB.no e)
   refine⟨_,rfl,a,_,rfl,qa,rfl,_,_,rfl,_,_,rfl,_,_,rfl,_,_,rfl,_,_,rfl,rfl,?_⟩
   refine⟨_,rfl,x1,Y,rfl,r1,pb,fun H1 s1=>⟨_,rfl,zR (fun c1=>ifT rfl (no H1 s1 ?_)) (fun c1=>⟨_,rfl,x2,h0,1,4,rfl,r2.same s1,_,rfl,zR (fun c2=>no H1 s1 ?_) (fun c2=>?_)⟩)⟩⟩
   ·rw[show qC Y=false by simpa using c1];rfl
   ·rw[show zw 1 4 h0=false by simpa using c2,vg,qF]
   have e1:qC Y=true:=by simpa using c1
   have e2:zw 1 4 h0=true:=by simpa using c2
   refine⟨_,rfl,x3,f0,rfl,r3.same s1,by omega,fun H2 s2=>⟨_,rfl,zR (fun c3=>ifT rfl (no H2 (s1.trans s2) ?_)) (fun c3=>?_)⟩⟩
   ·rw[show jK f0=false by simpa using c3,vg,qF,qF]
   have e3:jK f0=true:=by simpa using c3
   obtain⟨fs,rfl,fl,a7⟩:=zaT e3;have s2:=s1.trans s2;obtain⟨fa,fv,rfl,qf,rf⟩:=r3;refine⟨_,rfl,_,rfl,x4,p0,fa,fv,fs,rfl,r4.same s2,s2.sqT qf,rf.same s2,fl,a7,by omega,fun H3 s3=>⟨_,rfl,zR (fun c4=>no H3 (s2.trans s3) ?_) (fun c4=>?_)⟩⟩
   ·rw[show jz ((tpL (.tup fs)).map qx) p0=false from(by simpa using c4:jz (fs.map qx) p0=false),vg,qF,qF,qF]
   have e4:jz (fs.map qx) p0=true:=by simpa using c4
   obtain⟨ps,rfl,pl⟩:=zaE e4;have s3:=s2.trans s3;obtain⟨pa,ab,rfl,qp,rp⟩:=r4;have lp:=rp.len;refine⟨_,rfl,_,rfl,pa,_,rfl,.inr (s3.sqT qp),x5,a0,(ps.length:Int),(by rw[lp];rfl),r5.same s3,fun H4 s4=>⟨_,rfl,zR (fun c5=>no H4 (s3.trans s4) ?_) (fun c5=>?_)⟩⟩
   ·rw[show qT ((tpL (.tup ps)).length:Int) a0=false from(by simpa using c5:qT (ps.length:Int) a0=false),qF,qF,qF,qF]
   have e5:qT (ps.length:Int) a0=true:=by simpa using c5
   obtain⟨as,rfl,al,ea,a6⟩:=zd8 e5;have s4:=s3.trans s4;obtain⟨aa,av,rfl,qa,ra⟩:=r5;have la:=ra.len;refine⟨_,rfl,pa,_,rfl,.inr (s4.sqT qp),_,rfl,aa,av,rfl,.inr (s4.sqT qa),fun l hl=>?_⟩
   have s5:=s4.trans (zd (o:=.lst av) hl);refine⟨ps.length,l,av,as.map yt,(by rw[lp];rfl),u3 zc,by rw[ea];exact ra.same s5,by rw[zv];omega,pl,a6,fun v H6 s6 tv=>⟨rfl,k _ _ (s5.trans s6) ?_⟩⟩
   show _↔(qC Y&&(zw 1 4 h0&&(jK (.tup fs)&&(jz (fs.map qx) (.tup ps)&&qT (ps.length:Int) (.tup as)))))=true/\zbd (as.map yt);rw[e1,e2,e3,e4,e5];exact(zaq a6 tv).trans ⟨fun h=>⟨rfl,h⟩,fun h=>h.2⟩
  ·refine⟨_,rfl,v,d,5,rfl,rd,_,rfl,ifT (by rw[(j6 _).mp c];rfl) (k false H (u4 _) (JobB.no ?_))⟩
   unfold zaA;split
   ·exact absurd rfl c
   ·rfl
def xa:Dat->Bool
 | .tup [k,p]=>vy k&&qC p
 | _=>false
theorem zg0:∀{ds:List Dat},ds.length=3->∃a b c,ds=[a,b,c]:=fun {ds} h=>by
 match ds,h with
 | [a,b,c],_=>exact⟨a,b,c,rfl⟩
theorem zbq{k:Dat}{n:Nat}(hb:k.blk<=n):∀x,k=.str x->x.length<=n:=fun x e=>by
 subst e;exact hb
theorem VY{k:Dat}{n:Nat}(hb:k.blk<=n):∀ds,k=.tup ds->ds.length<=n:=fun ds e=>by
 subst e;exact qk (wd ds) hb
theorem zes:zD ["_law_thing"] ["_law_thing"] (zr (topL 52)):=u0
theorem zfo{f:Addr}{Y:FuncData}(F:Fun K "_law_is_feeder" "_law_is_feeder" (topL 52) f Y)(B:Blt I)(l:Dfn P w K I G "_law_is_name" 1 ["_law_thing"] (zbx K))(i:Dfn P w K I G "_law_is_place" 2 ["_law_thing"] (Zw K))(g:Dfn P w K I G "_law_is_number" 1 ["_law_thing","_law_least","_law_most"] (vn K)):FnOk P w K I G CX0 3 f Y ["_law_thing"] (zdg K):=by
 have nd:=zes.nd;refine F.ok zes (fun vs H Q E h=>?_) (fun a6 A T s H vs Q E N h=>?_)
 ·obtain⟨v,d,rfl,_⟩:=h
  rfl
 ·obtain⟨v,d,rfl,M,hb,k⟩:=h
  refine⟨_,(zf (z6 (ua (jD (qo (zS (zk zN rfl B.isinstance boot_isinstance (za (pv 0) (za (zM (v:=.ty "tuple") rfl B.tuple zJ rfl) zb))))) (jm (zE yz (zk zo rfl B.len boot_len (za (pv 0) zb)) ze (zC _)))))
   (zj (zq qZ))
   zH)
   (zj (zq (qU (zg l N.m rfl (za (zV xc (pv 0) ze (fun _ _=>rfl)) zb)) (qU (zg i N.m rfl (za (zV xc (pv 0) ze (fun _ _=>rfl)) zb)) (jV (zg g N.m rfl (za (zV xc (pv 0) ze (fun _ _=>rfl)) (za ze (za ze zb)))))))))),?_⟩
  by_cases c:xU 3 d=true
  ·obtain⟨ds,rfl⟩:∃ds,d=.tup ds:=by cases d<;>first| exact⟨_,rfl⟩ | cases c
   obtain⟨k0,U,O,rfl⟩:=zg0 (show ds.length=3 by simpa [xU] using c)
   have hb:(k0.blk+1+(U.blk+1+(O.blk+1+0)):Nat)<=700000:=hb;have ty:=M.ty;obtain⟨a,xs,rfl,u,x1,_,rfl,r1,x2,_,rfl,r2,x3,_,rfl,r3,rfl⟩:=M;have k:∀H',Same H H'->Q (.bl (vy k0&&(qC U&&zw 0 400 O))) H':=k;refine⟨_,rfl,_, "tuple", "tuple",rfl,ty,(by decide),_,rfl,ifF (by decide) ⟨_,rfl,a,_,rfl,.inr u,rfl,_,rfl,ifF rfl ?_⟩⟩
   refine⟨_,rfl,a,_,_,_,rfl,rfl,u,rfl,x1,k0,rfl,r1,zbq (by omega),fun H1 s1=>⟨_,rfl,zR (fun o=>⟨_,rfl,a,_,_,_,rfl,rfl,s1.sqT u,rfl,x2,U,rfl,r2.same s1,VY (by omega),fun H2 s2=>⟨_,rfl,zR (fun D=>⟨_,rfl,a,_,_,_,rfl,rfl,(s1.trans s2).sqT u,rfl,x3,O,0,400,rfl,r3.same (s1.trans s2),?_⟩) (fun D=>?_)⟩⟩) (fun o=>?_)⟩⟩
   ·have:=k _ (s1.trans s2)
    rw[o,D,jQ,jQ] at this;exact this
   ·have:=k _ (s1.trans s2)
    rw[o,(j6 _).mp D] at this;exact this
   ·have:=k _ s1
    rw[(j6 _).mp o] at this;exact this
  ·have e:jB d=false:=by
    unfold jB;split
    ·exact absurd rfl c
    ·rfl
   have k0:=k H (u4 _);rw[e] at k0;refine⟨_,rfl,v,d.tyN, "tuple",rfl,M.ty,(by decide),?_⟩
   rw[vE];refine⟨_,rfl,zR (fun o=>ifT rfl k0) (fun o=>?_)⟩
   obtain⟨ds,rfl⟩:∃ds,d=.tup ds:=by cases d<;>first| exact⟨_,rfl⟩ | exact absurd rfl o
   obtain⟨a,xs,rfl,u,rx⟩:=M;have lx:=rx.len;have D:¬ds.length=3:=by simpa [xU] using c
   exact⟨_,rfl,a,_,rfl,.inr u,rfl,_,rfl,ifT (by simp;omega) k0⟩
theorem zeo:zD ["_law_thing"] ["_law_thing"] (zr (topL 53)):=u0
inductive Yh(K:W.Frag)(c:List V)(H:Hp)(Q:VK):Prop
 | mk (v:V) (d:Dat) (_:c=[v]) (_:Rep K H d v) (_:d.blk<=700000) (_:∀H',Same H H'->Q (.bl (xa d)) H'):Yh K c H Q
def zef(K:W.Frag):Sp:=fun c H Q _=>Yh K c H Q
theorem zfk{f:Addr}{N:FuncData}(F:Fun K "_law_is_part" "_law_is_part" (topL 53) f N)(B:Blt I)(i:Dfn P w K I G "_law_is_name" 1 ["_law_thing"] (zbx K))(g:Dfn P w K I G "_law_is_place" 2 ["_law_thing"] (Zw K)):FnOk P w K I G CX0 3 f N ["_law_thing"] (zef K):=by
 have nd:=zeo.nd;refine F.ok zeo (fun vs H Q E h=>?_) (fun T A D s H vs Q E O h=>?_)
 ·obtain⟨v,d,rfl,_⟩:=h
  rfl
 ·obtain⟨v,d,rfl,u,hb,k⟩:=h
  refine⟨_,(zj (zq (qU (zk zN rfl B.isinstance boot_isinstance (za (pv 0) (za (zM (v:=.ty "tuple") rfl B.tuple zJ rfl) zb))) (qU (qD qV (zk zo rfl B.len boot_len (za (pv 0) zb)) ze (zC _)) (qU (zg i O.m rfl (za (zV xc (pv 0) ze (fun _ _=>rfl)) zb)) (jV (zg g O.m rfl (za (zV xc (pv 0) ze (fun _ _=>rfl)) zb)))))))),?_⟩
  by_cases c:xU 2 d=true
  ·obtain⟨ds,rfl⟩:∃ds,d=.tup ds:=by cases d<;>first| exact⟨_,rfl⟩ | cases c
   obtain⟨k0,M,rfl⟩:=zcu (show ds.length=2 by simpa [xU] using c)
   have hb:(k0.blk+1+(M.blk+1+0):Nat)<=700000:=hb;have ty:=u.ty;obtain⟨a,xs,rfl,o,x1,_,rfl,U,x2,_,rfl,Y,rfl⟩:=u;have k:∀H',Same H H'->Q (.bl (vy k0&&qC M)) H':=k;refine⟨_,rfl,_, "tuple", "tuple",rfl,ty,(by decide),_,rfl,ifT (by decide) ⟨_,rfl,a,_,rfl,.inr o,rfl,_,rfl,ifT rfl ?_⟩⟩
   refine⟨_,rfl,a,_,_,_,rfl,rfl,o,rfl,x1,k0,rfl,U,zbq (by omega),fun H1 s1=>⟨_,rfl,zR (fun l=>⟨_,rfl,a,_,_,_,rfl,rfl,s1.sqT o,rfl,x2,M,rfl,Y.same s1,VY (by omega),fun H2 s2=>?_⟩) (fun l=>?_)⟩⟩
   ·have:=k _ (s1.trans s2)
    rw[l,jQ] at this;exact this
   ·have:=k _ s1
    rw[(j6 _).mp l] at this;exact this
  ·have e:xa d=false:=by
    unfold xa;split
    ·exact absurd rfl c
    ·rfl
   have k0:=k H (u4 _);rw[e] at k0;refine⟨_,rfl,v,d.tyN, "tuple",rfl,u.ty,(by decide),?_⟩
   rw[vE];refine⟨_,rfl,zR (fun l=>?_) (fun l=>?_)⟩
   ·obtain⟨ds,rfl⟩:∃ds,d=.tup ds:=by cases d<;>first| exact⟨_,rfl⟩ | exact Bool.noConfusion (show false=true from l)
    obtain⟨a,xs,rfl,o,rx⟩:=u;have lx:=rx.len;have c2:¬ds.length=2:=by simpa [xU] using c
    exact⟨_,rfl,a,_,rfl,.inr o,rfl,_,rfl,ifF (by simp;omega) k0⟩
   ·exact k0
theorem zep:zD ["_law_thing","_law_many"] ["_law_thing","_law_many"] (zr (topL 54)):=u0
inductive Yi(K:W.Frag)(c:List V)(H:Hp)(Q:VK):Prop
 | mk (v:V) (d:Dat) (n:Int) (_:c=[v,.int n]) (_:Rep K H d v) (_:∀H',Same H H'->Q (.bl (ja n d)) H'):Yi K c H Q
def zeg(K:W.Frag):Sp:=fun c H Q _=>Yi K c H Q
theorem zfl{f:Addr}{fd:FuncData}(F:Fun K "_law_is_pair" "_law_is_pair" (topL 54) f fd)(B:Blt I)(g:Dfn P w K I G "_law_is_number" 1 ["_law_thing","_law_least","_law_most"] (vn K)):FnOk P w K I G CX0 2 f fd ["_law_thing","_law_many"] (zeg K):=by
 have nd:=zep.nd;refine F.ok zep (fun vs H Q E h=>?_) (fun a9 A a6 s H vs Q E hr h=>?_)
 ·obtain⟨v,d,n,rfl,_⟩:=h
  rfl
 ·obtain⟨v,d,n,rfl,N,k⟩:=h
  have a8:=bG16000000;refine⟨_,(zf (z6 (ua (jD (qo (zS (zk zN rfl B.isinstance boot_isinstance (za (pv 0) (za (zM (v:=.ty "tuple") rfl B.tuple zJ rfl) zb))))) (jm (zE yz (zk zo rfl B.len boot_len (za (pv 0) zb)) ze (zC _)))))
   (zj (zq qZ))
   zH)
   (zj (zq (qU (zk (qK rfl) rfl B.all boot_all (za (qS ["_law_many"] [1] rfl rfl (by kernel_rfl) (jI (pv 0)) (fun _ _ _ _=>qN) (fun _ _ _ _=>(zg g hr.m rfl (za (pv 0) (za ze (za (zu xu (pv 1) ze) zb)))))) zb)) (jV (qD yz (zV xc (pv 0) ze (fun _ _=>rfl)) (zV xc (pv 0) ze (fun _ _=>rfl)) (zC _))))))),?_⟩
  by_cases c:xU 2 d=true
  ·obtain⟨ds,rfl⟩:∃ds,d=.tup ds:=by cases d<;>first| exact⟨_,rfl⟩ | cases c
   obtain⟨a0,l,rfl⟩:=zcu (show ds.length=2 by simpa [xU] using c)
   have ty:=N.ty;obtain⟨a,xs,rfl,M,U⟩:=N;have lx:=U.len;have l2:[a0,l].length=2:=rfl;have a7:=U;obtain⟨Y,_,rfl,r1,x2,_,rfl,r2,rfl⟩:=a7;have k:∀H',Same H H'->Q (.bl (zw 0 (n-1) a0&&(zw 0 (n-1) l&&!decide (iD a0=iD l)))) H':=k;refine⟨_,rfl,_, "tuple", "tuple",rfl,ty,(by decide),_,rfl,ifF (by decide) ⟨_,rfl,a,_,rfl,.inr M,rfl,_,rfl,ifF rfl ?_⟩⟩
   refine⟨_,rfl,a,rfl,⟨_,M⟩,jW (K:=K) (xs:=[Y,x2]) (fun i zs O=>zs=(([a0,l].take i).map (zw 0 (n-1))).map V.bl/\O=H) ⟨rfl,rfl⟩ (fun i zs O ⟨_,sm⟩=>by rw[sm];exact M) ?_ ?_⟩
   ·rintro i z zs O hz ⟨rfl,rfl⟩
    obtain⟨dd,ed,N⟩:=U.get hz;have hi:=(qg.mp ed).1;exact⟨rfl,⟨_,rfl,_,rfl,_,_,rfl,rfl,z,dd,0,n-1,rfl,N,⟨by rw[zv,zv,qI];omega,by rw[jy ed,qm,qm];rfl,rfl⟩⟩⟩
   ·rintro zs O ⟨rfl,rfl⟩
    refine⟨by rw[zv,zv,qI];omega,fun D hD=>⟨D,[zw 0 (n-1) a0,zw 0 (n-1) l],rfl,u3 zc,?_⟩⟩
    have s1:=zd (o:=.lst ((([a0,l].take [Y,x2].length).map (zw 0 (n-1))).map V.bl)) hD;have k:=k _ s1;generalize upd O D (.lst ((([a0,l].take [Y,x2].length).map (zw 0 (n-1))).map V.bl))=H4 at s1 k;have T:=s1.sqT M;have ea:[zw 0 (n-1) a0,zw 0 (n-1) l].all id=(zw 0 (n-1) a0&&zw 0 (n-1) l):=by
     show(zw 0 (n-1) a0&&(zw 0 (n-1) l&&true))=_;rw[wu]
    rw[ea];rw[<- Bool.and_assoc] at k;refine⟨_,rfl,zR (fun u=>?_) (fun u=>?_)⟩
    ·rw[u,jQ] at k
     rw[qQ] at u;obtain⟨i,rfl,_⟩:=xr u.1;obtain⟨j,rfl,_⟩:=xr u.2;cases(show Y=.int i from r1)
     cases(show x2=.int j from r2)
     have e3:(!decide (V.int i=V.int j))=!decide (i=j):=by
      congr 1
      exact yb.mpr ⟨fun h=>by injection h,fun h=>by rw[h]⟩
     refine⟨_,rfl,a,_,_,_,rfl,rfl,T,rfl,_,rfl,a,_,_,_,rfl,rfl,T,rfl,rfl,?_⟩
     rw[e3];exact k
    ·rw[(j6 _).mp u,vg] at k
     exact k
  ·have e:ja n d=false:=by
    unfold ja;split
    ·exact absurd rfl c
    ·rfl
   have k0:=k H (u4 _);rw[e] at k0;refine⟨_,rfl,v,d.tyN, "tuple",rfl,N.ty,(by decide),?_⟩
   rw[vE];refine⟨_,rfl,zR (fun u=>ifT rfl k0) (fun u=>?_)⟩
   obtain⟨ds,rfl⟩:∃ds,d=.tup ds:=by cases d<;>first| exact⟨_,rfl⟩ | exact absurd rfl u
   obtain⟨a,xs,rfl,M,U⟩:=N;have lx:=U.len;have c2:¬ds.length=2:=by simpa [xU] using c
   exact⟨_,rfl,a,_,rfl,.inr M,rfl,_,rfl,ifT (by simp;omega) k0⟩
theorem yX{d:Dat}(h:jJ d=true):∃ds,d=.tup ds:=by
 cases d with
 | tup ds=>exact⟨ds,rfl⟩
 | _=>exact Bool.noConfusion (show false=true from h)
theorem zaU{d:Dat}(h:jB d=true):vy (.str (qx d))=true:=by
 obtain⟨x,p,m,rfl⟩:=wR h;have c:(vy (.str x)&&(qC p&&zw 0 400 m))=true:=h;rw[qQ] at c;exact c.1
theorem zcA{d:Dat}{c:List Str}(h:Qm d c=true):∃x∈c,d=.str x:=by
 cases d with
 | str z=>
  have f:(c.any fun t=>t==z)=true:=h
  rw[yI] at f;obtain⟨x,hx,e⟩:=f;exact⟨x,hx,by rw[eq_of_beq e]⟩
 | _=>exact Bool.noConfusion (show false=true from h)
theorem Wb{c:List Dat}(ok:∀e∈c,jB e=true){d:Dat}:jr (c.map qx) d=true↔xa d=true/\∃k p,d=.tup [k,p]/\Qm k (c.map qx)=true:=by
 constructor
 ·intro h
  unfold jr at h;split at h
  ·rename_i k p
   rw[qQ] at h;refine⟨?_,k,p,rfl,h.1⟩
   obtain⟨x,hx,rfl⟩:=zcA h.1;obtain⟨e,f,rfl⟩:=qr.mp hx;show(vy (.str (qx e))&&qC p)=true;rw[zaU (ok e f),h.2];rfl
  ·cases h
 ·rintro⟨h1,k,p,rfl,h2⟩
  have h1:(vy k&&qC p)=true:=h1;rw[qQ] at h1;show(Qm k (c.map qx)&&qC p)=true;rw[h2,h1.2];rfl
theorem ZA{d:Dat}(h:xa d=true):∃k x y,d=.tup [k,.tup [.int x,.int y]]:=by
 unfold xa at h;split at h
 ·rename_i k p
  rw[qQ] at h;obtain⟨x,y,rfl,_⟩:=Zy h.2;exact⟨k,x,y,rfl⟩
 ·cases h
theorem zet:zD ["_law_thing","_law_feeders_here","_law_parts","_law_aheads_here"] ["_law_thing"] (zr (topL 55)):=u0
theorem zfp{f:Addr}{fd:FuncData}(F:Fun K "_law_due" "_law_due" (topL 55) f fd)(B:Blt I)(ab:Dfn P w K I G "_law_is_place" 2 ["_law_thing"] (Zw K))(a9:Dfn P w K I G "_law_is_number" 1 ["_law_thing","_law_least","_law_most"] (vn K))(a8:Dfn P w K I G "_law_is_feeder" 3 ["_law_thing"] (zdg K))(ae:Dfn P w K I G "_law_is_part" 3 ["_law_thing"] (zef K))(ac:Dfn P w K I G "_law_is_pair" 2 ["_law_thing","_law_many"] (zeg K))(a7:Dfn P w K I G "_law_goes_round" 1 ["_law_many","_law_aheads_here"] (zgc K)):FnOk P w K I G CX0 4 f fd ["_law_thing"] (zat K):=by
 have nd:=zet.nd;refine F.ok zet (fun vs H Q E h=>?_) (fun b6 A b0 s H vs Q E hr h=>?_)
 ·obtain⟨v,d,rfl,_⟩:=h
  rfl
 ·obtain⟨v,d,rfl,rd,hb,k⟩:=h
  have b5:=bG16000000;have aj:=hr.units;refine⟨_,(zf (z6 (ua (jD (qo (zS (zk zN rfl B.isinstance boot_isinstance (za (pv 0) (za (zM (v:=.ty "tuple") rfl B.tuple zJ rfl) zb))))) (jm (zE yz (zk zo rfl B.len boot_len (za (pv 0) zb)) ze (zC _)))))
   (zj (zq qZ))
   zH)
   (zf (z6 (ua (jD (qo (zS (zg ab hr.m rfl (za (zV xc (pv 0) ze (fun _ _=>rfl)) zb)))) (jm (qo (zS (zg a9 hr.m rfl (za (zV xc (pv 0) ze (fun _ _=>rfl)) (za ze (za ze zb)))))))))
   (zj (zq qZ))
   zH)
   (zf (z6 (qo (zS (zk (qK rfl) rfl B.all boot_all (za (qS [] [] rfl rfl (by kernel_rfl) (jI (zK V4 (pv 0) (zL ze) qe)) (fun _ _ _ _=>qN) (fun _ _ _ _=>(zk (za5 (K:=K) rfl) rfl B.isinstance boot_isinstance (za (pv 0) (za (zM (v:=.ty "tuple") rfl B.tuple zJ rfl) zb))))) zb))))
   (zj (zq qZ))
   zH)
   (zf (xG (zK V4 (pv 0) (zL ze) qe) (xH rfl (zI (zG (i:=1) nd rfl (Or.inr rfl)) (zI (zG (i:=2) nd rfl (Or.inr rfl)) (zI (zG (i:=3) nd rfl (Or.inl rfl)) jZ)))))
   (zf (z6 (ua (jD (zE Zz (zk zo rfl B.len boot_len (za (pv 1) zb)) ze (zC _)) (jD (zE Zz (zk zo rfl B.len boot_len (za (pv 2) zb)) ze (zC _)) (jD (zE Zz (zk zo rfl B.len boot_len (za (pv 3) zb)) ze (zC _)) (jm (qo (zS (zk (qK rfl) rfl B.all boot_all (za (qS [] [] rfl rfl (by kernel_rfl) (jI (pv 1)) (fun _ _ _ _=>qN) (fun _ _ _ _=>(zg a8 hr.m rfl (za (pv 0) zb)))) zb)))))))))
   (zj (zq qZ))
   zH)
   (zf (z6 (ua (jD (qo (zS (zk (qK rfl) rfl B.all boot_all (za (qS [] [] rfl rfl (by kernel_rfl) (jI (pv 2)) (fun _ _ _ _=>qN) (fun _ _ _ _=>(zg ae hr.m rfl (za (pv 0) zb)))) zb)))) (jm (qo (zS (zk (qK rfl) rfl B.all boot_all (za (qS ["_law_parts"] [2] rfl rfl (by kernel_rfl) (jI (pv 3)) (fun _ _ _ _=>qN) (fun _ _ _ _=>(zg ac hr.m rfl (za (pv 0) (za (zk (vq (K:=K) rfl) rfl B.len boot_len (za (pv 1) zb)) zb))))) zb)))))))
   (zj (zq qZ))
   zH)
   (zf (z6 (zE Vf (zk Qt rfl B.len boot_len (za (zX (Wm hr.hd aj) rfl B.set zcP (za (Qd [] [] rfl rfl (by kernel_rfl) (jI (pv 2)) (fun _ _ _ _=>qN) (fun _ _ _ _=>(pv 1))) zb)) zb)) (zk zo rfl B.len boot_len (za (pv 2) zb)) (zC _))
   (zj (zq qZ))
   zH)
   (zf (z6 (qo (zS (zk (qK rfl) rfl B.all boot_all (za (Qd ["_law_feeders_here"] [1] rfl rfl (by kernel_rfl) (jI (pv 2)) (fun _ _ _ _=>qN) (fun _ _ _ _=>(qD (YA rfl aj) (pv 0) (qS [] [] rfl rfl (by kernel_rfl) (zdr (K:=K) rfl (pv 2)) (fun _ _ _ _=>qN) (fun _ _ _ _=>(zV (ZV (K:=K) rfl) (pv 0) ze (fun _ _=>rfl)))) (by with_unfolding_all rfl)))) zb))))
   (zj (zq qZ))
   zH)
   (zj (zq (J3 (zg a7 hr.m rfl (za (zk zo rfl B.len boot_len (za (pv 2) zb)) (za (pv 3) zb)))))))))))))),?_⟩
  by_cases c:xU 5 d=true
  ·obtain⟨ds,rfl⟩:∃ds,d=.tup ds:=by cases d<;>first| exact⟨_,rfl⟩ | cases c
   obtain⟨g0,h0,f0,p0,a0,rfl⟩:=zeJ (show ds.length=5 by simpa [xU] using c)
   have hb:(g0.blk+1+(h0.blk+1+(f0.blk+1+(p0.blk+1+(a0.blk+1+0)))):Nat)<=700000:=hb;have ty:=rd.ty;obtain⟨a,xs,rfl,qa,x1,_,rfl,r1,x2,_,rfl,r2,x3,_,rfl,r3,x4,_,rfl,r4,x5,_,rfl,r5,rfl⟩:=rd;have no:∀H',Same H H'->(qC g0&&(zw 1 4 h0&&(jK f0&&(jz ((tpL f0).map qx) p0&&qT ((tpL p0).length:Int) a0))))=false->Q (.bl false) H':=fun H' s e=>k false H' s (JobB.no e)
   refine⟨_,rfl,_, "tuple", "tuple",rfl,ty,(by decide),_,rfl,ifF (by decide) ⟨_,rfl,a,_,rfl,.inr qa,rfl,_,rfl,ifF rfl ?_⟩⟩
   refine⟨_,rfl,a,_,_,_,rfl,rfl,qa,rfl,x1,g0,rfl,r1,VY (by omega),fun H1 s1=>⟨_,rfl,zR (fun c1=>ifT rfl (no H1 s1 ?_)) (fun c1=>⟨_,rfl,a,_,_,_,rfl,rfl,s1.sqT qa,rfl,x2,h0,1,4,rfl,r2.same s1,_,rfl,zR (fun c2=>no H1 s1 ?_) (fun c2=>?_)⟩)⟩⟩
   ·rw[show qC g0=false by simpa using c1];rfl
   ·rw[show zw 1 4 h0=false by simpa using c2,vg,qF]
   have e1:qC g0=true:=by simpa using c1
   have e2:zw 1 4 h0=true:=by simpa using c2
   have an:=s1.sqT qa;have R3:=r3.same s1;have R4:=r4.same s1;have R5:=r5.same s1;refine⟨_,rfl,_,rfl,a,_,rfl,an,(show ¬(HT.sIx 5 0 (some 2)=0/\HT.sIx 5 5 none=5) by decide),fun p hp=>?_⟩
   have sp:=zd (o:=.tup (qP [x1,x2,x3,x4,x5] (some 2) none)) hp;have qp:SqT K (upd H1 p (.tup (qP [x1,x2,x3,x4,x5] (some 2) none))) p [x3,x4,x5]:=u5 zc;generalize upd H1 p (.tup (qP [x1,x2,x3,x4,x5] (some 2) none))=H2 at sp qp;have rx:Reps K H2 [f0,p0,a0] [x3,x4,x5]:=⟨_,_,rfl,R3.same sp,_,_,rfl,R4.same sp,_,_,rfl,R5.same sp,rfl⟩;refine⟨p,rfl,⟨_,qp⟩,jW (K:=K) (xs:=[x3,x4,x5]) (fun i N U=>N=(([f0,p0,a0].take i).map jJ).map V.bl/\U=H2) ⟨rfl,rfl⟩ (fun i N U ⟨_,T⟩=>by rw[T];exact qp) ?_ ?_⟩
   ·rintro i z N U hz ⟨rfl,rfl⟩
    obtain⟨dd,ed,rd⟩:=rx.get hz;have hi:=(qg.mp ed).1;have hi:i<3:=hi;refine⟨rfl,_,rfl,z,dd.tyN, "tuple",rfl,rd.ty,(by decide),?_⟩
    rw[vE];exact⟨by rw[zv,zv,qI];omega,by rw[jy ed,qm,qm];rfl,rfl⟩
   rintro N U ⟨rfl,rfl⟩;refine⟨(show 3<=sizeLine by omega),fun D hD=>⟨D,[jJ f0,jJ p0,jJ a0],rfl,u3 zc,?_⟩⟩
   have sq:=(s1.trans sp).trans (zd (o:=.lst ((([f0,p0,a0].take [x3,x4,x5].length).map jJ).map V.bl)) hD);generalize upd U D (.lst ((([f0,p0,a0].take [x3,x4,x5].length).map jJ).map V.bl))=H4 at sq;clear rx qp sp an R3 R4 R5 hD hp;refine⟨_,rfl,zR (fun c3=>no _ sq ?_) (fun c3=>?_)⟩
   ·have c3:(!(jJ f0&&(jJ p0&&(jJ a0&&true))))=true:=c3
    have t1:jJ f0=false->jK f0=false:=fun h=>by cases f0<;>first| rfl | cases h
    have t2:jJ p0=false->jz ((tpL f0).map qx) p0=false:=fun h=>by cases p0<;>first| rfl | cases h
    have t3:jJ a0=false->qT ((tpL p0).length:Int) a0=false:=fun h=>by cases a0<;>first| rfl | cases h
    cases h1:jJ f0 with
    | false=>rw[t1 h1,vg,qF,qF]
    | true=>
     cases h2:jJ p0 with
     | false=>rw[t2 h2,vg,qF,qF,qF]
     | true=>
      cases h3:jJ a0 with
      | false=>rw[t3 h3,qF,qF,qF,qF]
      | true=>rw[h1,h2,h3] at c3;cases c3
   have c3:¬(!(jJ f0&&(jJ p0&&(jJ a0&&true))))=true:=c3;have c3:jJ f0=true/\jJ p0=true/\jJ a0=true:=by simpa using c3
   obtain⟨M,rfl⟩:=yX c3.1;obtain⟨g,rfl⟩:=yX c3.2.1;obtain⟨as,rfl⟩:=yX c3.2.2;clear c3 s1;have ao:=sq.sqT qa;refine⟨_,rfl,_,rfl,a,_,rfl,ao,(show ¬(HT.sIx 5 0 (some 2)=0/\HT.sIx 5 5 none=5) by decide),fun p hp=>?_⟩
   have sp:=sq.trans (zd (o:=.tup (qP [x1,x2,x3,x4,x5] (some 2) none)) hp);have qp:SqT K (upd H4 p (.tup (qP [x1,x2,x3,x4,x5] (some 2) none))) p [x3,x4,x5]:=u5 zc;generalize upd H4 p (.tup (qP [x1,x2,x3,x4,x5] (some 2) none))=H5 at sp qp;refine⟨p,_,rfl,qp,rfl,_,_,rfl,_,_,rfl,_,_,rfl,rfl,?_⟩
   obtain⟨fa,fv,rfl,qf,rf⟩:=r3.same sp;obtain⟨pa,pv,rfl,O,rp⟩:=r4.same sp;obtain⟨aa,av,rfl,qh,ra⟩:=r5.same sp;have lf:=rf.len;have lp:=rp.len;have la:=ra.len;clear qp ao sq hp qa r1 r2 r3 r4 r5;have ar:Dat.blks M<=700000:=by have:(Dat.tup M).blk=Dat.blks M:=rfl;omega
   have au:Dat.blks g<=700000:=by have:(Dat.tup g).blk=Dat.blks g:=rfl;omega
   have ai:jK (.tup M)=false->∀H',Same H H'->Q (.bl false) H':=fun e H' s=>no H' s (by rw[e,vg,qF,qF])
   have af:jz (M.map qx) (.tup g)=false->∀H',Same H H'->Q (.bl false) H':=fun e H' s=>no H' s (by rw[show jz ((tpL (.tup M)).map qx) (.tup g)=false from e,vg,qF,qF,qF])
   have ah:qT (g.length:Int) (.tup as)=false->∀H',Same H H'->Q (.bl false) H':=fun e H' s=>no H' s (by rw[show qT ((tpL (.tup g)).length:Int) (.tup as)=false from e,qF,qF,qF,qF])
   have ag:∀(b:Bool) H',Same H H'->jK (.tup M)=true->jz (M.map qx) (.tup g)=true->qT (g.length:Int) (.tup as)=true->(b=true↔zbd (as.map yt))->Q (.bl b) H':=fun b H' s h1 h2 h3 h4=>k b H' s (by
    show _↔(qC g0&&(zw 1 4 h0&&(jK (.tup M)&&(jz (M.map qx) (.tup g)&&qT (g.length:Int) (.tup as)))))=true/\zbd (as.map yt);rw[e1,e2,h1,h2,h3];exact h4.trans ⟨fun h=>⟨rfl,h⟩,fun h=>h.2⟩)
   clear no k;refine⟨_,rfl,fa,fv,rfl,.inr qf,_,_,rfl,rfl,_,rfl,zR (fun c3=>ifT rfl (ai ?_ _ sp)) (fun c3=>⟨_,rfl,pa,pv,rfl,.inr O,_,_,rfl,rfl,_,rfl,zR (fun c4=>ifT rfl (af ?_ _ sp)) (fun c4=>⟨_,rfl,aa,av,rfl,.inr qh,_,_,rfl,rfl,_,rfl,zR (fun c5=>ifT rfl (ah ?_ _ sp)) (fun c5=>?_)⟩)⟩)⟩
   ·have c3:=qB c3
    show(decide ((M.length:Int)<=20)&&_)=false;rw[qy (by omega)];rfl
   ·have c4:=qB c4
    show(decide ((g.length:Int)<=60)&&_)=false;rw[qy (by omega)];rfl
   ·have c5:=qB c5
    show(decide ((as.length:Int)<=200)&&_)=false;rw[qy (by omega)];rfl
   have c3:(M.length:Int)<=20:=by have:=Zp ((j6 _).mp c3);omega
   have c4:(g.length:Int)<=60:=by have:=Zp ((j6 _).mp c4);omega
   have c5:(as.length:Int)<=200:=by have:=Zp ((j6 _).mp c5);omega
   have ef:jK (.tup M)=(M.map jB).all id:=by
    show(decide ((M.length:Int)<=20)&&_)=_;rw[zQ c3,jQ]
   have ep:jz (M.map qx) (.tup g)=((g.map (jr (M.map qx))).all id&&@decide ((g.map yu).Nodup) (Classical.propDecidable _)):=by
    show(decide ((g.length:Int)<=60)&&_)=_;rw[zQ c4,jQ]
   have ea:qT (g.length:Int) (.tup as)=(as.map (ja (g.length:Int))).all id:=by
    show(decide ((as.length:Int)<=200)&&_)=_;rw[zQ c5,jQ]
   rw[ef] at ai ag;rw[ep] at af ag;rw[ea] at ah ag;clear ef ep ea;refine⟨_,rfl,fa,rfl,⟨_,qf⟩,jW (K:=K) (xs:=fv) (fun i N U=>N=((M.take i).map jB).map V.bl/\Same H5 U) ⟨rfl,u4 _⟩ (fun i N U ⟨_,T⟩=>T.sqT qf) ?_ ?_⟩
   ·rintro i z N H6 hz ⟨rfl,T⟩
    obtain⟨dd,ed,rd⟩:=(rf.same T).get hz;have hi:=(qg.mp ed).1;exact⟨rfl,_,rfl,z,dd,rfl,rd,qk (yH (qY ed)) ar,fun H7 l=>⟨by rw[zv,zv,qI];omega,by rw[jy ed,qm,qm];rfl,T.trans l⟩⟩
   rintro N H6 ⟨rfl,s6⟩;rw[lf,jL];refine⟨by rw[zv,zv];omega,fun D hD=>⟨D,M.map jB,rfl,u3 zc,_,rfl,zR (fun Y=>ai (by simpa using Y) _ (sp.trans (s6.trans (zd hD)))) (fun Y=>?_)⟩⟩
   have f1:(M.map jB).all id=true:=by simpa using Y
   have l:=s6.trans (zd (o:=.lst ((M.map jB).map V.bl)) hD);generalize upd H6 D (.lst ((M.map jB).map V.bl))=H7 at l;replace sp:=sp.trans l
   replace qf:=l.sqT qf
   replace O:=l.sqT O
   replace qh:=l.sqT qh
   replace rf:=rf.same l
   replace rp:=rp.same l
   replace ra:=ra.same l
   clear ai Y hD s6 l;have ak:∀e∈M,jB e=true:=by
    rw[vv,jw] at f1;exact fun e he=>f1 e he
   refine⟨_,rfl,pa,rfl,⟨_,O⟩,jW (K:=K) (xs:=pv) (fun i N U=>N=((g.take i).map xa).map V.bl/\Same H7 U) ⟨rfl,u4 _⟩ (fun i N U ⟨_,T⟩=>T.sqT O) ?_ ?_⟩
   ·rintro i z N H6 hz ⟨rfl,T⟩
    obtain⟨dd,ed,rd⟩:=(rp.same T).get hz;have hi:=(qg.mp ed).1;exact⟨rfl,_,rfl,z,dd,rfl,rd,qk (yH (qY ed)) au,fun H7 l=>⟨by rw[zv,zv,qI];omega,by rw[jy ed,qm,qm];rfl,T.trans l⟩⟩
   rintro N H6 ⟨rfl,s6⟩;rw[lp,jL];refine⟨by rw[zv,zv];omega,fun D hD=>⟨D,g.map xa,rfl,u3 zc,_,rfl,zR (fun Y=>ifT rfl (af ?_ _ (sp.trans (s6.trans (zd hD))))) (fun Y=>?_)⟩⟩
   ·have Y:(g.map xa).all id=false:=by simpa using Y
    cases h:(g.map (jr (M.map qx))).all id with
    | false=>rfl
    | true=>
     rw[vv,jw] at h;have:(g.map xa).all id=true:=by
      rw[vv,jw];exact fun e he=>((Wb ak).mp (h e he)).1
     rw[Y] at this;cases this
   have p1:(g.map xa).all id=true:=by simpa using Y
   have l:=s6.trans (zd (o:=.lst ((g.map xa).map V.bl)) hD);generalize upd H6 D (.lst ((g.map xa).map V.bl))=H8 at l;replace sp:=sp.trans l
   replace qf:=l.sqT qf
   replace O:=l.sqT O
   replace qh:=l.sqT qh
   replace rf:=rf.same l
   replace rp:=rp.same l
   replace ra:=ra.same l
   clear Y hD s6 l;have am:∀e∈g,xa e=true:=by
    rw[vv,jw] at p1;exact fun e he=>p1 e he
   refine⟨_,rfl,aa,rfl,⟨_,qh⟩,jW (K:=K) (xs:=av) (fun i N U=>N=((as.take i).map (ja (g.length:Int))).map V.bl/\Same H8 U) ⟨rfl,u4 _⟩ (fun i N U ⟨_,T⟩=>T.sqT qh) ?_ ?_⟩
   ·rintro i z N H6 hz ⟨rfl,T⟩
    obtain⟨dd,ed,rd⟩:=(ra.same T).get hz;have hi:=(qg.mp ed).1;exact⟨rfl,_,rfl,_,rfl,pa,pv,rfl,.inr (T.sqT O),z,dd,(g.length:Int),(by rw[lp];rfl),rd,fun H7 l=>⟨by rw[zv,zv,qI];omega,by rw[jy ed,qm,qm];rfl,T.trans l⟩⟩
   rintro N H6 ⟨rfl,s6⟩;rw[la,jL];refine⟨by rw[zv,zv];omega,fun D hD=>⟨D,as.map (ja (g.length:Int)),rfl,u3 zc,_,rfl,zR (fun Y=>ah (by simpa using Y) _ (sp.trans (s6.trans (zd hD)))) (fun Y=>?_)⟩⟩
   have a1:(as.map (ja (g.length:Int))).all id=true:=by simpa using Y
   have l:=s6.trans (zd (o:=.lst ((as.map (ja (g.length:Int))).map V.bl)) hD);generalize upd H6 D (.lst ((as.map (ja (g.length:Int))).map V.bl))=H9 at l;replace sp:=sp.trans l
   replace qf:=l.sqT qf
   replace O:=l.sqT O
   replace qh:=l.sqT qh
   replace rf:=rf.same l
   replace rp:=rp.same l
   replace ra:=ra.same l
   clear ah Y hD s6 l H7 H8;refine⟨_,rfl,pa,rfl,⟨_,O⟩,jW (K:=K) (xs:=pv) (fun i N U=>Same H9 U/\∃a6:List (List Key×Addr),N=(a6.map fun p=>V.ref p.2)/\a6.map (·.1)=(g.take i).map yu/\∀p∈a6,SqT K U p.2 (p.1.map kV)) ⟨u4 _,[],rfl,rfl,fun p h=>(nomatch h)⟩ (fun i N U ⟨T,_⟩=>T.sqT O) ?_ ?_⟩
   ·rintro i z N H6 hz ⟨T,a6,rfl,e5,q5⟩
    obtain⟨dd,ed,r1⟩:=(rp.same T).get hz;have hi:=(qg.mp ed).1;obtain⟨k0,x,y,rfl⟩:=ZA (am dd (qY ed));obtain⟨u,_,rfl,qu,y1,_,rfl,g1,y2,_,rfl,g2,rfl⟩:=r1;obtain⟨c,_,rfl,qc,z1,_,rfl,g3,z2,_,rfl,g4,rfl⟩:=g2;cases(show z1=.int x from g3)
    cases(show z2=.int y from g4)
    have zl:=congrArg List.length e5;rw[zv,zv,qI] at zl;refine⟨u,_,rfl,qu,rfl,_,_,rfl,_,_,rfl,rfl,rfl,_,rfl,by rw[zv];omega,T,a6++[([.inl x,.inl y],c)],?_,?_,fun p hp=>?_⟩
    ·rw[qm];rfl
    ·rw[qm,e5,jy ed,qm];rfl
    ·rcases ju.mp hp with h | h
     ·exact q5 p h
     ·rw[qv.mp h];exact qc
   rintro N H6 ⟨s6,a6,rfl,e5,q5⟩;rw[lp,jL] at e5;have zl:=congrArg List.length e5;rw[zv,zv] at zl;refine⟨by rw[zv];omega,fun D hD=>⟨D,a6,rfl,zc,fun p hp=>(zd hD).sqT (q5 p hp),by omega,fun p2 ax=>⟨p2,_,rfl,zc,?_⟩⟩⟩
   have l:=s6.trans ((zd (o:=.lst (a6.map fun p=>V.ref p.2)) hD).trans (zd (o:=Z8 P w p2 (a6.foldl jO []).length) ax))
   have fl:=yC a6 [];have sl:=X5 a6;rw[e5] at sl;rw[wY] at fl;refine⟨_,rfl,pa,pv,rfl,.inr (l.sqT O),_,_,rfl,rfl,_,rfl,zR (fun Y=>af ?_ _ (sp.trans l)) (fun Y=>?_)⟩
   ·have Y:=qB Y
    have:¬(g.map yu).Nodup:=fun h=>by
     have:=sl.mpr h;omega
    rw[show @decide ((g.map yu).Nodup) (Classical.propDecidable _)=false from @qy _ (Classical.propDecidable _) this,qF]
   have az:(g.map yu).Nodup:=by
    refine sl.mp ?_
    have:=Zp ((j6 _).mp Y);omega
   rw[show @decide ((g.map yu).Nodup) (Classical.propDecidable _)=true from @zQ _ (Classical.propDecidable _) az,wu] at af ag
   clear Y sl fl zl q5 e5;refine⟨_,rfl,pa,rfl,⟨_,l.sqT O⟩,jW (K:=K) (xs:=pv) (fun i N U=>Same H9 U/\N=((g.take i).map (jr (M.map qx))).map V.bl) ⟨l,rfl⟩ (fun i N U ⟨T,_⟩=>T.sqT O) ?_ ?_⟩
   ·rintro i z N H6 hz ⟨T,rfl⟩
    obtain⟨dd,ed,r1⟩:=(rp.same T).get hz;have hi:=(qg.mp ed).1;have ld:=am dd (qY ed);obtain⟨k0,x,y,rfl⟩:=ZA ld;obtain⟨u,_,rfl,qu,y1,_,rfl,g1,y2,_,rfl,g2,rfl⟩:=r1;refine⟨u,_,rfl,qu,rfl,_,_,rfl,_,_,rfl,rfl,rfl,?_⟩
    have ap:=T.sqT qf;have b4:=rf.same T;refine⟨_,rfl,_,rfl,fa,rfl,⟨_,ap⟩,jW (K:=K) (xs:=fv) (fun i N U=>N=((M.take i).map qx).map V.str/\Same H6 U) ⟨rfl,u4 _⟩ (fun i N U ⟨_,T⟩=>T.sqT ap) ?_ ?_⟩
    ·rintro j z N U hz ⟨rfl,aq⟩
     obtain⟨dd,ep,r1⟩:=(b4.same aq).get hz;have hi:=(qg.mp ep).1;obtain⟨x,p,m,rfl⟩:=wR (ak dd (qY ep));obtain⟨u,_,rfl,qu,y1,_,rfl,g1,y2,_,rfl,g2,y3,_,rfl,g3,rfl⟩:=r1;cases(show y1=.str x from g1)
     exact⟨rfl,⟨_,rfl,u,_,_,_,rfl,rfl,qu,rfl,by rw[zv,zv,qI];omega,by rw[jy ep,qm,qm];rfl,aq⟩⟩
    rintro N U ⟨rfl,s3⟩;rw[lf,jL];refine⟨by rw[zv,zv];omega,fun kl aw=>?_⟩
    have s4:=s3.trans (zd (o:=.lst ((M.map qx).map V.str)) aw);refine⟨kl,k0,M.map qx,rfl,g1.same s4,u3 zc,by rw[zv,zv,qI];omega,T.trans s4,?_⟩
    rw[jy ed,qm,qm];have al:(vy k0&&qC (.tup [.int x,.int y]))=true:=ld;rw[qQ] at al;have:jr (M.map qx) (.tup [k0,.tup [.int x,.int y]])=Qm k0 (M.map qx):=by
     show(Qm k0 (M.map qx)&&qC (.tup [.int x,.int y]))=_;rw[al.2,wu]
    rw[jf,this];rfl
   rintro N H6 ⟨s6,rfl⟩;rw[lp,jL];refine⟨by rw[zv,zv];omega,fun D hD=>⟨D,g.map (jr (M.map qx)),rfl,u3 zc,_,rfl,zR (fun Y=>af (by simpa using Y) _ (sp.trans (s6.trans (zd hD)))) (fun Y=>?_)⟩⟩
   have p2:(g.map (jr (M.map qx))).all id=true:=by simpa using Y
   have l:=s6.trans (zd (o:=.lst ((g.map (jr (M.map qx))).map V.bl)) hD);generalize upd H6 D (.lst ((g.map (jr (M.map qx))).map V.bl))=H8 at l;obtain⟨ea,ay⟩:=yi a1;have ln:g.length<=60:=by omega
   have s8:=sp.trans l;refine⟨_,rfl,pa,pv,rfl,.inr (l.sqT O),_,rfl,g.length,aa,av,as.map yt,(by rw[lp];rfl),l.sqT qh,by rw[ea];exact ra.same l,by rw[zv];omega,ln,ay,fun b Hb sb hb=>?_⟩
   refine⟨_,rfl,ag (!b) _ (s8.trans sb) f1 p2 a1 ?_⟩
   rw[Bool.not_eq_true'];constructor
   ·intro e s k' wk
    have:=hb.mpr ⟨s,k'+1,by omega,wk⟩
    rw[e] at this;cases this
   ·intro fr
    cases b with
    | false=>rfl
    | true=>
     obtain⟨s,k',h1,wk⟩:=hb.mp rfl;obtain⟨j,rfl⟩:∃j,k'=j+1:=⟨k'-1,by omega⟩
     exact absurd wk (fr s j)
  ·have e:zaA d=false:=by
    unfold zaA;split
    ·exact absurd rfl c
    ·rfl
   have k0:=k false H (u4 _) (JobB.no e);refine⟨_,rfl,v,d.tyN, "tuple",rfl,rd.ty,(by decide),?_⟩
   rw[vE];refine⟨_,rfl,zR (fun c1=>ifT rfl k0) (fun c1=>?_)⟩
   obtain⟨ds,rfl⟩:∃ds,d=.tup ds:=by cases d<;>first| exact⟨_,rfl⟩ | exact absurd rfl c1
   obtain⟨a,xs,rfl,qa,rx⟩:=rd;have lx:=rx.len;have c2:¬ds.length=5:=by simpa [xU] using c
   exact⟨_,rfl,a,_,rfl,.inr qa,rfl,_,rfl,ifT (by simp;omega) k0⟩
theorem gm{p:Dat->Prop}{d:Dat}{ds:List Dat}(h:p d)(c:∀x∈ds,p x):∀x∈d::ds,p x:=fun x hx=>(z9.mp hx).elim (fun e=>e▸h) (c x)
theorem gm0{p:Dat->Prop}:∀x∈([]:List Dat),p x:=fun _ h=>nomatch h
theorem Xa{k c D:Nat}:∀{ds:List Dat},(∀d∈ds,GdD k c D d)->Dat.gds k ds=true/\Dat.blks ds<=(c+1)*ds.length/\PyData.depthAll (Dat.pys ds)<=D
 | [],_=>⟨rfl,zY _,zY _⟩
 | d::ds,h=>by
  obtain⟨a,b,e⟩:=Xa (ds:=ds) fun x hx=>h x (jh _ hx)
  have g:=h d jx;refine⟨?_,?_,?_⟩
  ·show(d.gd k&&Dat.gds k ds)=true
   rw[g.g,a];rfl
  ·show d.blk+1+Dat.blks ds<=(c+1)*(ds.length+1)
   have:=g.b;rw[Nat.mul_succ];omega
  ·show max d.py.depth (PyData.depthAll (Dat.pys ds))<=D
   have:=g.p;omega
theorem vZ{k c D n:Nat}{ds:List Dat}(h:∀d∈ds,GdD k c D d)(l:ds.length<=n):GdD k ((c+1)*n) (D+1) (.tup ds):=by
 obtain⟨a,b,e⟩:=Xa h;refine⟨a,qk b (Zs _ l),?_⟩
 show PyData.depth (.tuple (Dat.pys ds))<=_;simp only[PyData.depth];omega
theorem YF{x:Str}(h:Nm x):GdD 0 8 0 (.str x):=⟨jw.mpr fun c hc=>zQ (h.2.1 c hc),h.1,by show PyData.depth (.str x)<=_;simp[PyData.depth]⟩
theorem GdD.big{k z D f c:Nat}{d:Dat}(h:GdD k z D d)(h2:z<=f)(h3:D<=c):GdD k f c d:=h.up (zi _) h2 h3
theorem Vc{x y:Int}(h:inP x y):GdD 0 2 1 (.tup [.int x,.int y]):=by
 obtain⟨a,b,c,d⟩:=h;exact(vZ (c:=0) (D:=0) (n:=2) (ds:=[.int x,.int y]) (gm (wQ (by omega) _ _) (gm (wQ (by omega) _ _) gm0)) (zi _))
theorem YW{f:XE}(h:Nm f.k/\inP f.x f.y/\0<=f.m/\f.m<=400):GdD 0 27 2 (jP f):=by
 obtain⟨a,b,c,d⟩:=h;exact(vZ (c:=8) (D:=1) (n:=3) (ds:=[.str f.k,.tup [.int f.x,.int f.y],.int f.m]) (gm ((YF a).big (by decide) (by decide)) (gm ((Vc b).big (by decide) (by decide)) (gm (wQ (by omega) _ _) gm0))) (zi _))
theorem Yw{p:zbc}(h:Nm p.k/\inP p.x p.y):GdD 0 18 2 (jq p):=by
 obtain⟨a,b⟩:=h;exact(vZ (c:=8) (D:=1) (n:=2) (ds:=[.str p.k,.tup [.int p.x,.int p.y]]) (gm ((YF a).big (by decide) (by decide)) (gm ((Vc b).big (by decide) (by decide)) gm0)) (zi _))
theorem Yx{p:Nat×Nat}(h:p.1<100/\p.2<100):GdD 0 2 1 (vN p):=vZ (c:=0) (D:=0) (n:=2) (ds:=[.int p.1,.int p.2]) (gm (wQ (by omega) _ _) (gm (wQ (by omega) _ _) gm0)) (zi _)
theorem zfy{r:Int}(h0:0<=r)(h1:r<3):∃z:Int,atI [V.int 1,V.int 7,V.int 21] r=some (.int z)/\0<=z/\z<=21:=by
 have hc:r=0\/r=1\/r=2:=by omega
 rcases hc with rfl | rfl | rfl
 ·exact⟨1,rfl,by decide,by decide⟩
 ·exact⟨7,rfl,by decide,by decide⟩
 ·exact⟨21,rfl,by decide,by decide⟩
theorem zfx{r:Int}(h0:0<=r)(h1:r<3):∃z:Int,atI [V.int 1,V.int 30,V.int 60] r=some (.int z)/\0<=z/\z<=60:=by
 have hc:r=0\/r=1\/r=2:=by omega
 rcases hc with rfl | rfl | rfl
 ·exact⟨1,rfl,by decide,by decide⟩
 ·exact⟨30,rfl,by decide,by decide⟩
 ·exact⟨60,rfl,by decide,by decide⟩
theorem GL.all_gd{F:Hp}{k c D z:Nat}{ds:List Dat}{f:List V}(r:Reps K F ds f)(h:∀d∈ds,GdD k c D d)(l:(c+1)*ds.length<=z):GL K F k z D f:=by
 obtain⟨a,b,e⟩:=Xa h;exact⟨ds,r,a,qk b l,e⟩
theorem GL.rep{F:Hp}{k z D:Nat}{c:List V}(h:GL K F k z D c):∀n:Nat,GL K F k (n*z) D (List.replicate n c).flatten
 | 0=>by rw[Nat.zero_mul];exact GL.nil
 | n+1=>by
  rw[ZG,QR,QH,Nat.add_comm];exact h.app (GL.rep h n)
theorem SameT.out{H:Hp}{b:Addr}{n:Int}(B:BoxAt H b n):SameT H (WX [b] H):=fun a u e hu=>by
 refine WX.at (fun z=>?_) e
 obtain⟨f,b1,b2,c,_⟩:=B;rw[qv.mp z,c] at e;cases e;exact hu _ rfl
def uf:=@SameT.out
theorem BoxAt.ex{H:Hp}{b:Addr}{n:Int}(B:BoxAt H b n):Ex H b [b]:=⟨qv.mpr rfl,fun e c=>by rw[qv.mp c];exact B.some⟩
theorem wx{H H':Hp}{b:Addr}(s:SameB b H H'):Same (WX [b] H) (WX [b] H'):=ue (qv.mpr rfl) s
inductive zbv(K:W.Frag)(c:List V)(H:Hp)(Q:VK):Prop
 | mk (b jp:Addr) (n:Int) (J:Job) (f:List Nat) (_:c=[.ref b,.ref jp]) (_:BoxAt H b n) (_:n<600000) (_:Rep K H (Q6 J) (.ref jp)) (_:Y4 J f) (_:∀v H',SameB b H H'->BoxAt H' b (n+4)->DS K (WX [b] H') 0 60000 5 v->Q v H'):zbv K c H Q
def zeY(K:W.Frag):Sp:=fun c H Q _=>zbv K c H Q
theorem zgl:zD ["_law_box_here","_law_job_here","_law_gate","_law_heads","_law_feeders_here","_law_parts","_law_aheads_here","_law_way","_law_one","_law_other","_law_new","_law_at","_law_often"] ["_law_box_here","_law_job_here"] (zr (topL 56)):=u0
theorem zgN{f:Addr}{fd:FuncData}(F:Fun K "_law_near" "_law_near" (topL 56) f fd)(B:Blt I)(M:Dfn P w K I G "_law_take" 1 ["_law_box_here","_law_size"] jU):FnOk P w K I G CX0 2 f fd ["_law_box_here","_law_job_here"] (zeY K):=by
 have nd:=zgl.nd;refine F.ok zgl (fun vs H Q E h=>?_) (fun cg A br s H vs Q E hr h=>?_)
 ·obtain⟨b,jp,n,J,od,rfl,_⟩:=h
  rfl
 ·obtain⟨b,jp,n,J,od,rfl,B0,hn,rj,jo,k⟩:=h
  have ce:=bG16000000;have hu:=hr.units0;have ca:=Rep.keep (uf B0) (yB J) rj;obtain⟨_,xs,e0,qj,g0,_,rfl,rg,h0,_,rfl,rh,f0,_,rfl,rf,p0,_,rfl,rp,a0,_,rfl,ra,rfl⟩:=ca;cases e0;cases(show h0=.int J.hd from rh)
  obtain⟨fa,fv,rfl,qf,rf⟩:=rf;obtain⟨N,pw,rfl,qp,rp⟩:=rp;obtain⟨U,av,rfl,qa,ra⟩:=ra;have lf:=rf.len;have lp:=rp.len;have la:=ra.len;rw[zv] at lf lp la;have fl:=jo.fl;have pl:=jo.pl;have al:=jo.al;have ab:∀p∈J.as,p.1<100/\p.2<100:=fun p hp=>by
   obtain⟨i,j,_,h1,h2⟩:=jo.bo p hp;have m1:=jF.mp (jo.op.mem_iff.mp (qY h1));have m2:=jF.mp (jo.op.mem_iff.mp (qY h2));omega
  have GF:GL K (WX [b] H) 0 560 3 fv:=(GL.all_gd (c:=27) (D:=2) (z:=560) rf (fun d hd=>by obtain⟨f,hf,rfl⟩:=qr.mp hd;exact YW (jo.fa f hf)) (by rw[zv];omega)).up (u4 _) (zi _) (zi _) (by decide)
  have GP:GL K (WX [b] H) 0 1140 3 pw:=(GL.all_gd (c:=18) (D:=2) (z:=1140) rp (fun d hd=>by obtain⟨p,hp,rfl⟩:=qr.mp hd;exact Yw ⟨(jo.pa p hp).1,(jo.pa p hp).2.1⟩) (by rw[zv];omega)).up (u4 _) (zi _) (zi _) (by decide)
  have GA:GL K (WX [b] H) 0 600 3 av:=(GL.all_gd (c:=2) (D:=1) (z:=600) ra (fun d hd=>by obtain⟨p,hp,rfl⟩:=qr.mp hd;exact Yx (ab p hp)) (by rw[zv];omega)).up (u4 _) (zi _) (zi _) (by decide)
  have dF:DS K (WX [b] H) 0 560 4 (.ref fa):=ub qf GF;have dP:DS K (WX [b] H) 0 1140 4 (.ref N):=ub qp GP;have dA:DS K (WX [b] H) 0 600 4 (.ref U):=ub qa GA;have dG:DS K (WX [b] H) 0 2 4 g0:=⟨_,rg,(Vc jo.gate).big (zi _) (by decide)⟩
  have dH:DS K (WX [b] H) 0 0 4 (.int J.hd):=u9 (by have:=jo.hd0;have:=jo.hd1;omega)
  have GJ:GL K (WX [b] H) 0 2400 4 [g0,.int J.hd,.ref fa,.ref N,.ref U]:=((u6 dG).app ((u6 dH).app ((u6 dF).app ((u6 dP).app (u6 dA))))).up (u4 _) (zi _) (by decide) (zi _)
  have up:∀{H':Hp} {z D z' D':Nat} {ws:List V},GL K (WX [b] H) 0 z D ws->SameB b H H'->z<=z'->D<=D'->GL K (WX [b] H') 0 z' D' ws:=fun g s h1 h2=>g.up (wx s) (zi _) h1 h2
  have aj:∀(H':Hp) (c:Addr) (ws:List V) (z:Nat),SameB b H H'->BoxAt H' b (n+4)->SqT K (WX [b] H') c ws->GL K (WX [b] H') 0 z 4 ws->z<=60000->Q (.ref c) H':=fun H' c ws z s B' hc gl hz=>k _ _ s B' ((ub hc gl).up (u4 _) (zi _) hz (zi _))
  have nt:∀{H':Hp} {T:Addr} {ws:List V} {m:Int},BoxAt H' b m->H' T=none->SqT K (WX [b] (upd H' T (.tup ws))) T ws:=fun B' hT=>u5 (WX.at (B'.ex.out hT) zc)
  have a7:∀(vs:List V) lo hi,(qP vs lo hi).length<=vs.length:=vf;clear rj k;refine⟨_,(zf (xG (pv 1) (xH rfl (zI (zG (i:=2) nd rfl (Or.inl rfl)) (zI (zG (i:=3) nd rfl (Or.inl rfl)) (zI (zG (i:=4) nd rfl (Or.inl rfl)) (zI (zG (i:=5) nd rfl (Or.inl rfl)) (zI (zG (i:=6) nd rfl (Or.inl rfl)) jZ)))))))
   (zf (zA (i:=7) nd rfl (Or.inl rfl) (zg M hr.m rfl (za (pv 0) (za ze zb))))
   (zf (j7 (z6 (ua (Qa (zE qV (pv 7) ze (zC _)) (yr (zE (Yz hu) (pv 6) (zP zb) (zC _)))))
   (zf (xG (zV J8 (pv 6) (zg M hr.m rfl (za (pv 0) (za (zk zo rfl B.len boot_len (za (pv 6) zb)) zb))) (fun _ _=>rfl)) (xH rfl (zI (zG (i:=8) nd rfl (Or.inl rfl)) (zI (zG (i:=9) nd rfl (Or.inl rfl)) jZ))))
    (zj (zq (zu j9 (zK Z7 (pv 1) qe (zL ze)) (zP (za (zu j9 (pv 6) (zP (za (zP (za (pv 9) (za (pv 8) zb))) zb))) zb))))))
   zH))
   (zf (j7 (z6 (ua (Qa (zE qV (pv 7) ze (zC _)) (yr (zE Zz (zk zo rfl B.len boot_len (za (pv 5) zb)) ze (zC _)))))
   (zf (Qb (i:=8) (j:=9) rfl nd rfl rfl (by decide) rfl rfl (za (zg M hr.m rfl (za (pv 0) (za (zk zo rfl B.len boot_len (za (pv 5) zb)) zb))) (za (zg M hr.m rfl (za (pv 0) (za (zk zo rfl B.len boot_len (za (pv 5) zb)) zb))) zb)) (by rfl))
    (zf (zA (i:=10) nd rfl (Or.inl rfl) (zP (za (zV xc (zV J8 (pv 5) (pv 8) (fun _ _=>rfl)) ze (fun _ _=>rfl)) (za (zV xc (zV J8 (pv 5) (pv 9) (fun _ _=>rfl)) ze (fun _ _=>rfl)) zb))))
    (zj (zq (zu j9 (zK Z7 (pv 1) qe (zL ze)) (zP (za (zu j9 (zu j9 (zK Z7 (pv 5) qe (zL (pv 8))) (zP (za (pv 10) zb))) (zK Z7 (pv 5) (zL (zu zT (pv 8) ze)) qe)) (za (pv 6) zb))))))))
   zH))
   (zf (j7 (z6 (ua (Qa (zE qV (pv 7) ze (zC _)) (yr (zE (Yz hu) (pv 4) (zP zb) (zC _)))))
   (zf (zA (i:=11) nd rfl (Or.inl rfl) (zg M hr.m rfl (za (pv 0) (za (zk zo rfl B.len boot_len (za (pv 4) zb)) zb))))
    (zj (zq (zu j9 (zK Z7 (pv 1) qe (zL ze)) (zP (za (zu j9 (zK Z7 (pv 4) qe (zL (pv 11))) (zK Z7 (pv 4) (zL (zu zT (pv 11) ze)) qe)) (za (pv 5) (za (pv 6) zb))))))))
   zH))
   (zf (j7 (z6 (ua (Qa (zE qV (pv 7) ze (zC _)) (yr (zE Zz (zk zo rfl B.len boot_len (za (pv 5) zb)) ze (zC _)))))
   (zj (zq (zu j9 (zK Z7 (pv 1) qe (zL ze)) (zP (za (zu j9 (pv 6) (zX qM rfl B.tuple zJ (za (qS [] [] rfl rfl (by kernel_rfl) (qG rfl B.range (za (zu xu (zk zo rfl B.len boot_len (za (pv 5) zb)) ze) zb)) (fun _ _ _ _=>qN) (fun _ _ _ _=>(zP (za (pv 0) (za (zu zT (pv 0) ze) zb))))) zb))) zb)))))
   zH))
   (zf (zA (i:=12) nd rfl (Or.inl rfl) (zU (za (zV zW (zU (za ze (za ze (za ze zb)))) (zg M hr.m rfl (za (pv 0) (za ze zb))) (fun _ _=>rfl)) (za (zV zW (zU (za ze (za ze (za ze zb)))) (zg M hr.m rfl (za (pv 0) (za ze zb))) (fun _ _=>rfl)) zb))))
   (zj (zq (zu j9 (zK Z7 (pv 1) qe (zL ze)) (zP (za (zu (Qi rfl) (pv 4) (zV zW (pv 12) ze (fun _ _=>rfl))) (za (pv 5) (za (zu (Qi rfl) (pv 6) (zV zW (pv 12) ze (fun _ _=>rfl))) zb)))))))))))))),?_⟩
  refine⟨_,rfl,jp,_,rfl,WX.le.sqT qj,rfl,_,_,rfl,_,_,rfl,_,_,rfl,_,_,rfl,_,_,rfl,rfl,?_⟩
  refine⟨_,rfl,b,5,n,rfl,B0,by omega,by decide,by decide,fun ax H1 w0 w1 Y O=>?_⟩
  refine⟨fun σ' H'=>An3 (σ'=[some (.ref b),some (.ref jp),some g0,some (.int J.hd),some (.ref fa),some (.ref N),some (.ref U),some (.int ax),none,none,none,none,none]) (SameB b H H') (BoxAt H' b (n+1)),?_,?_⟩
  ·refine⟨_,rfl,rfl,_,rfl,zR (fun c0=>⟨_,rfl,le0,fun t0 a6=>⟨U,t0,av,rfl,rfl,WX.le.sqT ((wx (O.new a6)).sqT qa),u5 zc,_,rfl,zR (fun c1=>?_) (fun c1=>⟨rfl,O.new a6,Y.new a6⟩)⟩⟩) (fun c0=>⟨rfl,O,Y⟩)⟩
   have S2:=O.new (o:=.tup []) a6;have B2:=Y.new (o:=.tup []) a6;generalize upd H1 t0 (.tup [])=H2 at S2 B2;have cf:av.length≠0:=by
    intro e;have:av=[]:=zc4 e;subst this;cases c1
   refine⟨_,rfl,_,rfl,_,rfl,U,av,rfl,.inr (WX.le.sqT ((wx S2).sqT qa)),b,_,_,rfl,B2,by omega,by omega,by omega,fun r H3 r0 r1 B3 S3=>?_⟩
   have S3:=S2.trans S3;obtain⟨x,ay,az⟩:=vL (xs:=av) r0 r1;obtain⟨d,ed,rd⟩:=ra.get az;rw[jM] at ed;obtain⟨p,ep,rfl⟩:=jN.mp ed;obtain⟨q,_,rfl,qq,y1,_,rfl,h1,y2,_,rfl,h2,rfl⟩:=rd;cases(show y1=.int (p.1:Int) from h1)
   cases(show y2=.int (p.2:Int) from h2)
   have hp:=ab p (qY ep);refine .inr (.inl ⟨U,av,r,_,rfl,rfl,WX.le.sqT ((wx S3).sqT qa),ay,q,_,rfl,WX.le.sqT ((wx S3).sqT qq),rfl,_,_,rfl,_,_,rfl,rfl,?_⟩)
   refine⟨_,rfl,_,rfl,true,jp,_,[b],rfl,B3.ex.al,(wx S3).sqT qj,fun c H4 s4 hc=>?_⟩
   have S4:=S3.trans (.of s4);have B4:=B3.same s4;refine⟨_,rfl,_,rfl,_,rfl,le2,fun q1 aw=>⟨le1,fun q2 am=>?_⟩⟩
   have S5:=S4.new (o:=.tup [.int (p.2:Int),.int (p.1:Int)]) aw;have B5:=B4.new (o:=.tup [.int (p.2:Int),.int (p.1:Int)]) aw;have d1:DS K (WX [b] (upd H4 q1 (.tup [.int (p.2:Int),.int (p.1:Int)]))) 0 2 3 (.ref q1):=(uc (z:=0) (D:=0) (z':=2) (nt B4 aw) (fm (u9 (by omega)) (fm (u9 (by omega)) fm0)) (zi _)).up (u4 _) (zi _) (zi _) (by decide)
   have ar:=(wx ((u7 b H4).new (o:=.tup [.int (p.2:Int),.int (p.1:Int)]) aw)).sqT hc;generalize upd H4 q1 (.tup [.int (p.2:Int),.int (p.1:Int)])=H5 at S5 B5 d1 ar am;have S6:=S5.new (o:=.tup [.ref q1]) am;have B6:=B5.new (o:=.tup [.ref q1]) am;have w6:=wx ((u7 b H5).new (o:=.tup [.ref q1]) am);have g6:=u6 (d1.up w6 (zi _) (zi _) (zi _));have bd:=nt (ws:=[.ref q1]) B5 am;have ah:=w6.sqT ar;generalize upd H5 q2 (.tup [.ref q1])=H6 at S6 B6 w6 g6 bd ah;refine⟨true,U,q2,av,_,[b],rfl,rfl,B6.ex.al,(wx S6).sqT qa,bd,by show _+1<=_;omega,fun c7 H7 s7 ai=>⟨le1,fun q8 af=>?_⟩⟩
   have S7:=S6.trans (.of s7);have B7:=B6.same s7;have d7:=ub ai ((up GA S7 (zi _) (zi _)).app (g6.up (wx (u8 (b:=b) s7)) (zi _) (zi _) (zi _)));have w8:=wx ((u7 b H7).new (o:=.tup [.ref c7]) af);have g8:=u6 (d7.up w8 (zi _) (zi _) (zi _));have S8:=S7.new (o:=.tup [.ref c7]) af;have B8:=B7.new (o:=.tup [.ref c7]) af;have a9:=nt (ws:=[.ref c7]) B7 af;have a8:=w8.sqT ((wx (u8 (b:=b) s7)).sqT ah);generalize upd H7 q8 (.tup [.ref c7])=H8 at S8 B8 w8 g8 a9 a8;have lc:=a7 [g0,.int J.hd,.ref fa,.ref N,.ref U] none (some 4);have lc:(qP [g0,.int J.hd,.ref fa,.ref N,.ref U] none (some 4)).length<=5:=lc;refine⟨true,c,q8,_,_,[b],rfl,rfl,B8.ex.al,a8,a9,by show _+1<=_;omega,fun c9 H9 s9 b0=>?_⟩
   exact aj H9 c9 _ _ (S8.trans (.of s9)) ((B8.same s9).mono (by omega)) b0 ((((up GJ S8 (zi _) (zi _)).cut _ _).app g8).up (wx (u8 (b:=b) s9)) (zi _) (zi _) (zi _)) (by decide)
  clear Y O H1;rintro σ' H1 ⟨rfl,O,Y⟩;have bt:=WX.le.sqT ((wx O).sqT qf);have ap:=WX.le.sqT ((wx O).sqT qp);have bs:=WX.le.sqT ((wx O).sqT qa);have lc:∀m:Option Int,(qP [g0,.int J.hd,.ref fa,.ref N,.ref U] none m).length<=5:=fun m=>a7 _ _ _
  refine⟨fun σ' H'=>An3 (σ'=[some (.ref b),some (.ref jp),some g0,some (.int J.hd),some (.ref fa),some (.ref N),some (.ref U),some (.int ax),none,none,none,none,none]) (SameB b H H') (BoxAt H' b (n+1)),?_,?_⟩
  ·refine⟨_,rfl,rfl,_,rfl,zR (fun c0=>⟨_,rfl,N,pw,rfl,.inr ap,_,_,rfl,rfl,_,rfl,zR (fun c1=>?_) (fun c1=>⟨rfl,O,Y⟩)⟩) (fun c0=>⟨rfl,O,Y⟩)⟩
   have c1:=qB c1;refine⟨_,rfl,_,rfl,N,pw,rfl,.inr ap,b,_,_,rfl,Y,by omega,by omega,by omega,fun r1 H2 bx bz B2 S2=>?_⟩
   have S2:=O.trans S2;refine⟨_,rfl,_,rfl,N,pw,rfl,.inr (WX.le.sqT ((wx S2).sqT qp)),b,_,_,rfl,B2,by omega,by omega,by omega,fun r2 H3 c2 c3 B3 S3=>⟨_,_,rfl,?_⟩⟩
   have S3:=S2.trans S3;obtain⟨x,ay,az⟩:=vL (xs:=pw) bx bz;obtain⟨d,ed,rd⟩:=rp.get az;rw[jM] at ed;obtain⟨p,ep,rfl⟩:=jN.mp ed;obtain⟨u,_,rfl,qu,y1,_,rfl,h1,y2,_,rfl,h2,rfl⟩:=rd;obtain⟨x',b8,b9⟩:=vL (xs:=pw) c2 c3;obtain⟨d',b7,c4⟩:=rp.get b9;rw[jM] at b7;obtain⟨p',bo,rfl⟩:=jN.mp b7;obtain⟨u',_,rfl,bu,cl,_,rfl,ck,aq,_,rfl,bp,rfl⟩:=c4;have bq:=jo.pa p (qY ep);have bf:=jo.pa p' (qY bo);have bg:=WX.le.sqT ((wx S3).sqT qp);refine⟨_,rfl,_,rfl,.inr (.inl ⟨N,pw,r1,_,rfl,rfl,bg,ay,u,_,_,_,rfl,rfl,WX.le.sqT ((wx S3).sqT qu),rfl,?_⟩)⟩
   refine⟨_,rfl,_,rfl,.inr (.inl ⟨N,pw,r2,_,rfl,rfl,bg,b8,u',_,_,_,rfl,rfl,WX.le.sqT ((wx S3).sqT bu),rfl,le2,fun T hT=>?_⟩)⟩
   have e1:DS K (WX [b] H) 0 8 2 y1:=⟨_,h1,(YF bq.1).big (zi _) (by decide)⟩
   have e2:DS K (WX [b] H) 0 8 2 aq:=⟨_,bp,(Vc bf.2.1).big (by decide) (by decide)⟩
   have S4:=S3.new (o:=.tup [y1,aq]) hT;have B4:=B3.new (o:=.tup [y1,aq]) hT;have g4:=u6 ((ub (nt (ws:=[y1,aq]) B3 hT) (up ((u6 e1).app (u6 e2)) S4 (zi _) (zi _))).up (u4 _) (zi _) (by decide:_<=18) (zi _))
   generalize upd H3 T (.tup [y1,aq])=H4 at S4 B4 g4;refine⟨_,rfl,_,rfl,true,jp,_,[b],rfl,B4.ex.al,(wx S4).sqT qj,fun c H5 s5 hc=>?_⟩
   have S5:=S4.trans (.of s5);have B5:=B4.same s5;refine⟨_,rfl,_,rfl,_,rfl,true,N,_,[b],rfl,B5.ex.al,(wx S5).sqT qp,fun c6 H6 s6 ah=>⟨_,rfl,le1,fun T7 ag=>?_⟩⟩
   have S6:=S5.trans (.of s6);have B6:=B5.same s6;have w7:=wx ((u7 b H6).new (o:=.tup [.ref T]) ag);have ai:=w7.sqT ah;have S7:=S6.new (o:=.tup [.ref T]) ag;have B7:=B6.new (o:=.tup [.ref T]) ag;have an:=nt (ws:=[.ref T]) B6 ag;have bj:=(s5.trans s6).trans (zd (o:=.tup [.ref T]) ag);have bm:=s6.trans (zd (o:=.tup [.ref T]) ag);generalize upd H6 T7 (.tup [.ref T])=H7 at w7 ai S7 B7 an bj bm;have l1:=a7 pw none (some r1);have l2:=a7 pw (some (r1+1)) none;refine⟨true,c6,T7,_,_,[b],rfl,rfl,B7.ex.al,ai,an,by show _+1<=_;omega,fun c8 H8 s8 a8=>?_⟩
   have S8:=S7.trans (.of s8);have B8:=B7.same s8;refine⟨_,rfl,_,rfl,_,_,rfl,rfl,_,rfl,true,N,_,[b],rfl,B8.ex.al,(wx S8).sqT qp,fun c9 H9 s9 b0=>?_⟩
   have S9:=S8.trans (.of s9);have B9:=B8.same s9;refine⟨true,c8,c9,_,_,[b],rfl,rfl,B9.ex.al,(wx (u8 (b:=b) s9)).sqT a8,b0,by rw[qR];show _+1+_<=_;omega,fun cA HA sA ac=>⟨_,rfl,le2,fun TB ak=>?_⟩⟩
   have SA:=S9.trans (.of sA);have BA:=B9.same sA;have gA:=g4.up (wx (u8 (b:=b) ((bj.trans s8).trans (s9.trans sA)))) (zi _) (zi _) (zi _);have bn:=ub ac ((((up GP SA (zi _) (zi _)).cut _ _).app gA).app ((up GP SA (zi _) (zi _)).cut _ _));have SB:=SA.new (o:=.tup [.ref cA,.ref U]) ak;have BB:=BA.new (o:=.tup [.ref cA,.ref U]) ak;have be:=nt (ws:=[.ref cA,.ref U]) BA ak;have wB:=wx ((u7 b HA).new (o:=.tup [.ref cA,.ref U]) ak);have gB:=(u6 (bn.up wB (zi _) (zi _) (zi _))).app (up (u6 dA) SB (zi _) (zi _));have bc:=(wx (u8 (b:=b) ((bm.trans s8).trans (s9.trans (sA.trans (zd (o:=.tup [.ref cA,.ref U]) ak)))))).sqT hc;generalize upd HA TB (.tup [.ref cA,.ref U])=HB at SB BB be wB gB bc;refine⟨true,c,TB,_,_,[b],rfl,rfl,BB.ex.al,bc,be,by have:=lc (some 3);show _+2<=_;omega,fun cD HD sD ae=>?_⟩
   exact aj HD cD _ _ (SB.trans (.of sD)) ((BB.same sD).mono (by omega)) ae ((((up GJ SB (zi _) (zi _)).cut _ _).app gB).up (wx (u8 (b:=b) sD)) (zi _) (zi _) (zi _)) (by decide)
  clear bt ap bs Y O H1;rintro σ' H1 ⟨rfl,O,Y⟩;refine⟨fun σ' H'=>An3 (σ'=[some (.ref b),some (.ref jp),some g0,some (.int J.hd),some (.ref fa),some (.ref N),some (.ref U),some (.int ax),none,none,none,none,none]) (SameB b H H') (BoxAt H' b (n+1)),?_,?_⟩
  ·refine⟨_,rfl,rfl,_,rfl,zR (fun c0=>⟨_,rfl,le0,fun t0 a6=>⟨fa,t0,fv,rfl,rfl,WX.le.sqT ((wx (O.new a6)).sqT qf),u5 zc,_,rfl,zR (fun c1=>?_) (fun c1=>⟨rfl,O.new a6,Y.new a6⟩)⟩⟩) (fun c0=>⟨rfl,O,Y⟩)⟩
   have S2:=O.new (o:=.tup []) a6;have B2:=Y.new (o:=.tup []) a6;generalize upd H1 t0 (.tup [])=H2 at S2 B2;have cj:fv.length≠0:=by
    intro e;have:fv=[]:=zc4 e;subst this;cases c1
   refine⟨_,rfl,_,rfl,fa,fv,rfl,.inr (WX.le.sqT ((wx S2).sqT qf)),b,_,_,rfl,B2,by omega,by omega,by omega,fun r H3 r0 r1 B3 S3=>?_⟩
   have S3:=S2.trans S3;refine⟨_,rfl,_,rfl,true,jp,_,[b],rfl,B3.ex.al,(wx S3).sqT qj,fun c H4 s4 hc=>?_⟩
   have S4:=S3.trans (.of s4);have B4:=B3.same s4;have l1:=a7 fv none (some r);have l2:=a7 fv (some (r+1)) none;refine⟨_,rfl,_,rfl,_,rfl,true,fa,_,[b],rfl,B4.ex.al,(wx S4).sqT qf,fun c5 H5 s5 ar=>?_⟩
   have S5:=S4.trans (.of s5);have B5:=B4.same s5;refine⟨_,rfl,_,rfl,_,_,rfl,rfl,_,rfl,true,fa,_,[b],rfl,B5.ex.al,(wx S5).sqT qf,fun c6 H6 s6 ah=>?_⟩
   have S6:=S5.trans (.of s6);have B6:=B5.same s6;refine⟨true,c5,c6,_,_,[b],rfl,rfl,B6.ex.al,(wx (u8 (b:=b) s6)).sqT ar,ah,by omega,fun c7 H7 s7 ai=>⟨_,rfl,_,rfl,le3,fun T hT=>?_⟩⟩
   have S7:=S6.trans (.of s7);have B7:=B6.same s7;have d7:=ub ai (((up GF S7 (zi _) (zi _)).cut _ _).app ((up GF S7 (zi _) (zi _)).cut _ _));have S8:=S7.new (o:=.tup [.ref c7,.ref N,.ref U]) hT;have B8:=B7.new (o:=.tup [.ref c7,.ref N,.ref U]) hT;have af:=nt (ws:=[.ref c7,.ref N,.ref U]) B7 hT;have w8:=wx ((u7 b H7).new (o:=.tup [.ref c7,.ref N,.ref U]) hT);have g8:=(u6 (d7.up w8 (zi _) (zi _) (zi _))).app (up ((u6 dP).app (u6 dA)) S8 (zi _) (zi _));have a8:=(wx (u8 (b:=b) (s5.trans (s6.trans (s7.trans (zd (o:=.tup [.ref c7,.ref N,.ref U]) hT)))))).sqT hc;generalize upd H7 T (.tup [.ref c7,.ref N,.ref U])=H8 at S8 B8 af w8 g8 a8;refine⟨true,c,T,_,_,[b],rfl,rfl,B8.ex.al,a8,af,by have:=lc (some 2);show _+3<=_;omega,fun cD HD sD ae=>?_⟩
   exact aj HD cD _ _ (S8.trans (.of sD)) ((B8.same sD).mono (by omega)) ae ((((up GJ S8 (zi _) (zi _)).cut _ _).app g8).up (wx (u8 (b:=b) sD)) (zi _) (zi _) (zi _)) (by decide)
  clear Y O H1;rintro σ' H1 ⟨rfl,O,Y⟩;refine⟨fun σ' H'=>An3 (σ'=[some (.ref b),some (.ref jp),some g0,some (.int J.hd),some (.ref fa),some (.ref N),some (.ref U),some (.int ax),none,none,none,none,none]) (SameB b H H') (BoxAt H' b (n+1)),?_,?_⟩
  ·have ap:=WX.le.sqT ((wx O).sqT qp)
   refine⟨_,rfl,rfl,_,rfl,zR (fun c0=>⟨_,rfl,N,pw,rfl,.inr ap,_,_,rfl,rfl,_,rfl,zR (fun c1=>?_) (fun c1=>⟨rfl,O,Y⟩)⟩) (fun c0=>⟨rfl,O,Y⟩)⟩
   have c1:=qB c1;refine⟨_,rfl,_,rfl,true,jp,_,[b],rfl,Y.ex.al,(wx O).sqT qj,fun c H4 s4 hc=>?_⟩
   have S4:=O.trans (.of s4);have B4:=Y.same s4;refine⟨_,rfl,_,rfl,N,pw,rfl,.inr (WX.le.sqT ((wx S4).sqT qp)),_,_,rfl,rfl,(pw.length:Int)-1,rfl,by omega,by omega,wa (fun i zs H3=>GL K (WX [b] H3) 0 (3*i) 1 zs/\zs.length=i/\Same H4 H3) ⟨GL.nil,rfl,u4 _⟩ ?_ ?_⟩
   ·rintro i zs H5 hi ⟨gz,zl,s5⟩
    refine⟨rfl,⟨_,rfl,_,rfl,_,_,rfl,rfl,le2,fun T hT=>⟨by omega,?_,by rw[qR,zl];rfl,s5.trans (zd hT)⟩⟩⟩
    have B5:=B4.same s5;have dT:DS K (WX [b] (upd H5 T (.tup [.int (0+(i:Int)),.int (0+(i:Int)+1)]))) 0 2 1 (.ref T):=uc (z:=0) (D:=0) (z':=2) (nt B5 hT) (fm (u9 (by omega)) (fm (u9 (by omega)) fm0)) (zi _)
    exact((gz.up (wx ((u7 b H5).new hT)) (zi _) (zi _) (zi _)).app (u6 dT)).up (u4 _) (zi _) (by omega) (zi _)
   rintro zs H5 ⟨gz,zl,s5⟩;refine⟨by omega,fun D hD=>⟨D,zs,rfl,.inl ⟨u3 zc,fun l hl=>?_⟩⟩⟩
   have S5:=S4.trans (.of s5);have B5:=B4.same s5;have S6:=S5.new (o:=.lst zs) hD;have B6:=B5.new (o:=.lst zs) hD;have S7:=S6.new (o:=.tup zs) hl;have B7:=B6.new (o:=.tup zs) hl;have an:=nt (ws:=zs) B6 hl;have bi:=(zd (o:=.lst zs) hD).trans (zd (o:=.tup zs) hl);have g7:=gz.up (wx (u8 (b:=b) bi)) (zi _) (by omega:3*((pw.length:Int)-1).toNat<=180) (by decide:1<=3)
   have bh:=s5.trans bi;generalize upd (upd H5 D (.lst zs)) l (.tup zs)=H7 at S7 B7 an g7 bh;refine⟨true,U,l,_,_,[b],rfl,rfl,B7.ex.al,(wx S7).sqT qa,an,by omega,fun c8 H8 s8 a8=>⟨le1,fun q9 a9=>?_⟩⟩
   have S8:=S7.trans (.of s8);have B8:=B7.same s8;have d8:=ub a8 ((up GA S8 (zi _) (zi _)).app (g7.up (wx (u8 (b:=b) s8)) (zi _) (zi _) (zi _)));have w9:=wx ((u7 b H8).new (o:=.tup [.ref c8]) a9);have g9:=u6 (d8.up w9 (zi _) (zi _) (zi _));have S9:=S8.new (o:=.tup [.ref c8]) a9;have B9:=B8.new (o:=.tup [.ref c8]) a9;have ao:=nt (ws:=[.ref c8]) B8 a9;have ac:=(wx (u8 (b:=b) (bh.trans (s8.trans (zd (o:=.tup [.ref c8]) a9))))).sqT hc;generalize upd H8 q9 (.tup [.ref c8])=H9 at S9 B9 w9 g9 ao ac;refine⟨true,c,q9,_,_,[b],rfl,rfl,B9.ex.al,ac,ao,by have:=lc (some 4);show _+1<=_;omega,fun cD HD sD ae=>?_⟩
   exact aj HD cD _ _ (S9.trans (.of sD)) ((B9.same sD).mono (by omega)) ae ((((up GJ S9 (zi _) (zi _)).cut _ _).app g9).up (wx (u8 (b:=b) sD)) (zi _) (zi _) (zi _)) (by decide)
  clear Y O H1;rintro σ' H1 ⟨rfl,O,Y⟩;refine⟨le3,fun l1 as=>⟨_,rfl,b,3,_,rfl,Y.new as,by omega,by decide,by decide,fun r H3 r0 r1 B3 S3=>?_⟩⟩
  obtain⟨z1,ba,cb,cm⟩:=zfy r0 r1;refine⟨l1,_,_,_,rfl,rfl,u3 (S3 l1 _ zc (Y.nne as)),ba,le3,fun l2 au=>⟨_,rfl,b,3,_,rfl,B3.new au,by omega,by decide,by decide,fun r' H4 bv bw B4 S4=>?_⟩⟩
  obtain⟨z2,bb,cd,cn⟩:=zfx bv bw;have S5:=(((O.new (o:=.lst [.int 1,.int 7,.int 21]) as).trans S3).new (o:=.lst [.int 1,.int 30,.int 60]) au).trans S4;refine⟨l2,_,_,_,rfl,rfl,u3 (S4 l2 _ zc (B3.nne au)),bb,le2,fun lo b4=>?_⟩
  have S6:=S5.new (o:=.lst [.int z1,.int z2]) b4;have B6:=B4.new (o:=.lst [.int z1,.int z2]) b4;have L6:upd H4 lo (.lst [.int z1,.int z2]) lo=some (.lst [.int z1,.int z2]):=zc;generalize upd H4 lo (.lst [.int z1,.int z2])=H6 at S6 B6 L6;clear O Y S3 B3 S4 B4 S5 as au b4 ba bb;refine⟨_,rfl,_,rfl,true,jp,_,[b],rfl,B6.ex.al,(wx S6).sqT qj,fun c H7 s7 hc=>?_⟩
  have S7:=S6.trans (.of s7);have B7:=B6.same s7;have ch:fv.length*z1.toNat<=20*21:=Zh (by omega) (by omega)
  have ci:av.length*z2.toNat<=200*60:=Zh (by omega) (by omega)
  refine⟨_,rfl,_,rfl,lo,_,_,_,rfl,rfl,u3 (s7 _ _ L6),rfl,fa,z1,fv,rfl,rfl,WX.le.sqT ((wx S7).sqT qf),cb,by omega,by omega,fun p8 H8 s8 b5=>?_⟩
  have S8:=S7.trans (.of s8);have B8:=B7.same s8;have b5:=b5.keep (uf B8);refine⟨_,rfl,_,rfl,_,rfl,lo,_,_,_,rfl,rfl,u3 ((s7.trans s8) _ _ L6),rfl,U,z2,av,rfl,rfl,WX.le.sqT ((wx S8).sqT qa),cd,by omega,by omega,fun p9 H9 s9 b6=>⟨le3,fun T hT=>?_⟩⟩
  have S9:=S8.trans (.of s9);have B9:=B8.same s9;have b6:=b6.keep (uf B9);have m1:z1.toNat*560<=21*560:=Zh (by omega) (zi _)
  have m2:z2.toNat*600<=60*600:=Zh (by omega) (zi _)
  have d8:=(ub ((wx (u8 (b:=b) s9)).sqT b5) ((up GF S9 (zi _) (zi _)).rep z1.toNat)).up (u4 _) (zi _) m1 (zi _);have d9:=(ub b6 ((up GA S9 (zi _) (zi _)).rep z2.toNat)).up (u4 _) (zi _) m2 (zi _);have SA:=S9.new (o:=.tup [.ref p8,.ref N,.ref p9]) hT;have BA:=B9.new (o:=.tup [.ref p8,.ref N,.ref p9]) hT;have ao:=nt (ws:=[.ref p8,.ref N,.ref p9]) B9 hT;have wA:=wx ((u7 b H9).new (o:=.tup [.ref p8,.ref N,.ref p9]) hT);have gA:=(u6 (d8.up wA (zi _) (zi _) (zi _))).app ((up (u6 dP) SA (zi _) (zi _)).app (u6 (d9.up wA (zi _) (zi _) (zi _))));have ac:=(wx (u8 (b:=b) (s8.trans (s9.trans (zd (o:=.tup [.ref p8,.ref N,.ref p9]) hT))))).sqT hc;generalize upd H9 T (.tup [.ref p8,.ref N,.ref p9])=HA at SA BA ao wA gA ac;refine⟨true,c,T,_,_,[b],rfl,rfl,BA.ex.al,ac,ao,by have:=a7 [g0,.int J.hd,.ref fa,.ref N,.ref U] none (some 2);show _+3<=_;have e:[g0,V.int J.hd,.ref fa,.ref N,.ref U].length=5:=rfl;omega,fun cD HD sD ae=>?_⟩
  exact aj HD cD _ _ (SA.trans (.of sD)) ((BA.same sD).mono (by omega)) ae ((((up GJ SA (zi _) (zi _)).cut _ _).app gA).up (wx (u8 (b:=b) sD)) (zi _) (zi _) (zi _)) (by decide)
theorem zhN{w m:Int}(h0:0<=w)(h1:w<3)(c:0<=m)(f:m<3):∃z:Int,atI [V.int (60+(m-1)),V.int 20,V.int 5] w=some (.int z)/\0<=z/\z<=61:=by
 have hc:w=0\/w=1\/w=2:=by omega
 rcases hc with rfl | rfl | rfl
 ·exact⟨_,rfl,by omega,by omega⟩
 ·exact⟨20,rfl,by decide,by decide⟩
 ·exact⟨5,rfl,by decide,by decide⟩
theorem zhM{w m:Int}(h0:0<=w)(h1:w<3)(c:0<=m)(f:m<3):∃z:Int,atI [V.int 1,V.int 1,V.int (20+(m-1))] w=some (.int z)/\0<=z/\z<=21:=by
 have hc:w=0\/w=1\/w=2:=by omega
 rcases hc with rfl | rfl | rfl
 ·exact⟨1,rfl,by decide,by decide⟩
 ·exact⟨1,rfl,by decide,by decide⟩
 ·exact⟨_,rfl,by omega,by omega⟩
theorem zhL{w m:Int}(h0:0<=w)(h1:w<3)(c:0<=m)(f:m<3):∃z:Int,atI [V.int 3,V.int (200+(m-1)),V.int 0] w=some (.int z)/\0<=z/\z<=201:=by
 have hc:w=0\/w=1\/w=2:=by omega
 rcases hc with rfl | rfl | rfl
 ·exact⟨3,rfl,by decide,by decide⟩
 ·exact⟨_,rfl,by omega,by omega⟩
 ·exact⟨0,rfl,by decide,by decide⟩
inductive Yn(K:W.Frag)(c:List V)(H:Hp)(Q:VK):Prop
 | mk (b:Addr) (n:Int) (_:c=[.ref b]) (_:BoxAt H b n) (_:n<600000) (_:∀v H',SameB b H H'->BoxAt H' b (n+30)->DS K (WX [b] H') 0 60000 5 v->Q v H'):Yn K c H Q
def zbH(K:W.Frag):Sp:=fun c H Q _=>Yn K c H Q
theorem zez:zD ["_law_box_here","_law_which","_law_more","_law_kind","_law_parts","_law_feeders_here","_law_aheads_here"] ["_law_box_here"] (zr (topL 57)):=u0
theorem zfv{f:Addr}{fd:FuncData}(F:Fun K "_law_at_bounds" "_law_at_bounds" (topL 57) f fd)(B:Blt I)(u:Dfn P w K I G "_law_take" 1 ["_law_box_here","_law_size"] jU)(a7:Dfn P w K I G "_law_name" 2 ["_law_box_here","_law_taken"] zbA)(M:Dfn P w K I G "_law_place" 2 ["_law_box_here","_law_taken"] (yo K)):FnOk P w K I G CX0 3 f fd ["_law_box_here"] (zbH K):=by
 have nd:=zez.nd;refine F.ok zez (fun vs H Q E h=>?_) (fun am A ai s H vs Q E hr h=>?_)
 ·obtain⟨b,n,rfl,_⟩:=h
  rfl
 ·obtain⟨b,n,rfl,B0,hn,k⟩:=h
  have al:=bG16000000;have hu:=hr.units0;refine⟨_,(zf (xG (zP (za (zg u hr.m rfl (za (pv 0) (za ze zb))) (za (zu xu (zg u hr.m rfl (za (pv 0) (za ze zb))) ze) (za (zg a7 hr.m rfl (za (pv 0) (za (zU zb) zb))) zb)))) (xH rfl (zI (zG (i:=1) nd rfl (Or.inl rfl)) (zI (zG (i:=2) nd rfl (Or.inl rfl)) (zI (zG (i:=3) nd rfl (Or.inr rfl)) jZ)))))
   (zf (zA (i:=4) nd rfl (Or.inl rfl) (zX qM rfl B.tuple zJ (za (qS ["_law_kind"] [3] rfl rfl (by kernel_rfl) (qG rfl B.range (za (zV zW (zU (za (zu zT ze (pv 2)) (za ze (za ze zb)))) (pv 1) (fun _ _=>rfl)) zb)) (fun _ _ _ _=>qN) (fun _ _ _ _=>(zP (za (pv 1) (za (zP (za (pv 0) (za ze zb))) zb))))) zb)))
   (zf (zA (i:=5) nd rfl (Or.inl rfl) (zu (Qi rfl) (zP (za (zP (za (pv 3) (za (zg M hr.m rfl (za (pv 0) (za (zU zb) zb))) (za ze zb)))) zb)) (zV zW (zU (za ze (za ze (za (zu zT ze (pv 2)) zb)))) (pv 1) (fun _ _=>rfl))))
   (zf (zA (i:=6) nd rfl (Or.inl rfl) (zX qM rfl B.tuple zJ (za (qS [] [] rfl rfl (by kernel_rfl) (qG rfl B.range (za (zV zW (zU (za ze (za (zu zT ze (pv 2)) (za ze zb)))) (pv 1) (fun _ _=>rfl)) zb)) (fun _ _ _ _=>qN) (fun _ _ _ _=>(zP (za (zu xv (pv 0) ze) (za ze zb))))) zb)))
   (zj (zq (zP (pa5 (zg M hr.m rfl (za (pv 0) (za (zU zb) zb))) (zu zT ze (zg u hr.m rfl (za (pv 0) (za ze zb)))) (pv 5) (pv 4) (pv 6))))))))),?_⟩
  have nt:∀{H':Hp} {T:Addr} {ws:List V} {m:Int},BoxAt H' b m->H' T=none->SqT K (WX [b] (upd H' T (.tup ws))) T ws:=fun B' hT=>u5 (WX.at (B'.ex.out hT) zc)
  refine⟨_,rfl,b,3,n,rfl,B0,by omega,by decide,by decide,fun wi H1 w0 w1 B1 S1=>⟨_,rfl,b,3,_,rfl,B1,by omega,by decide,by decide,fun m H2 m0 m1 B2 S2=>⟨_,_,rfl,rfl,_,rfl,le0,fun l O=>⟨b,l,_,[],rfl,B2.new O,by omega,B2.nne O,zc,zY _,fun y H3 S3 B3 y1 y8 yl=>⟨le3,fun T hT=>⟨T,_,rfl,u5 zc,rfl,_,_,rfl,_,_,rfl,_,_,rfl,rfl,?_⟩⟩⟩⟩⟩⟩
  have S4:=(((S1.trans S2).new (o:=.lst []) O).trans S3).new (o:=.tup [.int wi,.int (m-1),.str y]) hT;have B4:=B3.new (o:=.tup [.int wi,.int (m-1),.str y]) hT;generalize upd H3 T (.tup [.int wi,.int (m-1),.str y])=H4 at S4 B4;clear S1 S2 S3 B0 B1 B2 B3 O hT;have dy:∀H',DS K (WX [b] H') 0 8 1 (.str y):=fun H'=>⟨.str y,rfl,(YF (zeF y1 y8 yl)).big (zi _) (by decide)⟩
  obtain⟨z1,af,an,ao⟩:=zhN w0 w1 m0 m1;obtain⟨z2,ag,ak,ap⟩:=zhM w0 w1 m0 m1;obtain⟨z3,ah,aq,ar⟩:=zhL w0 w1 m0 m1;refine⟨_,rfl,_,_,rfl,rfl,le3,fun l1 h1=>⟨_,rfl,l1,_,_,_,rfl,rfl,u3 zc,af,z1,rfl,by omega,by omega,?_⟩⟩
  have S5:=S4.new (o:=.lst [.int (60+(m-1)),.int 20,.int 5]) h1;have B5:=B4.new (o:=.lst [.int (60+(m-1)),.int 20,.int 5]) h1;generalize upd H4 l1 (.lst [.int (60+(m-1)),.int 20,.int 5])=H5 at S5 B5;clear S4 B4 h1;refine wa (fun i g H3=>GL K (WX [b] H3) 0 (13*i) 2 g/\g.length=i/\Same H5 H3) ⟨GL.nil,rfl,u4 _⟩ ?_ ?_
  ·rintro i g H6 hi ⟨gz,zl,N⟩
   refine⟨rfl,⟨_,rfl,_,rfl,le2,fun p hp=>⟨le2,fun q hq=>⟨by omega,?_,by rw[qR,zl];rfl,N.trans ((zd hp).trans (zd hq))⟩⟩⟩⟩
   have U:=B5.same N;have dp:DS K (WX [b] (upd H6 p (.tup [.int (0+(i:Int)),.int 7]))) 0 2 1 (.ref p):=uc (z:=0) (D:=0) (z':=2) (nt U hp) (fm (u9 (by omega)) (fm (u9 (by decide)) fm0)) (zi _)
   have B7:=U.new (o:=.tup [.int (0+(i:Int)),.int 7]) hp;have dq:=ub (nt (ws:=[.str y,.ref p]) B7 hq) ((u6 (dy _)).app (u6 (dp.up (wx ((u7 b _).new hq)) (zi _) (zi _) (zi _))));exact((gz.up (wx (((u7 b H6).new hp).new hq)) (zi _) (zi _) (zi _)).app (u6 dq)).up (u4 _) (zi _) (by omega) (zi _)
  rintro g H6 ⟨gz,zl,N⟩;refine⟨by omega,fun D Y=>⟨D,g,rfl,.inl ⟨u3 zc,fun pq c=>?_⟩⟩⟩
  have S6:=S5.trans (.of N);have U:=B5.same N;have S7:=(S6.new (o:=.lst g) Y).new (o:=.tup g) c;have B7:=(U.new (o:=.lst g) Y).new (o:=.tup g) c;have dP:=ub (nt (ws:=g) (U.new (o:=.lst g) Y) c) (gz.up (wx (((u7 b H6).new Y).new c)) (zi _) (by omega:13*z1.toNat<=800) (zi _))
  generalize upd (upd H6 D (.lst g)) pq (.tup g)=H7 at S7 B7 dP;clear S5 B5 S6 U N gz zl Y c;refine⟨_,rfl,_,rfl,le0,fun l O=>⟨b,l,_,[],rfl,B7.new O,by omega,B7.nne O,zc,zY _,(fun a h=>nomatch h),fun p H8 S8 B8 _ pA _=>⟨le3,fun q hq=>⟨le1,fun q2 a6=>?_⟩⟩⟩⟩
  obtain⟨px,py,c,aj⟩:=pA;have e8:=((u7 b H7).new (o:=.lst []) O).trans S8;have dp:=uc (k:=0) (z:=0) (D:=0) (z':=2) ((u5 (K:=K) c).keep (uf B8)) (fm (u9 (by omega)) (fm (u9 (by omega)) fm0)) (zi _)
  have e9:=e8.new (o:=.tup [.str y,.ref p,.int 400]) hq;have B9:=B8.new (o:=.tup [.str y,.ref p,.int 400]) hq;have dq:=ub (nt (ws:=[.str y,.ref p,.int 400]) B8 hq) ((u6 (dy _)).app ((u6 (dp.up (wx ((u7 b H8).new hq)) (zi _) (zi _) (zi _))).app (u6 (z:=0) (u9 (by decide)))))
  have a8:=e9.new (o:=.tup [.ref q]) a6;have a9:=B9.new (o:=.tup [.ref q]) a6;have aa:=nt (ws:=[.ref q]) B9 a6;have gq:=u6 (dq.up (wx ((u7 b _).new (o:=.tup [.ref q]) a6)) (zi _) (zi _) (zi _));generalize upd (upd H8 q (.tup [.str y,.ref p,.int 400])) q2 (.tup [.ref q])=HA at a8 a9 aa gq;clear e8 e9 B9 dq dp hq a6 S8 B8 c;refine⟨_,rfl,_,_,rfl,rfl,le3,fun l2 h2=>⟨_,rfl,l2,_,_,_,rfl,rfl,u3 zc,ag,q2,z2,[.ref q],rfl,rfl,WX.le.sqT ((wx ((u7 b HA).new h2)).sqT aa),ak,by omega,by show 1*_<=_;omega,fun pf HB sB ae=>?_⟩⟩
  have ab:=S7.trans a8;have SB:=(ab.new (o:=.lst [.int 1,.int 1,.int (20+(m-1))]) h2).trans (.of sB);have BB:=(a9.new (o:=.lst [.int 1,.int 1,.int (20+(m-1))]) h2).same sB;have eB:=(a8.new (o:=.lst [.int 1,.int 1,.int (20+(m-1))]) h2).trans (.of sB);have ac:=((u7 b HA).new (o:=.lst [.int 1,.int 1,.int (20+(m-1))]) h2).trans (.of sB);have m1:z2.toNat*14<=21*14:=Zh (by omega) (zi _)
  have dF:=(ub (ae.keep (uf BB)) ((gq.up (wx ac) (zi _) (zi _) (zi _)).rep z2.toNat)).up (u4 _) (zi _) (by omega:_<=300) (zi _)
  have dP:=dP.up (wx eB) (zi _) (zi _) (zi _);clear a8 a9 aa gq ab eB ac h2 sB ae S7 B7 O;refine⟨_,rfl,_,_,rfl,rfl,le3,fun l1 h1=>⟨_,rfl,l1,_,_,_,rfl,rfl,u3 zc,ah,z3,rfl,by omega,by omega,?_⟩⟩
  have S5:=SB.new (o:=.lst [.int 3,.int (200+(m-1)),.int 0]) h1;have B5:=BB.new (o:=.lst [.int 3,.int (200+(m-1)),.int 0]) h1;have w5:=wx ((u7 b HB).new (o:=.lst [.int 3,.int (200+(m-1)),.int 0]) h1);have dF:=dF.up w5 (zi _) (zi _) (zi _);have dP:=dP.up w5 (zi _) (zi _) (zi _);generalize upd HB l1 (.lst [.int 3,.int (200+(m-1)),.int 0])=H5 at S5 B5 w5 dF dP;clear SB BB h1 w5;refine wa (fun i g H3=>GL K (WX [b] H3) 0 (3*i) 1 g/\g.length=i/\Same H5 H3) ⟨GL.nil,rfl,u4 _⟩ ?_ ?_
  ·rintro i g H6 hi ⟨gz,zl,N⟩
   refine⟨rfl,⟨_,rfl,_,_,rfl,rfl,by decide,le2,fun p hp=>⟨by omega,?_,by rw[qR,zl];rfl,N.trans (zd hp)⟩⟩⟩
   have U:=B5.same N;have dp:DS K (WX [b] (upd H6 p (.tup [.int ((0+(i:Int)) % 19),.int 19]))) 0 2 1 (.ref p):=uc (z:=0) (D:=0) (z':=2) (nt U hp) (fm (u9 (by omega)) (fm (u9 (by decide)) fm0)) (zi _)
   exact((gz.up (wx ((u7 b H6).new hp)) (zi _) (zi _) (zi _)).app (u6 dp)).up (u4 _) (zi _) (by omega) (zi _)
  rintro g H6 ⟨gz,zl,N⟩;refine⟨by omega,fun D Y=>⟨D,g,rfl,.inl ⟨u3 zc,fun pp c=>?_⟩⟩⟩
  have S6:=S5.trans (.of N);have U:=B5.same N;have S7:=(S6.new (o:=.lst g) Y).new (o:=.tup g) c;have B7:=(U.new (o:=.lst g) Y).new (o:=.tup g) c;have e7:=(((u8 (b:=b) N).new (o:=.lst g) Y).new (o:=.tup g) c);have dA:=ub (nt (ws:=g) (U.new (o:=.lst g) Y) c) (gz.up (wx (((u7 b H6).new Y).new c)) (zi _) (by omega:3*z3.toNat<=603) (zi _))
  have dF:=dF.up (wx e7) (zi _) (zi _) (zi _);have dP:=dP.up (wx e7) (zi _) (zi _) (zi _);generalize upd (upd H6 D (.lst g)) pp (.tup g)=H7 at S7 B7 dA dF dP e7;clear S5 B5 S6 U N gz zl Y c e7;refine⟨_,rfl,le0,fun l O=>⟨b,l,_,[],rfl,B7.new O,by omega,B7.nne O,zc,zY _,(fun a h=>nomatch h),fun p H8 S8 B8 _ pA _=>?_⟩⟩
  obtain⟨px,py,c,aj⟩:=pA;have e8:=((u7 b H7).new (o:=.lst []) O).trans S8;have dp:=uc (k:=0) (z:=0) (D:=0) (z':=2) ((u5 (K:=K) c).keep (uf B8)) (fm (u9 (by omega)) (fm (u9 (by omega)) fm0)) (zi _)
  refine⟨_,rfl,b,4,_,rfl,B8,by omega,by decide,by decide,fun r H9 r0 r1 B9 S9=>⟨_,_,rfl,rfl,_,rfl,_,rfl,_,rfl,leN (Nat.le_of_ble_eq_true rfl),fun T hT=>?_⟩⟩
  have e9:=e8.trans S9;have SA:=(S7.trans e9).new (o:=.tup [.ref p,.int (1+r),.ref pf,.ref pq,.ref pp]) hT;have w9:=wx (e9.new (o:=.tup [.ref p,.int (1+r),.ref pf,.ref pq,.ref pp]) hT);have wA:=wx (S9.new (o:=.tup [.ref p,.int (1+r),.ref pf,.ref pq,.ref pp]) hT);have gg:=(u6 (dp.up wA (zi _) (zi _) (by decide:1<=3))).app ((u6 (u9 (i:=1+r) (k:=0) (z:=0) (by omega))).app ((u6 (dF.up w9 (zi _) (zi _) (zi _))).app ((u6 (dP.up w9 (zi _) (zi _) (by decide:_<=3))).app (u6 (dA.up w9 (zi _) (zi _) (by decide:_<=3))))))
  exact k _ _ SA ((B9.new hT).mono (by omega)) ((ub (nt (ws:=[.ref p,.int (1+r),.ref pf,.ref pq,.ref pp]) B9 hT) gg).up (u4 _) (zi _) (by decide) (by decide))
def BA(K:W.Frag)(σ:St)(H0:Hp)(t:TE)(d:Dat):Prop:=∀H Q,Same H0 H->(∀v H',Same H H'->Rep K H' d v->Q v H')->t σ H Q
def BL(K:W.Frag)(σ:St)(H0:Hp)(t:TA)(ds:List Dat):Prop:=∀H Q,Same H0 H->(∀c H',Same H H'->Reps K H' ds c->Q c H')->t σ H Q
variable{σ:St}{H0:Hp}
theorem zfU:BA K σ H0 (tC .non) .non:=fun H Q _ k=>k _ H (u4 _) rfl
theorem zfY{i:Int}:BA K σ H0 (tC (.int i)) (.int i):=fun H Q _ k=>k _ H (u4 _) rfl
theorem zfT{x:Str}:BA K σ H0 (tC (.str x)) (.str x):=fun H Q _ k=>k _ H (u4 _) rfl
theorem zfS{i:Nat}{v:V}{d:Dat}(hv:σ[i]? =some (some v))(r:Rep K H0 d v):BA K σ H0 (JS i) d:=fun H Q s k=>⟨v,hv,k v H (u4 _) (r.same s)⟩
theorem wS:BL K σ H0 V0 []:=fun H Q _ k=>k [] H (u4 _) rfl
theorem jE{t:TE}{c:TA}{d:Dat}{ds:List Dat}(h:BA K σ H0 t d)(i:BL K σ H0 c ds):BL K σ H0 (zZ t c) (d::ds):=fun H Q s k=>
 h H _ s fun v f s1 l=>i f _ (s.trans s1) fun u g s2 o=>k _ g (s1.trans s2) ⟨v,u,rfl,l.same s2,o⟩
theorem zfV{f:TA}{ds:List Dat}(h:BL K σ H0 f ds)(g:ds.length<=1000):BA K σ H0 (zeU f) (.lst ds):=fun H Q s k=>
 h H _ s fun i l s1 c=>⟨leN (by rw[c.len];exact g),fun p hp=>k _ _ (s1.trans (zd hp)) ⟨p,i,rfl,u3 zc,Reps.same (zd hp) c⟩⟩
theorem Xf{f:TA}{ds:List Dat}(h:BL K σ H0 f ds)(g:ds.length<=1000):BA K σ H0 (zeS f) (.tup ds):=fun H Q s k=>
 h H _ s fun i l s1 c=>⟨leN (by rw[c.len];exact g),fun p hp=>k _ _ (s1.trans (zd hp)) ⟨p,i,rfl,u5 zc,Reps.same (zd hp) c⟩⟩
theorem zhO{g:TA}{ds:List Dat}{rest:TS}{D:_}{H:Hp}{i:Nat}(h:BL K σ H g ds)(o:ds.length<=1000)(k:∀l c H',Same H H'->H' l=some (.lst c)->Reps K H' ds c->rest D (σ.set i (some (.ref l))) H'):zeT (zdd (zeU g) (ZB i)) rest D σ H:=by
 unfold zeT zdd;exact h H _ (u4 _) fun c s s1 f=>⟨leN (by rw[f.len];exact o),fun p hp=>k p c _ (s1.trans (zd hp)) zc (Reps.same (zd hp) f)⟩
theorem zgj:zD ["_law_box_here","_law_job_here","_law_turn","_law_thing","_law_kept","_law_some"] ["_law_box_here"] (zr (topL 58)):=u0
def ze3{Y:Value}{f:Addr}{A:Around}{U:List Env}{s:Shared}{H:Hp}{E:XK}(B:Blt I)(g:Room 9 (A.deeper (envOfC "_law_right" (zr (topL 58)) s.heap.objs.size f Y)))(o:Dfn P w K I G "_law_take" 1 ["_law_box_here","_law_size"] jU)(T:Dfn P w K I G "_law_job" 4 ["_law_box_here","_law_few","_law_most","_law_plenty"] (zbB K))(u:Dfn P w K I G "_law_due" 4 ["_law_thing"] (zat K))(N:Dfn P w K I G "_law_near" 2 ["_law_box_here","_law_job_here"] (zeY K))(l:Dfn P w K I G "_law_at_bounds" 3 ["_law_box_here"] (zbH K))(c:Dfn P w K I G "is_job" 6 ["thing"] (zat K))(M:Dfn P w K I G "_law_same" 1 ["_law_found","_law_due_here"] (spS K 1))(D:Dfn P w K I G "_law_bent" 9 ["_law_box_here","_law_thing","_law_deep"] (JV K 6))(Q:(["_law_box_here","_law_job_here","_law_turn","_law_thing","_law_kept","_law_some"]:List Str).Nodup):{ t:TS // PSs (Wl CX0 P w K I G ["_law_box_here","_law_job_here","_law_turn","_law_thing","_law_kept","_law_some"] "_law_right" (zr (topL 58)) f Y A U s H E).nox (vJ (topL 58)) t }:=
 have hu:=g.units0;have O:=g.units;have hg:=g.gd
 ⟨_,(zf (zA (i:=1) Q rfl (Or.inl rfl) (zg T g.m rfl (za (pv 0) (za ze (za ze (za (qD qV (zg o g.m rfl (za (pv 0) (za ze zb))) ze (zC _)) zb))))))
     (zf (z6 (ua (jD (zE Yy (zg c g.m rfl (za (pv 1) zb)) qZ (zC _)) (jm (qo (zS (zg u g.m rfl (za (pv 1) zb)))))))
     (zj (zq qZ))
     zH)
     (zf (jH xm rfl (qG rfl B.range (za ze zb)) (zG (i:=2) Q rfl (Or.inl rfl))
     (zf (j7 (zA (i:=3) Q rfl (Or.inl rfl) (jn (zE qV (zg o g.m rfl (za (pv 0) (za ze zb))) ze (zC _)) (zg N g.m rfl (za (pv 0) (za (pv 1) zb))) (zg D g.m rfl (za (pv 0) (za (pv 1) (za ze zb)))))))
      (zf (j7 (zA (i:=3) Q rfl (Or.inl rfl) (jn (zE qV (zg o g.m rfl (za (pv 0) (za ze zb))) ze (zC _)) (zg D g.m rfl (za (pv 0) (za (pv 3) (za ze zb)))) (pv 3))))
      (zf (zA (i:=4) Q rfl (Or.inl rfl) (zX (JD hg O) rfl B.str xh (za (pv 3) zb)))
      (zj (z6 (ua (jD (qo (zS (zg M g.m rfl (za (zg c g.m rfl (za (pv 3) zb)) (za (zg u g.m rfl (za (pv 3) zb)) zb))))) (jm (zE yz (zX (JD hg O) rfl B.str xh (za (pv 3) zb)) (pv 4) (zC _)))))
      (zj (zq qZ))
      zH))))))
     (zf (jH xm rfl (qG rfl B.range (za ze zb)) (zG (i:=2) Q rfl (Or.inl rfl))
     (zf (zA (i:=3) Q rfl (Or.inl rfl) (zg l g.m rfl (za (pv 0) zb)))
      (zj (z6 (qo (zS (zg M g.m rfl (za (zg c g.m rfl (za (pv 3) zb)) (za (zg u g.m rfl (za (pv 3) zb)) zb)))))
      (zj (zq qZ))
      zH))))
     (zf (zA (i:=5) Q rfl (Or.inl rfl) (zU (zhC j8 ze xW (zP zb) (zU zb) (zX xg rfl B.list jd (za (pv 1) zb)) (zu j9 (pv 1) (zP (za (zP zb) zb))) (zK Z7 (pv 1) qe (zL ze)) (zP (za (pv 1) zb)) (zu YC (zP (za (zV J8 (pv 1) ze (fun _ _=>rfl)) (za qZ zb))) (zK Z7 (pv 1) (zL ze) qe)))))
     (zj (zq (J3 (zk (za6 rfl) rfl B.any zcS (za (qS [] [] rfl rfl (by kernel_rfl) (xN (pv 5)) (fun _ _ _ _=>qN) (fun _ _ _ _=>(qD Yy (zg c g.m rfl (za (pv 0) zb)) qZ (zC _)))) zb))))))))))⟩
theorem Wk.rank{c:List (Int×Int)}{rk:Int->Nat}(h:∀q∈c,rk q.1<rk q.2):∀{k:Nat} {a b:Int},Wk c k a b->rk a+k<=rk b
 | 0,a,b,e=>by cases(show a=b from e);exact zi _
 | k+1,a,b,⟨m,e,w⟩=>by
  have:=Wk.rank h w;have:rk a<rk m:=h (a,m) e;omega
theorem ByOrd.at_{c:List Nat}{g:List (Nat×Nat)}{n:Nat}(f:c.Perm (List.range n))(u:ByOrd c g):∀p∈g,p.1<n/\p.2<n/\c.idxOf p.1<c.idxOf p.2:=fun p hp=>by
 obtain⟨k,l,A,e1,e2⟩:=u p hp;have s:=f.nodup_iff.mpr Xq;obtain⟨h1,i⟩:=qg.mp e1;obtain⟨h2,o⟩:=qg.mp e2;refine⟨jF.mp (f.mem_iff.mp (i▸yc h1)),jF.mp (f.mem_iff.mp (o▸yc h2)),?_⟩
 rw[<- i,<- o,s.idxOf_getElem,s.idxOf_getElem];exact A
theorem xQ{lo c i:Int}(h:lo<=i)(f:i<=c):zw lo c (.int i)=true:=by
 show(decide (lo<=i)&&decide (i<=c))=true;rw[zQ h,zQ f];rfl
theorem Qc{x y:Int}(h:inP x y):qC (.tup [.int x,.int y])=true:=by
 obtain⟨a,b,c,d⟩:=h;show(zw 0 1000 (.int x)&&(zw 0 1000 (.int y)&&true))=true;rw[xQ a b,xQ c d];rfl
theorem zdK{x:Str}(h:Nm x):vy (.str x)=true:=by
 obtain⟨a,_,c,d⟩:=h;show v7 (.str x)=true;rw[xz,zQ (by omega),zQ (by omega),show(x.cps.toList.map xO).all id=true from d];rfl
theorem zcy{J:Job}{D:List Nat}(g:Y4 J D):JobB (Q6 J) true:=by
 refine⟨fun _=>?_,fun _=>rfl⟩
 have B:=g.bo.at_ g.op;constructor
 ·have N:=g.hd0
  have u:=g.hd1;have T:=g.fl;have U:=g.pl;have Q:=g.al;have e1:jK (.tup (J.fs.map jP))=true:=by
   show(decide (((J.fs.map jP).length:Int)<=20)&&((J.fs.map jP).map jB).all id)=true;rw[zQ (by rw[zv];omega),jQ,vv,jw]
   intro d l;obtain⟨f,o,rfl⟩:=qr.mp l;obtain⟨a,b,c,d⟩:=g.fa f o;show(vy (.str f.k)&&(qC (.tup [.int f.x,.int f.y])&&zw 0 400 (.int f.m)))=true;rw[zdK a,Qc b,xQ c d];rfl
  have M:(J.fs.map jP).map qx=J.fs.map XE.k:=by
   rw[vt];rfl
  have e2:jz ((tpL (.tup (J.fs.map jP))).map qx) (.tup (J.ps.map jq))=true:=by
   show(decide (((J.ps.map jq).length:Int)<=60)&&(((J.ps.map jq).map (jr ((J.fs.map jP).map qx))).all id&&@decide (((J.ps.map jq).map yu).Nodup) (Classical.propDecidable _)))=true;rw[zQ (by rw[zv];omega),jQ,M,qQ]
   constructor
   ·rw[vv,jw]
    intro d l;obtain⟨p,hp,rfl⟩:=qr.mp l;obtain⟨a,b,f,o,e⟩:=g.pa p hp;show(Qm (.str p.k) (J.fs.map XE.k)&&qC (.tup [.int p.x,.int p.y]))=true;rw[Qc b,wu];show((J.fs.map XE.k).any fun t=>t==p.k)=true
    rw[yI];exact⟨f.k,qr.mpr ⟨f,o,rfl⟩,by rw[e];exact beq_self_eq_true _⟩
   ·refine @zQ _ (Classical.propDecidable _) ?_
    rw[vt];have e:(J.ps.map (yu∘jq))=(J.ps.map fun p=>(p.x,p.y)).map fun q=>([.inl q.1,.inl q.2]:List Key):=by
     rw[vt];rfl
    rw[e];exact List.Pairwise.map _ (fun a b h z=>h (by
     injection z with O A;injection A with A _;exact Zd (vP O) (vP A))) g.pd
  have E:qT (((tpL (.tup (J.ps.map jq))).length:Nat):Int) (vM J.as)=true:=by
   show(decide (((J.as.map vN).length:Int)<=200)&&((J.as.map vN).map (ja (((J.ps.map jq).length:Nat):Int))).all id)=true;rw[zQ (by rw[zv];omega),jQ,vv,jw]
   intro d l;obtain⟨p,hp,rfl⟩:=qr.mp l;obtain⟨a,b,c⟩:=B p hp;rw[zv];show(zw 0 ((J.ps.length:Int)-1) (.int (p.1:Int))&&(zw 0 ((J.ps.length:Int)-1) (.int (p.2:Int))&&!decide ((p.1:Int)=(p.2:Int))))=true;rw[xQ (by omega) (by omega),xQ (by omega) (by omega),qy (fun z=>by
    have:p.1=p.2:=by omega
    rw[this] at c;omega)]
   rfl
  show(qC (.tup [.int J.gx,.int J.gy])&&(zw 1 4 (.int J.hd)&&(jK (.tup (J.fs.map jP))&&(jz ((tpL (.tup (J.fs.map jP))).map qx) (.tup (J.ps.map jq))&&qT (((tpL (.tup (J.ps.map jq))).length:Nat):Int) (vM J.as)))))=true;rw[Qc g.gate,xQ N u,e1,e2,E];rfl
 ·show zbd ((J.as.map vN).map yt)
  intro s k w;have:=w.rank (rk:=fun i=>D.idxOf i.toNat) fun q hq=>by
   rw[vt] at hq;obtain⟨p,hp,rfl⟩:=qr.mp hq;exact(B p hp).2.2
  omega
theorem zfH{J:Job}{B:List Nat}(g:Y4 J B):GdD 0 5705 4 (Q6 J):=by
 have M:=g.fl;have O:=g.pl;have E:=g.al;have N:=g.hd0;have A:=g.hd1;have o:GdD 0 560 3 (.tup (J.fs.map jP)):=vZ (c:=27) (D:=2) (n:=20) (fun d i=>by obtain⟨f,u,rfl⟩:=qr.mp i;exact YW (g.fa f u)) (by rw[zv];omega)
 have s:GdD 0 1140 3 (.tup (J.ps.map jq)):=vZ (c:=18) (D:=2) (n:=60) (fun d i=>by obtain⟨p,hp,rfl⟩:=qr.mp i;exact Yw ⟨(g.pa p hp).1,(g.pa p hp).2.1⟩) (by rw[zv];omega)
 have l:GdD 0 600 2 (.tup (J.as.map vN)):=vZ (c:=2) (D:=1) (n:=200) (fun d i=>by
  obtain⟨p,hp,rfl⟩:=qr.mp i;obtain⟨a,b,_⟩:=g.bo.at_ g.op p hp;exact Yx ⟨by omega,by omega⟩) (by rw[zv];omega)
 exact vZ (c:=1140) (D:=3) (n:=5) (ds:=[.tup [.int J.gx,.int J.gy],.int J.hd,.tup (J.fs.map jP),.tup (J.ps.map jq),.tup (J.as.map vN)]) (gm ((Vc g.gate).big (by decide) (by decide)) (gm (wQ (by omega) _ _) (gm (o.big (by decide) (by decide)) (gm (s.big (by decide) (by decide)) (gm (l.big (by decide) (by decide)) gm0))))) (zi _)
structure Rg(K:W.Frag)(H:Hp)(b jp:Addr)(J:Job)(H':Hp)(n:Int):Prop where
 s:SameB b H H'
 bx:BoxAt H' b n
 rj:Rep K H' (Q6 J) (.ref jp)
variable{H H' L:Hp}{b jp:Addr}{J:Job}{n m:Int}
theorem Rg.draw(g:Rg K H b jp J H' n)(S:SameB b H' L)(B:BoxAt L b m):Rg K H b jp J L m:=⟨g.s.trans S,B,g.rj.keep (ud g.bx S) (yB J)⟩
theorem Rg.same(g:Rg K H b jp J H' n)(S:Same H' L):Rg K H b jp J L n:=⟨g.s.trans (u8 S),g.bx.same S,g.rj.keep (SameT.of S) (yB J)⟩
theorem Rg.mono(g:Rg K H b jp J H' n)(h:n<=m):Rg K H b jp J H' m:=⟨g.s,g.bx.mono h,g.rj⟩
theorem wx0(H:Hp):WX [] H=H:=by
 funext c
 unfold WX;rw[zB (by simp)]
theorem zcU{g h f p a:Dat}(hb:(Dat.tup [g,h,f,p,a]).blk<=5705):∀d∈[Dat.non,.int 0,.str "",.tup [],.lst [],.lst [g,h,f,p,a],.tup [g,h,f,p,a,.tup []],.tup [g,h,f,p],.tup [.tup [g,h,f,p,a]],.tup [g,.bl true,f,p,a]],zaA d=false/\d.blk<=700000:=by
 have hb:g.blk+1+(h.blk+1+(f.blk+1+(p.blk+1+(a.blk+1+0))))<=5705:=hb;intro d c;simp only[z9,ZD,or_false] at c;rcases c with rfl | rfl | rfl | rfl | rfl | rfl | rfl | rfl | rfl | rfl
 ·exact⟨rfl,by decide⟩
 ·exact⟨rfl,by decide⟩
 ·exact⟨rfl,by decide⟩
 ·exact⟨rfl,by decide⟩
 ·exact⟨rfl,by decide⟩
 ·exact⟨rfl,by show g.blk+1+(h.blk+1+(f.blk+1+(p.blk+1+(a.blk+1+0))))<=_;omega⟩
 ·exact⟨rfl,by show g.blk+1+(h.blk+1+(f.blk+1+(p.blk+1+(a.blk+1+(0+1+0)))))<=_;omega⟩
 ·exact⟨rfl,by show g.blk+1+(h.blk+1+(f.blk+1+(p.blk+1+0)))<=_;omega⟩
 ·exact⟨rfl,by show(g.blk+1+(h.blk+1+(f.blk+1+(p.blk+1+(a.blk+1+0)))))+1+0<=_;omega⟩
 ·refine⟨?_,by show g.blk+1+(0+1+(f.blk+1+(p.blk+1+(a.blk+1+0))))<=_;omega⟩
  show(qC g&&(false&&_))=false;rw[vg,qF]
section
variable{σ:St}{H0:Hp}{i:Nat}{jp:Addr}{f:List V}{ds g:List Dat}{A:TA}
theorem zhh{b:Bool}:BA K σ H0 (tC (.bl b)) (.bl b):=fun H Q _ k=>k _ H (u4 _) rfl
theorem zfZ(hv:σ[i]? =some (some (.ref jp)))(q:SqT K H0 jp f)(r:Reps K H0 ds f)(h:BL K σ H0 A g)(E:g.length<=1000)(O:ds.length<=1000):BA K σ H0 (tOp (zb0 K) (JS i) (zeS A)) (.tup (ds++g)):=fun H Q s k=>
 ⟨_,hv,h H _ s fun B M s1 l=>⟨leN (by rw[l.len];exact E),fun p hp=>by
  have s2:=s.trans (s1.trans (zd (o:=.tup B) hp));refine⟨true,jp,p,f,B,[],rfl,rfl,(fun e D=>nomatch D),by rw[wx0];exact s2.sqT q,by rw[wx0];exact u5 zc,by rw[r.len,l.len,sizeLine_eq];omega,fun c N u hc=>k _ _ (s1.trans ((zd hp).trans u)) ⟨c,_,rfl,?_,Reps.app (r.same (s2.trans u)) (l.same ((zd hp).trans u))⟩⟩
  rw[wx0] at hc;exact hc⟩⟩
theorem zhg(hv:σ[i]? =some (some (.ref jp)))(q:SqT K H0 jp f){m:Int}(r:Reps K H0 g (qP f none (some m))):BA K σ H0 (tSl (zdj K) (JS i) JT (zbn (tC (.int m)))) (.tup g):=fun H Q s k=>
 ⟨_,hv,_,rfl,true,jp,f,[],rfl,(fun e l=>nomatch l),by rw[wx0];exact s.sqT q,fun c o s2 hc=>k _ _ s2 ⟨c,_,rfl,by rw[wx0] at hc;exact hc,r.same (s.trans s2)⟩⟩
theorem zd4(hv:σ[i]? =some (some (.ref jp)))(q:SqT K H0 jp f){m:Int}(r:Reps K H0 g (qP f (some m) none)):BA K σ H0 (tSl (zdj K) (JS i) (zbn (tC (.int m))) JT) (.tup g):=fun H Q s k=>
 ⟨_,hv,_,rfl,true,jp,f,[],rfl,(fun e l=>nomatch l),by rw[wx0];exact s.sqT q,fun c o s2 hc=>k _ _ s2 ⟨c,_,rfl,by rw[wx0] at hc;exact hc,r.same (s.trans s2)⟩⟩
theorem zfW(hv:σ[i]? =some (some (.ref jp)))(q:SqT K H0 jp f)(r:Reps K H0 ds f):BA K σ H0 (tCB (x9 K) (zZ (JS i) V0)) (.lst ds):=fun H Q s k=>
 ⟨_,hv,jp,f,rfl,.inr (s.sqT q),fun l c=>k _ _ (zd c) ⟨l,f,rfl,u3 zc,r.same (s.trans (zd c))⟩⟩
theorem zfX{x:V}{d:Dat}(hv:σ[i]? =some (some (.ref jp)))(q:SqT K H0 jp (x::f))(r:Rep K H0 d x):BA K σ H0 (tOp (rIx K) (JS i) (tC (.int 0))) d:=fun H Q s k=>
 ⟨_,hv,.inr (.inl ⟨jp,_,0,x,rfl,rfl,s.sqT q,by unfold atI;simp[ixN],k _ _ (u4 _) (r.same s)⟩)⟩
theorem zd5{D E:TE}{d e:Dat}(h1:BA K σ H0 D (.tup (d::ds)))(h2:BA K σ H0 E (.tup (e::g)))(hd:ds.length<=1000)(he:g.length<=1000):BA K σ H0 (tOp (zbZ K) D E) (.tup (d::ds++e::g)):=fun H Q s k=>
 h1 H _ s fun v M s1 T=>h2 M _ (s.trans s1) fun u H2 s2 U=>by
  obtain⟨a,f,rfl,N,o⟩:=T;obtain⟨b,Y,rfl,O,B⟩:=U;have c:=o.len;have l:=B.len;rw[jv] at c l;exact⟨a,b,f,Y,rfl,rfl,s2.sqT N,O,(fun z=>by rw[z] at c;cases c),by rw[sizeLine_eq];omega,(fun z=>by rw[z] at l;cases l),fun _ p hp=>k _ _ (s1.trans (s2.trans (zd hp))) ⟨p,_,rfl,u5 zc,Reps.app (o.same (s2.trans (zd hp))) (B.same (zd hp))⟩⟩
end
inductive Jj(c:List V)(H:Hp)(Q:VK):Prop
 | mk (b:Addr) (n:Int) (_:c=[.ref b]) (_:BoxAt H b n) (_:n<1000) (_:∀H',SameB b H H'->Q (.bl true) H'):Jj  c H Q
def W7:Sp:=fun c H Q _=>Jj  c H Q
def zak(b:_)(jp:_)(K:_)(H:_)(J:_)(n:_):=fun(i:Nat) (σ:St) (H':Hp)=>(Ex3 fun(c f g:Option V)=>An2 (σ=[some (.ref b),some (.ref jp),c,f,g,none]) (Rg K H b jp J H' (n+3001+100*(i:Int))):Prop)
def zaj(b:_)(jp:_)(i:Nat)(c:_)(K:_)(H:_)(J:_)(n:_):=fun(f:St) (H':Hp)=>(Ex1 fun(v:V)=>An3 (f=[some (.ref b),some (.ref jp),some (.int (0+(i:Int))),some v,c,none]) (Rg K H b jp J H' (n+3001+100*(i:Int)+50)) (DS K (WX [b] H') 1 60000 9 v):Prop)
def zai(b:_)(jp:_)(i:Nat)(c:_)(K:_)(H:_)(J:_)(n:_):=fun(f:St) (H':Hp)=>(Ex1 fun(v:V)=>An3 (f=[some (.ref b),some (.ref jp),some (.int (0+(i:Int))),some v,c,none]) (Rg K H b jp J H' (n+3001+100*(i:Int)+100)) (DS K (WX [b] H') 2 600032 13 v):Prop)
def zah(b:_)(jp:_)(K:_)(H:_)(J:_)(n:_):=fun(i:Nat) (σ:St) (H':Hp)=>(Ex3 fun(c f g:Option V)=>An2 (σ=[some (.ref b),some (.ref jp),c,f,g,none]) (Rg K H b jp J H' (n+5000+100*(i:Int))):Prop)
theorem zgL{f:Addr}{fd:FuncData}(F:Fun K "_law_right" "_law_right" (topL 58) f fd)(B:Blt I)(T:Dfn P w K I G "_law_take" 1 ["_law_box_here","_law_size"] jU)(a7:Dfn P w K I G "_law_job" 4 ["_law_box_here","_law_few","_law_most","_law_plenty"] (zbB K))(a6:Dfn P w K I G "_law_due" 4 ["_law_thing"] (zat K))(N:Dfn P w K I G "_law_near" 2 ["_law_box_here","_law_job_here"] (zeY K))(o:Dfn P w K I G "_law_at_bounds" 3 ["_law_box_here"] (zbH K))(D:Dfn P w K I G "is_job" 6 ["thing"] (zat K))(O:Dfn P w K I G "_law_same" 1 ["_law_found","_law_due_here"] (spS K 1))(M:Dfn P w K I G "_law_bent" 9 ["_law_box_here","_law_thing","_law_deep"] (JV K 6)):FnOk P w K I G CX0 10 f fd ["_law_box_here"] W7:=by
 have nd:=zgj.nd;refine F.ok zgj (fun vs H Q E h=>?_) (fun ah A ae s H vs Q E hr h=>?_)
 ·obtain⟨b,n,rfl,_⟩:=h
  rfl
 ·obtain⟨b,n,rfl,B0,hn,k⟩:=h
  have ag:=bG1000000;have U:=bGe;have e5:((5:Nat):Int)=5:=rfl;refine⟨_,(ze3 B hr T a7 a6 N o D O M nd).2,?_⟩
  refine⟨_,rfl,_,rfl,b,2,n,rfl,B0,by omega,by decide,by decide,fun r1 H1 _ _ B1 S1=>⟨rfl,b,7,24,_,_,rfl,B1,by omega,by decide,by decide,by decide,by decide,fun jp J od H2 S2 B2 rj jo=>?_⟩⟩
  have g2:Rg K H b jp J H2 (n+3001):=⟨S1.trans S2,B2.mono (by omega),rj⟩
  have gj:=zfH jo;have jb:=zcy jo;have bj:(Q6 J).blk<=700000:=qk gj.b (by decide)
  refine⟨_,rfl,.ref jp,Q6 J,rfl,rj,bj,fun c1 H3 s3 j1=>?_⟩
  obtain rfl:c1=true:=j1.uniq jb;refine⟨_,_,rfl,rfl,_,rfl,ifF rfl ⟨_,rfl,.ref jp,Q6 J,rfl,rj.same s3,bj,fun c2 H4 s4 j2=>?_⟩⟩
  obtain rfl:c2=true:=j2.uniq jb;refine⟨_,rfl,ifF rfl ?_⟩
  have g4:=(g2.same s3).same s4;clear S1 S2 B1 B2 rj s3 s4 g2 j1 j2;refine⟨16,rfl,by rw[U];decide,by rw[U];decide,jt (zak b jp K H J n) ⟨_,_,_,rfl,g4.mono (by omega)⟩ ?_ ?_⟩
  ·rintro i σ H8 hi ⟨v3,v4,v5,rfl,Y⟩
   have ac:i<16:=hi;refine⟨zaj b jp i v5 K H J n,?_,?_⟩
   ·refine⟨_,rfl,b,4,_,rfl,Y.bx,by omega,by decide,by decide,fun r H9 r0 r1 B9 S9=>?_⟩
    have u:=Y.draw S9 B9;refine⟨rfl,_,rfl,zR (fun c=>?_) (fun c=>?_)⟩
    ·refine⟨_,rfl,_,rfl,b,jp,_,J,od,rfl,u.bx,by omega,u.rj,jo,fun v Ha Sa Ba dv=>?_⟩
     exact⟨v,rfl,(u.draw Sa Ba).mono (by omega),dv.up (u4 _) (by decide) (zi _) (by decide)⟩
    ·have dj:DS K (WX [b] H9) 0 5705 4 (.ref jp):=⟨Q6 J,u.rj.keep (uf u.bx) (yB J),gj⟩
     refine⟨_,rfl,_,rfl,b,.ref jp,_,0,5705,4,5,[b],rfl,u.bx,by rw[e5];omega,u.bx.ex,dj,by decide,by decide,by decide,by decide,fun v Ha Sa Ba dv=>?_⟩
     exact⟨v,rfl,(u.draw Sa Ba).mono (by rw[e5];omega),dv.up (u4 _) (by decide) (by decide) (by decide)⟩
   clear Y;rintro σ' H9 ⟨v,rfl,u,dv⟩;refine⟨zai b jp i v5 K H J n,?_,?_⟩
   ·refine⟨_,rfl,b,4,_,rfl,u.bx,by omega,by decide,by decide,fun r Ha r0 r1 Ba Sa=>?_⟩
    have ga:=u.draw Sa Ba;have da:=dv.up (wx Sa) (zi _) (zi _) (zi _);refine⟨rfl,_,rfl,zR (fun c=>?_) (fun c=>?_)⟩
    ·refine⟨_,rfl,_,rfl,b,v,_,1,60000,9,5,[b],rfl,ga.bx,by rw[e5];omega,ga.bx.ex,da,by decide,by decide,by decide,by decide,fun v' Hb Sb Bb ab=>?_⟩
     exact⟨v',rfl,(ga.draw Sb Bb).mono (by rw[e5];omega),ab.up (u4 _) (by decide) (by decide) (by decide)⟩
    ·exact⟨v,rfl,v,rfl,ga.mono (by omega),da.up (u4 _) (by decide) (by decide) (by decide)⟩
   clear u dv;rintro σ' Hd ⟨v,rfl,gd,d,a8,dg⟩;have rd:=a8.same WX.le;have h1:=Dat.gd_shw (by decide:2<=1000) dg.g
   have h2:=dg.b;have h3:=dg.p;refine⟨_,rfl,v,d,rfl,rd,h1,by omega,by omega,?_⟩
   refine⟨_,rfl,v,d,rfl,rd,by omega,fun c3 HA sA j3=>⟨_,rfl,v,d,rfl,rd.same sA,by omega,fun c4 HB sB j4=>?_⟩⟩
   obtain rfl:c3=c4:=j3.uniq j4;refine⟨.bl c3,_,_,rfl,rfl,rfl,trivial,fun HC sC=>⟨_,rfl,ifF rfl ⟨_,rfl,v,d,rfl,rd.same (sA.trans (sB.trans sC)),h1,by omega,by omega,_,rfl,rfl,_,rfl,ifF (by simp) ?_⟩⟩⟩
   exact⟨_,_,_,rfl,(gd.same (sA.trans (sB.trans sC))).mono (by omega)⟩
  rintro σ H8 ⟨v3,v4,v5,rfl,Y⟩;refine⟨3,rfl,by rw[U];decide,by rw[U];decide,jt (zah b jp K H J n) ⟨_,_,_,rfl,Y.mono (by show _+100*((16:Nat):Int)<=_;omega)⟩ ?_ ?_⟩
  ·rintro i σ H9 hi ⟨v3,v4,v5,rfl,u⟩
   have ac:i<3:=hi;refine⟨_,rfl,b,_,rfl,u.bx,by omega,fun v Ha Sa Ba dv=>?_⟩
   have ga:=u.draw Sa Ba;obtain⟨d,a8,dg⟩:=dv;have rd:=a8.same WX.le;have h2:=dg.b;refine⟨_,rfl,v,d,rfl,rd,by omega,fun c3 HA sA j3=>⟨_,rfl,v,d,rfl,rd.same sA,by omega,fun c4 HB sB j4=>?_⟩⟩
   obtain rfl:c3=c4:=j3.uniq j4;refine⟨.bl c3,_,_,rfl,rfl,rfl,trivial,fun HC sC=>⟨_,rfl,ifF rfl ?_⟩⟩
   exact⟨_,_,_,rfl,(ga.same (sA.trans (sB.trans sC))).mono (by omega)⟩
  clear Y;rintro σ H8 ⟨v3,v4,v5,rfl,Y⟩;dsimp only;have a9:=Y.rj;obtain⟨_,xs,e0,qj,rx⟩:=id a9;cases e0;have af:=rx;obtain⟨x0,_,rfl,w0,x1,_,rfl,w1,x2,_,rfl,w2,x3,_,rfl,w3,x4,_,rfl,w4,rfl⟩:=af;have r4:Reps K H8 [.tup [.int J.gx,.int J.gy],.int J.hd,.tup (J.fs.map jP),.tup (J.ps.map jq)] (qP [x0,x1,x2,x3,x4] none (some 4)):=⟨x0,_,rfl,w0,x1,_,rfl,w1,x2,_,rfl,w2,x3,_,rfl,w3,rfl⟩;have r2:Reps K H8 [.tup (J.fs.map jP),.tup (J.ps.map jq),vM J.as] (qP [x0,x1,x2,x3,x4] (some 2) none):=⟨x2,_,rfl,w2,x3,_,rfl,w3,x4,_,rfl,w4,rfl⟩;have ls:∀{n:Nat},n.ble 1000=true->n<=1000:=fun h=>Nat.le_of_ble_eq_true h
  refine zhO (K:=K) (jE zfU (jE zfY (jE zfT (jE (Xf wS (zY _)) (jE (zfV wS (zY _)) (jE (zfW rfl qj rx) (jE (zfZ rfl qj rx (jE (Xf wS (zY _)) wS) (ls rfl) (ls rfl)) (jE (zhg rfl qj r4) (jE (Xf (jE (zfS rfl a9) wS) (ls rfl)) (jE (zd5 (Xf (jE (zfX rfl qj w0) (jE zhh wS)) (ls rfl)) (zd4 rfl qj r2) (ls rfl) (ls rfl)) wS)))))))))) (ls rfl) fun l ys H9 s9 q9 r9=>?_
  have u:=Y.same s9;have aa:=zcU (g:=.tup [.int J.gx,.int J.gy]) (h:=.int J.hd) (f:=.tup (J.fs.map jP)) (p:=.tup (J.ps.map jq)) (a:=vM J.as) gj.b;have ly:ys.length=10:=r9.len;refine⟨_,rfl,l,rfl,⟨_,u3 q9⟩,yA (K:=K) (a:=l) (xs:=ys) (fun i zs H6=>zs=(List.replicate i false).map V.bl/\Same H9 H6) ⟨rfl,u4 _⟩ (fun i zs H6 ⟨_,s6⟩=>u3 (s6 _ _ q9)) ?_ ?_⟩
  ·rintro i x zs H6 hx ⟨rfl,s6⟩
   obtain⟨d,ed,rd⟩:=(r9.same s6).get hx;have il:=(qg.mp ed).1;have il:i<10:=il;obtain⟨no,bl⟩:=aa d (qY ed);refine⟨rfl,_,rfl,x,d,rfl,rd,bl,fun c H7 s7 jc=>?_⟩
   obtain rfl:c=false:=jc.uniq (JobB.no no);exact⟨_,_,rfl,rfl,by rw[zv,wK,sizeLine_eq];omega,by rw[Xx,qm];rfl,s6.trans s7⟩
  rintro zs H6 ⟨rfl,s6⟩;refine⟨by rw[zv,wK,sizeLine_eq];omega,fun p hp=>⟨p,_,rfl,u3 zc,?_⟩⟩
  rw[show(List.replicate ys.length false).any id=false from by simp]
  exact⟨_,rfl,k _ ((u.same s6).same (zd hp)).s⟩
inductive Yj(K:W.Frag)(f:List V)(H:Hp)(Q:VK):Prop
 | mk (a:Addr) (c:List Int) (_:f=[.ref a]) (_:SqL K H a (c.map V.int)) (_:c.length<=63) (_:∀H',Q (.bl true) H'):Yj K f H Q
def spLaw(K:W.Frag):Sp:=fun c H Q _=>Yj K c H Q
theorem zeu:zD ["_law_script","_law_cells"] ["_law_script"] (zr (topL 59)):=u0
theorem zfq{f:Addr}{fd:FuncData}(F:Fun K "law" "law" (topL 59) f fd)(B:Blt I)(g:Dfn P w K I G "_law_folded" 1 ["_law_script","_law_size"] (zbE K))(N:Dfn P w K I G "_law_box" 1 ["_law_script","_law_k"] (zei K))
  (l:Dfn P w K I G "_law_right" 10 ["_law_box_here"] W7):FnOk P w K I G CX0 11 f fd ["_law_script"] (spLaw K):=by
 have nd:=zeu.nd;refine F.ok zeu (fun vs H Q E h=>?_) (fun a8 A a6 s H vs Q E hr h=>?_)
 ·obtain⟨a,ns,rfl,_⟩:=h
  rfl
 ·obtain⟨a,ns,rfl,hS,T,k⟩:=h
  refine⟨_,(zf (zA (i:=1) nd rfl (Or.inr rfl) (zg g hr.m rfl (za (pv 0) (za ze zb))))
   (zj (zq (zk (qK rfl) rfl B.all boot_all (za (qS ["_law_cells"] [1] rfl rfl (by kernel_rfl) (qG rfl B.range (za (zk (za4 rfl) rfl B.max zcR (za ze (za (zk zo rfl B.len boot_len (za (pv 1) zb)) zb))) zb)) (fun _ _ _ _=>qN) (fun _ _ _ _=>(zg l hr.m rfl (za (zg N hr.m rfl (za (pv 1) (za (pv 0) zb))) zb)))) zb))))),?_⟩
  refine⟨_,rfl,a,ns,6,rfl,hS,T,by decide,by decide,fun p M H1 s1 hp hm=>?_⟩
  have O:=bGe;have hl:(M.map V.int).length<=6:=by rw[zv];exact hm
  refine⟨_,rfl,p,_,rfl,.inl hp,_,_,rfl,_,rfl,(by rw[O];split<;>omega),(by rw[O];split<;>omega),?_⟩
  have hN:(if((M.map V.int).length:Int)>2 then((M.map V.int).length:Int) else 2).toNat<=8:=by split<;>omega
  have a7:=bG100;refine wa (fun i zs U=>zs=List.replicate i (V.bl true)/\Same H1 U) ⟨rfl,u4 _⟩ ?_ ?_
  ·rintro i zs U hi ⟨rfl,Y⟩
   rw[QE];refine⟨rfl,?_⟩
   refine⟨_,rfl,_,rfl,p,M,i,rfl,Y.seq hp,by omega,fun q o hq Bq=>⟨q,0,rfl,Bq,by decide,fun H3 s3=>⟨?_,?_,fun c u e=>?_⟩⟩⟩
   ·rw[wK];omega
   ·rw[Xx]
   ·exact s3 c u ((zd hq) c u (Y c u e)) (zp (Y c u e) hq)
  ·rintro zs U ⟨rfl,Y⟩
   refine⟨by rw[wK];omega,fun D hD=>⟨D,List.replicate (if((M.map V.int).length:Int)>2 then((M.map V.int).length:Int) else 2).toNat true,rfl,?_,?_⟩⟩
   ·refine u3 ?_
    rw[zc,Wy]
   ·have:=k (upd U D (.lst (List.replicate (if((M.map V.int).length:Int)>2 then((M.map V.int).length:Int) else 2).toNat (V.bl true))))
    simpa using this
end
theorem all_mk{l:PySem.W.OpenLaw}{w:World}{K:W.Frag}{h:Heap}{mg:Str->Option Value}{fa:Addr}(X:K.In h)(e:zaK Wj za7 zao zd1 K=zaX Wj za7 zao zd1)(G:h.Ns mainGlobals mg)(bd:mg "law" = some (.ref fa)) :
  ∃fd:FuncData,(∀(s:Shared) (v:Value),BindsTo s fd ⟨[v],[]⟩ [("_law_script",v)])/\∀ax:Heap,K.In ax->ax.Ns mainGlobals mg->FnOk l.prog w K mg ax CX0 11 fa fd ["_law_script"] (spLaw K):=by
 have Z0:Tp l.prog w K mg h h Wj za7 zao:=⟨X,G,congrArg Prod.fst e⟩;have B:Blt mg:=⟨Z0.bl 0 rfl,Z0.bl 1 rfl,Z0.bl 2 rfl,Z0.bl 3 rfl,Z0.bl 4 rfl,Z0.bl 5 rfl,Z0.bl 6 rfl,Z0.bl 7 rfl,Z0.bl 8 rfl,Z0.bl 9 rfl,Z0.bl 10 rfl,Z0.bl 11 rfl,Z0.bl 12 rfl,Z0.bl 13 rfl,Z0.bl 14 rfl,Z0.bl 15 rfl,Z0.bl 16 rfl,Z0.bl 17 rfl,Z0.bl 18 rfl,Z0.bl 19 rfl,Z0.bl 20 rfl⟩;obtain⟨f,fd,a,F⟩:=Z0.fd 48 rfl;cases bd.symm.trans (QI X G a);refine⟨fd,?_,fun ax _ _=>?_⟩
 ·obtain⟨_,_,_,_,_,_,_,_,_,rfl,_,_⟩:=F.ex
  exact fun s v=>.of_eq rfl
 have Z:Tp l.prog w K mg ax h Wj za7 zao:=⟨X,G,congrArg Prod.fst e⟩;obtain⟨_,ba⟩:=cnS X G e 0 rfl;obtain⟨_,Y⟩:=cnI X G e 1 rfl;obtain⟨_,ay⟩:=cnI X G e 2 rfl;obtain⟨_,al⟩:=cnI X G e 3 rfl;obtain⟨_,a6⟩:=cnI X G e 4 rfl;obtain⟨_,M⟩:=cnI X G e 5 rfl;obtain⟨_,am⟩:=cnI X G e 6 rfl;obtain⟨_,ae⟩:=cnI X G e 7 rfl;have aw:=Z.dfn 22 rfl fun _ _ F m b=>YD F B m b 1
 have bc:=Z.dfn 13 rfl fun _ _ F _ _=>zch F B
 have b7:=Z.dfn 14 rfl fun _ _ F _ _=>zdC F B
 have ak:=Z.dfn 15 rfl fun _ _ F _ _=>zci F B
 have aj:=Z.dfn 16 rfl fun _ _ F _ _=>zdD F B
 have b8:=Z.dfn 17 rfl fun _ _ F _ _=>zaH F B aj
 have b9:=Z.dfn 18 rfl fun _ _ F _ _=>zaG F B bc b7 ak b8
 have ap:=Z.dfn 0 rfl fun _ _ F _ _=>zfs F B
 have g:=Z.dfn 1 rfl fun _ _ F _ _=>zgI F B ap
 have az:=Z.dfn 2 rfl fun _ _ F _ _=>zgO F B ba Y
 have H:=Z.dfn 3 rfl fun _ _ F _ _=>zfh F B g ay
 have o:=Z.dfn 4 rfl fun _ _ F _ _=>zgK F B
 have u:=Z.dfn 5 rfl fun _ _ F _ _=>zgJ F B
 have ao:=Z.dfn 6 rfl fun _ _ F _ _=>zgR F B o az H g M
 have a7:=Z.dfn 7 rfl fun _ _ F _ _=>zft F B u ao a6
 have b0:=Z.dfn 8 rfl fun _ _ F _ _=>zgM F B o H
 have an:=Z.dfn 9 rfl fun _ _ F _ _=>zfg F B u b0 am
 have as:=Z.dfn 10 rfl fun _ _ F _ _=>zgS F B o g
 have af:=Z.dfn 11 rfl fun _ _ F _ _=>zfw F B u as ae
 have bb:=Z.dfn 12 rfl fun _ _ F _ _=>zgP F B o H g a7 an af b9 al
 have b4:=Z.dfn 19 rfl fun _ _ F _ _=>zfu F B
 have c:=Z.dfn 20 rfl fun _ _ F _ _=>zdz F B
 have ah:=Z.dfn 21 rfl fun _ _ F _ _=>zdF F B
 have ac:=Z.dfn 23 rfl fun _ _ F _ _=>zcj F B
 have T:=Z.dfn 24 rfl fun _ _ F _ _=>zfj F B c ac
 have aq:=Z.dfn 25 rfl fun _ _ F _ _=>zcl F B T
 have D:=Z.dfn 26 rfl fun _ _ F _ _=>zck F B c
 have ai:=Z.dfn 27 rfl fun _ _ F _ _=>zaI F B D
 have E:=Z.dfn 28 rfl fun _ _ F _ _=>zdA F B c
 have a8:=Z.dfn 29 rfl fun _ _ F _ _=>zdG F B c E D
 have ag:=Z.dfn 30 rfl fun _ _ F _ _=>zaJ F B c E
 have b6:=Z.dfn 31 rfl fun _ _ F _ _=>zfr F B c aq D ai a8 ag
 have i:=Z.dfn 32 rfl fun _ _ F _ _=>zfn F B
 have I:=Z.dfn 33 rfl fun _ _ F _ _=>zfm F B
 have A:=Z.dfn 34 rfl fun _ _ F _ _=>zdE F B i
 have ab:=Z.dfn 35 rfl fun _ _ F _ _=>zfi F B c
 have O:=Z.dfn 36 rfl fun _ _ F _ _=>zdy F B c
 have J:=Z.dfn 37 rfl fun _ _ F _ _=>zdB F B c
 have U:=Z.dfn 38 rfl fun _ _ F _ _=>zdH F B c ab
 have L:=Z.dfn 40 rfl fun _ _ F _ _=>zgQ F B
 have Q:=Z.dfn 41 rfl fun _ _ F _ _=>zfo F B I A i
 have aa:=Z.dfn 42 rfl fun _ _ F _ _=>zfk F B I A
 have a9:=Z.dfn 43 rfl fun _ _ F _ _=>zfl F B i
 have b5:=Z.dfn 44 rfl fun _ _ F _ _=>zfp F B A i Q aa a9 L
 have av:=Z.dfn 45 rfl fun _ _ F _ _=>zgN F B c
 have N:=Z.dfn 46 rfl fun _ _ F _ _=>zfv F B c T D
 have au:=Z.dfn 39 rfl fun _ _ F m b=>YE F B m b c ab O J U 6
 have ar:=Z.dfn 47 rfl fun _ _ F _ _=>zgL F B c b6 b5 av N bb aw au
 exact zfq F B ah b4 ar
end L2
open PySem PySem.W PyProof.Rows
set_option maxRecDepth 100000 in
set_option maxHeartbeats 0 in
theorem PySem.Challenge.cw_pickboard_k04_jobs_or_not_holds : PySem.Challenge.rw_pickboard_k04_jobs_or_not.Holds := by
 refine L2.ownHead (d:=L2.defRec "law" (L2.topL 59)) 9999 L2.head1 L2.head2 (by kernel_rfl) (by kernel_rfl) (by kernel_rfl) L2.head3 ⟨rfl,rfl,rfl,rfl,rfl,by decide +kernel⟩ (by w_witness2) ?_
 exact L2.walkS (n:=63) (k:=11) (x:= "_law_script") (sp:=L2.spLaw) rfl (by decide) (by kernel_rfl) ⟨rfl,by decide,by decide,rfl⟩ (fun _ _ _ _ _ X e G m=>L2.all_mk X e G m) fun _ _ a ns hl _ hS=>⟨a,ns,rfl,hS,hl,fun _=>rfl⟩
