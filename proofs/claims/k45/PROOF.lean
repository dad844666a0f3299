import PyProof.Rows.All
import Wide.All
import OpenK.AllK
import Wide.FinOn
import Lean
import PyProof.EqAt
import PyProof.EqKinds
import PyProof.TupleCall
import PyProof.NeKinds
import PyProof.ReprRoads
import PyProof.ReprBulk
import PyProof.SumWalk
import PyProof.FString5
import PyProof.StrBlock2
import PyProof.StrBlockI
import PyProof.StrBlockH
import PyProof.StrWalks
import PyProof.StrLawsIn
import PyProof.AutoListH
import PyProof.CompUse
import PyProof.ListRange
import PyProof.CallFns
import PyProof.ListTruth
import PyProof.Rows.Range3
import PyProof.SeqI3
import KE.KRevSl
import PyProof.DictIter
import PyProof.DictWalks
import PyProof.DictCompW
import PyProof.Cells
import OpenK.KOwn
import PyProof.ExcClass3
import PyProof.ExcInit
import PyProof.ExcBaseAll.ValueError
import PyProof.ExcArgsOwn
import PyProof.ExcAttrAll.ValueError
import PyProof.Rows.SortWalk
import PyProof.Rows.SortStr
import PyProof.MeetsDict
import PyProof.DictUpdate
import PyProof.FactsAll.dict_3
import KE.KDictList
import PyProof.FactsAll.dict_4
import KE.KDictSum
import PyProof.IsiH_list
import PyProof.Rows.Exc
import KE.KDictOf
import PyProof.SetKind
import PyProof.Rows.SetFrom
import PyProof.FactsAll.set_1
import PyProof.FactsAll.set_2
import KE.KSortTup
import KE.KItemsList
import PyProof.Rows.SortRev
import PyProof.Rows.StrCase
import PyProof.Rows.StrLen
import KE.KPairComp
import KE.KMinKey
import PyProof.CallStr
import PyProof.StrCalls2
import PyProof.StrLawsTight
import PyProof.FString
import PyProof.StrBlock
import PyProof.Conv_int
import KE.KUnpack
import PyProof.Rows.TupMore
import PyProof.DictItems
import PySem.Challenge.RW_pickboard_k45_restocked_and_by_turns
set_option Elab.async false
set_option linter.all false
set_option maxRecDepth 100000
def zf:=@PySem.wpAny_bind
def zn:=@List.length_map
def zK:=@List.getElem?_eq_some_iff
def zV:=@PySem.Heap.get?_push_of_some
def zv:=@PySem.wpAny_pure
def zC:=@Nat.le_refl
def qg:=@List.mem_singleton
def zQ:=@List.map_append
def qm:=@List.getElem?_map
def qS:=@Option.map_eq_some_iff
def zN:=@List.size_toArray
def zS:=@List.length_append
def zT:=@PySem.Heap.get?_push_size
def zY:=@List.mem_of_getElem?
def zF:=@PySem.Heap.lt_size
def qP:=@List.getElem?_eq_getElem
def qD:=@List.mem_append_right
def zr:=@if_neg
def zR:=@List.mem_cons
def zX:=@decide_eq_true
def zP:=@List.mem_map
def qO:=@Bool.false_ne_true
def jc:=@List.mem_cons_of_mem
def qC:=@List.length_take
def zU:=@Nat.ne_of_lt
def jz:=@List.length_filter_le
def zx:=@if_pos
def jb:=@List.mem_cons_self
def qM:=@List.mem_append
def qW:=@List.take_length
def j4:=@PySem.F.plainAttrs_list
def ju:=@of_decide_eq_true
def jE:=@Array.length_toList
def qZ:=@decide_eq_false
def qh:=@PySem.wpAny_mono
def jt:=@Option.some.inj
def qL:=@Nat.le_trans
def j3:=@List.mem_append_left
def xR:=@List.getElem?_append_right
def jP:=@Nat.lt_of_lt_of_le
def zM:=@Ne.symm
def xQ:=@List.getElem?_append_left
def jW:=@Bool.false_eq_true
def ji:=@List.map_cons
def jD:=@List.mem_filter
def jO:=@Bool.and_eq_true
def vh:=@PySem.F.slot_list_append
def vg:=@PySem.F.type_list_append
def qV:=@Nat.zero_le
def jV:=@List.length_cons
def jJ:=@List.mem_range
def xP:=@List.length_replicate
def jU:=@PySem.PassesOwn.never
def jZ:=@List.append_nil
def wE:=@Array.getElem?_eq_getElem
def vf:=@PySem.wpAny_newObj_type
def vd:=@List.length_range
def xr:=@PySem.Heap.size_push
def vc:=@List.lookup_cons
def yc:=@List.take_append_getElem
def vN:=@decide_eq_true_iff
def va:=@Bool.eq_iff_iff
def jT:=@beq_iff_eq
def yb:=@PySem.Heap.get?_update_self
def x9:=@PySem.wpAny_seqItems
def ya:=@Array.getElem?_toList
def ZA:=@List.getD_eq_getElem?_getD
def yN:=@PySem.wpAny_callSpecial?_slot
def vZ:=@PySem.wpAny_truthy_bool
def xH:=@List.map_map
def wD:=@Nat.lt_of_le_of_lt
def wC:=@Int.emod_lt_of_pos
def wB:=@List.filter_append
def x8:=@PySem.wpAny_holding
def vY:=@PySem.wpAny_call_entry
def vX:=@List.all_eq_true
def w9:=@PySem.mem_of_lookup
def QE:=@PyProof.Rows.callWith_type1
def xG:=@PySem.wpAny_field
def wA:=@List.getElem_mem
def vM:=@Nat.lt_irrefl
def vL:=@PySem.wpAny_standAt
def wz:=@Int.emod_nonneg
def w8:=@PySem.F.plain_min_loop
def QD:=@PySem.Heap.get?_update_other
def x6:=@PySem.wpAny_rule
def vW:=@Nat.ne_of_gt
def yM:=@List.any_eq_true
def yL:=@PySem.wpAny_isInstance
def vK:=@Sum.inl.inj
def wy:=@List.any_cons
def Wc:=@PySem.F.slot_dict_keyiterator_next
def QC:=@List.replicate_succ'
def Zz:=@Nat.le_of_lt_succ
def QB:=@PySem.Heap.SameBut.update
def Wb:=@Array.getElem?_eq_some_iff
def Zy:=@Nat.lt_succ_self
def Zx:=@List.nodup_cons
def JM:=@List.mem_iff_getElem
def Zw:=@Option.map_some
def wI:=@List.find?_cons
def Zo:=@PySem.Around.under_plainId
def QU:=@List.filter_cons_of_pos
def QT:=@List.filter_cons_of_neg
def Zn:=@List.length_pos_iff
def wH:=@PySem.Value.type.inj
def yr:=@List.not_mem_nil
def wG:=@PySem.wpAny_tryCatch
def QS:=@PySem.Calls.callWith_builtin
def QR:=@List.take_of_length_le
def Zm:=@PySem.Calls.spliced_cons
def Zl:=@PySem.wpAny_setField_rec
def yq:=@PySem.wpAny_passesOwn
def XO:=@PySem.F.slot_tuple_iterator_next
def Zk:=@Int.toNat_natCast
def Zj:=@List.append_assoc
def Zi:=@PySem.wpAny_setState_of
def XN:=@Classical.byContradiction
def Zh:=@List.length_drop
def wF:=@List.map_nil
def XM:=@PySem.F.slot_list_getattribute
def Zg:=@List.nodup_range
def XL:=@List.length_erase_of_mem
def QQ:=@List.replicate_succ
def QP:=@Nat.add_le_add_left
def Yw:=@PyProof.Rows.slot_tuple_getitem
def yp:=@PySem.wpAny_attempt
def Zf:=@List.length_set
def Ze:=@PySem.SeqAt.EqAt.same
def QO:=@PySem.Obj.data_mapFields
def XJ:=@List.getElem?_set_self
def XI:=@Array.getElem?_eq_none
def XH:=@List.length_pos_of_mem
def QN:=@Option.some.injEq
def QM:=@List.nodup_append
def yo:=@Nat.le_of_eq
def XG:=@PySem.F.slot_enumerate_next
def yn:=@Nat.lt_trans
def ym:=@Nat.sub_self
def XF:=@List.mem_iff_getElem?
def yk:=@Nat.succ_pos
def Yv:=@Array.getD_eq_getD_getElem?
def XE:=@List.getElem?_set_ne
def Zd:=@Bool.not_true
def yj:=@PySem.wpAny_of_eq
def yi:=@PySem.wpAny_letGo
def XD:=@List.filterMap_cons
def XC:=@List.flatMap_append
def QL:=@List.length_nil
def QK:=@List.nil_append
def QJ:=@List.count_cons
def Yu:=@List.mem_of_find?_eq_some
def QI:=@List.range_succ
def Zc:=@Nat.zero_add
def yh:=@PySem.Walks.list
def yg:=@Nat.mod_lt
def Yt:=@PySem.F.plainAttrs_dict
def Ys:=@PySem.F.slot_list_clear
def Yr:=@PySem.F.type_list_clear
def XB:=@PySem.Calls.spliced_nil
def XA:=@List.flatten_cons
def Xz:=@List.count_append
def Xy:=@List.Sublist.refl
def Yq:=@List.pairwise_lt_range
def Zb:=@Int.le_refl
def Yp:=@PySem.SetTable.insertAt_perm
def QH:=@PySem.W.mg_of
def QG:=@Int.ofNat.inj
def Xx:=@PySem.F.entry_min_loop
def Xw:=@List.mem_flatMap
def Yo:=@List.length_singleton
def Yn:=@PySem.Obj.isFreed_of_fields
def Ym:=@PySem.F.slot_dict_get
def QF:=@Nat.le_of_lt
def Yl:=@PySem.Calls.evalArgs_plain
def Xv:=@List.forIn_cons
def Xu:=@PySem.F.slot_zip_next
def zdG:=@PySem.F.args_dict_keyiterator_next_1
def Xt:=@Nat.not_lt_zero
def Yk:=@List.mem_erase_of_ne
def zdF:=@PySem.F.entry_dict_keyiterator_next
def Yj:=@List.getElem_of_mem
def Xr:=@Bool.and_false
def zdE:=@PySem.F.args_tuple_iterator_next_1
def zdD:=@PySem.F.slot_dict_setdefault
def Yi:=@List.mem_filterMap
def zdC:=@PySem.F.entry_tuple_iterator_next
def Yh:=@List.pairwise_cons
def Yg:=@PySem.SeqAt.EqAt.of_refs
def Ye:=@List.find?_eq_none
def Yd:=@List.map_replicate
def Yc:=@Int.natCast_nonneg
def Xq:=@PySem.Paired.length
def zdB:=@PySem.Calls.Name_function_global
def zdA:=@Int.fdiv_eq_ediv_of_nonneg
def zdz:=@Int.fmod_eq_emod_of_nonneg
def Xp:=@Bool.false_or
def Xo:=@Prod.mk.injEq
def zdy:=@List.perm_append_singleton
def Yb:=@List.take_sublist
def W9:=@Nat.lt_succ_of_lt
def W8:=@PySem.Obj.cls_mapFields
def W7:=@Option.isSome_map
def W5:=@Array.toList_push
def W4:=@List.getElem?_set
def zdx:=@List.mem_drop_iff_getElem
def zdw:=@List.mem_take_iff_getElem
def W3:=@List.getElem_inj
def Xn:=@Nat.lt_or_ge
def W1:=@List.of_mem_zip
def W0:=@List.foldl_cons
def WZ:=@List.find?_some
def WY:=@List.filter_nil
def Xm:=@Nat.le_succ
def WW:=@List.forIn_nil
def WV:=@Bool.not_false
namespace L2
open PySem PySem.Spec PyProof.Rows
theorem bG1000000:1000000<sizeLine:=by rw[sizeLine_eq];decide
theorem bG100000:100000<sizeLine:=by rw[sizeLine_eq];decide
theorem bG100:100<sizeLine:=by rw[sizeLine_eq];decide
theorem bGe:(2:Int)^62=4611686018427387904:=by decide
abbrev Key:=Sum Int Str
def Qr:Key->Value->Bool
 | .inl k,v=>Value.isInt k v
 | .inr x,v=>Value.isStrOf x v
def ziS(w:World):Key->Int
 | .inl k=>hashInt k
 | .inr x=>hashStr w x
theorem qU:∀{k:Key} {v:Value},Qr k v=true->(∃i t,k=Sum.inl i/\v=Value.int i t)\/(∃x t,k=Sum.inr x/\v=Value.str x t)
 | .inl i,v,h=>by
  obtain⟨t,e⟩:=Value.isInt_shape (k:=i) (v:=v) h;exact .inl ⟨i,t,rfl,e⟩
 | .inr x,v,h=>by
  obtain⟨t,e⟩:=Value.isStrOf_shape (x:=x) (v:=v) h;exact .inr ⟨x,t,rfl,e⟩
theorem zbq(i:Int)(t:Tok):Qr (.inl i) (.int i t)=true:=by simp[Qr,Value.isInt]
theorem zbp(x:Str)(t:Tok):Qr (.inr x) (.str x t)=true:=by simp[Qr,Value.isStrOf]
theorem zgu(a b:Int):decide ((Sum.inl a:Key)=Sum.inl b)=(a==b):=by
 by_cases e:a=b
 ·subst e;simp
 ·have h:¬(Sum.inl a:Key)=Sum.inl b:=fun q=>e (vK q)
  rw[qZ h];exact(beq_eq_false_iff_ne.mpr e).symm
theorem zgr(a b:Str):decide ((Sum.inr a:Key)=Sum.inr b)=decide (a=b):=by
 by_cases e:a=b
 ·subst e;simp
 ·have h:¬(Sum.inr a:Key)=Sum.inr b:=fun q=>e (Sum.inr.inj q)
  rw[qZ h,qZ e]
theorem zgt(a:Int)(b:Str):decide ((Sum.inl a:Key)=Sum.inr b)=false:=qZ (fun q=>nomatch q)
theorem zgs(a:Str)(b:Int):decide ((Sum.inr a:Key)=Sum.inl b)=false:=qZ (fun q=>nomatch q)
def zO(c:Program)(w:World):PySem.KeyKind c w Key where
 is:=Qr
 hash:=ziS w
 inj:=fun v a b f hb=>by
  rcases qU f with ⟨i,t,rfl,rfl⟩ | ⟨x,t,rfl,rfl⟩
  ·rcases qU hb with ⟨j,u,rfl,e⟩ | ⟨y,u,rfl,e⟩
   ·injection e with e1 _;rw[e1]
   ·exact nomatch e
  ·rcases qU hb with ⟨j,u,rfl,e⟩ | ⟨y,u,rfl,e⟩
   ·exact nomatch e
   ·injection e with e1 _;rw[e1]
 byValue:=fun k v h=>by
  rcases qU h with ⟨i,t,rfl,rfl⟩ | ⟨x,t,rfl,rfl⟩<;>rfl
 pyHash:=fun hv h=>by
  rcases qU hv with ⟨i,t,rfl,rfl⟩ | ⟨x,t,rfl,rfl⟩
  ·exact wpAny_pyHash_int h
  ·exact wpAny_pyHash_str h
 eqBool:=fun hu hv h=>by
  rcases qU hu with ⟨i,t,rfl,rfl⟩ | ⟨x,t,rfl,rfl⟩
  ·rcases qU hv with ⟨j,u,rfl,rfl⟩ | ⟨y,u,rfl,rfl⟩
   ·rw[zgu] at h;exact wpAny_eqBool_int h
   ·rw[zgt] at h;exact SeqAt.EqAt.int_str i t y u _ _ _ _ h
  ·rcases qU hv with ⟨j,u,rfl,rfl⟩ | ⟨y,u,rfl,rfl⟩
   ·rw[zgs] at h;exact SeqAt.EqAt.str_int x t j u _ _ _ _ h
   ·rw[zgr] at h;exact wpAny_eqBool_str h
 «strs»:=fun k x t v h=>by
  rcases qU h with ⟨i,u,rfl,e⟩ | ⟨y,u,rfl,e⟩
  ·exact nomatch e
  ·injection e with e1 _
   subst e1;cases v<;>rfl
theorem WF(b:Program)(w:World)(k:Key)(v:Value):(zO b w).is k v=Qr k v:=rfl
theorem Vy(b:Program)(w:World)(i:Int)(t:Tok):(zO b w).is (.inl i) (.int i t)=true:=zbq i t
theorem Vx(b:Program)(w:World)(x:Str)(t:Tok):(zO b w).is (.inr x) (.str x t)=true:=zbp x t
inductive V where
 | non | bl (b:Bool) | int (i:Int) | str (x:Str) | byt (b:Array UInt8) | flt (b:UInt64) | ref (a:Addr) | ty (n:String)
 deriving DecidableEq
def RelV:V->Value->Prop
 | .non,u=>u=Value.none
 | .bl b,u=>u=Value.bool b
 | .int i,u=>∃t,u=Value.int i t
 | .str x,u=>∃t,u=Value.str x t
 | .byt b,u=>∃t,u=Value.bytes b t
 | .flt b,u=>∃t,u=Value.float b t
 | .ref a,u=>u=Value.ref a
 | .ty n,u=>u=Value.type n
abbrev Vals:List V->List Value->Prop:=Paired RelV
theorem Vals.length{c:List V}{b:List Value}(r:Vals c b):c.length=b.length:=Xq r
theorem Vals.get:∀{c:List V} {b:List Value} {i:Nat} {x:V},Vals c b->c[i]? =some x->∃u,b[i]? =some u/\RelV x u
 | _,_,_,_,.nil,e=>by simp at e
 | _,_,0,_,.cons r _,e=>by simp at e;subst e;exact⟨_,rfl,r⟩
 | _,_,i+1,x,.cons _ t,e=>by
  obtain⟨u,h1,f⟩:=Vals.get (i:=i) (x:=x) t (by simpa using e)
  exact⟨u,by simpa using h1,f⟩
theorem Vals.set{x:V}{u:Value}(r:RelV x u):∀{c:List V} {b:List Value} (i:Nat),Vals c b->Vals (c.set i x) (b.set i u)
 | _,_,_,.nil=>.nil
 | _,_,0,.cons _ t=>.cons r t
 | _,_,i+1,.cons q t=>.cons q (Vals.set r i t)
theorem Vals.append:∀{f g:List V} {b c:List Value},Vals f b->Vals g c->Vals (f++g) (b++c)
 | _,_,_,_,.nil,s=>s
 | _,_,_,_,.cons r t,s=>.cons r (Vals.append t s)
theorem Vals.take:∀{c:List V} {b:List Value} (n:Nat),Vals c b->Vals (c.take n) (b.take n)
 | _,_,0,_=>.nil
 | _,_,_+1,.nil=>.nil
 | _,_,n+1,.cons r t=>.cons r (Vals.take n t)
theorem Vals.drop:∀{c:List V} {b:List Value} (n:Nat),Vals c b->Vals (c.drop n) (b.drop n)
 | _,_,0,r=>r
 | _,_,_+1,.nil=>.nil
 | _,_,n+1,.cons _ t=>Vals.drop n t
def RelO:Option V->Option Value->Prop
 | some v,some u=>RelV v u
 | none,none=>True
 | _,_=>False
def KV{κ:Type}:List (κ×V)->List (κ×Value)->Prop:=Paired fun(p:κ×V) (q:κ×Value)=>p.1=q.1/\RelV p.2 q.2
def kV:Key->V
 | .inl i=>.int i
 | .inr x=>.str x
inductive HO where
  | lst (c:List V)
  | tup (c:List V)
  | dK (b:List (Key×V)) | dT (b:List (List Key×V))
  | set (S:Int->Bool) (n:Nat)
  | ins (C g:Addr) (fs:List (Str×V))
  | own (x:Addr)
  | xd (fs:List (Str×V))
  | met (f x:Addr)
  | rng (lo j:Int)
  | frz (o:Obj) (u:HO)
  | tbl (l:Array Value)
  | ext (φ:Heap->Prop)
abbrev Hp:=Addr->Option HO
def upd(H:Hp)(a:Addr)(o:HO):Hp:=fun b=>if b=a then some o else H b
theorem zc{H:Hp}{a:Addr}{o:HO}:upd H a o a=some o:=by unfold upd;rw[zx rfl]
theorem zm{H:Hp}{a b:Addr}{o:HO}(h:b≠a):upd H a o b=H b:=by unfold upd;rw[zr h]
theorem Vu{H:Hp}{a b:Addr}{o u:HO}(h:H a=some o)(c:H b=some u)(d:o≠u):a≠b:=by
 intro e;subst e;rw[h] at c;exact d (jt c)
theorem zj{H:Hp}{a b:Addr}{o:HO}(h:H a=some o)(c:H b=none):a≠b:=by
 intro e;subst e;rw[h] at c;cases c
section
variable(P:Program)(w:World)
def TupX(h:Heap)(a:Addr)(b:Array Value):Prop:=IsTup h a b/\∃o,h.get? a=some o/\o.dict=none
theorem TupX.by{h:Heap}{a:Addr}{b:Array Value}{n:Nat}(e:h.get? a=some { cls:=.type "tuple",data:=.seq b n }):TupX h a b:=⟨⟨_,e,rfl,n,rfl⟩,_,e,rfl⟩
def ObjOk(H:Hp)(h:Heap)(a:Addr):HO->Prop
 | .lst g=>g.length<=sizeLine/\∃(b:List Value) (n:Nat),Vals g b/\h.get? a=some { cls:=.type "list",data:=.seq b.toArray n }
 | .tup g=>g.length<=sizeLine/\∃b:List Value,Vals g b/\TupX h a b.toArray
 | .dK c=>c.length<=sizeLine/\(a==sysModules)=false/\∃B,KV c B/\h.DictOf (zO P w) a B
 | .dT c=>c.length<=sizeLine/\(a==sysModules)=false/\∃g:List (List Key×Addr×Value),
   Paired (fun(p:List Key×V) (q:List Key×Addr×Value)=>p.1=q.1/\H q.2.1=some (.tup (p.1.map kV))/\RelV p.2 q.2.2) c g /\
   ∃o s D,h.get? a=some o/\o.ExactDict/\o.data=.dict s D/\s.toList=g.map (entryOfKey (tupleKind (zO P w)))/\(g.map (·.1)).Nodup
 | .set S n=>h.SetOf (intKind P w) a S n
 | .ins C l fs=>H l=some (.own a)/\fs.length<=1000/\l≠a/\h.get? a=some (PySem.W.instObj C l) /\
   ∃j,h.Ns1 l j/\(∀f,RelO (fs.lookup f) (j f))/\PySem.Within j (fs.map (·.1))
 | .own _=>∃o,h.get? a=some o
 | .xd fs=>∃j,h.Ns1 a j/\∀f,RelO (fs.lookup f) (j f)
 | .rng lo E=>∃t u v,h.get? a=some { cls:=.type "range",data:=.fields #[.int lo t,.int E u,.int 1 v] }
 | .frz o u=>h.get? a=some o/\ObjOk H h a u
 | .tbl G=>h.get? a=some { cls:=.none,data:=.fields G }
 | .met f x=>h.get? a=some (PySem.W.methodObj (.ref f) (.ref x))
 | .ext φ=>φ h/\(∃o,h.get? a=some o)/\∀h1 A:Heap,φ h1->(∀o,h1.get? a=some o->A.get? a=some o)->φ A
def HOk(H:Hp)(h:Heap):Prop:=∀a o,H a=some o->ObjOk P w H h a o
end
section
variable{P:Program}{w:World}{H g:Hp}{h h':Heap}{a:Addr}{o:HO}
theorem ObjOk.lt(x:ObjOk P w H h a o):a<h.objs.size:=by
 cases o with
 | lst c=>obtain⟨_,_,_,_,e⟩:=x;exact zF e
 | tup c=>obtain⟨_,_,_,p⟩:=x;exact p.1.lt
 | dK b=>obtain⟨_,_,_,_,o,_,_,e,_⟩:=x;exact zF e
 | dT b=>obtain⟨_,_,_,_,o,_,_,e,_⟩:=x;exact zF e
 | set S n=>obtain⟨o,_,_,_,e,_⟩:=x;exact zF e
 | ins C j fs=>obtain⟨_,_,_,e,_⟩:=x;exact zF e
 | own y=>obtain⟨_,e⟩:=x;exact zF e
 | xd fs=>obtain⟨_,⟨_,_,_,e,_⟩,_⟩:=x;exact zF e
 | rng lo l=>obtain⟨_,_,_,e⟩:=x;exact zF e
 | frz s u=>obtain⟨e,_⟩:=x;exact zF e
 | tbl A=>exact zF (show h.get? a=some _ from x)
 | met f y=>exact zF (show h.get? a=some _ from x)
 | ext φ=>obtain⟨_,⟨_,e⟩,_⟩:=x;exact zF e
theorem Paired.mapP{α β:Type}{F G:α->β->Prop}:∀{c:List α} {j:List β},Paired F c j->(∀a b,F a b->G a b)->Paired G c j
 | _,_,.nil,_=>.nil
 | _,_,.cons r t,f=>.cons (f _ _ r) (Paired.mapP t f)
theorem ObjOk.stay(x:ObjOk P w H h a o)(k:∀b u,(b=a\/H b=some (.own a))->h.get? b=some u->h'.get? b=some u)
  (L:∀b,H b=some (.own a)->g b=some (.own a)) (M:∀b B,H b=some (.tup B)->g b=some (.tup B)):ObjOk P w g h' a o:=by
 induction o with
 | lst B=>obtain⟨z,A,n,r,e⟩:=x;exact⟨z,A,n,r,k _ _ (.inl rfl) e⟩
 | tup B=>obtain⟨z,A,r,⟨j,e,c⟩,O,e2,J⟩:=x;exact⟨z,A,r,⟨j,k _ _ (.inl rfl) e,c⟩,O,k _ _ (.inl rfl) e2,J⟩
 | dK D=>obtain⟨z,y,Q,r,j,s,l,e,c⟩:=x;exact⟨z,y,Q,r,j,s,l,k _ _ (.inl rfl) e,c⟩
 | dT D=>
  obtain⟨z,y,B,r,j,s,l,e,c⟩:=x;exact⟨z,y,B,Paired.mapP r fun p q z=>⟨z.1,M _ _ z.2.1,z.2.2⟩,j,s,l,k _ _ (.inl rfl) e,c⟩
 | set S n=>obtain⟨j,s,l,t,e,c⟩:=x;exact⟨j,s,l,t,k _ _ (.inl rfl) e,c⟩
 | ins C T fs=>
  obtain⟨d,z,ne,e,E,⟨G,s,l,e2,c⟩,r⟩:=x;exact⟨L _ d,z,ne,k _ _ (.inl rfl) e,E,⟨G,s,l,k _ _ (.inr d) e2,c⟩,r⟩
 | own y=>obtain⟨j,e⟩:=x;exact⟨j,k _ _ (.inl rfl) e⟩
 | xd fs=>obtain⟨E,⟨G,s,l,e,c⟩,r⟩:=x;exact⟨E,⟨G,s,l,k _ _ (.inl rfl) e,c⟩,r⟩
 | rng lo U=>obtain⟨t,u,v,e⟩:=x;exact⟨t,u,v,k _ _ (.inl rfl) e⟩
 | frz j u N=>obtain⟨e,q⟩:=x;exact⟨k _ _ (.inl rfl) e,N q⟩
 | tbl I=>
  have e:h.get? a=some { cls:=.none,data:=.fields I }:=x;show h'.get? a=some { cls:=.none,data:=.fields I };exact k a _ (.inl rfl) e
 | met f y=>
  have e:h.get? a=some (PySem.W.methodObj (.ref f) (.ref y)):=x;show h'.get? a=some (PySem.W.methodObj (.ref f) (.ref y));exact k a _ (.inl rfl) e
 | ext φ=>obtain⟨p,⟨o,e⟩,st⟩:=x;exact⟨st _ _ p fun o q=>k _ _ (.inl rfl) q,⟨o,k _ _ (.inl rfl) e⟩,st⟩
theorem HOk.lt(x:HOk P w H h)(e:H a=some o):a<h.objs.size:=(x a o e).lt
theorem HOk.fresh(x:HOk P w H h)(e:h.objs.size<=a):H a=none:=by
 cases q:H a with
 | none=>rfl
 | some u=>exact absurd (jP (x.lt q) e) (vM _)
theorem HOk.kept(x:HOk P w H h)(k:∀b u,h.get? b=some u->h'.get? b=some u):HOk P w H h':=fun a o e=>
 (x a o e).stay (fun b u _ q=>k b u q) (fun _ q=>q) fun _ _ q=>q
theorem HOk.laid(x:HOk P w H h)(k:∀b u,h.get? b=some u->h'.get? b=some u)(hp:h.objs.size<=a)(f:ObjOk P w (upd H a o) h' a o):HOk P w (upd H a o) h':=fun b u e=>by
 have j:=x.fresh hp;by_cases hb:b=a
 ·subst hb;rw[zc] at e;cases e;exact f
 ·rw[zm hb] at e
  exact(x b u e).stay (fun c v _ q=>k c v q) (fun c q=>by rw[zm (zj q j)];exact q) fun c l q=>by rw[zm (zj q j)];exact q
end
def Rd(H:Hp)(a:Addr)(u:HO):Prop:=H a=some u\/∃o,H a=some (.frz o u)
theorem Rd.of{H:Hp}{a:Addr}{u:HO}(h:H a=some u):Rd H a u:=.inl h
theorem Rd.ok{P:Program}{w:World}{H:Hp}{h:Heap}{a:Addr}{u:HO}(r:Rd H a u)(x:HOk P w H h):ObjOk P w H h a u:=by
 rcases r with r | ⟨o,r⟩
 ·exact x a u r
 ·obtain⟨_,q⟩:=x a _ r
  exact q
def Mut:Option HO->Prop
 | some (.lst _)=>True
 | some (.dK _)=>True
 | some (.dT _)=>True
 | some (.set _ _)=>True
 | some (.ins _ _ _)=>True
 | some (.ext _)=>True
 | _=>False
section
variable{P:Program}{w:World}{H:Hp}{h h':Heap}{x e:Addr}{f:HO}
theorem HOk.write(ok:HOk P w H h)(s:Mut (H x))(E:e=x\/H e=some (.own x))(k:∀b u,b≠e->h.get? b=some u->h'.get? b=some u)(B:∃u,h'.get? e=some u)
  (D:ObjOk P w (upd H x f) h' x f):HOk P w (upd H x f) h':=fun b u q=>by
 have j:∀c y,H c=some (.own y)->c≠x:=fun c y r z=>by subst z;rw[r] at s;exact s
 have l:∀c A,H c=some (.tup A)->c≠x:=fun c A r z=>by subst z;rw[r] at s;exact s
 by_cases hb:b=x
 ·subst hb;rw[zc] at q;cases q;exact D
 ·rw[zm hb] at q
  by_cases g:b=e
  ·have G:H b=some (.own x):=by
    rcases E with z | z
    ·exact absurd (g.trans z) hb
    ·rw[g];exact z
   rw[q] at G;cases G
   obtain⟨v,hv⟩:=B;exact⟨v,by rw[g];exact hv⟩
  ·refine(ok b u q).stay (fun c v hc r=>k c v ?_ r) (fun c r=>by rw[zm (j c b r)];exact r) fun c A r=>by rw[zm (l c A r)];exact r
   rcases hc with rfl | hc
   ·exact g
   ·rintro rfl
    rcases E with z | z
    ·exact j c b hc z
    ·rw[hc] at z;cases z;exact hb rfl
end
structure Un(fs ex:List Addr)(H H':Hp)(h h':Heap):Prop where
 keep:∀b o,h.get? b=some o->H b=none->b∉fs->b∉ex->h'.get? b=some o
 slot:∀b o,h.get? b=some o->H b=none->b∈fs->b∉ex->∃sl,h'.get? b=some { o with slots:=sl }
 free:∀b o,h.get? b=some o->H b=none->b∉ex->H' b=none
 there:∀b o,h.get? b=some o->b∉ex->∃o',h'.get? b=some o'
 tups:∀b xs,H b=some (.tup xs)->H' b=some (.tup xs)
 frzs:∀b o u,H b=some (.frz o u)->H' b=some (.frz o u)
 tbls:∀b ps,H b=some (.tbl ps)->∃more,H' b=some (.tbl (ps++more))
section
variable{fs l f j:List Addr}{H g s:Hp}{h h1 w h':Heap}{a x e:Addr}{o:HO}
theorem Un.any(u:Un fs f H g h h1){b:Addr}{c:Obj}(q:h.get? b=some c)(n:H b=none)(hx:b∉f):∃A,h1.get? b=some { c with slots:=A }:=by
 by_cases hb:b∈fs
 ·exact u.slot b c q n hb hx
 ·exact⟨c.slots,u.keep b c q n hb hx⟩
theorem Un.trans(a:Un fs f H g h h1)(b:Un fs f g s h1 w):Un fs f H s h w where
 keep:=fun c A q n hc hx=>b.keep c A (a.keep c A q n hc hx) (a.free c A q n hx) hc hx
 slot:=fun c A q n hc hx=>by
  obtain⟨L,e1⟩:=a.slot c A q n hc hx;obtain⟨E,e2⟩:=b.slot c _ e1 (a.free c A q n hx) hc hx;exact⟨E,e2⟩
 free:=fun c A q n hx=>by
  obtain⟨D,e1⟩:=a.there c A q hx;exact b.free c D e1 (a.free c A q n hx) hx
 there:=fun c A q hx=>by
  obtain⟨D,e1⟩:=a.there c A q hx;exact b.there c D e1 hx
 tups:=fun c B q=>b.tups c B (a.tups c B q)
 frzs:=fun c A B q=>b.frzs c A B (a.frzs c A B q)
 tbls:=fun c J q=>by
  obtain⟨G,e1⟩:=a.tbls c J q;obtain⟨I,e2⟩:=b.tbls c _ e1;exact⟨G++I,by rw[e2,Array.append_assoc]⟩
theorem Un.kept(k:∀b u,h.get? b=some u->h'.get? b=some u):Un fs f H H h h':=
 ⟨fun b c q _ _ _=>k b c q,fun b c q _ _ _=>⟨c.slots,k b c q⟩,fun _ _ _ n _=>n,fun b c q _=>⟨c,k b c q⟩,fun _ _ q=>q,fun _ _ _ q=>q,fun _ A q=>⟨#[],by rw[q];simp⟩⟩
theorem Un.refl:Un fs f H H h h:=Un.kept fun _ _ q=>q
theorem Un.laid(k:∀b u,h.get? b=some u->h'.get? b=some u)(hp:h.objs.size<=a)(c:H a=none):Un fs f H (upd H a o) h h' where
 keep:=fun b u q _ _ _=>k b u q
 slot:=fun b u q _ _ _=>⟨u.slots,k b u q⟩
 free:=fun b u q n _=>by rw[zm (zU (jP (zF q) hp))];exact n
 there:=fun b u q _=>⟨u,k b u q⟩
 tups:=fun b A q=>by rw[zm (zj q c)];exact q
 frzs:=fun b u A q=>by rw[zm (zj q c)];exact q
 tbls:=fun b B q=>⟨#[],by rw[zm (zj q c),q];simp⟩
theorem Un.write(A:Mut (H x))(E:e=x\/H e=some (.own x))(k:∀b u,b≠e->h.get? b=some u->h'.get? b=some u)(B:∃u,h'.get? e=some u):Un fs f H (upd H x o) h h':=by
 have hx:∀b,H b=none->b≠x:=fun b n z=>by subst z;rw[n] at A;exact A
 have hb:∀b,H b=none->b≠e:=fun b n z=>by
  subst z;rcases E with r | r
  ·exact hx b n r
  ·rw[n] at r;cases r
 have D:∀b u,H b=some u->¬Mut (some u)->b≠x:=fun b u q G z=>by subst z;rw[q] at A;exact G A
 refine⟨fun b u q n _ _=>k b u (hb b n) q,fun b u q n _ _=>⟨u.slots,k b u (hb b n) q⟩,fun b u q n _=>by rw[zm (hx b n)];exact n,fun b u q _=>?_,
  fun b I q=>by rw[zm (D b _ q fun z=>z)];exact q,fun b u I q=>by rw[zm (D b _ q fun z=>z)];exact q,fun b J q=>⟨#[],by rw[zm (D b _ q fun z=>z),q];simp⟩⟩
 by_cases c:b=e
 ·subst c;exact B
 ·exact⟨u,k b u c q⟩
theorem Un.mono(u:Un fs f H g h h1)(B:∀b∈fs,b∈l)(hx:∀b∈f,b∈j):Un l j H g h h1:=
 ⟨fun b A q n hb c=>u.keep b A q n (fun z=>hb (B b z)) fun z=>c (hx b z),fun _ _ q n _ c=>u.any q n fun z=>c (hx _ z),fun b A q n c=>u.free b A q n fun z=>c (hx b z),fun b A q c=>u.there b A q fun z=>c (hx b z),u.tups,u.frzs,u.tbls⟩
end
def trk(h:Heap)(H:Hp):List Addr:=(List.range h.objs.size).filter fun a=>(H a).isSome
def Xb(h:Heap)(H:Hp):Heap:=PySem.W.hideAll h (trk h H)
theorem zbs(h:Heap)(H:Hp):(Xb h H).objs.size=h.objs.size:=PySem.W.hideAll_size _ _
theorem zdb{h:Heap}{H:Hp}{b:Addr}{o:Obj}(e:h.get? b=some o)(n:H b=none):(Xb h H).get? b=some o:=
 PySem.W.hideAll_get _ e fun c=>by
  have q:(H b).isSome=true:=(jD.mp c).2;rw[n] at q;simp at q
theorem zei{h:Heap}{H:Hp}{b:Addr}{o:Obj}(e:(Xb h H).get? b=some o):h.get? b=some o/\H b=none:=by
 have c:h.get? b=some o:=PySem.W.of_hideAll (trk h H) e;refine⟨c,?_⟩
 cases q:H b with
 | none=>rfl
 | some x=>
  have f:b∈trk h H:=jD.mpr ⟨jJ.mpr (zF c),by simp[q]⟩
  have z:(Xb h H).get? b=none:=PySem.W.hideAll_none (trk h H) f;rw[z] at e;cases e
def zeM(g h:Heap)(L:Addr):List (Addr×Obj):=(List.range h.objs.size).filterMap fun a=>if a=L\/(g.get? a).isSome=true then none else(h.get? a).map fun o=>(a,o)
def rest(g h:Heap)(L d:Addr):List (Addr×Obj):=(zeM g h L).filter fun p=>decide (p.1≠d)
structure Mod(K:W.Frag)(mg:Str->Option Value)(base:Heap):Prop where
 kin:K.In base
 glob:base.Ns mainGlobals mg
 blt:∃mb,base.Ns builtinsNs mb/\∀x:Str,x ≠ "__name__" -> mb x=bootBuiltins x
 nolimit:base.NoLimit
structure Cx where
 prog:Program
 w:World
 K:PySem.W.Frag
 mg:Str->Option Value
 base:Heap
 A:Around
 N:List Str
 s₀:Shared
 H₀:Hp
 env:Env
 outer:List Env
 stack:List Env
 ex:List Addr
 fn:Str->Bool
 calm:Bool
 pn:List (Addr×Obj)
 xe:Value->Shared->Prop
def frs(l:List Env):List Addr:=l.filterMap (·.frame)
abbrev Cx.fs(X:Cx):List Addr:=frs X.outer
def Vis(b:Scope)(x:Str):Prop:=b.names.lookup x=some .local\/b.names.lookup x=some .cell\/b.names.lookup x=some .free
def Loc(b:Scope)(x:Str):Prop:=b.names.lookup x=some .local\/b.names.lookup x=some .cell
def zi0(b:Env)(h:Heap)(m:Str->Option Value)(x:Str)(u:Value):Prop:=
 (b.kindOf x=some .local/\m x=some u)\/((b.kindOf x=some .cell\/b.kindOf x=some .free)/\∃c,b.cells.lookup x=some c/\h.IsCell c (some u))
structure Cx.Ok(X:Cx):Prop where
 mod:Mod X.K X.mg X.base
 kind:X.env.scope.kind=.function
 glob:X.env.globals=mainGlobals
 blt:X.env.builtins=builtinsNs
 above:X.s₀.heap.objs.size<=X.env.locals
 inj:∀x y c,X.env.cells.lookup x=some c->X.env.cells.lookup y=some c->x=y
 has:∀x,(X.env.kindOf x=some .cell\/X.env.kindOf x=some .free)->∃c,X.env.cells.lookup x=some c
 cab:∀x c,X.fn x=true->X.env.cells.lookup x=some c->X.s₀.heap.objs.size<=c
 hd:X.calm=true->X.A.handled=none
 frames:X.A.frames=some X.stack
 stk:X.stack=X.outer\/(X.stack=X.env::X.outer/\X.env.frame=some X.env.locals)
 exf:∀b∈X.ex,b≠X.env.locals/\∀x c,X.env.cells.lookup x=some c->c≠b
 bs:∀b o,X.base.get? b=some o->X.s₀.heap.get? b=some o/\X.H₀ b=none
 bsz:X.base.objs.size<=X.s₀.heap.objs.size
 noex:∀b o,X.base.get? b=some o->b∉X.ex
 exfs:∀b∈X.ex,b∉X.fs
 funs:X.s₀.heap.FunFrames X.base X.outer
 frf:∀b∈X.fs,X.H₀ b=none
structure Inv(X:Cx)(pins:List (Addr×Obj))(σ:List (Option V))(H:Hp)(s:Shared):Prop where
 ok:X.Ok
 os:s.os=X.s₀.os
 bare:AllBare s.gens
 base:Un X.fs X.ex X.H₀ H X.s₀.heap s.heap
 loc:∃m,s.heap.Ns X.env.locals m/\∀(i:Nat) (x:Str) (v:V),X.N[i]? =some x->σ[i]? =some (some v)->Vis X.env.scope x->∃u,RelV v u/\zi0 X.env s.heap m x u
 cell:∀x c,X.env.cells.lookup x=some c->∃v,s.heap.IsCell c v
 free:H X.env.locals=none
 freeC:∀x c,X.env.cells.lookup x=some c->H c=none
 pin:∀p∈X.pn++pins,s.heap.get? p.1=some p.2/\H p.1=none/\p.1≠X.env.locals/\p.1∉X.fs/\∀v,p.2.data≠.cell v
 hok:HOk X.prog X.w H s.heap
 len:σ.length=X.N.length
section
variable{X:Cx}{f:List (Addr×Obj)}{σ:List (Option V)}{H g:Hp}{s:Shared}{h':Heap}
theorem Cx.Ok.nofr(ok:X.Ok){b:Addr}{o:Obj}(e:X.base.get? b=some o):b∉X.fs:=fun hb=>by
 have:=(ok.funs.mem hb).1;rw[e] at this;cases this
theorem Inv.bs(I:Inv X f σ H s):∀b o,X.base.get? b=some o->s.heap.get? b=some o/\H b=none:=fun b o e=>
 ⟨I.base.keep b o (I.ok.bs b o e).1 (I.ok.bs b o e).2 (I.ok.nofr e) (I.ok.noex b o e),I.base.free b o (I.ok.bs b o e).1 (I.ok.bs b o e).2 (I.ok.noex b o e)⟩
theorem Inv.bk(I:Inv X f σ H s):∀b o,X.base.get? b=some o->s.heap.get? b=some o:=fun b o e=>(I.bs b o e).1
theorem Inv.mod(I:Inv X f σ H s):Mod X.K X.mg X.base:=I.ok.mod
theorem Inv.kIn(I:Inv X f σ H s):X.K.In s.heap:=I.ok.mod.kin.keeps I.bk
theorem Inv.nolimit(I:Inv X f σ H s):s.heap.NoLimit:=I.ok.mod.nolimit.keeps I.bk
theorem Inv.fr(I:Inv X f σ H s):∃m,Fr X.base X.env.locals s.heap m:=
 let ⟨m,b,_⟩:=I.loc
 ⟨m,b,I.bk,qL I.ok.bsz I.ok.above⟩
theorem Inv.lt(I:Inv X f σ H s):X.env.locals<s.heap.objs.size:=let ⟨_,b,_⟩:=I.loc;b.lt
theorem Inv.sz(I:Inv X f σ H s):X.s₀.heap.objs.size<=s.heap.objs.size:=qL I.ok.above (QF I.lt)
theorem Inv.nofs(I:Inv X f σ H s){a:Addr}(h:s.heap.objs.size<=a):a∉X.fs:=fun hb=>by
 obtain⟨_,o,b,_⟩:=I.ok.funs.mem hb;exact absurd (jP (zF b) (qL I.sz h)) (vM _)
theorem Inv.cne(I:Inv X f σ H s):∀x c,X.env.cells.lookup x=some c->c≠X.env.locals:=fun x c e z=>by
 obtain⟨v,o,l,hd⟩:=I.cell x c e;obtain⟨m,⟨B,A,w,j,b,_⟩,_⟩:=I.loc;rw[z,j] at l;cases l;rw[b] at hd;cases hd
theorem Inv.funs(I:Inv X f σ H s):s.heap.FunFrames X.base X.outer:=by
 have all:∀(l:List Env),(∀b∈frs l,b∈X.fs)->X.s₀.heap.FunFrames X.base l->s.heap.FunFrames X.base l:=by
  intro l;induction l with
  | nil=>intro _ _;trivial
  | cons A r J=>
   intro w B;obtain⟨hk,⟨L,o,j,D,E,hd⟩,G⟩:=B;have c:L∈X.fs:=w L (by unfold frs;rw[XD,j];exact jb)
   obtain⟨M,e⟩:=I.base.slot L o E (I.ok.frf L c) c fun z=>I.ok.exfs L z c
   exact⟨hk,⟨L,_,j,D,e,hd⟩,J (fun b hb=>w b (by unfold frs;rw[XD,j];exact jc _ hb)) G⟩
 exact all X.outer (fun _ hb=>hb) I.ok.funs
theorem Inv.stack(I:Inv X f σ H s):s.heap.FunFrames X.base X.stack:=by
 rcases I.ok.stk with e | ⟨e,b⟩
 ·rw[e];exact I.funs
 ·rw[e]
  obtain⟨m,c,_⟩:=I.loc;refine .cons (by rw[I.ok.kind];decide) b c ?_ I.funs
  exact Heap.get?_none_of_le (qL I.ok.bsz I.ok.above)
theorem Inv.stkSub(I:Inv X f σ H s):∀b∈frs X.stack,b∈X.env.locals::X.fs:=fun b hb=>by
 rcases I.ok.stk with e | ⟨e,c⟩
 ·rw[e] at hb;exact jc _ hb
 ·rw[e] at hb
  unfold frs at hb;rw[XD,c] at hb;exact hb
theorem Inv.stkFree(I:Inv X f σ H s):∀b∈frs X.stack,H b=none:=fun b hb=>by
 rcases zR.mp (I.stkSub b hb) with e | hb
 ·rw[e];exact I.free
 ·obtain⟨_,o,c,_⟩:=I.ok.funs.mem hb
  exact I.base.free b o c (I.ok.frf b hb) fun z=>I.ok.exfs b z hb
theorem Inv.step{g':Array GenState}{t':Nat}{d':Drawn}{ch:List Addr}(I:Inv X f σ H s)
  (A:∀b∈ch,(b∈X.ex\/X.s₀.heap.objs.size<=b)/\b≠X.env.locals/\(∀x c,X.env.cells.lookup x=some c->c≠b)/\∀p∈X.pn++f,p.1≠b)
  (B:∀b o,b≠X.env.locals->b∉X.fs->b∉ch->s.heap.get? b=some o->H b=none->h'.get? b=some o)
  (G:∀b o,b≠X.env.locals->b∈X.fs->b∉ch->s.heap.get? b=some o->H b=none->∃sl,h'.get? b=some { o with slots:=sl }) (j:∀b o,b∉ch->s.heap.get? b=some o->H b=none->g b=none)
  (L:∀b o,b∉ch->s.heap.get? b=some o->∃Q,h'.get? b=some Q)
  (U:∀b J,H b=some (.tup J)->g b=some (.tup J)) (N:∀b o u,H b=some (.frz o u)->g b=some (.frz o u)) (T:∀b Y,H b=some (.tbl Y)->∃more,g b=some (.tbl (Y++more)))
  (ns:∀m,s.heap.Ns X.env.locals m->h'.Ns X.env.locals m) (a0:HOk X.prog X.w g h') (hg:AllBare g') :
  Inv X f σ g { s with heap:=h',gens:=g',drawn:=d',toks:=t' }:=by
 have O:∀b o,X.s₀.heap.get? b=some o->b≠X.env.locals:=fun b o e=>zU (jP (zF e) I.ok.above)
 have E:∀b o,X.s₀.heap.get? b=some o->b∉X.ex->b∉ch:=fun b o e hx hb=>by
  rcases(A b hb).1 with z | z
  ·exact hx z
  ·exact absurd (jP (zF e) z) (vM _)
 have w:∀x c,X.env.cells.lookup x=some c->∀v,s.heap.IsCell c v->h'.IsCell c v:=fun x c e v ⟨o,M,hd⟩=>by
  have D:c∉ch:=fun z=>(A c z).2.2.1 x c e rfl
  by_cases hc:c∈X.fs
  ·obtain⟨sl,q⟩:=G c o (I.cne x c e) hc D M (I.freeC x c e)
   exact⟨_,q,hd⟩
  ·exact⟨o,B c o (I.cne x c e) hc D M (I.freeC x c e),hd⟩
 refine⟨I.ok,I.os,hg,⟨fun b o e n hb hx=>?_,fun b o e n hb hx=>?_,fun b o e n hx=>?_,fun b o e hx=>?_,fun b J e=>U b J (I.base.tups b J e),fun b o J e=>N b o J (I.base.frzs b o J e),fun b Y e=>?_⟩,?_,fun x c e=>?_,?_,fun x c e=>?_,fun p hp=>?_,a0,I.len⟩
 ·exact B b o (O b o e) hb (E b o e hx) (I.base.keep b o e n hb hx) (I.base.free b o e n hx)
 ·obtain⟨sl,e1⟩:=I.base.slot b o e n hb hx
  obtain⟨aa,e2⟩:=G b _ (O b o e) hb (E b o e hx) e1 (I.base.free b o e n hx);exact⟨aa,e2⟩
 ·obtain⟨Q,e1⟩:=I.base.there b o e hx
  exact j b Q (E b o e hx) e1 (I.base.free b o e n hx)
 ·obtain⟨Q,e1⟩:=I.base.there b o e hx
  exact L b Q (E b o e hx) e1
 ·obtain⟨m1,e1⟩:=I.base.tbls b Y e
  obtain⟨m2,e2⟩:=T b _ e1;exact⟨m1++m2,by rw[e2,Array.append_assoc]⟩
 ·obtain⟨m,hn,hl⟩:=I.loc
  refine⟨m,ns m hn,fun i x v e1 e2 e3=>?_⟩
  obtain⟨u,r,l⟩:=hl i x v e1 e2 e3;refine⟨u,r,?_⟩
  rcases l with l | ⟨k,c,e,z⟩
  ·exact .inl l
  ·exact .inr ⟨k,c,e,w x c e _ z⟩
 ·obtain⟨v,z⟩:=I.cell x c e
  exact⟨v,w x c e v z⟩
 ·obtain⟨m,⟨o,_,_,M,_⟩,_⟩:=I.loc
  exact j _ o (fun z=>(A _ z).2.1 rfl) M I.free
 ·obtain⟨v,o,M,hd⟩:=I.cell x c e
  exact j c o (fun z=>(A c z).2.2.1 x c e rfl) M (I.freeC x c e)
 ·obtain⟨e,n,ne,nf,d⟩:=I.pin p hp
  have D:p.1∉ch:=fun z=>(A p.1 z).2.2.2 p hp rfl
  exact⟨B p.1 p.2 ne nf D e n,j p.1 p.2 D e n,ne,nf,d⟩
theorem Inv.un{t':Nat}(I:Inv X f σ H s)(u:Un X.fs [] H g s.heap h')(w:HOk X.prog X.w g h'):Inv X f σ g { s with heap:=h',toks:=t' }:=by
 obtain⟨m,⟨o,M,L,A,r⟩,_⟩:=id I.loc;obtain⟨T,B⟩:=u.any A I.free (by simp)
 exact I.step (g':=s.gens) (d':=s.drawn) (ch:=[]) (fun _ z=>nomatch z) (fun b o _ hb _ e n=>u.keep b o e n hb (by simp)) (fun b o _ hb _ e n=>u.slot b o e n hb (by simp)) (fun b o _ e n=>u.free b o e n (by simp)) (fun b o _ e=>u.there b o e (by simp)) u.tups u.frzs u.tbls (fun O D=>by
  obtain⟨Q,l,j,c,E⟩:=D;rw[A] at c;cases c
  exact⟨_,l,j,B,E⟩) w I.bare
theorem Inv.call{g':Array GenState}{t':Nat}{d':Drawn}{ch:List Addr}(I:Inv X f σ H s)(u:Un (frs X.stack) ch H g s.heap h')(D:HOk X.prog X.w g h')(hg:AllBare g')
  (j:∀b∈ch,(b∈X.ex\/X.s₀.heap.objs.size<=b)/\b≠X.env.locals/\(∀x c,X.env.cells.lookup x=some c->c≠b)/\∀p∈X.pn++f,p.1≠b) :
  Inv X f σ g { s with heap:=h',gens:=g',drawn:=d',toks:=t' }:=by
 obtain⟨m,⟨o,M,L,E,r⟩,_⟩:=id I.loc;obtain⟨Q,B⟩:=u.any E I.free fun z=>(j _ z).2.1 rfl
 exact I.step (ch:=ch) j (fun b o B hb hc e n=>u.keep b o e n (fun z=>(zR.mp (I.stkSub b z)).elim B hb) hc) (fun b o _ _ hc e n=>u.any e n hc) (fun b o hc e n=>u.free b o e n hc) (fun b o hc e=>u.there b o e hc) u.tups u.frzs u.tbls (fun N G=>by
  obtain⟨O,A,w,l,J⟩:=G;rw[E] at l;cases l
  exact⟨_,A,w,B,J⟩) D hg
theorem Inv.turned{t':Nat}{it:Addr}(I:Inv X f σ H s)(k:∀b o,b≠it->s.heap.get? b=some o->h'.get? b=some o)(G:H it=none)(l:it≠X.env.locals)
  (h1:it∈X.ex\/X.s₀.heap.objs.size<=it) (B:∀x c,X.env.cells.lookup x=some c->c≠it) (D:∀p∈X.pn++f,p.1≠it):Inv X f σ H { s with heap:=h',toks:=t' }:=by
 have j:∀b u,H b=some u->b≠it:=fun b u e z=>by rw[z,G] at e;cases e
 refine I.step (g':=s.gens) (d':=s.drawn) (ch:=[it]) (fun b hb=>?_) (fun b o _ _ hc e _=>k b o (fun z=>hc (by simp[z])) e) (fun b o _ _ hc e _=>⟨o.slots,k b o (fun z=>hc (by simp[z])) e⟩) (fun _ _ _ _ n=>n)
  (fun b o hc e=>⟨o,k b o (fun z=>hc (by simp[z])) e⟩) (fun _ _ e=>e) (fun _ _ _ e=>e) (fun b O e=>⟨#[],by rw[e];simp⟩) (fun m E=>?_) (fun b u e=>?_) I.bare
 ·have e:b=it:=by simpa using hb
  subst e;exact⟨h1,l,B,D⟩
 ·obtain⟨o,A,w,J,r⟩:=E
  exact⟨o,A,w,k _ o (zM l) J,r⟩
 ·refine(I.hok b u e).stay (fun c v hc q=>k c v ?_ q) (fun _ q=>q) fun _ _ q=>q
  rcases hc with z | z
  ·rw[z];exact j b u e
  ·exact j c _ z
theorem Inv.tok(I:Inv X f σ H s)(t:Nat):Inv X f σ H { s with toks:=t }:=I.un (h':=s.heap) (t':=t) Un.refl I.hok
theorem Inv.kept{t':Nat}(I:Inv X f σ H s)(k:∀b u,s.heap.get? b=some u->h'.get? b=some u):Inv X f σ H { s with heap:=h',toks:=t' }:=I.un (Un.kept k) (I.hok.kept k)
theorem Inv.laid{a:Addr}{o:HO}{t':Nat}(I:Inv X f σ H s)(k:∀b u,s.heap.get? b=some u->h'.get? b=some u)(hp:s.heap.objs.size<=a)(c:ObjOk X.prog X.w (upd H a o) h' a o) :
  Inv X f σ (upd H a o) { s with heap:=h',toks:=t' }:=I.un (Un.laid k hp (I.hok.fresh hp)) (I.hok.laid k hp c)
theorem Inv.write{x e:Addr}{o:HO}{t':Nat}(I:Inv X f σ H s)(w:Mut (H x))(l:e=x\/H e=some (.own x))(k:∀b u,b≠e->s.heap.get? b=some u->h'.get? b=some u)(c:∃u,h'.get? e=some u)
  (j:ObjOk X.prog X.w (upd H x o) h' x o):Inv X f σ (upd H x o) { s with heap:=h',toks:=t' }:=I.un (Un.write w l k c) (I.hok.write w l k c j)
theorem Inv.weak{c:List (Option V)}(I:Inv X f σ H s)(l:c.length=σ.length)(w:∀(i:Nat) v,c[i]? =some (some v)->σ[i]? =some (some v)):Inv X f c H s:=
 ⟨I.ok,I.os,I.bare,I.base,let ⟨m,A,b⟩:=I.loc;⟨m,A,fun i x v e1 e2 j=>b i x v e1 (w i v e2) j⟩,I.cell,I.free,I.freeC,I.pin,I.hok,l.trans I.len⟩
theorem Inv.pins_of{b:List (Addr×Obj)}(I:Inv X f σ H s)(h:∀p∈b,s.heap.get? p.1=some p.2/\H p.1=none/\p.1≠X.env.locals/\p.1∉X.fs/\∀v,p.2.data≠.cell v):Inv X b σ H s:=
 ⟨I.ok,I.os,I.bare,I.base,I.loc,I.cell,I.free,I.freeC,fun p hp=>(qM.mp hp).elim (fun z=>I.pin p (j3 _ z)) (h p),I.hok,I.len⟩
theorem Vt{N:List Str}(c:N.Nodup){i j:Nat}{x:Str}(a:N[i]? =some x)(b:N[j]? =some x):i=j:=by
 obtain⟨h1,e1⟩:=zK.mp a;obtain⟨l,e2⟩:=zK.mp b;exact(W3 c).mp (e1.trans e2.symm)
theorem za4{M:Model}{A:Around}{E:Value->Shared->Prop}{i:Nat}{x:Str}{v:V}{u:Value}{Q:Unit->Shared->Prop}(I:Inv X f σ H s)(hN:X.N.Nodup)(T:X.N[i]? =some x)(hx:Loc X.env.scope x)(r:RelV v u)
  (h:∀s',Inv X f (σ.set i (some v)) H s'->(∃a,Heap.SameBut a s.heap s'.heap/\(a=X.env.locals\/X.env.cells.lookup x=some a))->Q () s') (hf:X.fn x=true\/X.env.scope.names.lookup x=some .local:=by first| exact .inl rfl | exact .inr rfl | assumption):wpAny M A (storeName X.env x u) Q E s:=by
 obtain⟨m,hn,hl⟩:=id I.loc;have O:(X.env.scope.kind==.class||(X.env.scope.kind==.module&&X.env.locals != X.env.globals))=false:=by rw[I.ok.kind];rfl
 have U:i<σ.length:=by rw[I.len];exact(zK.mp T).1
 have D:=I.cne;have w:∀{a:Addr} {h':Heap},(∃o,s.heap.get? a=some o/\H a=none)->Heap.SameBut a s.heap h'->HOk X.prog X.w H h':=fun {a h'} ha l b ob e=>by
  obtain⟨_,_,B⟩:=ha;refine(I.hok b ob e).stay (fun c w' hc q=>(l.2 c ?_).trans q) (fun _ q=>q) fun _ _ q=>q
  rintro rfl;rcases hc with rfl | hc
  ·rw[B] at e;cases e
  ·rw[B] at hc;cases hc
 rcases hx with hk | hk
 ·refine wpAny_storeName_local hk hn (fun h' aa l=>?_) O
  obtain⟨oL,_,_,ab,_⟩:=id hn;refine h _ ⟨I.ok,I.os,I.bare,⟨fun b o e n hb hx=>?_,fun b o e n hb hx=>?_,I.base.free,fun b o e hx=>?_,I.base.tups,I.base.frzs,I.base.tbls⟩,⟨_,aa,fun j y v' e1 e2 e3=>?_⟩,fun y c e=>?_,I.free,I.freeC,fun p hp=>?_,w ⟨oL,ab,I.free⟩ l,by simpa using I.len⟩ ⟨_,l,.inl rfl⟩
  ·exact(l.2 b (zU (jP (zF e) I.ok.above))).trans (I.base.keep b o e n hb hx)
  ·obtain⟨sl,e1⟩:=I.base.slot b o e n hb hx
   exact⟨sl,(l.2 b (zU (jP (zF e) I.ok.above))).trans e1⟩
  ·obtain⟨o',e1⟩:=I.base.there b o e hx
   exact⟨o',(l.2 b (zU (jP (zF e) I.ok.above))).trans e1⟩
  ·by_cases J:j=i
   ·subst J
    rw[T] at e1;cases e1
    rw[XJ U] at e2;cases e2;exact⟨u,r,.inl ⟨hk,by simp⟩⟩
   ·rw[XE (zM J)] at e2
    obtain⟨u',r',q⟩:=hl j y v' e1 e2 e3;refine⟨u',r',?_⟩
    rcases q with ⟨k,e⟩ | ⟨k,c,e,z⟩
    ·refine .inl ⟨k,?_⟩
     have:y≠x:=fun e=>J (Vt hN e1 (e▸T))
     simp[this,e]
    ·exact .inr ⟨k,c,e,z.sameBut l (D y c e)⟩
  ·obtain⟨w',z⟩:=I.cell y c e
   exact⟨w',z.sameBut l (D y c e)⟩
  ·obtain⟨e,n,ne,nf,d⟩:=I.pin p hp
   exact⟨(l.2 p.1 ne).trans e,n,ne,nf,d⟩
 ·have G:X.fn x=true:=by
   rcases hf with z | z
   ·exact z
   ·rw[z] at hk;cases hk
  obtain⟨c,hc⟩:=I.ok.has x (.inl hk);obtain⟨w',z⟩:=I.cell x c hc;refine wpAny_storeName_cell I.ok.kind hk hc z (fun h' L l=>?_)
  obtain⟨oc,Y,a0⟩:=id z;refine h { s with heap:=h' } ⟨I.ok,I.os,I.bare,⟨fun b o e n hb hx=>?_,fun b o e n hb hx=>?_,I.base.free,fun b o e hx=>?_,I.base.tups,I.base.frzs,I.base.tbls⟩,⟨m,hn.sameBut l (zM (D x c hc)),fun j y v' e1 e2 e3=>?_⟩,fun y c' e=>?_,I.free,I.freeC,fun p hp=>?_,w ⟨oc,Y,I.freeC x c hc⟩ l,by simpa using I.len⟩ ⟨c,l,.inr hc⟩
  ·exact(l.2 b (zU (jP (zF e) (I.ok.cab x c G hc)))).trans (I.base.keep b o e n hb hx)
  ·obtain⟨sl,e1⟩:=I.base.slot b o e n hb hx
   exact⟨sl,(l.2 b (zU (jP (zF e) (I.ok.cab x c G hc)))).trans e1⟩
  ·obtain⟨o',e1⟩:=I.base.there b o e hx
   exact⟨o',(l.2 b (zU (jP (zF e) (I.ok.cab x c G hc)))).trans e1⟩
  ·by_cases J:j=i
   ·subst J
    rw[T] at e1;cases e1
    rw[XJ U] at e2;cases e2;exact⟨u,r,.inr ⟨.inl hk,c,hc,L⟩⟩
   ·rw[XE (zM J)] at e2
    obtain⟨u',r',q⟩:=hl j y v' e1 e2 e3;refine⟨u',r',?_⟩
    rcases q with q | ⟨k,c',e,z'⟩
    ·exact .inl q
    ·refine .inr ⟨k,c',e,z'.sameBut l ?_⟩
     rintro rfl;exact J (Vt hN e1 (I.ok.inj _ _ _ e hc▸T))
  ·by_cases N:c'=c
   ·subst N;exact⟨_,L⟩
   ·obtain⟨w2,z2⟩:=I.cell y c' e
    exact⟨w2,z2.sameBut l N⟩
  ·obtain⟨e,n,ne,nf,d⟩:=I.pin p hp
   refine⟨(l.2 p.1 ?_).trans e,n,ne,nf,d⟩
   intro q;rw[q,Y] at e;have q':oc=p.2:=jt e;exact d w' (by rw[<- q'];exact a0)
theorem yw{M:Model}{A:Around}{E:Value->Shared->Prop}{i:Nat}{x:Str}{v:V}{u:Value}{Q:Unit->Shared->Prop}(I:Inv X f σ H s)(j:X.N.Nodup)(w:X.N[i]? =some x)(hx:Loc X.env.scope x)(r:RelV v u)
  (h:∀b,Inv X f (σ.set i (some v)) H b->Q () b) (l:X.fn x=true\/X.env.scope.names.lookup x=some .local:=by first| exact .inl rfl | exact .inr rfl | assumption):wpAny M A (storeName X.env x u) Q E s:=
 za4 I j w hx r (fun b c _=>h b c) l
theorem Inv.call'{s':Shared}{ch:List Addr}(I:Inv X f σ H s)(D:s'.os=s.os)(u:Un (frs X.stack) ch H g s.heap s'.heap)(l:HOk X.prog X.w g s'.heap)(hg:AllBare s'.gens)
  (j:∀b∈ch,(b∈X.ex\/X.s₀.heap.objs.size<=b)/\b≠X.env.locals/\(∀x c,X.env.cells.lookup x=some c->c≠b)/\∀p∈X.pn++f,p.1≠b):Inv X f σ g s':=by
 obtain⟨h',A,w,B,E⟩:=s';have e:E=s.os:=D;subst e;exact I.call (g':=A) (t':=B) (d':=w) u l hg j
end
abbrev XK:=Value->Option Addr->Hp->Prop
abbrev St:=List (Option V)
abbrev VK:=V->Hp->Prop
abbrev TE:=St->Hp->VK->Prop
abbrev TT:=St->Hp->(Bool->Hp->Prop)->Prop
abbrev TA:=St->Hp->(List V->Hp->Prop)->Prop
structure Q7 where
 nx:St->Hp->Prop
 rt:VK
 bk:St->Hp->Prop:=fun _ _=>False
 ct:St->Hp->Prop:=fun _ _=>False
abbrev TS:=Q7->St->Hp->Prop
def EP(X:Cx)(b:List (Addr×Obj))(σ:St)(Q:VK)(u:Value)(f:Shared):Prop:=∃v c,Inv X b σ c f/\RelV v u/\Q v c
def TP(X:Cx)(c:List (Addr×Obj))(σ:St)(Q:Bool->Hp->Prop)(b:Bool)(g:Shared):Prop:=∃f,Inv X c σ f g/\Q b f
def AP(X:Cx)(b:List (Addr×Obj))(σ:St)(Q:List V->Hp->Prop)(j:List Value)(g:Shared):Prop:=∃f c,Inv X b σ c g/\Vals f j/\Q f c
def SP(X:Cx)(b:List (Addr×Obj))(D:Q7)(f:Flow)(j:Shared):Prop:=
 match f with
 | .next=>∃g c,Inv X b g c j/\D.nx g c
 | .brk=>∃g c,Inv X b g c j/\D.bk g c
 | .cont=>∃g c,Inv X b g c j/\D.ct g c
 | .ret u=>∃v g c,Inv X b g c j/\RelV v u/\D.rt v c
def PE(X:Cx)(e:Expr)(t:TE):Prop:=
 ∀(b:List (Addr×Obj)) (s:Shared) (σ:St) (H:Hp) (Q:VK),Inv X b σ H s->t σ H Q->wpAny (model X.prog X.w) X.A (eval e X.env) (EP X b σ Q) X.xe s
def PT(X:Cx)(e:Expr)(t:TT):Prop:=
 ∀(b:List (Addr×Obj)) (s:Shared) (σ:St) (H:Hp) (Q:Bool->Hp->Prop),Inv X b σ H s->t σ H Q->wpAny (model X.prog X.w) X.A (isTrue e X.env (eval e X.env)) (TP X b σ Q) X.xe s
def PW(X:Cx)(e:Expr)(t:TT):Prop:=
 ∀(c:Sem Value) (b:List (Addr×Obj)) (s:Shared) (σ:St) (H:Hp) (Q:Bool->Hp->Prop),Inv X b σ H s->t σ H Q->wpAny (model X.prog X.w) X.A (isTrue e X.env c) (TP X b σ Q) X.xe s
theorem PW.pt{X:Cx}{e:Expr}{t:TT}(h:PW X e t):PT X e t:=h _
def u8:=@PW.pt
def PA(X:Cx)(f:List Expr)(t:TA):Prop:=
 ∀(c:Pos) (b:List (Addr×Obj)) (s:Shared) (σ:St) (H:Hp) (Q:List V->Hp->Prop),Inv X b σ H s->t σ H Q->wpAny (model X.prog X.w) X.A (spliced (backTo c (starEach f X.env))) (AP X b σ Q) X.xe s
def PS(X:Cx)(st:Stmt)(t:TS):Prop:=
 ∀(b:List (Addr×Obj)) (s:Shared) (σ:St) (H:Hp) (D:Q7),Inv X b σ H s->t D σ H->wpAny (model X.prog X.w) X.A (exec st X.env) (SP X b D) X.xe s
def PSs(X:Cx)(st:List Stmt)(t:TS):Prop:=
 ∀(b:List (Addr×Obj)) (s:Shared) (σ:St) (H:Hp) (D:Q7),Inv X b σ H s->t D σ H->wpAny (model X.prog X.w) X.A (execs st X.env) (SP X b D) X.xe s
theorem thn{α:Type}{t:Sem α}{Q b:α->Shared->Prop}{M:Model}{A:Around}{E:Value->Shared->Prop}{s:Shared}(h:wpAny M A t Q E s)(c:∀a s,Q a s->b a s):wpAny M A t b E s:=qh h c fun _ _ x=>x
section
variable{X:Cx}
inductive IsB(x:V)(H:Hp)(Q:Bool->Hp->Prop):Prop
 | mk (c:Bool) (h:x=.bl c) (q:Q c H):IsB x H Q
inductive IsI(x:V)(H:Hp)(Q:Int->Hp->Prop):Prop
 | mk (i:Int) (h:x=.int i) (q:Q i H):IsI x H Q
inductive zix(c:List V)(H:Hp)(Q:V->V->Hp->Prop):Prop
 | mk (v w:V) (h:c=[v,w]) (q:Q v w H):zix c H Q
inductive zfz(i:Nat)(σ:St)(H:Hp)(Q:VK):Prop
 | mk (v:_) (_:σ[i]? =some (some v)) (_:Q v H):zfz i σ H Q
def tC(v:V):TE:=fun _ H Q=>Q v H
theorem zfX{i:Nat}{x:Str}{f:Pos}(J:X.N[i]? =some x)(hv:Vis X.env.scope x)(hd:(x==("__debug__":Str))=false:=by decide)(G:(x==("__classdict__":Str))=false:=by decide):PE X (.Name x f) (zfz i):=by
 intro E s σ H Q I h;obtain⟨v,e,h⟩:=h;obtain⟨m,N,L⟩:=I.loc;obtain⟨u,r,l⟩:=L i x v J e hv;have w:EP X E σ Q u s:=⟨v,H,I,r,h⟩;rcases l with ⟨hk,M⟩ | ⟨hk,c,hc,j⟩
 ·exact wpAny_Name (wpAny_loadName_local I.ok.kind hk N M w) hd
 ·rcases hk with hk | hk
  ·exact wpAny_Name (wpAny_loadName_cell I.ok.kind hk hc j w) hd
  ·exact wpAny_Name (wpAny_loadName_free I.ok.kind hk hc j w G) hd
theorem zi{i j f}:PE X (.Constant (.int i) j f) (tC (.int i)):=fun _ _ _ H _ I h=>wpAny_Constant_int ⟨.int i,H,I.tok _,⟨_,rfl⟩,h⟩
theorem xM{b j f}:PE X (.Constant (.bool b) j f) (tC (.bl b)):=fun _ _ _ H _ I h=>Constant_bool ⟨.bl b,H,I,rfl,h⟩
theorem xK{j f}:PE X (.Constant .none j f) (tC .non):=fun _ _ _ H _ I h=>Constant_none ⟨.non,H,I,rfl,h⟩
theorem zcJ{x j f}:PE X (.Constant (.str x) j f) (tC (.str x)):=fun _ _ _ H _ I h=>Calls.Constant_str ⟨.str x,H,I.tok _,⟨_,rfl⟩,h⟩
def Gl(X:Cx)(x:Str):Prop:=X.env.kindOf x=some .globalImplicit
theorem zal{E:Value->Shared->Prop}{c:List (Addr×Obj)}{s:Shared}{σ:St}{H:Hp}{x:Str}{u:Value}{f:Pos}{Q:Value->Shared->Prop}(I:Inv X c σ H s)(hg:Gl X x)(j:X.mg x=some u)(h:Q u s)
  (hd:(x==("__debug__":Str))=false:=by decide):wpAny (model X.prog X.w) X.A (eval (.Name x f) X.env) Q E s:=
 zdB I.ok.kind hg (Calls.loadGlobal_global (by rw[I.ok.glob];exact I.mod.glob.keeps I.bk) j h) hd
theorem vt{E:Value->Shared->Prop}{c:List (Addr×Obj)}{s:Shared}{σ:St}{H:Hp}{x:Str}{u:Value}{f:Pos}{Q:Value->Shared->Prop}(I:Inv X c σ H s)(hg:Gl X x)(l:X.mg x=none)(hv:bootBuiltins x=some u)(h:Q u s)
  (w:x ≠ "__name__" :=by decide) (hd:(x==("__debug__":Str))=false:=by decide):wpAny (model X.prog X.w) X.A (eval (.Name x f) X.env) Q E s:=by
 obtain⟨G,h1,j⟩:=I.mod.blt;exact zdB I.ok.kind hg (Calls.loadGlobal_builtin (by rw[I.ok.glob];exact I.mod.glob.keeps I.bk) l (by rw[I.ok.blt];exact h1.keeps I.bk) ((j x w).trans hv) h) hd
theorem vm{x:Str}{v:V}{u:Value}{f:Pos}(hg:Gl X x)(c:X.mg x=some u)(r:RelV v u)(hd:(x==("__debug__":Str))=false:=by decide):PE X (.Name x f) (tC v):=
 fun _ _ _ H _ I h=>zal I hg c ⟨v,H,I,r,h⟩ hd
theorem ja{x:Str}{v:V}{u:Value}{f:Pos}(hg:Gl X x)(c:X.mg x=none)(hv:bootBuiltins x=some u)(r:RelV v u)(j:x ≠ "__name__" :=by decide)(hd:(x==("__debug__":Str))=false:=by decide):PE X (.Name x f) (tC v):=
 fun _ _ _ H _ I h=>vt I hg c hv ⟨v,H,I,r,h⟩ j hd
variable{a b:Expr}{g B:TE}{f:Pos}
def PC(X:Cx)(j:CmpOp)(a b:Expr)(t:TE):Prop:=
 ∀(c:List (Addr×Obj)) (s:Shared) (σ:St) (H:Hp) (Q:VK),Inv X c σ H s->t σ H Q ->
  wpAny (model X.prog X.w) X.A (eval a X.env) (fun v l=>wpAny (model X.prog X.w) X.A (eval b X.env) (fun u w=>wpAny (model X.prog X.w) X.A (compareOp j v u) (EP X c σ Q) X.xe w) X.xe l) X.xe s
theorem zc1(b:Expr){c:CmpOp}(h:c≠.In)(j:c≠.NotIn):behindInMarks c b=false:=by
 have e1:(c==CmpOp.In)=false:=by cases c<;>first| rfl | exact absurd rfl h
 have e2:(c==CmpOp.NotIn)=false:=by cases c<;>first| rfl | exact absurd rfl j
 cases b<;>simp[behindInMarks,e1,e2]
def tB(t:TE):TT:=fun σ H Q=>t σ H fun x c=>IsB x c Q
theorem Wv{l:CmpOp}{t:TE}(h:PC X l a b t)(h1:behindInMarks l b=false:=by first| exact zc1 _ (by decide) (by decide) | rfl):PT X (.Compare a [l] [b] f) (tB t):=by
 intro j s σ H Q I J;refine wpAny_isTrue_Compare1 (thn (h j s σ H _ I J) fun v s1 h1=>thn h1 fun u s2 G=>thn G fun c N ⟨x,w,E,M,L⟩=>?_) h1
 obtain⟨d,rfl,q⟩:=L;cases M;exact vZ ⟨w,E,q⟩
theorem qY{e:Expr}{t:TE}(h:PE X e t)(E:∀c,isTrue e X.env c=(do let v<-c;standAt e.pos;holding [v] (truthy v)):=by intro _;rfl):PT X e (tB t):=by
 intro j s σ H Q I G;refine isTrue_plain (thn (h j s σ H _ I G) fun v s1 ⟨x,l,w,L,J⟩=>?_) (E _)
 obtain⟨d,rfl,q⟩:=J;cases L;exact vZ ⟨l,w,q⟩
variable{A D:TT}{rest:List Expr}
def ziQ(t u:TT):TT:=fun σ H Q=>t σ H fun c j=>if c=true then u σ j Q else Q false j
def tOr(t u:TT):TT:=fun σ H Q=>t σ H fun c j=>if c=true then Q true j else u σ j Q
def ziH(t:TT):TT:=fun σ H Q=>t σ H fun c j=>Q (!c) j
theorem yy(l:PT X a A):PW X (.BoolOp .And [a] f) A:=by
 intro w j s σ H Q I h;refine isTrue_and (thn (l j s σ H Q I h) fun c s1 e=>?_)
 cases c with
 | true=>exact isTrue_and_nil e
 | false=>exact e
theorem xJ(l:PT X a A):PW X (.BoolOp .Or [a] f) A:=by
 intro w j s σ H Q I h;refine isTrue_or (thn (l j s σ H Q I h) fun c s1 e=>?_)
 cases c with
 | false=>exact isTrue_or_nil e
 | true=>exact e
theorem Z7(G:PT X a A)(hb:PW X (.BoolOp .And (b::rest) f) D):PW X (.BoolOp .And (a::b::rest) f) (ziQ A D):=by
 intro J j s σ H Q I h;refine isTrue_and (thn (G j s σ H _ I h) fun c s1 ⟨l,w,E⟩=>?_)
 cases c with
 | true=>exact hb J j s1 σ l Q w E
 | false=>exact⟨l,w,E⟩
theorem vE(G:PT X a A)(hb:PW X (.BoolOp .Or (b::rest) f) D):PW X (.BoolOp .Or (a::b::rest) f) (tOr A D):=by
 intro J j s σ H Q I h;refine isTrue_or (thn (G j s σ H _ I h) fun c s1 ⟨l,w,E⟩=>?_)
 cases c with
 | true=>exact⟨l,w,E⟩
 | false=>exact hb J j s1 σ l Q w E
theorem jG(w:PT X a A):PT X (.UnaryOp .Not a f) (ziH A):=by
 intro j s σ H Q I h;exact isTrue_not (w j s σ H (fun c l=>Q (!c) l) I h)
def zg7(g B:TE):TE:=fun σ H Q=>g σ H fun x j=>IsB x j fun c j=>if c=true then B σ j Q else Q (.bl false) j
def ziG(g B:TE):TE:=fun σ H Q=>g σ H fun x j=>IsB x j fun c j=>if c=true then Q (.bl true) j else B σ j Q
def zg0(g:TE):TE:=fun σ H Q=>g σ H fun x j=>IsB x j fun c j=>Q (.bl (!c)) j
theorem xj{l}{t:TE}(h:PE X a t):PE X (.BoolOp l [a] f) t:=fun c s σ H Q I j=>BoolOp_one (h c s σ H Q I j)
theorem j6(G:PE X a g)(hb:PE X (.BoolOp .And (b::rest) f) B):PE X (.BoolOp .And (a::b::rest) f) (zg7 g B):=by
 intro j s σ H Q I h;refine BoolOp_and (thn (G j s σ H _ I h) fun v s1 ⟨x,w,E,J,l⟩=>?_)
 obtain⟨c,rfl,l⟩:=l;cases J;refine vZ ?_
 cases c with
 | true=>exact hb j s1 σ w Q E l
 | false=>exact⟨.bl false,w,E,rfl,l⟩
theorem zhJ(G:PE X a g)(hb:PE X (.BoolOp .Or (b::rest) f) B):PE X (.BoolOp .Or (a::b::rest) f) (ziG g B):=by
 intro j s σ H Q I h;refine BoolOp_or (thn (G j s σ H _ I h) fun v s1 ⟨x,w,E,J,l⟩=>?_)
 obtain⟨c,rfl,l⟩:=l;cases J;refine vZ ?_
 cases c with
 | false=>exact hb j s1 σ w Q E l
 | true=>exact⟨.bl true,w,E,rfl,l⟩
theorem zfZ(G:PE X a g):PE X (.UnaryOp .Not a f) (zg0 g):=by
 intro j s σ H Q I h;refine UnaryOp_ (thn (G j s σ H _ I h) fun v s1 ⟨x,w,E,J,l⟩=>?_)
 obtain⟨c,rfl,l⟩:=l;cases J;exact not_of (vZ ⟨.bl (!c),w,E,rfl,l⟩)
def tIf(t:TT)(g B:TE):TE:=fun σ H Q=>t σ H fun c j=>if c=true then g σ j Q else B σ j Q
theorem vG{c:Expr}(hc:PT X c A)(G:PE X a g)(hb:PE X b B):PE X (.IfExp c a b f) (tIf A g B):=by
 intro j s σ H Q I h;refine wpAny_IfExp (thn (hc j s σ H _ I h) fun d s1 ⟨l,w,E⟩=>?_)
 cases d with
 | true=>exact G j s1 σ l Q w E
 | false=>exact hb j s1 σ l Q w E
end
def SqL(K:W.Frag)(H:Hp)(a:Addr)(c:List V):Prop:=
 Rd H a (.lst c) \/
  ∃(o:Obj) (b:Array Value) (n:Nat),K.lookup a=some o/\o.cls=.type "list" /\ o.dict=none/\o.data=.seq b n/\b.size<=sizeLine/\Vals c b.toList
def SqT(K:W.Frag)(H:Hp)(a:Addr)(c:List V):Prop:=
 Rd H a (.tup c) \/
  ∃(o:Obj) (b:Array Value) (n:Nat),K.lookup a=some o/\o.cls=.type "tuple" /\ o.data=.seq b n/\b.size<=sizeLine/\Vals c b.toList
def ziZ:Value->Option V
 | .none=>some .non
 | .bool b=>some (.bl b)
 | .int i _=>some (.int i)
 | .str x _=>some (.str x)
 | .bytes b _=>some (.byt b)
 | .float b _=>some (.flt b)
 | .ref a=>some (.ref a)
 | .type n=>some (.ty n)
 | _=>none
theorem RelV.abs{x:V}{u:Value}(r:RelV x u):ziZ u=some x:=by
 cases x with
 | non=>cases r;rfl
 | bl _=>cases r;rfl
 | int _=>obtain⟨t,rfl⟩:=r;rfl
 | str _=>obtain⟨t,rfl⟩:=r;rfl
 | byt _=>obtain⟨t,rfl⟩:=r;rfl
 | flt _=>obtain⟨t,rfl⟩:=r;rfl
 | ref _=>cases r;rfl
 | ty _=>cases r;rfl
theorem RelV.inj{x y:V}{u:Value}(r:RelV x u)(q:RelV y u):x=y:=jt (r.abs.symm.trans q.abs)
theorem Vals.inj:∀{c f:List V} {b:List Value},Vals c b->Vals f b->c=f
 | _,_,_,.nil,.nil=>rfl
 | _,_,_,.cons r t,.cons g j=>by rw[r.inj g,Vals.inj t j]
section
variable{X:Cx}{b:List (Addr×Obj)}{σ:St}{H:Hp}{s:Shared}{a:Addr}{c f:List V}
theorem SqL.of{K:W.Frag}(h:H a=some (.lst c)):SqL K H a c:=.inl (.inl h)
def u4:=@SqL.of
theorem SqT.of{K:W.Frag}(h:H a=some (.tup c)):SqT K H a c:=.inl (.inl h)
def u5:=@SqT.of
theorem Inv.list(I:Inv X b σ H s)(h:SqL X.K H a c):∃g:List Value,Vals c g/\PlainL s.heap a g.toArray/\c.length<=sizeLine:=by
 rcases h with h | ⟨o,g,n,hk,hc,hd,j,hz,r⟩
 ·obtain⟨z,g,n,r,e⟩:=h.ok I.hok
  exact⟨g,r,⟨_,n,e,rfl,rfl,rfl⟩,z⟩
 ·refine⟨g.toList,r,⟨o,n,I.kIn a o hk,hc,hd,by simpa using j⟩,?_⟩
  have e:=r.length;simp only[jE] at e;omega
theorem Inv.tuple(I:Inv X b σ H s)(h:SqT X.K H a c):∃g:List Value,Vals c g/\IsTup s.heap a g.toArray/\c.length<=sizeLine:=by
 rcases h with h | ⟨o,g,n,hk,hc,j,hz,r⟩
 ·obtain⟨z,g,r,p⟩:=h.ok I.hok
  exact⟨g,r,p.1,z⟩
 ·refine⟨g.toList,r,⟨o,I.kIn a o hk,hc,n,by simpa using j⟩,?_⟩
  have e:=r.length;simp only[jE] at e;omega
theorem Inv.list_inj(I:Inv X b σ H s)(h:SqL X.K H a c)(B:SqL X.K H a f):c=f:=by
 obtain⟨j,r,⟨o,n,e,_,_,d⟩,_⟩:=I.list h;obtain⟨g,D,⟨G,E,w,_,_,l⟩,_⟩:=I.list B;rw[e] at w;cases w
 rw[d] at l;injection l with A _;have:j=g:=by simpa using congrArg Array.toList A
 subst this;exact r.inj D
theorem Inv.tuple_inj(I:Inv X b σ H s)(h:SqT X.K H a c)(B:SqT X.K H a f):c=f:=by
 obtain⟨j,r,⟨o,e,_,n,d⟩,_⟩:=I.tuple h;obtain⟨g,D,⟨G,w,_,E,l⟩,_⟩:=I.tuple B;rw[e] at w;cases w
 rw[d] at l;injection l with A _;have:j=g:=by simpa using congrArg Array.toList A
 subst this;exact r.inj D
end
abbrev Cx.wish(X:Cx)(E:Value->Shared->Prop):Cx:={ X with xe:=E }
abbrev Cx.nox(X:Cx):Cx:=X.wish fun _ _=>False
theorem Cx.Ok.wish{X:Cx}(ok:X.Ok)(E:Value->Shared->Prop):(X.wish E).Ok:=
 ⟨ok.mod,ok.kind,ok.glob,ok.blt,ok.above,ok.inj,ok.has,ok.cab,ok.hd,ok.frames,ok.stk,ok.exf,ok.bs,ok.bsz,ok.noex,ok.exfs,ok.funs,ok.frf⟩
theorem Cx.Ok.unwish{X:Cx}{E:Value->Shared->Prop}(ok:(X.wish E).Ok):X.Ok:=
 ⟨ok.mod,ok.kind,ok.glob,ok.blt,ok.above,ok.inj,ok.has,ok.cab,ok.hd,ok.frames,ok.stk,ok.exf,ok.bs,ok.bsz,ok.noex,ok.exfs,ok.funs,ok.frf⟩
section
variable{X:Cx}{b:List (Addr×Obj)}{σ:St}{H:Hp}{s:Shared}{E:Value->Shared->Prop}
theorem Inv.wish(I:Inv X b σ H s)(E:Value->Shared->Prop):Inv (X.wish E) b σ H s:=⟨I.ok.wish E,I.os,I.bare,I.base,I.loc,I.cell,I.free,I.freeC,I.pin,I.hok,I.len⟩
theorem Inv.unwish(I:Inv (X.wish E) b σ H s):Inv X b σ H s:=⟨I.ok.unwish,I.os,I.bare,I.base,I.loc,I.cell,I.free,I.freeC,I.pin,I.hok,I.len⟩
theorem SP.unwish{D:Q7}{f:Flow}{j:Shared}(h:SP (X.wish E) b D f j):SP X b D f j:=by
 cases f with
 | next=>obtain⟨g,c,I,q⟩:=h;exact⟨g,c,I.unwish,q⟩
 | brk=>obtain⟨g,c,I,q⟩:=h;exact⟨g,c,I.unwish,q⟩
 | cont=>obtain⟨g,c,I,q⟩:=h;exact⟨g,c,I.unwish,q⟩
 | ret u=>obtain⟨v,g,c,I,r,q⟩:=h;exact⟨v,g,c,I.unwish,r,q⟩
theorem PE.nox{e:Expr}{t:TE}(h:PE X.nox e t):PE X e t:=fun b s σ H Q I g=>
 qh (h b s σ H Q (I.wish _) g) (fun _ _ ⟨v,c,f,r,q⟩=>⟨v,c,f.unwish,r,q⟩) fun _ _ z=>False.elim z
theorem PT.nox{e:Expr}{t:TT}(h:PT X.nox e t):PT X e t:=fun b s σ H Q I g=>
 qh (h b s σ H Q (I.wish _) g) (fun _ _ ⟨c,f,q⟩=>⟨c,f.unwish,q⟩) fun _ _ z=>False.elim z
theorem PSs.nox{st:List Stmt}{t:TS}(h:PSs X.nox st t):PSs X st t:=fun b s σ H D I c=>
 qh (h b s σ H D (I.wish _) c) (fun _ _ q=>q.unwish) fun _ _ z=>False.elim z
end
section
variable{X:Cx}{st:Stmt}{rest:List Stmt}{t u:TS}{e:Expr}{j:TE}{g:Pos}
def zg1:TS:=fun D σ H=>D.nx σ H
def ziD(t u:TS):TS:=fun D σ H=>t { D with nx:=u D } σ H
theorem zZ:PSs X [] zg1:=fun _ _ σ H _ I h=>wpAny_execs_nil ⟨σ,H,I,h⟩
theorem ze(h1:PS X st t)(w:PSs X rest u):PSs X (st::rest) (ziD t u):=by
 intro b s σ H D I h;refine wpAny_execs_cons (thn (h1 b s σ H { D with nx:=u D } I h) fun f s1 q=>?_)
 cases f with
 | next=>
  obtain⟨A,c,l,q⟩:=q;exact w b s1 A c D l q
 | ret v=>exact q
 | brk=>exact q
 | cont=>exact q
theorem zk(h1:PS X st t):PSs X [st] t:=by
 intro b s σ H D I h;refine wpAny_execs_cons (thn (h1 b s σ H D I h) fun f s1 q=>?_)
 cases f with
 | next=>exact wpAny_execs_nil q
 | ret v=>exact q
 | brk=>exact q
 | cont=>exact q
theorem Inv.quiet{b:List (Addr×Obj)}{σ:St}{H:Hp}{s:Shared}(I:Inv X b σ H s):interactive X.env=false:=by simp[interactive,I.ok.kind]
def zg3(j:TE):TS:=fun D σ H=>j σ H fun _ b=>D.nx σ b
theorem qN(l:PE X e j)(w:swapsWith e none g.line X.env=pure false:=by rfl):PS X (.Expr e g) (zg3 j):=by
 intro b s σ H D I h;exact wpAny_Expr_any (thn (l b s σ H _ I h) fun v s1 ⟨x,c,f,B,A⟩=>⟨σ,c,f,A⟩) I.quiet w
def ziE(j:TE):TS:=fun D σ H=>j σ H D.rt
theorem zw(l:PE X e j):PS X (.Return (some e) g) (ziE j):=by
 intro b s σ H D I h;exact wpAny_Return_some (thn (l b s σ H _ I h) fun v s1 ⟨x,c,f,A,w⟩=>⟨x,σ,c,f,A,w⟩)
def ziJ(c:TT)(t u:TS):TS:=fun D σ H=>c σ H fun b f=>if b=true then t D σ f else u D σ f
theorem jn{c:Expr}{a b:List Stmt}{B:TT}(hc:PT X c B)(E:PSs X a t)(hb:PSs X b u):PS X (.If c a b g) (ziJ B t u):=by
 intro f s σ H D I h;refine wpAny_If (thn (hc f s σ H _ I h) fun d s1 ⟨l,w,A⟩=>?_)
 cases d with
 | true=>exact E f s1 σ l D w A
 | false=>exact hb f s1 σ l D w A
end
abbrev TG:=V->St->Hp->(St->Hp->Prop)->Prop
abbrev TGs:=List V->St->Hp->(St->Hp->Prop)->Prop
def PG(X:Cx)(b:Expr)(t:TG):Prop:=
 ∀(c:List (Addr×Obj)) (s:Shared) (σ:St) (H:Hp) (v:V) (u:Value) (Q:St->Hp->Prop),Inv X c σ H s->RelV v u->t v σ H Q ->
  wpAny (model X.prog X.w) X.A (assign b X.env u) (fun _ j=>∃g f,Inv X c g f j/\Q g f) X.xe s
def PGs(X:Cx)(w:List Expr)(t:TGs):Prop:=
 ∀(b:List (Addr×Obj)) (s:Shared) (σ:St) (H:Hp) (g:List V) (f:List Value) (Q:St->Hp->Prop),Inv X b σ H s->Vals g f->t g σ H Q ->
  wpAny (model X.prog X.w) X.A (assignInOrder ((assignEach w X.env).map (·.2)) f) (fun _ l=>∃j c,Inv X b j c l/\Q j c) X.xe s
abbrev zdH:=V->V->V->Hp->(Hp->Prop)->Prop
def zgR(X:Cx)(t:zdH):Prop:=
 ∀(b:List (Addr×Obj)) (s:Shared) (σ:St) (H:Hp) (o i v:V) (g f u:Value) (Q:Hp->Prop),Inv X b σ H s->RelV o g->RelV i f->RelV v u->t o i v H Q ->
  wpAny (model X.prog X.w) X.A (setItem g f u) (fun _ j=>∃c,Inv X b σ c j/\Q c) X.xe s
abbrev TIp:=V->V->Hp->VK->Prop
def PIp(X:Cx)(c:Operator)(t:TIp):Prop:=
 ∀(b:List (Addr×Obj)) (s:Shared) (σ:St) (H:Hp) (x y:V) (v u:Value) (Q:VK),Inv X b σ H s->RelV x v->RelV y u->t x y H Q ->
  wpAny (model X.prog X.w) X.A (inplaceOp c v u) (EP X b σ Q) X.xe s
section
variable{X:Cx}{l:Pos}
def xa(i:Nat):TG:=fun v σ H Q=>Q (σ.set i (some v)) H
theorem zu{i:Nat}{x:Str}(f:X.N.Nodup)(j:X.N[i]? =some x)(hx:Loc X.env.scope x)(g:X.fn x=true\/X.env.scope.names.lookup x=some .local:=by first| exact .inl rfl | exact .inr rfl | assumption):PG X (.Name x l) (xa i):=by
 intro b s σ H v u Q I r h;exact wpAny_assign_Name (yw I f j hx r (fun w c=>⟨_,H,c,h⟩) g)
def WM:TGs:=fun b σ H Q=>b=[]/\Q σ H
inductive xN(t:TG)(u:TGs)(b:List V)(σ:St)(H:Hp)(Q:St->Hp->Prop):Prop
 | mk (v r:_) (_:b=v::r) (_:t v σ H fun f c=>u r f c Q):xN t u b σ H Q
theorem qA:PGs X [] WM:=by
 intro b s σ H f c Q I r h;obtain⟨e,h⟩:=h;subst e;cases r;exact assignInOrder_nil ⟨σ,H,I,h⟩
theorem zt{e:Expr}{c:List Expr}{t:TG}{u:TGs}(h1:PG X e t)(j:PGs X c u)
  (w:(assignEach (e::c) X.env).map (·.2)=assign e X.env::(assignEach c X.env).map (·.2):=by rfl):PGs X (e::c) (xN t u):=by
 intro b s σ H J E Q I r h;obtain⟨v,G,e1,h⟩:=h;subst e1;cases r with
 | cons r B=>
  rw[w];refine assignInOrder_cons (thn (h1 b s σ H _ _ _ I r h) fun _ s1 ⟨D,f,g,A⟩=>?_)
  exact j b s1 D f _ _ Q g B A
inductive VT(K:W.Frag)(n:Nat)(t:TGs)(v:V)(σ:St)(H:Hp)(Q:St->Hp->Prop):Prop
 | mk (a b:_) (_:v=.ref a) (_:SqT K H a b) (_:b.length=n) (_:t b σ H Q):VT K n t v σ H Q
theorem jd{f:List Expr}{k:Nat}{t:TGs}{n:Nat}(hc:X.calm=true)(h:PGs X f t)
  (E:(assignEach f X.env).length=n:=by rfl) (g:(assignEach f X.env).findIdx? (·.1)=none:=by rfl):PG X (.Tuple f k l) (VT X.K n t):=by
 intro c s σ H v u Q I r j;obtain⟨a,L,e1,hq,D,j⟩:=j;subst e1;cases r;obtain⟨J,w,G,hz⟩:=I.tuple hq;refine assign_Tuple_tuple (I.ok.hd hc) G (by simp[E,<- D,w.length]) g fun B hx=>?_
 have A:Inv X c σ H { s with heap:=B }:=I.kept (t':=s.toks) fun b o e=>hx b o (zU (zF e)) e
 exact h c _ σ H L _ Q A (by simpa using w) j
def ziX(to g:TE)(t:zdH):TG:=fun v σ H Q=>to σ H fun o b=>g σ b fun i c=>t o i v c fun f=>Q σ f
theorem JY{o i:Expr}{to g:TE}{t:zdH}(L:PE X o to)(J:PE X i g)(M:zgR X t)
  (G:∀v,assign (.Subscript o i l) X.env v=(do
   let c<-holding [v] (eval o X.env)
   let f<-holding [v,c] (eval i X.env)
   standAt l
   holding [v,c,f] (setItem c f v)
   release [v,c,f] []):=by intro _;rfl):PG X (.Subscript o i l) (ziX to g t):=by
 intro b s σ H v u Q I r h;rw[G];refine zf (x8 (thn (L b s σ H _ I h) fun c s1 ⟨x,j,B,U,N⟩=>?_))
 refine zf (x8 (thn (J b s1 σ j _ B N) fun f s2 ⟨y,w,D,Y,O⟩=>?_))
 refine zf (vL (zf (x8 (thn (M b s2 σ w x y v c f u _ D U Y r O) fun _ s3 ⟨A,E,T⟩=>?_))))
 exact wpAny_release ⟨σ,A,E,T⟩
def Wn(c:TE)(g:TG):TS:=fun D σ H=>c σ H fun x b=>g x σ b D.nx
theorem xi{c e:Expr}{f:TE}{g:TG}(A:PE X e f)(hg:PG X c g)(B:swapsWithSole [c] e l.line X.env=pure false:=by rfl)(E:swappedStores [c] e X.env=pure none:=by rfl)
  (h1:(assignEach [c] X.env).map (·.2)=[assign c X.env]:=by rfl):PS X (.Assign [c] e l) (Wn f g):=by
 intro b s σ H D I h;refine wpAny_Assign_stores (thn (A b s σ H _ I h) fun v s1 ⟨x,j,w,J,G⟩=>?_) B E
 rw[h1];exact thn (hg b s1 σ j x v _ w J G) fun _ s2 q=>q
theorem zA{i:Nat}{x:Str}{e:Expr}{f:TE}{b:Pos}(A:X.N.Nodup)(G:X.N[i]? =some x)(hx:Loc X.env.scope x)(B:PE X e f)(J:swapsWith e (some (.Name x b)) l.line X.env=pure false:=by rfl)(E:X.fn x=true\/X.env.scope.names.lookup x=some .local:=by first| exact .inl rfl | exact .inr rfl | assumption) :
  PS X (.Assign [.Name x b] e l) (Wn f (xa i)):=by
 intro c s σ H D I h;refine wpAny_Assign_Name (thn (B c s σ H _ I h) fun v s1 ⟨y,g,j,M,L⟩=>?_) J
 exact yw j A G hx M (fun s2 w=>⟨_,g,w,L⟩) E
def ziF(i j:Nat)(c:TA):TS:=fun D σ H=>c σ H fun f b=>zix f b fun v w b=>D.nx ((σ.set i (some v)).set j (some w)) b
theorem Ww{i j:Nat}{x y:Str}{a b:Expr}{ta:TA}{N O M:Pos}{L J g}(hc:X.calm=true)(hN:X.N.Nodup)(hi:X.N[i]? =some x)(hj:X.N[j]? =some y)(E:i≠j)
  (hx:X.env.scope.names.lookup x=some .local) (hy:X.env.scope.names.lookup y=some .local) (ha:PA X [a,b] ta)
  (hw:swappedStores [.Tuple [.Name x N,.Name y O] L M] (.Tuple [a,b] J g) X.env=pure (some [x,y]))
  (hs:swapsWithSole [.Tuple [.Name x N,.Name y O] L M] (.Tuple [a,b] J g) l.line X.env=pure false:=by rfl) :
  PS X (.Assign [.Tuple [.Name x N,.Name y O] L M] (.Tuple [a,b] J g) l) (ziF i j ta):=by
 intro f s σ H D I h;rw[exec_Assign_arm];refine zf (vL ?_)
 rw[hs];refine zf (zv ?_)
 rw[zr (by decide)]
 refine zf (Tuple_ (thn (ha _ f s σ H _ I h) fun us s1 ⟨vs,U,I1,r1,Q⟩=>?_))
 obtain⟨v,w,e1,Q⟩:=Q;subst e1;obtain⟨A,B,rfl,rv,T⟩:∃A B,us=[A,B]/\RelV v A/\RelV w B:=by
  cases r1 with
  | cons p q=>
   cases q with
   | cons p' q'=>
    cases q';exact⟨_,_,rfl,p,p'⟩
 refine vf ?_ (by show 2<=sizeLine;decide)
 have I2:Inv X f σ U { s1 with heap:=s1.heap.push { cls:=.type "tuple",data:=.seq [A,B].toArray } }:=I1.kept (t':=s1.toks) fun b o e=>zV _ e
 rw[hw];refine zf (zv ?_)
 show wpAny (model X.prog X.w) X.A (do rule "assign.swapped-stores";let c<-unpackItems (.ref s1.heap.objs.size) 2 none;assignInOrder [fun v=>bindName X.env y v,fun v=>bindName X.env x v] c.reverse;pure Flow.next) _ _ _
 refine zf (x6 (zf (unpackItems_tuple (items:=#[A,B]) (I.ok.hd hc) (IsTup.new s1.heap _) fun h' G=>?_)))
 have I3:=I2.kept (h':=h') (t':=s1.toks) fun b o e=>G b o (zU (zF e)) e
 show wpAny _ _ (assignInOrder [fun v=>bindName X.env y v,fun v=>bindName X.env x v] [B,A] >>= fun _=>pure Flow.next) _ _ _
 refine zf (assignInOrder_cons (wpAny_bindName (yw I3 hN hj (.inl hy) T (fun s2 I4=>?_) (.inr hy))))
 refine assignInOrder_cons (wpAny_bindName (yw I4 hN hi (.inl hx) rv (fun s3 Y=>assignInOrder_nil (zv ?_)) (.inr hx)))
 rw[List.set_comm _ _ (zM E)] at Y;exact⟨_,U,Y,Q⟩
def zg6(to G E:TE)(b:V->V->Hp->VK->Prop)(f:TIp)(c:zdH):TS:=fun D σ H=>to σ H fun o g=>G σ g fun i j=>b o i j fun x s=>E σ s fun y w=>f x y w fun z A=>c o i z A fun B=>D.nx σ B
def zis(X:Cx)(t:V->V->Hp->VK->Prop):Prop:=
 ∀(b:List (Addr×Obj)) (s:Shared) (σ:St) (H:Hp) (o i:V) (f c:Value) (Q:VK),Inv X b σ H s->RelV o f->RelV i c->t o i H Q ->
  wpAny (model X.prog X.w) X.A (getItem f c) (EP X b σ Q) X.xe s
theorem zdZ{o i e:Expr}{to N M:TE}{f:V->V->Hp->VK->Prop}{A:TIp}{g:zdH}{G:Operator}{B:Pos}(ho:PE X o to)(hi:PE X i N)(hg:zis X f)(he:PE X e M)(hp:PIp X G A)(hs:zgR X g)
  (ha:∀w j c,augStore i w j c=(do holding [c,w,j] (setItem w j c);release [c,w,j] [];pure .next):=by intros;rfl):PS X (.AugAssign (.Subscript o i B) G e l) (zg6 to N M f A g):=by
 intro b s σ H D I h;refine wpAny_AugAssign_SubscriptAny (thn (ho b s σ H _ I h) fun w s1 ⟨O,T,I1,J,q1⟩=>?_) ha
 refine thn (hi b s1 σ T _ I1 q1) fun j s2 ⟨Q,U,I2,L,q2⟩=>?_
 refine thn (hg b s2 σ U O Q w j _ I2 J L q2) fun E s3 ⟨x3,Y,I3,r3,q3⟩=>?_
 refine thn (he b s3 σ Y _ I3 q3) fun v s4 ⟨x4,H4,I4,r4,q4⟩=>?_
 refine thn (hp b s4 σ H4 x3 x4 E v _ I4 r3 r4 q4) fun c s5 ⟨x5,H5,I5,r5,q5⟩=>?_
 exact thn (hs b s5 σ H5 O Q x5 w j c _ I5 J L r5 q5) fun _ s6 ⟨H6,I6,q6⟩=>⟨σ,H6,I6,q6⟩
inductive ipI(f:Int->Int->Int)(x:V)(y:V)(H:Hp)(Q:VK):Prop
 | mk (i j:_) (_:x=.int i) (_:y=.int j) (_:Q (.int (f i j)) H):ipI f x y H Q
theorem zgx:PIp X .Add (ipI fun i j=>i+j):=by
 intro b s σ H x y v u Q I c f h;obtain⟨i,j,e1,e2,q⟩:=h;subst e1;subst e2
 obtain⟨t,rfl⟩:=c;obtain⟨g,rfl⟩:=f;exact iadd_int ⟨.int _,H,I.tok _,⟨_,rfl⟩,q⟩
def zfy(c:TT)(w:TS):TS:=fun D σ H=>∃W:Nat->St->Hp->Prop,(∃m,W m σ H)/\∀m σ H,W m σ H ->
 c σ H fun b g=>if b=true then ∃N:St->Hp->Prop,(∀s f,N s f->∃j,j<m/\W j s f)/\w { D with nx:=N,ct:=N,bk:=D.nx } σ g else D.nx σ g
theorem Z9{c:Expr}{body:List Stmt}{tc:TT}{tb:TS}(hp:PassesOwn (model X.prog X.w) X.A X.env X.xe)(hc:PT X c tc)(hb:PSs X body tb):PS X (.While c body [] l) (zfy tc tb):=by
 intro g s σ H D I h;obtain⟨W,⟨m0,w0⟩,w⟩:=h;refine wpAny_While (codeAny_whileLoop (fun n s'=>∃σ' T,Inv X g σ' T s'/\W n σ' T) ?_ m0 ⟨σ,H,I,w0⟩)
 rintro n s1 ⟨G,U,I1,w1⟩;refine yq hp (thn (hc g s1 G U _ I1 (w n G U w1)) fun b s2 ⟨Y,I2,B⟩=>?_)
 cases b with
 | true=>
  obtain⟨N,hN,B⟩:=B;rw[zx rfl];refine yq hp (thn (hb g s2 G Y _ I2 B) fun f s3 E=>?_)
  cases f with
  | next=>
   obtain⟨A,j,J,O⟩:=E;obtain⟨M,L,Q⟩:=hN A j O;exact⟨M,L,A,j,J,Q⟩
  | cont=>
   obtain⟨A,j,J,O⟩:=E;obtain⟨M,L,Q⟩:=hN A j O;exact⟨M,L,A,j,J,Q⟩
  | brk=>exact E
  | ret v=>exact E
 | false=>
  rw[zr qO];exact wpAny_execs_nil ⟨G,Y,I2,B⟩
end
structure It where
 go:Nat->Hp->Prop
 yld:Nat->Hp->V->Hp->Prop
 stop:Nat->Hp->Prop
def xh(X:Cx)(f:List (Addr×Obj))(H:Hp)(b:Addr):Prop:=
 H b=none/\b≠X.env.locals/\b∉X.fs/\(b∈X.ex\/X.s₀.heap.objs.size<=b)/\(∀x c,X.env.cells.lookup x=some c->c≠b)/\∀p∈X.pn++f,p.1≠b
theorem Inv.fpOk{X:Cx}{f:List (Addr×Obj)}{σ:St}{H g:Hp}{s:Shared}{b:Addr}(I:Inv X f σ H s)(hb:s.heap.objs.size<=b)(j:g b=none):xh X f g b:=by
 refine⟨j,vW (jP I.lt hb),I.nofs hb,.inr (qL I.sz hb),fun x c e z=>?_,fun p hp z=>?_⟩
 ·obtain⟨v,q⟩:=I.cell x c e
  exact absurd (jP q.lt (by rw[z];exact hb)) (vM _)
 ·exact absurd (jP (zF (I.pin p hp).1) (by rw[z];exact hb)) (vM _)
structure wX(P:Program)(w:World)(K:W.Frag)(tg:Expr)(J:It)(fp:List Addr)(it:Addr)(tn:Nat->Heap->Prop):Prop where
 mem:it∈fp
 obj:∀i h,tn i h->∀b∈fp,∃o,h.get? b=some o/\∀v,o.data≠.cell v
 keep:∀i h h',tn i h->(∀b∈fp,∀o,h.get? b=some o->h'.get? b=some o)->tn i h'
 item:∀(X:Cx),X.prog=P->X.w=w->X.K=K->X.calm=true->∀(i:Nat) (pins:List (Addr×Obj)) (s:Shared) (σ:St) (H:Hp) (E:Value->Shared->Prop),Inv X pins σ H s->(∀b∈fp,xh X pins H b)->tn i s.heap->J.go i H ->
  wpAny (model P w) X.A (pyNext (.ref it)) (fun r s1=>∃u,r=some u /\
   wpAny (model P w) X.A (letOwnedTupleGo tg (.ref it) u) (fun _ s2=>∃x H',Inv X pins σ H' s2/\RelV x u/\J.yld i H x H'/\tn (i+1) s2.heap/\∀b∈fp,H' b=none) E s1) E s
 done:∀(X:Cx),X.prog=P->X.w=w->X.K=K->X.calm=true->∀(i:Nat) (pins:List (Addr×Obj)) (s:Shared) (σ:St) (H:Hp) (E:Value->Shared->Prop),Inv X pins σ H s->(∀b∈fp,xh X pins H b)->tn i s.heap->J.stop i H ->
  wpAny (model P w) X.A (pyNext (.ref it)) (fun r s1=>r=none/\Inv X pins σ H s1) E s
 self:∀(A:Around) (i:Nat) (s:Shared) (Q:Value->Shared->Prop) (E:Value->Shared->Prop),tn i s.heap->Q (.ref it) s->wpAny (model P w) A (pyIter (.ref it)) Q E s
abbrev TI:=St->Hp->(It->Hp->Prop)->Prop
def PIE(X:Cx)(c:List (Addr×Obj))(σ:St)(w:Expr)(R:It->Hp->Prop)(g:Value)(s2:Shared):Prop:=
 ∃(l:Addr) (j:List Addr) (s:Nat->Heap->Prop) (J:It) (f:Hp),g=.ref l/\Inv X c σ f s2/\wX X.prog X.w X.K w J j l s/\s 0 s2.heap/\(∀b∈j,xh X c f b)/\R J f
def PI(X:Cx)(f c:Expr)(g:TI):Prop:=
 ∀(b:List (Addr×Obj)) (s:Shared) (σ:St) (H:Hp) (R:It->Hp->Prop),Inv X b σ H s->g σ H R ->
  wpAny (model X.prog X.w) X.A (eval c X.env) (fun v s1=>wpAny (model X.prog X.w) X.A (pyIter v) (PIE X b σ f R) X.xe s1) X.xe s
theorem Jx{M:Model}{A:Around}{E:Value->Shared->Prop}{s:Shared}{f:Expr}{c:Addr}{u:Value}{o:Obj}{n:String}{g:Array Value}{Q:Unit->Shared->Prop}(l:s.heap.get? c=some o)(hc:o.cls=.type n)(hd:o.data=.fields g)
  (j:["enumerate", "zip", "dict_itemiterator", "dict_reverseitemiterator", "odict_iterator", "itertools.zip_longest", "itertools.pairwise"].contains n=false) (b:Q () s):wpAny M A (letOwnedTupleGo f (.ref c) u) Q E s:=by
 unfold letOwnedTupleGo;cases f<;>first
  | exact zv b
  | (cases u<;>first
    | exact zv b
    | (refine zf (wpAny_load l ?_)
       rw[hc,hd];show wpAny M A (if(["enumerate", "zip", "dict_itemiterator", "dict_reverseitemiterator", "odict_iterator", "itertools.zip_longest", "itertools.pairwise"].contains n&&g[0]? ==some (rawInt _))=true then _ else _) Q E s
       rw[zr (by intro h;rw[j,Bool.false_and] at h;cases h)]
       exact zv b))
def Itl(K:W.Frag)(a:Addr):It:=
 ⟨fun i H=>∃b x,SqL K H a b/\b[i]? =some x,fun i H x c=>c=H/\∀b,SqL K H a b->b[i]? =some x,fun i H=>∃b,SqL K H a b/\b.length<=i⟩
def Itt(K:W.Frag)(a:Addr):It:=
 ⟨fun i H=>∃b x,SqT K H a b/\b[i]? =some x,fun i H x c=>c=H/\∀b,SqT K H a b->b[i]? =some x,fun i H=>∃b,SqT K H a b/\b.length<=i⟩
def Itr(lo:Int)(n:Nat):It:=⟨fun i _=>i<n,fun i H x b=>b=H/\x=.int (lo+i),fun i _=>n<=i⟩
theorem Jd{P:Program}{w:World}{K:W.Frag}{tg:Expr}(a g:Addr):wX P w K tg (Itl K a) [g] g (fun i h=>h.IsListIter g a i) where
 mem:=by simp
 obj:=fun i h st b hb=>by
  have e:b=g:=by simpa using hb
  subst e;obtain⟨o,e,c,d⟩:=st;exact⟨o,e,fun v z=>by rw[d] at z;cases z⟩
 keep:=fun i h l st k=>st.at fun o e=>k g (by simp) o e
 item:=by
  intro X N O M hc i f s σ H E I A st hg;subst N O M;obtain⟨xs,x,hq,hx⟩:=hg;obtain⟨Q,T,p,hz⟩:=I.list hq;obtain⟨u,hu,ru⟩:=T.get hx;obtain⟨B,D,f2,G,J,L⟩:=A g (by simp)
  refine wpAny_pyNext_list_item st p.isList (x:=u) (by simpa using hu) fun l j sb=>?_
  have U:Inv X f σ H { s with heap:=l }:=I.turned (t':=s.toks) (fun b o hb e=>(sb.2 b hb).trans e) B D G J L
  obtain⟨o,e,c,d⟩:=id j;exact⟨u,rfl,Jx (s:={ s with heap:=l }) e c d (by decide) ⟨x,H,U,ru,⟨rfl,fun ys hy=>by rw[I.list_inj hy hq];exact hx⟩,j,fun b hb=>(A b hb).1⟩⟩
 done:=by
  intro X N O M hc i f s σ H E I A st hg;subst N O M;obtain⟨xs,hq,hx⟩:=hg;obtain⟨Q,T,p,hz⟩:=I.list hq;obtain⟨B,D,f2,G,J,L⟩:=A g (by simp)
  have hl:=T.length;exact wpAny_pyNext_list_end (I.ok.hd hc) st p.isList (by simp;omega) fun l Y=>⟨rfl,I.turned (t':=s.toks) (fun b o hb e=>Y b o hb e) B D G J L⟩
 self:=fun _ _ _ _ _ st h=>wpAny_pyIter_listiter st h
theorem ZX{P:Program}{w:World}{K:W.Frag}{tg:Expr}(a g:Addr):wX P w K tg (Itt K a) [g] g (fun i h=>h.IsTupleIter g a i) where
 mem:=by simp
 obj:=fun i h st b hb=>by
  have e:b=g:=by simpa using hb
  subst e;obtain⟨o,e,c,d⟩:=st;exact⟨o,e,fun v z=>by rw[d] at z;cases z⟩
 keep:=fun i h A st k=>st.at fun o e=>k g (by simp) o e
 item:=by
  intro X O Q N hc i f s σ H E I B st hg;subst O Q N;obtain⟨xs,x,hq,hx⟩:=hg;obtain⟨j,T,p,hz⟩:=I.tuple hq;obtain⟨u,hu,ru⟩:=T.get hx;obtain⟨D,G,f2,J,L,M⟩:=B g (by simp)
  refine wpAny_pyNext_tuple_item st (show s.heap.IsTuple a j.toArray from p) (x:=u) (by simpa using hu) fun A l sb=>?_
  have U:Inv X f σ H { s with heap:=A }:=I.turned (t':=s.toks) (fun b o hb e=>(sb.2 b hb).trans e) D G J L M
  obtain⟨o,e,c,d⟩:=id l;exact⟨u,rfl,Jx (s:={ s with heap:=A }) e c d (by decide) ⟨x,H,U,ru,⟨rfl,fun ys hy=>by rw[I.tuple_inj hy hq];exact hx⟩,l,fun b hb=>(B b hb).1⟩⟩
 done:=by
  intro X O Q N hc i f s σ H E I B st hg;subst O Q N;obtain⟨xs,hq,hx⟩:=hg;obtain⟨j,T,p,hz⟩:=I.tuple hq;obtain⟨D,G,f2,J,L,M⟩:=B g (by simp)
  have hl:=T.length;exact wpAny_pyNext_tuple_end (I.ok.hd hc) st (show s.heap.IsTuple a j.toArray from p) (by simp;omega) fun A Y=>⟨rfl,I.turned (t':=s.toks) (fun b o hb e=>Y b o hb e) D G J L M⟩
 self:=fun _ _ _ _ _ st h=>wpAny_pyIter_tupleiter st h
theorem Wj{P:Program}{w:World}{K:W.Frag}{tg:Expr}(c:Addr)(lo:Int)(n:Nat):wX P w K tg (Itr lo n) [c] c (fun i h=>IsRangeIter h c (lo+(i:Nat)*1) ((n:Int)-(i:Nat)) 1) where
 mem:=by simp
 obj:=fun i h st b hb=>by
  have e:b=c:=by simpa using hb
  subst e;exact⟨_,st,fun v z=>by
   have z':Data.fields _=Data.cell v:=z;cases z'⟩
 keep:=fun i h j st k=>k c (by simp) _ st
 item:=by
  intro X M N L hc i f s σ H E I l st hg;subst M N L;obtain⟨A,B,Y,D,G,J⟩:=l c (by simp)
  have W:=Walks.range (prog:=X.prog) (w:=X.w) (I.ok.hd hc) c lo 1 n;refine W.item i s _ _ hg st fun v j Q hv g kk=>?_
  obtain⟨t,rfl⟩:=hv;have T:Inv X f σ H { s with heap:=j,toks:=Q }:=I.turned (fun b o hb e=>kk b o (by simpa using hb) e) A B D G J
  refine⟨_,rfl,Jx (s:={ s with heap:=j,toks:=Q }) (n:= "range_iterator") g rfl rfl (by decide) ⟨.int (lo+i),H,T,⟨t,?_⟩,⟨rfl,rfl⟩,g,fun b hb=>(l b hb).1⟩⟩
  rw[Int.mul_one]
 done:=by
  intro X M N L hc i f s σ H E I l st hg;subst M N L;obtain⟨A,B,Y,D,G,J⟩:=l c (by simp)
  exact wpAny_pyNext_range_end (I.ok.hd hc) st (by have:n<=i:=hg;omega) fun j U=>⟨rfl,I.turned (t':=s.toks) (fun b o hb e=>U b o hb e) A B D G J⟩
 self:=fun _ _ _ _ _ st h=>wpAny_pyIter_rangeiter st h
section
variable{X:Cx}{c:Expr}
inductive InL(K:W.Frag)(x:V)(H:Hp)(R:It->Hp->Prop):Prop
 | mk (a:Addr) (h:x=.ref a) (e:∃b,SqL K H a b) (r:R (Itl K a) H):InL K x H R
inductive InT(K:W.Frag)(x:V)(H:Hp)(R:It->Hp->Prop):Prop
 | mk (a:Addr) (h:x=.ref a) (e:∃b,SqT K H a b) (r:R (Itt K a) H):InT K x H R
def zft(K:W.Frag)(f:TE):TI:=fun σ H R=>f σ H fun x b=>InL K x b R
def zig(K:W.Frag)(f:TE):TI:=fun σ H R=>f σ H fun x b=>InT K x b R
theorem qH{l:Expr}{j:TE}(A:PE X l j):PI X c l (zft X.K j):=by
 intro f s σ H R I h;refine thn (A f s σ H _ I h) fun v s1 ⟨x,w,g,E,D⟩=>?_
 obtain⟨a,e,⟨L,hq⟩,q⟩:=D;subst e;cases E;obtain⟨B,G,p,hz⟩:=g.list hq;refine wpAny_pyIter_list p.isList ?_
 refine⟨s1.heap.objs.size,[s1.heap.objs.size],_,_,w,rfl,g.kept (t':=s1.toks) fun b o e=>zV _ e,Jd a _,⟨_,zT _ rfl,rfl,rfl⟩,fun b hb=>?_,q⟩
 have e:b=s1.heap.objs.size:=by simpa using hb
 subst e;exact g.fpOk (zC _) (g.hok.fresh (zC _))
theorem xt{l:Expr}{w:TE}(B:PE X l w):PI X c l (zig X.K w):=by
 intro f s σ H R I h;refine thn (B f s σ H _ I h) fun v s1 ⟨x,A,g,E,D⟩=>?_
 obtain⟨a,e,⟨L,hq⟩,q⟩:=D;subst e;cases E;obtain⟨j,G,p,hz⟩:=g.tuple hq;refine wpAny_pyIter_tuple (show s1.heap.IsTuple a j.toArray from p) ?_
 refine⟨s1.heap.objs.size,[s1.heap.objs.size],_,_,A,rfl,g.kept (t':=s1.toks) fun b o e=>zV _ e,ZX a _,⟨_,zT _ rfl,rfl,rfl⟩,fun b hb=>?_,q⟩
 have e:b=s1.heap.objs.size:=by simpa using hb
 subst e;exact g.fpOk (zC _) (g.hok.fresh (zC _))
theorem zcx{g:List (Addr×Obj)}{σ:St}{H:Hp}{s:Shared}{R:It->Hp->Prop}{E:Value->Shared->Prop}{lo f:Int}{t u v:Tok}{l:Nat}(I:Inv X g σ H s)(h1:-(2^62)<=lo)(w:lo<2^62)(A:-(2^62)<=f)(B:f<2^62)
  (q:R (Itr lo (f-lo).toNat) H):wpAny (model X.prog X.w) X.A (pyIter (.ref s.heap.objs.size)) (PIE X g σ c R) E { s with heap:=s.heap.push { cls:=.type "range",data:=.fields #[.int lo t,.int f u,.int 1 v] },toks:=l }:=by
 refine wpAny_pyIter_range (IsRange.new ..) (small_one h1 w A B) ?_
 have j:Inv X g σ H { s with heap:=s.heap.push { cls:=.type "range",data:=.fields #[.int lo t,.int f u,.int 1 v] },toks:=l }:=I.kept fun b o e=>zV _ e
 refine⟨(s.heap.push { cls:=.type "range",data:=.fields #[.int lo t,.int f u,.int 1 v] }).objs.size,[(s.heap.push { cls:=.type "range",data:=.fields #[.int lo t,.int f u,.int 1 v] }).objs.size],_,_,H,rfl,
  j.kept (t':=l) fun b o e=>zV _ e,Wj _ lo (f-lo).toNat,?_,fun b hb=>?_,q⟩
 ·have e1:lo+((0:Nat):Int)*1=lo:=by simp
  have e2:(((f-lo).toNat:Nat):Int)-((0:Nat):Int)=Builtin.Range.rangeSize lo f 1:=by rw[rangeSize_one];split<;>omega
  show IsRangeIter _ _ (lo+((0:Nat):Int)*1) ((((f-lo).toNat:Nat):Int)-((0:Nat):Int)) 1;rw[e1,e2];exact zT _ rfl
 ·have e:b=(s.heap.push { cls:=.type "range",data:=.fields #[.int lo t,.int f u,.int 1 v] }).objs.size:=by simpa using hb
  subst e;exact j.fpOk (zC _) (j.hok.fresh (zC _))
inductive ziy(b:List V)(H:Hp)(R:It->Hp->Prop):Prop
 | mk (j:Int) (h:b=[.int j]) (h1:-(2^62)<=j) (f:j<2^62) (r:R (Itr 0 j.toNat) H):ziy b H R
def zih(f:TA):TI:=fun σ H R=>f σ H fun g b=>ziy g b R
theorem jx{a:Expr}{l:TA}{p f:Pos}(hg:Gl X "range")(B:X.mg "range" = none)(A:PA X [a] l)(D:starEach [a] X.env=[(false,eval a X.env)]:=by rfl):PI X c (.Call (.Name "range" p) [a] [] f) (zih l):=by
 intro b s σ H R I h;refine Call_ (vt I hg B boot_range (QE (thn (A f b s σ H _ I h) fun M s1 ⟨N,L,w,G,g⟩=>?_) D rfl))
 obtain⟨j,e,g,E,q⟩:=g;subst e;cases G with
 | cons r J=>
  cases J;obtain⟨t,rfl⟩:=r;exact call_range_1 (zcx w (by omega) (by omega) g E (by simpa using q))
def ziL(A:TI)(g:TG)(w:TS):TS:=fun D σ H=>A σ H fun J l=>∃W:Nat->Nat->St->Hp->Prop,(∃m,W 0 m σ l)/\∀i m σ H,W i m σ H ->
 (J.stop i H/\D.nx σ H)\/(J.go i H/\∃N:St->Hp->Prop,(∀j b,N j b->∃f,f<m/\W (i+1) f j b)/\∀x b,J.yld i H x b->g x σ b fun B s=>w { D with nx:=N,ct:=N,bk:=D.nx } B s)
def qz(f:List Addr)(h:Heap):List (Addr×Obj):=f.filterMap fun b=>(h.get? b).map fun o=>(b,o)
theorem jk{f:List Addr}{h:Heap}{b:Addr}{o:Obj}(hb:b∈f)(e:h.get? b=some o):(b,o)∈qz f h:=Yi.mpr ⟨b,hb,by rw[e];rfl⟩
theorem vH{f:List Addr}{h:Heap}{p:Addr×Obj}(hp:p∈qz f h):p.1∈f/\h.get? p.1=some p.2:=by
 obtain⟨b,hb,e⟩:=Yi.mp hp;cases q:h.get? b with
 | none=>rw[q] at e;cases e
 | some o=>
  rw[q] at e;have g:(b,o)=p:=jt e;subst g;exact⟨hb,q⟩
theorem Inv.pinned{f:List (Addr×Obj)}{σ:St}{H:Hp}{s:Shared}{fp:List Addr}(I:Inv X f σ H s)(A:∀b∈fp,xh X f H b)(B:∀b∈fp,∃o,s.heap.get? b=some o/\∀v,o.data≠.cell v):Inv X (f++qz fp s.heap) σ H s:=
 I.pins_of fun p hp=>(qM.mp hp).elim (fun z=>I.pin p (qD _ z)) fun z=>by
  obtain⟨hb,e⟩:=vH z;obtain⟨j,l,w,_⟩:=A p.1 hb;obtain⟨o,g,d⟩:=B p.1 hb;rw[e] at g;cases g
  exact⟨e,j,l,w,d⟩
theorem Inv.unpinned{b f:List (Addr×Obj)}{σ:St}{H:Hp}{s:Shared}(I:Inv X (b++f) σ H s):Inv X b σ H s:=I.pins_of fun p hp=>I.pin p (qD _ (j3 _ hp))
theorem jA{A:Expr}{body:List Stmt}{wi:TI}{g:TG}{tb:TS}{ac:Pos}(hp:PassesOwn (model X.prog X.w) X.A X.env X.xe)(hc:X.calm=true)(hi:PI X c A wi)(hg:PG X c g)(hb:PSs X body tb)
  (hs:∀x,foldedSetIterable A X.env x=pure x:=by intro _;rfl):PS X (.For c A body [] ac) (ziL wi g tb):=by
 intro j s σ H D I h;refine wpAny_For (thn (hi j s σ H _ I h) fun v s1 h1=>thn h1 fun af s2 h2=>?_) hs
 obtain⟨it,O,tn,J,H2,e,I2,T,ae,f2,W,⟨m0,w0⟩,a0⟩:=h2;subst e;have B:∀{G:Hp},(∀b∈O,G b=none)->∀b∈O,xh X j G b:=fun hn b hb=>⟨hn b hb,(f2 b hb).2⟩
 refine codeAny_forLoop_any (fun n s'=>∃i σ' G,Inv X j σ' G s'/\tn i s'.heap/\(∀b∈O,G b=none)/\W i n σ' G) ?_ m0 ⟨0,σ,H2,I2,ae,fun b hb=>(f2 b hb).1,w0⟩
 rintro n s3 ⟨i,σ3,H3,I3,Y,Q,w3⟩;rcases a0 i n σ3 H3 w3 with ⟨stop,qn⟩ | ⟨go,N,hN,step⟩
 ·refine yq hp (thn (T.done X rfl rfl rfl hc i j s3 σ3 H3 X.xe I3 (B Q) Y stop) fun r s4 ⟨hr,I4⟩=>?_)
  subst hr;exact wpAny_execs_nil ⟨σ3,H3,I4,qn⟩
 ·refine yq hp (thn (T.item X rfl rfl rfl hc i j s3 σ3 H3 X.xe I3 (B Q) Y go) fun r s4 ⟨u,hr,h4⟩=>?_)
  subst hr;refine yq hp (thn h4 fun _ s5 ⟨x,H5,I5,r5,y5,M,ab⟩=>?_)
  have aa:=I5.pinned (B ab) (T.obj _ _ M);refine yq hp (thn (hg _ s5 σ3 H5 x u _ aa r5 (step x H5 y5)) fun _ s6 ⟨σ6,H6,I6,q6⟩=>?_)
  refine yq hp (thn (hb _ s6 σ6 H6 _ I6 q6) fun f s7 L=>?_)
  have again:∀{E:St} {l:Hp},Inv X (j++qz O s5.heap) E l s7->N E l->∃m,m<n/\∃i σ' G,Inv X j σ' G s7/\tn i s7.heap/\(∀b∈O,G b=none)/\W i m σ' G:=fun {E l} w U=>by
   obtain⟨m',hm,w7⟩:=hN E l U;refine⟨m',hm,i+1,E,l,w.unpinned,T.keep _ _ _ M fun b hb o e=>(w.pin (b,o) (qD _ (qD _ (jk hb e)))).1,fun b hb=>?_,w7⟩
   obtain⟨o,e,d⟩:=T.obj _ _ M b hb;exact(w.pin (b,o) (qD _ (qD _ (jk hb e)))).2.1
  cases f with
  | next=>obtain⟨E,l,w,U⟩:=L;exact again w U
  | cont=>obtain⟨E,l,w,U⟩:=L;exact again w U
  | brk=>obtain⟨E,l,w,L⟩:=L;exact⟨E,l,w.unpinned,L⟩
  | ret v=>obtain⟨x7,E,l,w,r7,L⟩:=L;exact⟨x7,E,l,w.unpinned,r7,L⟩
end
theorem xE{K:W.Frag}{a:Addr}{xs:List V}{g:TG}{w:TS}{D:Q7}{σ:St}{H:Hp}(Pv:Nat->St->Hp->Prop)(A:Pv 0 σ H)(E:∀i σ H,i<=xs.length->Pv i σ H->SqL K H a xs)
  (G:∀i x σ H,xs[i]? =some x->Pv i σ H->g x σ H fun l f=>w { D with nx:=Pv (i+1),ct:=Pv (i+1),bk:=D.nx } l f) (hd:∀σ H,Pv xs.length σ H->D.nx σ H) :
  ∃W:Nat->Nat->St->Hp->Prop,(∃m,W 0 m σ H)/\∀i m σ H,W i m σ H ->
   ((Itl K a).stop i H/\D.nx σ H)\/((Itl K a).go i H/\∃N:St->Hp->Prop,(∀j b,N j b->∃s,s<m/\W (i+1) s j b)/\∀x b,(Itl K a).yld i H x b->g x σ b fun l f=>w { D with nx:=N,ct:=N,bk:=D.nx } l f):=by
 refine⟨fun i m σ H=>m=xs.length-i/\i<=xs.length/\Pv i σ H,⟨xs.length,by simp,qV _,A⟩,?_⟩
 rintro i m σ H ⟨rfl,B,p⟩;have q:=E i σ H B p;by_cases c:i<xs.length
 ·refine .inr ⟨⟨xs,xs[i],q,by simp[c]⟩,Pv (i+1),fun j b I=>⟨xs.length-(i+1),by omega,rfl,c,I⟩,fun x b y=>?_⟩
  obtain⟨e,y⟩:=y;subst e;exact G i x σ _ (y xs q) p
 ·have e:i=xs.length:=by omega
  subst e;exact .inl ⟨⟨xs,q,zC _⟩,hd σ H p⟩
theorem zew{K:W.Frag}{a:Addr}{xs:List V}{g:TG}{w:TS}{D:Q7}{σ:St}{H:Hp}(Pv:Nat->St->Hp->Prop)(A:Pv 0 σ H)(E:∀i σ H,i<=xs.length->Pv i σ H->SqT K H a xs)
  (G:∀i x σ H,xs[i]? =some x->Pv i σ H->g x σ H fun l f=>w { D with nx:=Pv (i+1),ct:=Pv (i+1),bk:=D.nx } l f) (hd:∀σ H,Pv xs.length σ H->D.nx σ H) :
  ∃W:Nat->Nat->St->Hp->Prop,(∃m,W 0 m σ H)/\∀i m σ H,W i m σ H ->
   ((Itt K a).stop i H/\D.nx σ H)\/((Itt K a).go i H/\∃N:St->Hp->Prop,(∀j b,N j b->∃s,s<m/\W (i+1) s j b)/\∀x b,(Itt K a).yld i H x b->g x σ b fun l f=>w { D with nx:=N,ct:=N,bk:=D.nx } l f):=by
 refine⟨fun i m σ H=>m=xs.length-i/\i<=xs.length/\Pv i σ H,⟨xs.length,by simp,qV _,A⟩,?_⟩
 rintro i m σ H ⟨rfl,B,p⟩;have q:=E i σ H B p;by_cases c:i<xs.length
 ·refine .inr ⟨⟨xs,xs[i],q,by simp[c]⟩,Pv (i+1),fun j b I=>⟨xs.length-(i+1),by omega,rfl,c,I⟩,fun x b y=>?_⟩
  obtain⟨e,y⟩:=y;subst e;exact G i x σ _ (y xs q) p
 ·have e:i=xs.length:=by omega
  subst e;exact .inl ⟨⟨xs,q,zC _⟩,hd σ H p⟩
theorem jR{lo:Int}{n:Nat}{g:TG}{w:TS}{D:Q7}{σ:St}{H:Hp}(Pv:Nat->St->Hp->Prop)(A:Pv 0 σ H)
  (B:∀i σ H,i<n->Pv i σ H->g (.int (lo+i)) σ H fun l f=>w { D with nx:=Pv (i+1),ct:=Pv (i+1),bk:=D.nx } l f) (hd:∀σ H,Pv n σ H->D.nx σ H) :
  ∃W:Nat->Nat->St->Hp->Prop,(∃m,W 0 m σ H)/\∀i m σ H,W i m σ H ->
   ((Itr lo n).stop i H/\D.nx σ H)\/((Itr lo n).go i H/\∃N:St->Hp->Prop,(∀j b,N j b->∃s,s<m/\W (i+1) s j b)/\∀x b,(Itr lo n).yld i H x b->g x σ b fun l f=>w { D with nx:=N,ct:=N,bk:=D.nx } l f):=by
 refine⟨fun i m σ H=>m=n-i/\i<=n/\Pv i σ H,⟨n,by simp,qV _,A⟩,?_⟩
 rintro i m σ H ⟨rfl,G,p⟩;by_cases c:i<n
 ·refine .inr ⟨c,Pv (i+1),fun j b E=>⟨n-(i+1),by omega,rfl,c,E⟩,fun x b y=>?_⟩
  obtain⟨e,y⟩:=y;subst e y;exact B i σ _ c p
 ·have e:i=n:=by omega
  subst e;exact .inl ⟨zC _,hd σ H p⟩
abbrev R2:=V->V->Hp->VK->Prop
def OpR(X:Cx)(f:Value->Value->Sem Value)(r:R2):Prop:=
 ∀(b:List (Addr×Obj)) (s:Shared) (σ:St) (H:Hp) (x y:V) (v u:Value) (Q:VK),Inv X b σ H s->RelV x v->RelV y u->r x y H Q ->
  wpAny (model X.prog X.w) X.A (f v u) (EP X b σ Q) X.xe s
def UnR(X:Cx)(f:Value->Sem Value)(r:V->Hp->VK->Prop):Prop:=
 ∀(b:List (Addr×Obj)) (s:Shared) (σ:St) (H:Hp) (x:V) (v:Value) (Q:VK),Inv X b σ H s->RelV x v->r x H Q ->
  wpAny (model X.prog X.w) X.A (f v) (EP X b σ Q) X.xe s
def CallR(X:Cx)(f:Value)(r:List V->Hp->VK->Prop):Prop:=
 ∀(b:List (Addr×Obj)) (s:Shared) (σ:St) (H:Hp) (g:List V) (c:List Value) (Q:VK),Inv X b σ H s->Vals g c->r g H Q ->
  wpAny (model X.prog X.w) X.A (call f c) (EP X b σ Q) X.xe s
def tOp(r:R2)(f g:TE):TE:=fun σ H Q=>f σ H fun x b=>g σ b fun y c=>r x y c Q
def tUn(r:V->Hp->VK->Prop)(c:TE):TE:=fun σ H Q=>c σ H fun x b=>r x b Q
inductive rI(C:Int->Int->Prop)(g:Int->Int->V)(x:V)(y:V)(H:Hp)(Q:VK):Prop
 | mk (i j:_) (_:x=.int i) (_:y=.int j) (_:C i j) (_:Q (g i j) H):rI C g x y H Q
inductive rI0(g:Int->Int->V)(x:V)(y:V)(H:Hp)(Q:VK):Prop
 | mk (i j:_) (_:x=.int i) (_:y=.int j) (_:Q (g i j) H):rI0 g x y H Q
inductive rU(g:Int->V)(x:V)(H:Hp)(Q:VK):Prop
 | mk (i:_) (_:x=.int i) (_:Q (g i) H):rU g x H Q
section
variable{X:Cx}{a b c:Expr}{l A B:TE}{w:Pos}
theorem zgN(J:PE X a l)(hb:PE X b A){g:List (Addr×Obj)}{s:Shared}{σ:St}{H:Hp}{R:V->V->Hp->Prop}(I:Inv X g σ H s)
  (h:l σ H fun x D=>A σ D fun y j=>R x y j) {Q:Value->Shared->Prop} {f:Value->Value->Sem Value}
  (L:∀v u s2 x y j,Inv X g σ j s2->RelV x v->RelV y u->R x y j->wpAny (model X.prog X.w) X.A (f v u) Q X.xe s2) :
  wpAny (model X.prog X.w) X.A (eval a X.env) (fun v U=>wpAny (model X.prog X.w) X.A (eval b X.env) (fun u Y=>wpAny (model X.prog X.w) X.A (f v u) Q X.xe Y) X.xe U) X.xe s:=by
 refine thn (J g s σ H _ I h) fun v s1 ⟨x,D,E,O,M⟩=>?_
 refine thn (hb g s1 σ D _ E M) fun u s2 ⟨y,j,G,T,N⟩=>?_
 exact L v u s2 x y j G O T N
theorem zJ{g:Operator}{r:R2}(G:OpR X (binaryOp g) r)(E:PE X a l)(hb:PE X b A):PE X (.BinOp a g b w) (tOp r l A):=by
 intro f s σ H Q I h;exact wpAny_BinOp (zgN E hb I h fun v u s2 x y j D J L q=>G f s2 σ j x y v u Q D J L q)
theorem zhH{g:UnaryOp}{r:V->Hp->VK->Prop}(G:UnR X (unaryOp g) r)(E:PE X a l):PE X (.UnaryOp g a w) (tUn r l):=by
 intro f s σ H Q I h;exact UnaryOp_ (thn (E f s σ H _ I h) fun v s1 ⟨x,j,D,L,J⟩=>G f s1 σ j x v Q D L J)
theorem opI{f:Value->Value->Sem Value}{C:Int->Int->Prop}{g:Int->Int->Int}
  (rule:∀(i j:Int) (t u:Tok) (s:Shared) (Q:Value->Shared->Prop) (E:Value->Shared->Prop),C i j->Q (.int (g i j) s.toks) { s with toks:=s.toks+1 }->wpAny (model X.prog X.w) X.A (f (.int i t) (.int j u)) Q E s) :
  OpR X f (rI C fun i j=>.int (g i j)):=by
 intro D s σ H x y v u Q I G J h;obtain⟨i,j,rfl,rfl,hc,q⟩:=h;obtain⟨t,rfl⟩:=G;obtain⟨L,rfl⟩:=J;exact rule i j t L s _ _ hc ⟨.int (g i j),H,I.tok _,⟨_,rfl⟩,q⟩
theorem zhM{f:Value->Value->Sem Value}{g:Int->Int->Int}
  (rule:∀(i j:Int) (t u:Tok) (s:Shared) (Q:Value->Shared->Prop) (E:Value->Shared->Prop),Q (.int (g i j) s.toks) { s with toks:=s.toks+1 }->wpAny (model X.prog X.w) X.A (f (.int i t) (.int j u)) Q E s) :
  OpR X f (rI0 fun i j=>.int (g i j)):=by
 intro D s σ H x y v u Q I G J h;obtain⟨i,j,rfl,rfl,q⟩:=h;obtain⟨t,rfl⟩:=G;obtain⟨L,rfl⟩:=J;exact rule i j t L s _ _ ⟨.int (g i j),H,I.tok _,⟨_,rfl⟩,q⟩
theorem zd8{f:Value->Value->Sem Value}{g:Int->Int->Bool}
  (rule:∀(i j:Int) (t u:Tok) (s:Shared) (Q:Value->Shared->Prop) (E:Value->Shared->Prop),Q (.bool (g i j)) s->wpAny (model X.prog X.w) X.A (f (.int i t) (.int j u)) Q E s) :
  OpR X f (rI0 fun i j=>.bl (g i j)):=by
 intro D s σ H x y v u Q I G J h;obtain⟨i,j,rfl,rfl,q⟩:=h;obtain⟨t,rfl⟩:=G;obtain⟨L,rfl⟩:=J;exact rule i j t L s _ _ ⟨.bl (g i j),H,I,rfl,q⟩
def ziA(i j:Int):Prop:=0<j/\j<1073741824
def zi1(i j:Int):Prop:=0<=j/\j<=1000000/\i.natAbs<2^64
def CMul(i j:Int):Prop:=(-(2^64)<i/\i<2^64)\/(-(2^64)<j/\j<2^64)
theorem CMul.ok{i j:Int}(h:CMul i j):IntMulOk i j:=by
 rcases h with ⟨h1,f⟩ | ⟨h1,f⟩
 ·exact .of_left (intBits_le_64 h1 f)
 ·exact .of_right (intBits_le_64 h1 f)
theorem qR:OpR X (binaryOp .Add) (rI0 fun i j=>.int (i+j)):=zhM fun _ _ _ _ _ _ _ q=>add_int q
theorem wg:OpR X (binaryOp .Sub) (rI0 fun i j=>.int (i-j)):=zhM fun _ _ _ _ _ _ _ q=>sub_int q
theorem xY:OpR X (binaryOp .Mult) (rI CMul fun i j=>.int (i*j)):=opI fun _ _ _ _ _ _ _ hc q=>mul_int q hc.ok
theorem zag:OpR X (binaryOp .FloorDiv) (rI ziA fun i j=>.int (i/j)):=opI fun i j _ _ _ _ _ hc q=>by
 have h1:(0:Int)<j:=hc.1;have f:j<1073741824:=hc.2;exact floordiv_int (by omega) (by rw[zdA i (by omega)];exact q) (.inl (PyProof.noPylong_small (by omega)))
theorem xL:OpR X (binaryOp .Mod) (rI (fun _ j=>0<j) fun i j=>.int (i % j)):=opI fun i j _ _ _ _ _ hc q=>by
 have h1:(0:Int)<j:=hc;exact mod_int' (by omega) (by rw[zdz i (by omega)];exact q)
theorem zf6:OpR X (binaryOp .Pow) (rI zi1 fun i j=>.int (i^j.toNat)):=opI fun _ _ _ _ _ _ _ hc q=>pow_int_small hc.1 hc.2.1 hc.2.2 q
theorem unI{f:Value->Sem Value}{g:Int->Int}
  (rule:∀(i:Int) (t:Tok) (s:Shared) (Q:Value->Shared->Prop) (E:Value->Shared->Prop),Q (.int (g i) s.toks) { s with toks:=s.toks+1 }->wpAny (model X.prog X.w) X.A (f (.int i t)) Q E s) :
  UnR X f (rU fun i=>.int (g i)):=by
 intro j s σ H x v Q I D h;obtain⟨i,rfl,q⟩:=h;obtain⟨t,rfl⟩:=D;exact rule i t s _ _ ⟨.int (g i),H,I.tok _,⟨_,rfl⟩,q⟩
theorem zfx:UnR X (unaryOp .USub) (rU fun i=>.int (-i)):=unI fun _ _ _ _ _ q=>neg_int q
end
def zhj:V->V->Bool
 | .non,.non=>true | .non,.int _=>true | .int _,.non=>true | .non,.bl _=>true | .bl _,.non=>true | .non,.str _=>true | .str _,.non=>true
 | .int _,.int _=>true | .bl _,.bl _=>true | .str _,.str _=>true | .byt _,.byt _=>true
 | .int _,.str _=>true | .str _,.int _=>true | .bl _,.str _=>true | .str _,.bl _=>true
 | _,_=>false
def rEq:R2:=fun x y H Q=>zhj x y=true/\Q (.bl (decide (x=y))) H
def rNe:R2:=fun x y H Q=>zhj x y=true/\Q (.bl (!decide (x=y))) H
theorem zay{i j:Int}:decide (V.int i=V.int j)=(i==j):=by
 rw[va];simp
theorem zdk{i j:Bool}:decide (V.bl i=V.bl j)=(i==j):=by
 rw[va];simp
theorem zax{i j:Str}:decide (V.str i=V.str j)=(i==j):=by
 rw[va];simp
theorem zaz{i j:Array UInt8}:decide (V.byt i=V.byt j)=(i.toList==j.toList):=by
 rw[va];cases i;cases j;simp
section
variable{X:Cx}{a b c:Expr}{g l A:TE}{w:Pos}
theorem qe{f:List (Addr×Obj)}{σ:St}{H:Hp}{s:Shared}{Q:VK}{k j:Bool}(I:Inv X f σ H s)(q:Q (.bl k) H)(e:k=j):EP X f σ Q (.bool j) s:=by
 subst e;exact⟨.bl k,H,I,rfl,q⟩
theorem j9:OpR X (compareOp .Eq) rEq:=by
 intro G s σ H x y v u Q I E f h;obtain⟨D,q⟩:=h;cases x with
 | non=>
  cases E;cases y with
  | non=>cases f;exact PySem.EqNone.eq_none_none (qe I q (by simp))
  | bl j=>cases f;exact PySem.EqNone.eq_none_bool (qe I q (by simp))
  | int j=>obtain⟨B,rfl⟩:=f;exact PySem.EqNone.eq_none_int (qe I q (by simp))
  | str j=>obtain⟨B,rfl⟩:=f;exact PySem.EqNone.eq_none_str (qe I q (by simp))
  | _=>exact absurd (show false=true from D) qO
 | bl i=>
  cases E;cases y with
  | non=>cases f;exact PySem.EqNone.eq_bool_none (qe I q (by simp))
  | bl j=>cases f;exact eq_bool (qe I q zdk)
  | str j=>obtain⟨B,rfl⟩:=f;exact PySem.EqMixed.eq_bool_str (qe I q (by simp))
  | _=>exact absurd (show false=true from D) qO
 | int i=>
  obtain⟨t,rfl⟩:=E;cases y with
  | non=>cases f;exact PySem.EqNone.eq_int_none (qe I q (by simp))
  | int j=>obtain⟨B,rfl⟩:=f;exact eq_int (qe I q zay)
  | str j=>obtain⟨B,rfl⟩:=f;exact PySem.EqMixed.eq_int_str (qe I q (by simp))
  | _=>exact absurd (show false=true from D) qO
 | str i=>
  obtain⟨t,rfl⟩:=E;cases y with
  | non=>cases f;exact PySem.EqNone.eq_str_none (qe I q (by simp))
  | bl j=>cases f;exact PySem.EqMixed.eq_str_bool (qe I q (by simp))
  | int j=>obtain⟨B,rfl⟩:=f;exact PySem.EqMixed.eq_str_int (qe I q (by simp))
  | str j=>obtain⟨B,rfl⟩:=f;exact eq_str (qe I q zax)
  | _=>exact absurd (show false=true from D) qO
 | byt i=>
  obtain⟨t,rfl⟩:=E;cases y with
  | byt j=>obtain⟨B,rfl⟩:=f;exact PySem.W.eq_bytes (qe I q zaz)
  | _=>exact absurd (show false=true from D) qO
 | _=>cases y<;>exact absurd (show false=true from D) qO
theorem Qh:OpR X (compareOp .NotEq) rNe:=by
 intro G s σ H x y v u Q I E f h;obtain⟨D,q⟩:=h;cases x with
 | non=>
  cases E;cases y with
  | non=>cases f;exact PySem.EqNone.ne_none_none (qe I q (by simp))
  | bl j=>cases f;exact PySem.EqNone.ne_none_bool (qe I q (by simp))
  | int j=>obtain⟨B,rfl⟩:=f;exact PySem.EqNone.ne_none_int (qe I q (by simp))
  | str j=>obtain⟨B,rfl⟩:=f;exact PySem.EqNone.ne_none_str (qe I q (by simp))
  | _=>exact absurd (show false=true from D) qO
 | bl i=>
  cases E;cases y with
  | non=>cases f;exact PySem.EqNone.ne_bool_none (qe I q (by simp))
  | bl j=>cases f;exact ne_bool (qe I q (congrArg not zdk))
  | str j=>obtain⟨B,rfl⟩:=f;exact PySem.EqMixed.ne_bool_str (qe I q (by simp))
  | _=>exact absurd (show false=true from D) qO
 | int i=>
  obtain⟨t,rfl⟩:=E;cases y with
  | non=>cases f;exact PySem.EqNone.ne_int_none (qe I q (by simp))
  | int j=>obtain⟨B,rfl⟩:=f;exact ne_int (qe I q (congrArg not zay))
  | str j=>obtain⟨B,rfl⟩:=f;exact PySem.EqMixed.ne_int_str (qe I q (by simp))
  | _=>exact absurd (show false=true from D) qO
 | str i=>
  obtain⟨t,rfl⟩:=E;cases y with
  | non=>cases f;exact PySem.EqNone.ne_str_none (qe I q (by simp))
  | bl j=>cases f;exact PySem.EqMixed.ne_str_bool (qe I q (by simp))
  | int j=>obtain⟨B,rfl⟩:=f;exact PySem.EqMixed.ne_str_int (qe I q (by simp))
  | str j=>obtain⟨B,rfl⟩:=f;exact ne_str (qe I q (congrArg not zax))
  | _=>exact absurd (show false=true from D) qO
 | byt i=>
  obtain⟨t,rfl⟩:=E;cases y with
  | byt j=>obtain⟨B,rfl⟩:=f;exact PySem.W.ne_bytes (qe I q (congrArg not zaz))
  | _=>exact absurd (show false=true from D) qO
 | _=>cases y<;>exact absurd (show false=true from D) qO
theorem Vr:OpR X (compareOp .Lt) (rI0 fun i j=>.bl (decide (i<j))):=zd8 fun _ _ _ _ _ _ _ q=>lt_int q
theorem Vs:OpR X (compareOp .LtE) (rI0 fun i j=>.bl (decide (i<=j))):=zd8 fun _ _ _ _ _ _ _ q=>le_int q
theorem zaf:OpR X (compareOp .Gt) (rI0 fun i j=>.bl (decide (j<i))):=zd8 fun _ _ _ _ _ _ _ q=>gt_int q
theorem zhL:OpR X (compareOp .GtE) (rI0 fun i j=>.bl (decide (j<=i))):=zd8 fun _ _ _ _ _ _ _ q=>ge_int q
inductive ZB(x:V)(y:V)(H:Hp)(Q:VK):Prop
 | mk (i j:_) (_:x=.str i) (_:y=.str j) (_:Q (.bl (!(Builtin.Str.occurrences j i 0 j.length 1).isEmpty)) H):ZB x y H Q
theorem zbc:OpR X (compareOp .In) (ZB):=by
 intro f s σ H x y v u Q I B D h;obtain⟨i,j,rfl,rfl,q⟩:=h;obtain⟨t,rfl⟩:=B;obtain⟨E,rfl⟩:=D;exact in_str (qe I q rfl)
theorem yX:OpR X (compareOp .Is) (fun x y H Q=>y=.non/\Q (.bl (decide (x=.non))) H):=by
 intro f s σ H x y v u Q I j B h;obtain⟨rfl,q⟩:=h;cases B;refine is_none_gen (qe I q ?_)
 cases x<;>first
  | (cases j;rfl)
  | (obtain⟨t,rfl⟩:=j;rfl)
theorem zd7:OpR X (compareOp .IsNot) (fun x y H Q=>y=.non/\Q (.bl (!decide (x=.non))) H):=by
 intro f s σ H x y v u Q I j B h;obtain⟨rfl,q⟩:=h;cases B;refine isnot_none_gen (qe I q ?_)
 cases x<;>first
  | (cases j;rfl)
  | (obtain⟨t,rfl⟩:=j;rfl)
theorem OpR.or{f:Value->Value->Sem Value}{r B:R2}(h:OpR X f r)(G:OpR X f B):OpR X f (fun x y H Q=>r x y H Q\/B x y H Q):=by
 intro j s σ H x y v u Q I D E q;rcases q with q | q
 ·exact h j s σ H x y v u Q I D E q
 ·exact G j s σ H x y v u Q I D E q
theorem zH(b:Expr){f:CmpOp}(h:f≠.In:=by decide)(j:f≠.NotIn:=by decide):behindInMarks f b=false:=by
 have e1:(f==CmpOp.In)=false:=by cases f<;>first| rfl | exact absurd rfl h
 have e2:(f==CmpOp.NotIn)=false:=by cases f<;>first| rfl | exact absurd rfl j
 cases b<;>simp[behindInMarks,e1,e2]
theorem qB{j:CmpOp}{r:R2}(J:OpR X (compareOp j) r)(E:PE X a g)(hb:PE X b l)(G:behindInMarks j b=false):PE X (.Compare a [j] [b] w) (tOp r g l):=by
 intro f s σ H Q I h;exact wpAny_Compare1 (zgN E hb I h fun v u s2 x y B D L M q=>J f s2 σ B x y v u Q D L M q) G
def zeR(t:TE):TT:=fun σ H Q=>t σ H fun x f=>IsB x f Q
theorem zI{j:CmpOp}{r:R2}(O:OpR X (compareOp j) r)(M:PE X a g)(hb:PE X b l)(N:behindInMarks j b=false):PT X (.Compare a [j] [b] w) (zeR (tOp r g l)):=by
 intro f s σ H Q I h;refine wpAny_isTrue_Compare1 (thn (M f s σ H _ I h) fun v s1 ⟨x,B,G,r1,T⟩=>thn (hb f s1 σ B _ G T) fun u s2 ⟨y,D,J,r2,U⟩=>
  thn (O f s2 σ D x y v u _ J r1 r2 U) fun c s3 ⟨z,E,L,r3,k,e,Y⟩=>?_) N
 subst e;cases r3;exact vZ ⟨E,L,Y⟩
def zbU(r D:R2)(g l A:TE):TE:=fun σ H Q=>g σ H fun x j=>l σ j fun y s=>r x y s fun z f=>∃k,z=.bl k /\
 (if k=true then A σ f fun E B=>D y E B Q else Q (.bl false) f)
theorem zcL{D j:CmpOp}{r L:R2}(ho:OpR X (compareOp D) r)(B:OpR X (compareOp j) L)(ha:PE X a g)(hb:PE X b l)(hc:PE X c A)
  (hm:lastMarks [D,j] [b,c]=false:=by with_unfolding_all rfl):PE X (.Compare a [D,j] [b,c] w) (zbU r L g l A):=by
 intro f s σ H Q I h;refine Compare_chain (thn (ha f s σ H _ I h) fun v s1 ⟨x,N,U,r1,q1⟩=>chain_link (thn (hb f s1 σ N _ U q1) fun u s2 ⟨y,O,Y,M,q2⟩=>
  thn (ho f s2 σ O x y v u _ Y r1 M q2) fun d s3 ⟨z,E,G,r3,k,e,J⟩=>?_)) hm
 subst e;cases r3;refine vZ ?_
 cases k with
 | false=>exact ite_ff ⟨.bl false,E,G,rfl,J⟩
 | true=>exact ite_tt (chain_last (thn (hc f s3 σ E _ G J) fun w' s4 ⟨z',T,I4,r4,q4⟩=>B f s4 σ T y z' u w' Q I4 M r4 q4))
theorem zcA{D j:CmpOp}{r L:R2}(ho:OpR X (compareOp D) r)(B:OpR X (compareOp j) L)(ha:PE X a g)(hb:PE X b l)(hc:PE X c A)
  (hm:lastMarks [D,j] [b,c]=false:=by with_unfolding_all rfl):PT X (.Compare a [D,j] [b,c] w) (zeR (zbU r L g l A)):=by
 intro f s σ H Q I h;refine isTrue_chain (thn (ha f s σ H _ I h) fun v s1 ⟨x,N,Y,r1,q1⟩=>test_link (thn (hb f s1 σ N _ Y q1) fun u s2 ⟨y,O,I2,M,q2⟩=>
  thn (ho f s2 σ O x y v u _ I2 r1 M q2) fun d s3 ⟨z,E,G,r3,k,e,J⟩=>?_)) hm
 subst e;cases r3;refine vZ ?_
 cases k with
 | false=>
  obtain⟨k',e',q'⟩:=J;cases e';exact ite_ff ⟨E,G,q'⟩
 | true=>
  refine ite_tt (test_last (thn (hc f s3 σ E _ G J) fun w' s4 ⟨z',T,I4,r4,q4⟩=>thn (B f s4 σ T y z' u w' _ I4 M r4 q4) fun d' s5 ⟨z2,U,I5,r5,k2,e2,q5⟩=>?_))
  subst e2;cases r5;exact vZ ⟨U,I5,q5⟩
theorem yf:(sizeLine:Nat)<2^63:=by rw[sizeLine_eq];decide
inductive yO(x:V)(y:V)(H:Hp)(Q:VK):Prop
 | mk (i j:_) (_:x=.str i) (_:y=.str j) (_:i.length+j.length<=sizeLine) (_:Q (.str (i++j)) H):yO x y H Q
theorem WC:OpR X (binaryOp .Add) (yO):=by
 intro f s σ H x y v u Q I B D h;obtain⟨i,j,rfl,rfl,hz,q⟩:=h;obtain⟨t,rfl⟩:=B;obtain⟨E,rfl⟩:=D;exact add_str (fun E G=>⟨.str (i++j),H,I.tok _,⟨_,rfl⟩,q⟩) hz
theorem xW{x:V}{f:List Value}(r:Vals [x] f):∃u,f=[u]/\RelV x u:=by
 cases r with
 | cons j s=>cases s;exact⟨_,rfl,j⟩
theorem Ja{x y:V}{f:List Value}(r:Vals [x,y] f):∃u j,f=[u,j]/\RelV x u/\RelV y j:=by
 cases r with
 | cons s B=>
  cases B with
  | cons D E=>cases E;exact⟨_,_,rfl,s,D⟩
inductive QZ(f:List V)(H:Hp)(Q:VK):Prop
 | mk (i:_) (_:f=[.int i]) (_:Q (.int (if i<0 then -i else i)) H):QZ f H Q
theorem V4:CallR X (.builtin "abs") (QZ):=by
 intro f s σ H D B Q I r h;obtain⟨i,rfl,q⟩:=h;obtain⟨u,rfl,t,rfl⟩:=xW r;exact call_abs_int fun u j=>⟨.int (if i<0 then -i else i),H,I.tok _,⟨_,rfl⟩,q⟩
inductive ZE(f:List V)(H:Hp)(Q:VK):Prop
 | mk (i j:_) (_:f=[.int i,.int j]) (_:Q (.int (if j>i then j else i)) H):ZE f H Q
theorem JE(hc:X.calm=true):CallR X (.builtin "max") (ZE):=by
 intro B s σ H M J Q I r h;obtain⟨i,j,rfl,q⟩:=h;obtain⟨u,L,rfl,⟨t,rfl⟩,⟨E,rfl⟩⟩:=Ja r;refine max_two_ints (I.ok.hd hc) fun D G k=>⟨_,H,I.kept k,?_,q⟩
 by_cases f:j>i
 ·rw[zx f,zx f];exact⟨_,rfl⟩
 ·rw[zr f,zr f];exact⟨_,rfl⟩
theorem y9:CallR X (.type "int") (fun f H Q=>(∃i,f=[.int i]/\Q (.int i) H)\/∃k,f=[.bl k]/\Q (.int (if k then 1 else 0)) H):=by
 intro j s σ H f D Q I r h;rcases h with ⟨i,rfl,q⟩ | ⟨k,rfl,q⟩
 ·obtain⟨u,rfl,t,rfl⟩:=xW r
  exact call_int_int ⟨.int i,H,I,⟨_,rfl⟩,q⟩
 ·obtain⟨u,rfl,B⟩:=xW r
  cases B;exact call_int_bool ⟨.int (if k then 1 else 0),H,I.tok _,⟨_,rfl⟩,q⟩
inductive yd(f:List V)(H:Hp)(Q:VK):Prop
 | mk (i j:_) (_:f=[.int i,.int j]) (_:ziA i j) (_:∀p,H p=none->Q (.ref p) (upd H p (.tup [.int (i/j),.int (i % j)]))):yd f H Q
theorem V3:CallR X (.builtin "divmod") (yd):=by
 intro f s σ H L G Q I r h;obtain⟨i,j,rfl,⟨h1,D⟩,q⟩:=h;obtain⟨u,J,rfl,⟨t,rfl⟩,⟨E,rfl⟩⟩:=Ja r;refine divmod_int (by omega) ?_ (.inl (PyProof.noPylong_small (by omega)))
 rw[zdA i (by omega),zdz i (by omega)]
 have B:H s.heap.objs.size=none:=I.hok.fresh (zC _);refine⟨.ref s.heap.objs.size,_,?_,rfl,q _ B⟩
 refine I.laid (fun b o e=>zV _ e) (zC _) ⟨by simp only[jV,QL];rw[sizeLine_eq];decide,[.int (i/j) s.toks,.int (i % j) (s.toks+1)],.cons ⟨_,rfl⟩ (.cons ⟨_,rfl⟩ .nil),?_⟩
 exact⟨⟨_,zT s.heap rfl,rfl,0,rfl⟩,_,zT s.heap rfl,rfl⟩
end
structure ObjM(h:Heap)(x dx C:Addr)(mA:Str->Option Value):Prop where
 obj:h.get? x=some (PySem.W.instObj C dx)
 ns:h.Ns1 dx mA
 ne:dx≠x
section
variable{c:Program}{w:World}{A:Around}{E:Value->Shared->Prop}{s:Shared}{K:W.Frag}{x g C f:Addr}{j:Str->Option Value}{b:Str}{v:Value}
end
def putF(f:Str)(v:V):List (Str×V)->List (Str×V)
 | []=>[(f,v)]
 | (g,x)::r=>if g=f then(g,v)::r else(g,x)::putF f v r
theorem RelO.some_of{v:V}{o:Option Value}(r:RelO (some v) o):∃u,o=some u/\RelV v u:=by
 cases o with
 | none=>exact(show False from r).elim
 | some u=>exact⟨u,rfl,r⟩
section
variable{P:Program}{w:World}{H c:Hp}{h g:Heap}{a C f:Addr}{fs b:List (Str×V)}
end
structure Cls(K:W.Frag)(C:Addr):Prop where
 pg:PySem.W.plainGet K C Str.empty=true
 hd:PySem.W.hasDictIn K C=true
 po:PySem.W.plainOver K C=true
 sa:PySem.W.findIn K (.ref C) "__setattr__" = some (some (.builtin "object.__setattr__"))
theorem Cls.get{K:W.Frag}{C:Addr}(c:Cls K C)(f:Str):PySem.W.plainGet K C f=true:=c.pg
structure Con(K:W.Frag)(C:Addr)(f:Str)(v:V)(u:Value):Prop where
 at_:PySem.W.findIn K (.ref C) f=some (some u)
 rel:RelV v u
 get:PySem.W.specialIn K u "__get__" = some none
 cp:PySem.W.copiedNames.contains f=false
structure Meth(K:W.Frag)(C:Addr)(m:Str)(f:Addr):Prop where
 at_:PySem.W.findIn K (.ref C) m=some (some (.ref f))
 fn:PySem.W.isFn K (.ref f)=true
 kp:PySem.W.keepIn K (.ref f)=true
section
variable{X:Cx}{b:List (Addr×Obj)}{σ:St}{H:Hp}{s:Shared}{a C c:Addr}{fs:List (Str×V)}{f:Str}{v:V}{A:Around}{E:Value->Shared->Prop}
end
section
variable{X:Cx}{o e b:Expr}{f:Str}{j c g:Pos}{l s:TE}
end
section
variable{X:Cx}{f:List (Addr×Obj)}{σ:St}{H:Hp}{s:Shared}{A:Around}{E:Value->Shared->Prop}{Q:Value->Shared->Prop}{c:Value}{b:Bool}
inductive QV(K:W.Frag)(H:Hp):V->Value->Prop where
 | non:QV K H .non (.type "NoneType")
 | bl (x:Bool):QV K H (.bl x) (.type "bool")
 | int (i:Int):QV K H (.int i) (.type "int")
 | str (x:Str):QV K H (.str x) (.type "str")
 | flt (x:UInt64):QV K H (.flt x) (.type "float")
 | lst {a:Addr} {j:List V} (e:H a=some (.lst j)):QV K H (.ref a) (.type "list")
 | frz {a:Addr} {o:Obj} {j:List V} (e:H a=some (.frz o (.lst j))):QV K H (.ref a) (.type "list")
 | tup {a:Addr} {j:List V} (e:H a=some (.tup j)):QV K H (.ref a) (.type "tuple")
 | dK {a:Addr} {g:List (Key×V)} (e:H a=some (.dK g)):QV K H (.ref a) (.type "dict")
 | dT {a:Addr} {g:List (List Key×V)} (e:H a=some (.dT g)):QV K H (.ref a) (.type "dict")
 | ins {a C l:Addr} {fs:List (Str×V)} (e:H a=some (.ins C l fs)) (B:Cls K C) (D:PySem.W.findIn K (.ref C) "__class__" = some (some (.builtin "object.__class__")))
   (I:PySem.W.specialIn K (.builtin "object.__class__") "__get__" = some (some (.builtin "getset_descriptor.__get__"))) (w:PySem.W.takesIn K (.builtin "object.__class__")=some true)
   (G:PySem.W.mroIn K C (.type "object")=some true):QV K H (.ref a) (.ref C)
end
structure Room(k:Nat)(A:Around):Prop where
 hd:A.handled=none
 dp:A.depth+3*k+5<recursionLimit
 un:A.units+16*k+200<cLine
 gd:A.guards=some []
theorem Room.mono{j k:Nat}{A:Around}(r:Room k A)(h:j<=k):Room j A:=⟨r.hd,by have:=r.dp;omega,by have:=r.un;omega,r.gd⟩
theorem Room.m{j k:Nat}{A:Around}(r:Room k A)(h:j<=k:=by decide):Room j A:=r.mono h
theorem Room.deeper{k:Nat}{A:Around}(r:Room (k+1) A)(b:Env):Room k (A.deeper b):=
 ⟨r.hd,by have:=r.dp;show A.depth+1+3*k+5<_;omega,by have:=r.un;show A.units+3+16*k+200<_;omega,r.gd⟩
theorem Room.in1{k:Nat}{A:Around}(r:Room (k+1) A):Room k A.in1:=
 ⟨r.hd,by have:=r.dp;show A.depth+3*k+5<_;omega,by have:=r.un;show A.units+1+16*k+200<_;omega,r.gd⟩
theorem Room.depth{k:Nat}{A:Around}(r:Room k A):A.depth<recursionLimit:=by have:=r.dp;omega
theorem Room.units{k:Nat}{A:Around}(r:Room k A):A.units+64<cLine:=by have:=r.un;omega
theorem Room.units0{k:Nat}{A:Around}(r:Room k A):A.units<cLine:=by have:=r.un;omega
def zfA:TA:=fun _ H Q=>Q [] H
def vB(f:TE)(g:TA):TA:=fun σ H Q=>f σ H fun x b=>g σ b fun j c=>Q (x::j) c
section
variable{X:Cx}{e:Expr}{f:List Expr}{g:TE}{t:TA}{c:Pos}
theorem zb:PA X [] zfA:=fun _ _ _ _ H Q I h=>XB ⟨[],H,I,.nil,h⟩
theorem za(B:PE X e g)(D:PA X f t)(E:starEach (e::f) X.env=(false,eval e X.env)::starEach f X.env:=by rfl):PA X (e::f) (vB g t):=by
 intro c b s σ H Q I h;rw[E];show wpAny _ _ (spliced ((false,eval e X.env)::backTo c (starEach f X.env))) _ _ s;refine Zm (thn (B b s σ H _ I h) fun u s1 ⟨x,j,w,L,G⟩=>?_)
 exact thn (D c b s1 σ j _ w G) fun O s2 ⟨N,l,A,M,J⟩=>⟨x::N,l,A,.cons L M,J⟩
def ziC(t:TA):TE:=fun σ H Q=>t σ H fun j b=>j.length<=sizeLine/\∀p,b p=none->Q (.ref p) (upd b p (.tup j))
def ziI(t:TA):TE:=fun σ H Q=>t σ H fun j b=>j.length<=sizeLine/\∀p,b p=none->Q (.ref p) (upd b p (.lst j))
theorem qJ{D}(h:PA X f t):PE X (.Tuple f D c) (ziC t):=by
 intro j s σ H Q I hq;refine wpAny_Tuple_spliced (thn (h c j s σ H _ I hq) fun B s1 ⟨E,l,w,r,z,q⟩=>⟨by rw[<- r.length];exact z,?_⟩)
 have A:l s1.heap.objs.size=none:=w.hok.fresh (zC _);refine⟨.ref s1.heap.objs.size,upd l s1.heap.objs.size (.tup E),w.laid (t':=s1.toks) (fun b u e=>zV _ e) (zC _) ?_,rfl,q _ A⟩
 exact⟨z,B,r,⟨_,zT _ rfl,rfl,_,rfl⟩,_,zT _ rfl,rfl⟩
theorem z7(h:PA X f t):PE X (.List f c) (ziI t):=by
 intro j s σ H Q I hq;refine wpAny_List_spliced (thn (h c j s σ H _ I hq) fun B s1 ⟨D,l,w,r,z,q⟩=>⟨by rw[<- r.length];exact z,?_⟩)
 have A:l s1.heap.objs.size=none:=w.hok.fresh (zC _);refine⟨.ref s1.heap.objs.size,upd l s1.heap.objs.size (.lst D),w.laid (t':=s1.toks) (fun b u e=>zV _ e) (zC _) ?_,rfl,q _ A⟩
 exact⟨z,B,0,r,zT _ rfl⟩
end
abbrev Sp:=List V->Hp->VK->XK->Prop
abbrev CXT:=List Env->Hp->Shared->XK->Value->Shared->Prop
structure Env0(P:Program)(w:World)(K:W.Frag)(mg:Str->Option Value)(base:Heap)(A:Around)(outer:List Env)(s:Shared)(H:Hp):Prop where
 frames:A.frames=some outer
 mod:Mod K mg base
 bs:∀b o,base.get? b=some o->s.heap.get? b=some o/\H b=none
 bsz:base.objs.size<=s.heap.objs.size
 funs:s.heap.FunFrames base outer
 frf:∀b∈frs outer,H b=none
 hok:HOk P w H s.heap
 bare:AllBare s.gens
def CE(b:List Env)(P:Program)(w:World)(H:Hp)(s:Shared)(Q:VK)(u:Value)(c:Shared):Prop:=
 ∃v f,c.os=s.os/\AllBare c.gens/\Un (frs b) [] H f s.heap c.heap/\HOk P w f c.heap/\RelV v u/\Q v f
def CR(f:CXT)(b:List Env)(P:Program)(w:World)(H:Hp)(s:Shared)(Q:VK)(E:XK)(r:Result)(c:Shared):Prop:=
 match r with
 | .ok (.ret u)=>CE b P w H s Q u c
 | .ok _=>False
 | .error e=>f b H s E e c
structure FnOk(P:Program)(w:World)(K:W.Frag)(mg:Str->Option Value)(base:Heap)(CX:CXT)(k:Nat)(f:Addr)(fd:FuncData)(ps:List Str)(sp:Sp):Prop where
 len:∀vs H Q E,sp vs H Q E->vs.length=ps.length
 run:∀(A:Around) (outer:List Env) (s:Shared) (H:Hp) (args:Args) (us:List Value) (vs:List V) (Q:VK) (E:XK),Room k A->Env0 P w K mg base A outer s H->BindsTo s fd args (ps.zip us)->Vals vs us->sp vs H Q E ->
  codeAny (model P w) A (.call (.ref f) args) (CR CX outer P w H s Q E) s
theorem FnOk.mono{P:Program}{w:World}{K:W.Frag}{B:Str->Option Value}{b:Heap}{g:CXT}{j k:Nat}{f:Addr}{l:FuncData}{D:List Str}{G:Sp}(F:FnOk P w K B b g j f l D G)(h:j<=k) :
  FnOk P w K B b g k f l D G:=⟨F.len,fun A c s H args J L Q E I=>F.run A c s H args J L Q E (I.mono h)⟩
theorem FnOk.imp{P:Program}{w:World}{K:W.Frag}{D:Str->Option Value}{b:Heap}{l:CXT}{k:Nat}{f:Addr}{B:FuncData}{G:List Str}{I j:Sp}(F:FnOk P w K D b l k f B G I)
  (h:∀g H Q E,j g H Q E->I g H Q E):FnOk P w K D b l k f B G j:=
 ⟨fun g H Q E q=>F.len g H Q E (h _ _ _ _ q),fun A c s H args N g Q E L J hb hv M=>F.run A c s H args N g Q E L J hb hv (h _ _ _ _ M)⟩
theorem Env0.in1{P:Program}{w:World}{K:W.Frag}{f:Str->Option Value}{c:Heap}{A:Around}{b:List Env}{s:Shared}{H:Hp}(e:Env0 P w K f c A b s H) :
  Env0 P w K f c A.in1 b s H:=⟨e.frames,e.mod,e.bs,e.bsz,e.funs,e.frf,e.hok,e.bare⟩
section
variable{X:Cx}{c:List (Addr×Obj)}{σ:St}{H:Hp}{s f:Shared}
theorem Inv.env0(I:Inv X c σ H s):Env0 X.prog X.w X.K X.mg X.base X.A X.stack s H:=
 ⟨I.ok.frames,I.ok.mod,I.bs,qL I.ok.bsz I.sz,I.stack,I.stkFree,I.hok,I.bare⟩
theorem Inv.after{Q:VK}{u:Value}(I:Inv X c σ H s)(h:CE X.stack X.prog X.w H s Q u f):EP X c σ Q u f:=by
 obtain⟨v,A,os,j,un,l,r,q⟩:=h;obtain⟨B,g,d,t,w⟩:=f;obtain rfl:w=s.os:=os;exact⟨v,A,I.call (h':=B) (g':=g) (d':=d) (t':=t) (ch:=[]) un l j (fun b z=>absurd z (by simp)),r,q⟩
end
def zeS(f:Sp)(b:List V)(E:XK)(t:TA):TE:=fun σ H Q=>t σ H fun g c=>f (g++b) c Q E
def Binds(K:W.Frag)(g:FuncData)(f:List Str)(c:List Value):Prop:=
 ∀(s:Shared) (b:List Value),K.In s.heap->(b++c).length=f.length->BindsTo s g ⟨b,[]⟩ (f.zip (b++c))
theorem Binds.all{K:W.Frag}{f:FuncData}{c:List Str}(h:∀b:List Value,b.length=c.length->bindArgs f ⟨b,[]⟩=pure (c.zip b)):Binds K f c []:=fun s b _ g=>by
 rw[jZ] at g ⊢;exact .of_eq (h b g)
def Yy(f:CXT)(X:Cx)(E:XK):Prop:=∀(b:List (Addr×Obj)) (σ:St) (H:Hp) (s:Shared) (e:Value) (c:Shared),Inv X b σ H s->f X.stack H s E e c->X.xe e c
section
variable{X:Cx}{w:CXT}{k:Nat}{f C:Addr}{A:FuncData}{l:List Str}{B:Sp}{b:List V}{c:List Value}{E:XK}{x m:Str}{p g D:Pos}{e o:Expr}{j:List Expr}{G:TE}{t:TA}
theorem zfI{J:List (Addr×Obj)}{σ:St}{H:Hp}{s:Shared}{Q:VK}{L:List Value}{M:List V}(F:FnOk X.prog X.w X.K X.mg X.base w k f A l B)(U:Room k X.A)(hb:Binds X.K A l c)(hd:Vals b c)(hx:Yy w X E)
  (I:Inv X J σ H s) (r:Vals M L) (h:B (M++b) H Q E):wpAny (model X.prog X.w) X.A (call (.ref f) L) (EP X J σ Q) X.xe s:=by
 have N:Vals (M++b) (L++c):=r.append hd;have T:(L++c).length=l.length:=by rw[<- N.length];exact F.len _ _ _ _ h
 refine wpAny_call (codeAny_mono (F.run X.A X.stack s H ⟨L,[]⟩ (L++c) (M++b) Q E U I.env0 (hb s L I.kIn T) N h) fun r Y hq=>?_)
 cases r with
 | error e=>exact hx J σ H s e Y I hq
 | ok O=>
  cases O with
  | ret u=>exact I.after hq
  | next=>exact False.elim hq
  | brk=>exact False.elim hq
  | cont=>exact False.elim hq
theorem zd6(F:FnOk X.prog X.w X.K X.mg X.base w k f A l B)(Y:Room k X.A)(hg:Gl X x)(U:X.mg x=some (.ref f))(hk:PySem.W.keepIn X.K (.ref f)=true)(hb:Binds X.K A l c)(hd:Vals b c)(hx:Yy w X E)
  (O:PA X (e::j) t) (L:(x==("__debug__":Str))=false:=by decide) (T:starEach (e::j) X.env=(false,eval e X.env)::starEach j X.env:=by rfl) (M:(backTo g (starEach j X.env)).any (·.1)=false:=by rfl) :
  PE X (.Call (.Name x p) (e::j) [] g) (zeS B b E t):=by
 intro J s σ H Q I h;refine wpAny_Call_Name_kw (zal I hg U ?_ L)
 refine PySem.W.callWith_K (h₀:=X.base) I.ok.mod.kin hk (thn (O g J s σ H _ I h) fun us s1 ⟨vs,H1,N,r,q⟩=>⟨N.kIn,?_⟩) T M
 exact zfI F Y hb hd hx N r q
structure Mk(K:W.Frag)(C f:Addr):Prop where
 makes:PySem.W.makesIn K C=true
 init:PySem.W.findIn K (.ref C) "__init__" = some (some (.ref f))
 fn:PySem.W.isFn K (.ref f)=true
 kp:PySem.W.keepIn K (.ref C)=true
end
section
variable{X:Cx}{w:CXT}{k:Nat}{f C:Addr}{fd:FuncData}{ps ks:List Str}{D:Sp}{E:XK}{x m:Str}{p l b c:Pos}{e o:Expr}{A:List Expr}{j:List Keyword}{H G:TE}{t I:TA}{B:Option Str}
structure KBinds(K:W.Frag)(fd:FuncData)(ps ks:List Str)(g:List Value->List Value->List Value)(gV:List V->List V->List V):Prop where
 to:∀(s:Shared) (us ws:List Value),K.In s.heap->(g us ws).length=ps.length->BindsTo s fd ⟨us,ks.zip ws⟩ (ps.zip (g us ws))
 rel:∀{vs:List V} {us:List Value} {zs:List V} {ws:List Value},Vals vs us->Vals zs ws->Vals (gV vs zs) (g us ws)
variable{g:List Value->List Value->List Value}{gV:List V->List V->List V}
end
structure zy(N P:List Str)(sc:Scope):Prop where
 kind:sc.kind=.function
 co:sc.isCoroutine=false
 gen:sc.isGenerator=false
 nd:N.Nodup
 pre:N.take P.length=P
 par:∀x∈P,sc.names.lookup x=some .local\/sc.names.lookup x=some .cell
 nofree:∀y∈sc.names,y.2≠.free
theorem JH{kindOf:Str->Option NameKind}{x:Str}:∀{b:List (Str×Value)} {m:Str->Option Value},(∀v,(x,v)∉b)->bindL kindOf b m x=m x
 | [],_,_=>rfl
 | (n,v)::r,m,h=>by
  unfold bindL;rw[JH fun w c=>h w (jc _ c)]
  split
  ·have:x≠n:=by rintro rfl;exact h v jb
   simp[this]
  ·rfl
theorem JJ{kindOf:Str->Option NameKind}{x:Str}:∀{b:List (Str×Value)} {m:Str->Option Value},(∀v,(x,v)∉b)->bindC kindOf b m x=m x
 | [],_,_=>rfl
 | (n,v)::r,m,h=>by
  unfold bindC;rw[JJ fun w c=>h w (jc _ c)]
  split
  ·rfl
  ·have:x≠n:=by rintro rfl;exact h v jb
   simp[this]
theorem JI{kindOf:Str->Option NameKind}{x:Str}{v:Value}:∀{P:List Str} {b:List Value} {i:Nat} {m:Str->Option Value},P.Nodup->P[i]? =some x->b[i]? =some v->kindOf x=some .local ->
  bindL kindOf (P.zip b) m x=some v
 | [],_,_,_,_,h,_,_=>by simp at h
 | _::_,[],_,_,_,_,h,_=>by simp at h
 | p::P,w::b,0,m,f,h1,c,hk=>by
  simp at h1 c;subst h1;subst c
  show bindL kindOf ((p,w)::P.zip b) m p=_;unfold bindL;rw[JH fun v hv=>(Zx.mp f).1 (W1 hv).1,zx hk]
  simp
 | p::P,w::b,i+1,m,f,h1,c,hk=>by
  show bindL kindOf ((p,w)::P.zip b) m x=_;unfold bindL;exact JI (i:=i) (Zx.mp f).2 (by simpa using h1) (by simpa using c) hk
theorem JK{kindOf:Str->Option NameKind}{x:Str}{v:Value}:∀{P:List Str} {b:List Value} {i:Nat} {m:Str->Option Value},P.Nodup->P[i]? =some x->b[i]? =some v->kindOf x≠some .local ->
  bindC kindOf (P.zip b) m x=some v
 | [],_,_,_,_,h,_,_=>by simp at h
 | _::_,[],_,_,_,_,h,_=>by simp at h
 | p::P,w::b,0,m,f,h1,c,hk=>by
  simp at h1 c;subst h1;subst c
  show bindC kindOf ((p,w)::P.zip b) m p=_;unfold bindC;rw[JJ fun v hv=>(Zx.mp f).1 (W1 hv).1,zr hk]
  simp
 | p::P,w::b,i+1,m,f,h1,c,hk=>by
  show bindC kindOf ((p,w)::P.zip b) m x=_;unfold bindC;exact JK (i:=i) (Zx.mp f).2 (by simpa using h1) (by simpa using c) hk
def Zp(N:List Str)(b:List V):St:=b.map some++List.replicate (N.length-b.length) none
def zbA(l:CXT)(P:Program)(w:World)(K:W.Frag)(mg:Str->Option Value)(base:Heap)(N:List Str)(c:Str)(b:Scope)(f:Addr)(j:Value)(A:Around)(outer:List Env)(s:Shared)(H:Hp)(E:XK):Cx where
 prog:=P
 w:=w
 K:=K
 mg:=mg
 base:=base
 A:=A.deeper (envOfC c b s.heap.objs.size f j)
 N:=N
 s₀:=s
 H₀:=H
 env:=envOfC c b s.heap.objs.size f j
 outer:=outer
 stack:=envOfC c b s.heap.objs.size f j::outer
 ex:=[]
 calm:=true
 fn:=fun _=>true
 pn:=[]
 xe:=fun e D=>wpAny (model P w) (A.deeper (envOfC c b s.heap.objs.size f j)) (leaving (envOfC c b s.heap.objs.size f j) e) (fun _ g=>l outer H s E e g) (fun B g=>l outer H s E B g) D
theorem V2{b:Scope}{n:Nat}{x:Str}(h:b.names.lookup x=some .cell):∃c,(cellsFrom n b.names []).lookup x=some c:=by
 have q:=PySem.W.cellsFrom_some b.names n [] (.inl h);exact Option.isSome_iff_exists.mp q
theorem zbr{Y:CXT}{P:Program}{w:World}{K:W.Frag}{T:Str->Option Value}{D:Heap}{N J:List Str}{l:Str}{g:Scope}{f:Addr}{O:Value}{A:Around}{j:List Env}{s s1:Shared}{H:Hp}{E:XK}{U:List Value}{L:List V}
  (S:zy N J g) (hd:A.handled=none) (G:Env0 P w K T D A j s H) (hl:L.length=J.length) (r:Vals L U)
  (x:InCallC s s.heap.objs.size (bindL (envOfC l g s.heap.objs.size f O).kindOf (J.zip U) fun _=>none) (cellsFrom (s.heap.objs.size+1) g.names []) (bindC (envOfC l g s.heap.objs.size f O).kindOf (J.zip U) fun _=>none) s1) :
  Inv (zbA Y P w K T D N l g f O A j s H E) [] (Zp N L) H s1:=by
 have a0:J.length<=N.length:=by have:=congrArg List.length S.pre;rw[qC] at this;omega
 obtain⟨h1,tk,rfl,hk⟩:=x.done;have I:∀b:Addr,b∉(zbA Y P w K T D N l g f O A j s H E).ex:=fun b z=>absurd (show b∈([]:List Addr) from z) (by simp)
 refine⟨⟨G.mod,S.kind,rfl,rfl,zC _,fun y z c h1 B=>?_,fun y hy=>?_,fun y c _ h=>?_,fun _=>hd,Around.frames_deeper G.frames,.inr ⟨rfl,rfl⟩,fun b z=>absurd z (I b),G.bs,G.bsz,fun b _ _=>I b,fun b z=>absurd z (I b),G.funs,G.frf⟩,
  rfl,G.bare,Un.kept hk,⟨_,x.toInCall.ns,fun i y v h1 B h3=>?_⟩,fun y c h=>⟨_,x.cell y c h⟩,G.hok.fresh (zC _),fun y c h=>?_,fun p hp=>absurd (show p∈([]:List (Addr×Obj)) from hp) (by simp),G.hok.kept hk,?_⟩
 ·exact name_of_addr x.apart (w9 h1) (w9 B)
 ·have hy:g.names.lookup y=some .cell\/g.names.lookup y=some .free:=hy
  rcases hy with hy | hy
  ·exact V2 hy
  ·exact absurd rfl (S.nofree _ (w9 hy))
 ·exact QF (x.above y c (w9 h))
 ·have Q:i<L.length:=by
   unfold Zp at B;by_cases Q:i<L.length
   ·exact Q
   ·rw[xR (by simpa using Q)] at B
    rw[List.getElem?_replicate] at B
    split at B<;>cases B
  have ha:L[i]? =some v:=by
   unfold Zp at B;rw[xQ (by simpa using Q),qm] at B
   cases e:L[i]? with
   | none=>rw[e] at B;cases B
   | some a=>rw[e] at B;cases B;rfl
  obtain⟨u,hu,rv⟩:=r.get ha;have hp:J[i]? =some y:=by
   rw[<- S.pre,List.getElem?_take_of_lt (by omega)];exact h1
  have M:J.Nodup:=by rw[<- S.pre];exact S.nd.sublist (Yb _ _)
  refine⟨u,rv,?_⟩
  rcases S.par y (zY hp) with k | k
  ·exact .inl ⟨k,JI M hp hu k⟩
  ·obtain⟨c,e⟩:=V2 (n:=s.heap.objs.size+1) k
   refine .inr ⟨.inl k,c,e,?_⟩
   have q:=x.cell y c e;rw[JK M hp hu (by show g.names.lookup y≠_;rw[k];decide)] at q
   exact q
 ·exact G.hok.fresh (QF (x.above y c (w9 h)))
 ·unfold Zp
  show _=N.length;rw[zS,zn,xP];omega
theorem zij{CX:CXT}{P:Program}{w:World}{K:W.Frag}{mg:Str->Option Value}{B:Heap}{k:Nat}{f:Addr}{M j:Str}{D:Arguments}{body:List Stmt}{c:Scope}{dV kV Y pm l ct oc:Value}{an od:Option Addr}
  {af:Array (Option Value)} {N ps:List Str} {sp:Sp} (lk:K.lookup f=some ⟨oc,od,.func (PySem.W.fnOf M j D body c dV kV Y pm an l ct),af⟩) (ac:PySem.W.codeIn K l j=true) (S:zy N ps c)
  (ab:∀G H Q E,sp G H Q E->G.length=ps.length)
  (O:∀(A:Around) (g:List Env) (s:Shared) (H:Hp) (G:List V) (Q:VK) (E:XK),Room k (A.deeper (envOfC j c s.heap.objs.size f l))->sp G H Q E ->
   ∃t,PSs (zbA CX P w K mg B N j c f l A g s H E) body t/\t { nx:=fun _ L=>Q .non L,rt:=Q } (Zp N G) H) :
  FnOk P w K mg B CX (k+1) f (PySem.W.fnOf M j D body c dV kV Y pm an l ct) ps sp:=by
 refine⟨ab,fun A g s H args us G Q E hr e0 hb r aa=>?_⟩
 have hl:=ab _ _ _ _ aa;have KX:K.In s.heap:=e0.mod.kin.keeps fun b o e=>(e0.bs b o e).1
 have ae:s.heap.NoLimit:=e0.mod.nolimit.keeps fun b o e=>(e0.bs b o e).1
 have T:∀y∈ps.zip us,c.names.lookup y.1=some .local\/(c.names.lookup y.1=some .cell/\((cellsFrom (s.heap.objs.size+1) c.names []).lookup y.1).isSome=true):=fun ⟨n,v⟩ hy=>by
  rcases S.par n (W1 hy).1 with q | q
  ·exact .inl q
  ·exact .inr ⟨q,PySem.W.cellsFrom_some _ _ _ (.inl q)⟩
 refine codeAny_call_function hr.depth (KX _ _ lk) rfl S.co S.gen rfl (PySem.W.codeRec_of KX ac) (hb _ _ _ _ ?_)
 refine wpAny_newFunctionEnv_cells S.kind T fun ag he s1 x=>?_
 subst he;refine⟨ae.keeps x.toInCall.keep,codeAny_func ?_⟩
 obtain⟨t,ht,hq⟩:=O A g s H G Q E (hr.deeper _) aa;have I:Inv (zbA CX P w K mg B N j c f l A g s H E) [] (Zp N G) H s1:=zbr S hr.hd e0 hl r x;refine qh (ht [] s1 (Zp N G) H _ I hq) (fun fl s' U=>?_) fun e s' U=>U
 have a0:∀{σ':St} {L:Hp} {v:V} {u:Value},Inv (zbA CX P w K mg B N j c f l A g s H E) [] σ' L s'->RelV v u->Q v L->CE g P w H s Q u s':=
  fun {σ' L v u} J rv q=>⟨v,L,J.os,J.bare,J.base,J.hok,rv,q⟩
 cases fl with
 | ret u=>
  obtain⟨v,σ',L,J,rv,q⟩:=U;exact a0 J rv q
 | next=>
  obtain⟨σ',L,J,q⟩:=U;exact a0 (v:=V.non) (u:=Value.none) J rfl q
 | brk=>
  obtain⟨_,_,_,q⟩:=U;exact False.elim q
 | cont=>
  obtain⟨_,_,_,q⟩:=U;exact False.elim q
section
variable{X:Cx}{x:Str}{p b:Pos}{e:Expr}{c:List Expr}{t:TA}{id T:String}{r:List V->Hp->VK->Prop}
def tCB(r:List V->Hp->VK->Prop)(t:TA):TE:=fun σ H Q=>t σ H fun g f=>r g f Q
theorem zo(hc:CallR X (.builtin id) r)(hg:Gl X x)(D:X.mg x=none)(hv:bootBuiltins x=some (.builtin id))(A:PA X (e::c) t)(E:x ≠ "__name__" :=by decide)(g:(x==("__debug__":Str))=false:=by decide)
  (B:starEach (e::c) X.env=(false,eval e X.env)::starEach c X.env:=by rfl) (j:(backTo b (starEach c X.env)).any (·.1)=false:=by rfl):PE X (.Call (.Name x p) (e::c) [] b) (tCB r t):=by
 intro f s σ H Q I h;refine wpAny_Call_Name_kw (vt I hg D hv ?_ E g)
 exact PyProof.Rows.callWith_builtin1 (thn (A b f s σ H _ I h) fun L s1 ⟨M,l,w,J,G⟩=>hc f s1 σ l M L Q w J G) B j
theorem zW(hc:CallR X (.type T) r)(hg:Gl X x)(D:X.mg x=none)(hv:bootBuiltins x=some (.type T))(A:PA X (e::c) t)(E:x ≠ "__name__" :=by decide)(g:(x==("__debug__":Str))=false:=by decide)
  (B:starEach (e::c) X.env=(false,eval e X.env)::starEach c X.env:=by rfl) (j:(backTo b (starEach c X.env)).any (·.1)=false:=by rfl):PE X (.Call (.Name x p) (e::c) [] b) (tCB r t):=by
 intro f s σ H Q I h;refine wpAny_Call_Name_kw (vt I hg D hv ?_ E g)
 exact QE (thn (A b f s σ H _ I h) fun L s1 ⟨M,l,w,J,G⟩=>hc f s1 σ l M L Q w J G) B j
end
end L2
namespace HT
open PySem PyProof.Rows
section
open PySem.SeqAt
open PySem.AutoSeq1 (wpAny_loadPart')
open PySem.MeetsSeq PySem.MeetsSeq2 PySem.MeetsSeq3
end
section
variable{c:Program}{w:World}{A:Around}{E:Value->Shared->Prop}{s:Shared}
theorem cat_tup{t b:Addr}{j f:List Value}{Q:Value->Shared->Prop}(U:IsTup s.heap t j.toArray)(hb:IsTup s.heap b f.toArray)(hv:j≠[])
  (h1:f=[]->Q (.ref t) s) (T:f≠[]->Q (.ref s.heap.objs.size) { s with heap:=s.heap.push { cls:=.type "tuple",data:=.seq (j++f).toArray } })
  (J:j.length+f.length<=sizeLine):wpAny (model c w) A (binaryOp .Add (.ref t) (.ref b)) Q E s:=by
 obtain⟨⟨cls,M,data,O⟩,H,hc,n,hd⟩:=id U;obtain⟨⟨L,l,data2,G⟩,g,B,N,D⟩:=id hb;simp only at hc hd B D;subst hc hd B D;have e:j.toArray++f.toArray=(j++f).toArray:=by simp
 by_cases I:f=[]
 ·exact concat_meets ⟨_,H,rfl⟩ ⟨_,g,rfl⟩ noFill_tuple_add seq_tuple_add PySem.F.slot_tuple_add PySem.F.entry_tuple_add (PySem.F.args_tuple_add_2 _ _)
   (tuple_addW1 t b j.toArray f.toArray n N M l O G (by simpa using hv) (by simp[I])) ⟨H,g,h1 I⟩
 ·refine concat_meets ⟨_,H,rfl⟩ ⟨_,g,rfl⟩ noFill_tuple_add seq_tuple_add PySem.F.slot_tuple_add PySem.F.entry_tuple_add (PySem.F.args_tuple_add_2 _ _)
   (tuple_addW2 t b j.toArray f.toArray n N M l O G (by simpa using hv) (by simpa using I) (by rw[zN,zN];exact J)) ⟨H,g,?_⟩
  rw[e];exact T I
def sIx(n d:Nat):Option Int->Nat
 | none=>d
 | some v=>if v<0 then(v+(n:Int)).toNat else min v.toNat n
theorem sIx_none(n d:Nat):sIx n d none=d:=rfl
theorem sIx_nat(n d k:Nat):sIx n d (some (k:Int))=min k n:=by
 show(if(k:Int)<0 then((k:Int)+(n:Int)).toNat else min (k:Int).toNat n)=min k n
 rw[zr (by omega),Zk]
theorem zfH(n d:Nat)(hd:d<=n)(o:Option Int):sIx n d o<=n:=by
 cases o with
 | none=>exact hd
 | some v=>
  show(if v<0 then(v+(n:Int)).toNat else min v.toNat n)<=n
  by_cases hv:v<0
  ·rw[zx hv];omega
  ·rw[zr hv];exact Nat.min_le_right _ _
theorem zaB(v:Int)(n d:Nat):(if v<0 then max (v+(n:Int)) 0 else min v (n:Int))=((sIx n d (some v):Nat):Int):=by
 show(if v<0 then max (v+(n:Int)) 0 else min v (n:Int))=(((if v<0 then(v+(n:Int)).toNat else min v.toNat n):Nat):Int)
 by_cases hv:v<0
 ·simp only[zx hv];omega
 ·simp only[zr hv];omega
theorem Yx(lo b:Option Int)(n:Nat):Builtin.Slice.sliceAdjust lo b 1 (n:Int)=(((sIx n 0 lo:Nat):Int),((sIx n n b:Nat):Int)):=by
 have h1:¬((1:Int)<0):=by omega
 unfold Builtin.Slice.sliceAdjust;simp only[h1,if_false];refine Prod.ext ?_ ?_
 ·cases lo with
  | none=>rfl
  | some v=>exact zaB v n 0
 ·cases b with
  | none=>rfl
  | some v=>exact zaB v n n
theorem Wy(i j:Nat):Builtin.Slice.slicePlaces (i:Int) (j:Int) 1=j-i:=by
 unfold Builtin.Slice.slicePlaces;have h1:(1:Int)>0:=by omega
 simp only[h1,if_true,Int.ediv_one];split<;>omega
theorem Z6{v:Value}{o:Option Int}{Q:Option Int->Shared->Prop}(p:IsPart v o)(h:Q o s):wpAny (model c w) A (Builtin.Slice.slicePartIndex v) Q E s:=by
 cases p with
 | none=>exact slicePart_none h
 | int i t=>exact slicePart_int h
theorem yT{B:Addr}{j l:Value}{lo f:Option Int}{n:Nat}{Q:Int×Int×Nat->Shared->Prop}(G:s.heap.IsSliceOf B j l .none)(H:IsPart j lo)(I:IsPart l f)
  (h:Q (((sIx n 0 lo:Nat):Int),1,sIx n n f-sIx n 0 lo) s):wpAny (model c w) A (Builtin.Slice.sliceApplied (.ref B) (pure (n:Int))) Q E s:=by
 obtain⟨os,g,D,b⟩:=id G;unfold Builtin.Slice.sliceApplied Builtin.Slice.sliceFields;refine zf (zf (xG g b (x:=j) rfl (zf (xG g b (x:=l) rfl (zf (xG g b (x:=.none) rfl (zv ?_)))))))
 refine zf (slicePart_none ?_)
 show wpAny _ _ (if((1:Int)==0)=true then _ else _) _ _ s
 rw[zr (by decide)]
 refine zf (Z6 H (zf (Z6 I (zf (zv ?_)))))
 show wpAny _ _ (match Builtin.Slice.sliceAdjust lo f 1 (n:Int) with | (lo,f)=>pure (lo,(1:Int),Builtin.Slice.slicePlaces lo f 1)) _ _ s
 rw[Yx lo f n];show wpAny _ _ (pure (((sIx n 0 lo:Nat):Int),(1:Int),Builtin.Slice.slicePlaces ((sIx n 0 lo:Nat):Int) ((sIx n n f:Nat):Int) 1)) _ _ s;rw[Wy];exact zv h
theorem zcD(b:Array Value)(i k:Nat):((List.range k).filterMap fun(m:Nat)=>b[((i:Int)+(m:Int)*1).toNat]?).toArray=((b.toList.drop i).take k).toArray:=by
 have e:(fun(m:Nat)=>b[((i:Int)+(m:Int)*1).toNat]?)=fun m=>b[i+m]?:=by
  funext m
  have:((i:Int)+(m:Int)*1).toNat=i+m:=by omega
  rw[this]
 rw[e];have:=pick_run b i k;rw[List.filterMap_map] at this;have e2:((fun x=>b[x]?)∘fun x=>i+x)=fun m=>b[i+m]?:=rfl
 rw[e2] at this;rw[this]
theorem getItem_tuple_cut{t H:Addr}{b:Array Value}{L M:Value}{lo g:Option Int}{Q:Value->Shared->Prop}(j:IsTup s.heap t b)(I:s.heap.IsSliceOf H L M .none)(U:IsPart L lo)(Y:IsPart M g)
  (T:¬(sIx b.size 0 lo=0/\sIx b.size b.size g=b.size))
  (h:Q (.ref s.heap.objs.size) { s with heap:=s.heap.push { cls:=.type "tuple",data:=.seq ((b.toList.drop (sIx b.size 0 lo)).take (sIx b.size b.size g-sIx b.size 0 lo)).toArray } })
  (O:b.size<=sizeLine):wpAny (model c w) A (getItem (.ref t) (.ref H)) Q E s:=by
 have f:sizeOk (.seq ((b.toList.drop (sIx b.size 0 lo)).take (sIx b.size b.size g-sIx b.size 0 lo)).toArray):=by
  show((b.toList.drop (sIx b.size 0 lo)).take (sIx b.size b.size g-sIx b.size 0 lo)).toArray.size<=sizeLine;rw[zN,qC,Zh,jE];omega
 have hj:sIx b.size b.size g<=b.size:=zfH _ _ (zC _) g;obtain⟨os,G,B,N⟩:=id I;have l:s.TypeIs (.ref H) "slice" :=⟨os,G,B⟩;unfold getItem;try with_reducible refine x8 ?_
 first| refine zf (zv ?_) | skip
 refine zf (wpAny_sequenceKey j.typeIs (by decide) ?_)
 refine zf (yN (name:=Str.ofString "__getitem__") j.typeIs Yw
  (vY Yw j.typeIs entry_tuple_getitem ?_ (args_tuple_getitem _ _)))
 show wpAny _ _ (Builtin.Tuple.tupleItemsOf (.ref t) >>= _) _ _ s;refine zf (tupleItemsOf_ j ?_)
 refine zf (wpAny_typeOf l ?_)
 rw[zx (by decide)]
 refine zf (yT I U Y ?_)
 have D:¬((((sIx b.size 0 lo:Nat):Int)==0&&(1:Int)==1&&(sIx b.size b.size g-sIx b.size 0 lo)==b.size)=true):=by
  intro q;rw[jO,jO] at q;have q1:((sIx b.size 0 lo:Nat):Int)=0:=eq_of_beq q.1.1;have q2:sIx b.size b.size g-sIx b.size 0 lo=b.size:=eq_of_beq q.2;exact T ⟨by omega,by omega⟩
 show wpAny _ _ (if(((sIx b.size 0 lo:Nat):Int)==0&&(1:Int)==1&&(sIx b.size b.size g-sIx b.size 0 lo)==b.size)=true then _ else _) _ _ s
 rw[zr D,zcD];first
  | exact zf (m:=Builtin.Tuple.tupleExact _) (vf (zv ⟨_,rfl,zv h⟩) f)
  | exact zf (m:=Builtin.Tuple.tupleExact _) (vf (zf (zv (zv ⟨_,rfl,zv h⟩))) f)
  | exact zf (zf (m:=Builtin.Tuple.tupleExact _) (vf (zv (zv ⟨_,rfl,zv h⟩)) f))
  | exact zf (zf (m:=Builtin.Tuple.tupleExact _) (vf (zv ⟨_,rfl,zv h⟩) f))
end
end HT
namespace L2
open PySem PySem.Spec PyProof.Rows
abbrev TO:=St->Hp->(Option Int->Hp->Prop)->Prop
def PO(X:Cx)(e:Option Expr)(t:TO):Prop:=
 ∀(b:List (Addr×Obj)) (s:Shared) (σ:St) (H:Hp) (Q:Option Int->Hp->Prop),Inv X b σ H s->t σ H Q ->
  wpAny (model X.prog X.w) X.A (evalPart e X.env) (fun u f=>∃o c,Inv X b σ c f/\IsPart u o/\Q o c) X.xe s
def zdN:TO:=fun _ H Q=>Q none H
def zgZ(t:TE):TO:=fun σ H Q=>t σ H fun x b=>IsI x b fun i b=>Q (some i) b
theorem WL{b:List Int}:∀{c:List Value},Vals (b.map V.int) c->IntsAre c b:=by
 induction b with
 | nil=>intro c r;rw[wF] at r;cases r;exact .nil
 | cons n b f=>
  intro c r;rw[ji] at r;cases r with
  | cons g j=>
   obtain⟨t,e⟩:=g;subst e;exact .cons n t (f j)
section
variable{X:Cx}{e:Expr}{f:TE}{lo c:Option Expr}{A j:TO}{B g:Pos}
theorem yz:PO X none zdN:=by
 intro b s σ H Q I h;rw[evalPart_none];exact zv ⟨none,H,I,.none,h⟩
theorem vO(h:PE X e f):PO X (some e) (zgZ f):=by
 intro b s σ H Q I D;rw[evalPart_some];refine thn (h b s σ H _ I D) fun u s1 ⟨x,l,w,G,E⟩=>?_
 obtain⟨i,rfl,q⟩:=E;obtain⟨t,rfl⟩:=G;exact⟨some i,l,w,.int i t,q⟩
def SlR(X:Cx)(r:V->Option Int->Option Int->Hp->VK->Prop):Prop:=
 ∀(b:List (Addr×Obj)) (s:Shared) (σ:St) (H:Hp) (x:V) (v w D:Value) (lo c:Option Int) (l:Addr) (Q:VK),Inv X b σ H s->RelV x v->s.heap.IsSliceOf l w D .none->IsPart w lo->IsPart D c->r x lo c H Q ->
  ∃T id,typeLookup (.type T) "__getitem__" = pure (some (.builtin id))/\s.TypeIs v T/\wpAny (model X.prog X.w) X.A (getItem v (.ref l)) (EP X b σ Q) X.xe s
theorem SlR.or{r E:V->Option Int->Option Int->Hp->VK->Prop}(h:SlR X r)(N:SlR X E):SlR X (fun x lo c H Q=>r x lo c H Q\/E x lo c H Q):=by
 intro b s σ H x v L M lo c J Q I G l w D q;rcases q with q | q
 ·exact h b s σ H x v L M lo c J Q I G l w D q
 ·exact N b s σ H x v L M lo c J Q I G l w D q
def tSl(r:V->Option Int->Option Int->Hp->VK->Prop)(f:TE)(A j:TO):TE:=fun σ H Q=>f σ H fun x b=>A σ b fun l s=>j σ s fun u w=>r x l u w Q
theorem vF{r:V->Option Int->Option Int->Hp->VK->Prop}(hr:SlR X r)(he:PE X e f)(hl:PO X lo A)(hu:PO X c j):PE X (.Subscript e (.Slice lo c none g) B) (tSl r f A j):=by
 intro w s σ H Q I h;refine Subscript_ (thn (he w s σ H _ I h) fun v s1 ⟨x,L,N,r1,q1⟩=>?_)
 refine wpAny_Slice (thn (hl w s1 σ L _ N q1) fun E s2 ⟨l,M,O,pl,q2⟩=>thn (hu w s2 σ M _ O q2) fun G D ⟨u,J,U,pu,q3⟩=>?_)
 rw[evalPart_none];refine zv ?_
 have Y:Inv X w σ J { D with heap:=D.heap.push { cls:=.type "slice",data:=.fields #[E,G,.none] } }:=U.kept (t':=D.toks) fun b ob q=>zV _ q
 obtain⟨T,id,hT,ht,hg⟩:=hr w { D with heap:=D.heap.push { cls:=.type "slice",data:=.fields #[E,G,.none] } } σ J x v E G l u D.heap.objs.size Q Y r1 (Heap.IsSliceOf.new ..) pl pu q3;show wpAny (model X.prog X.w) X.A (subscriptTail e (.Slice lo c none g) v (.ref D.heap.objs.size)) (EP X w σ Q) X.xe { D with heap:=D.heap.push { cls:=.type "slice",data:=.fields #[E,G,.none] } };exact tail_any (ops:=[.ref D.heap.objs.size,v]) ht hT hg (by with_unfolding_all rfl)
def jY(b:List V)(lo c:Option Int):List V:=(b.drop (HT.sIx b.length 0 lo)).take (HT.sIx b.length b.length c-HT.sIx b.length 0 lo)
theorem Zt(b:List V)(lo c:Option Int):(jY b lo c).length<=b.length:=by
 unfold jY;rw[qC,Zh];omega
inductive zfM(K:W.Frag)(x:V)(lo:Option Int)(c:Option Int)(H:Hp)(Q:VK):Prop
 | mk (a b:_) (_:x=.ref a) (_:SqT K H a b) (_:¬(HT.sIx b.length 0 lo=0/\HT.sIx b.length b.length c=b.length)) (_:∀p,H p=none->Q (.ref p) (upd H p (.tup (jY b lo c)))):zfM K x lo c H Q
theorem Wr:SlR X (zfM X.K):=by
 intro G s σ H x v vl vu lo c U Q I O J M N h;obtain⟨a,w,rfl,hx,L,q⟩:=h;cases O;obtain⟨D,r,E,hz⟩:=I.tuple hx;have l:D.toArray.size=w.length:=by rw[zN];exact r.length.symm
 refine⟨"tuple",_,Yw.lookup,E.typeIs,?_⟩
 refine HT.getItem_tuple_cut E J M N (by rw[l];exact L) ?_ (by rw[l];exact hz)
 rw[l];refine⟨.ref s.heap.objs.size,_,I.laid (t':=s.toks) (o:=.tup (jY w lo c)) (fun b T q=>zV _ q) (zC _) ?_,rfl,q _ (I.hok.fresh (zC _))⟩
 exact⟨qL (Zt w lo c) hz,_,(r.drop (HT.sIx w.length 0 lo)).take (HT.sIx w.length w.length c-HT.sIx w.length 0 lo),⟨IsTup.new _ _,_,zT _ rfl,rfl⟩⟩
inductive zcz(K:W.Frag)(x:V)(y:V)(H:Hp)(Q:VK):Prop
 | mk (a b s l:_) (_:x=.ref a) (_:y=.ref b) (_:SqT K H a s) (_:SqT K H b l) (_:s≠[]) (_:s.length+l.length<=sizeLine) (_:(l=[]->Q (.ref a) H)) (_:(l≠[]->∀p,H p=none->Q (.ref p) (upd H p (.tup (s++l))))):zcz K x y H Q
theorem Vals.nil_iff{l:List V}{b:List Value}(r:Vals l b):b=[]↔l=[]:=by
 cases r with
 | nil=>simp
 | cons _ _=>simp
theorem J4:OpR X (binaryOp .Add) (zcz X.K):=by
 intro G s σ H x y v u Q I T U h;obtain⟨a,b,Y,ys,rfl,rfl,J,hb,hx,hz,N,O⟩:=h;cases T;cases U;obtain⟨L,D,M,_⟩:=I.tuple J;obtain⟨E,l,g,_⟩:=I.tuple hb;refine HT.cat_tup M g (fun z=>hx (D.nil_iff.mp z)) (fun z=>⟨.ref a,H,I,rfl,N (l.nil_iff.mp z)⟩) (fun z=>?_) (by rw[<- D.length,<- l.length];exact hz)
 refine⟨.ref s.heap.objs.size,_,I.laid (t':=s.toks) (o:=.tup (Y++ys)) (fun b ob q=>zV _ q) (zC _) ?_,rfl,O (fun w=>z (l.nil_iff.mpr w)) _ (I.hok.fresh (zC _))⟩
 exact⟨by rw[zS];exact hz,_,D.append l,⟨IsTup.new _ _,_,zT _ rfl,rfl⟩⟩
end
def ixN(n:Nat)(i:Int):Option Nat:=if 0<=i then(if i<n then some i.toNat else none) else if -(n:Int)<=i then some (i+n).toNat else none
def atI{α:Type}(b:List α)(i:Int):Option α:=(ixN b.length i).bind fun j=>b[j]?
theorem zaq{n:Nat}{i:Int}{j:Nat}(h:ixN n i=some j):seqIndex? i n=some j/\j<n/\ -(n:Int)<=i/\i<n:=by
 unfold ixN at h;by_cases b:0<=i
 ·rw[zx b] at h
  by_cases h1:i<n
  ·rw[zx h1] at h
   have e:i.toNat=j:=jt h;exact⟨by rw[seqIndex_of b h1,e],by omega,by omega,h1⟩
  ·rw[zr h1] at h;cases h
 ·rw[zr b] at h
  by_cases h1:-(n:Int)<=i
  ·rw[zx h1] at h
   have e:(i+n).toNat=j:=jt h;exact⟨by rw[seqIndex_neg (by omega) h1,e],by omega,h1,by omega⟩
  ·rw[zr h1] at h;cases h
theorem Xk{α:Type}{b:List α}{i:Int}{v:α}(h:atI b i=some v):∃j,seqIndex? i b.length=some j/\b[j]? =some v/\j<b.length/\ -(b.length:Int)<=i/\i<b.length:=by
 unfold atI at h;cases e:ixN b.length i with
 | none=>rw[e] at h;cases h
 | some j=>
  rw[e] at h;obtain⟨h1,c,f,g⟩:=zaq e;exact⟨j,h1,h,c,f,g⟩
theorem jh{α:Type}{xs:List α}{j:Nat}{v:α}(h:xs[j]? =some v):atI xs (j:Int)=some v:=by
 have b:j<xs.length:=(zK.mp h).1;have e:ixN xs.length (j:Int)=some j:=by
  unfold ixN;rw[zx (by omega),zx (by omega)];simp
 unfold atI;rw[e];exact h
theorem zdu{α:Type}(b:List α)(v:α):atI (b++[v]) (-1)=some v:=by
 have c:(b++[v]).length=b.length+1:=by simp
 have e:ixN (b++[v]).length (-1)=some b.length:=by
  unfold ixN;rw[c,zr (by decide),zx (by omega)]
  congr 1
  omega
 unfold atI;rw[e];show(b++[v])[b.length]? =some v;simp
def zeN(b:Expr):Prop:=∀o i,subscripted b false o i=operate [o,i] (getItem o i)
def IxR(X:Cx)(r:R2):Prop:=
 ∀(f b:Expr) (c:List (Addr×Obj)) (s:Shared) (σ:St) (H:Hp) (x y:V) (v u:Value) (Q:VK),Inv X c σ H s->RelV x v->RelV y u->r x y H Q ->
  subscripted b false v u=operate [v,u] (getItem v u)->wpAny (model X.prog X.w) X.A (subscriptTail f b v u) (EP X c σ Q) X.xe s
def MtR(X:Cx)(id:String)(r:V->List V->Hp->VK->Prop):Prop:=
 ∀(b:List (Addr×Obj)) (s:Shared) (σ:St) (H:Hp) (x:V) (f:List V) (v:Value) (c:List Value) (Q:VK),Inv X b σ H s->RelV x v->Vals f c->r x f H Q ->
  wpAny (model X.prog X.w) X.A (call (.builtin id) (v::c)) (EP X b σ Q) X.xe s
section
variable{X:Cx}{a b:Expr}{J L:TE}{G:Pos}
theorem IxR.or{r w:R2}(h:IxR X r)(N:IxR X w):IxR X (fun x y H Q=>r x y H Q\/w x y H Q):=by
 intro f c j s σ H x y v u Q I A M q l;rcases q with q | q
 ·exact h f c j s σ H x y v u Q I A M q l
 ·exact N f c j s σ H x y v u Q I A M q l
theorem MtR.or{id:String}{r j:V->List V->Hp->VK->Prop}(h:MtR X id r)(M:MtR X id j):MtR X id (fun x f H Q=>r x f H Q\/j x f H Q):=by
 intro c s σ H x f v A Q I w l q;rcases q with q | q
 ·exact h c s σ H x f v A Q I w l q
 ·exact M c s σ H x f v A Q I w l q
theorem zL{r:R2}(w:IxR X r)(l:PE X a J)(hb:PE X b L)(A:zeN b):PE X (.Subscript a b G) (tOp r J L):=by
 intro c s σ H Q I h;exact Subscript_ (zgN l hb I h fun v u s2 x y f j M N q=>w a b c s2 σ f x y v u Q j M N q (A _ _))
inductive zfO(K:W.Frag)(x:V)(y:V)(H:Hp)(Q:VK):Prop
 | mk (p c i v:_) (_:x=.ref p) (_:y=.int i) (_:SqL K H p c) (_:atI c i=some v) (_:Q v H):zfO K x y H Q
inductive zfN(K:W.Frag)(x:V)(y:V)(H:Hp)(Q:VK):Prop
 | mk (p c i v:_) (_:x=.ref p) (_:y=.int i) (_:SqT K H p c) (_:atI c i=some v) (_:Q v H):zfN K x y H Q
inductive zhD(x:V)(y:V)(H:Hp)(Q:VK):Prop
 | mk (z i c:_) (_:x=.str z) (_:y=.int i) (_:z.length<=sizeLine) (_:atI z.cps.toList i=some c) (_:Q (.str ⟨#[c]⟩) H):zhD  x y H Q
theorem z9:IxR X (zfO X.K):=by
 intro U O c s σ H x y v u Q I rx ry h hs;obtain⟨p,xs,i,z,rfl,rfl,hq,he,q⟩:=h;cases rx;obtain⟨t,rfl⟩:=ry;obtain⟨A,r,M,hz⟩:=I.list hq;obtain⟨j,h1,h2,h3,h4,h5⟩:=Xk he;obtain⟨w,Y,N⟩:=r.get h2;have hl:=r.length;have hn:=yf;have f:EP X c σ Q w s:=⟨z,H,I,N,q⟩;by_cases h0:0<=i
 ·have l:i.toNat=j:=by
   rw[seqIndex_of h0 h5] at h1;exact jt h1
  exact item_listR M.isList h0 (by omega) (by rw[l];simpa using Y) f hs
 ·have l:(i+(A.toArray.size:Int)).toNat=j:=by
   rw[seqIndex_neg (by omega) h4] at h1
   rw[zN,<- hl];exact jt h1
  exact subscriptTail_builtinR (x:=w) M.isList.typeIs slot_list_getitem.lookup
   (wpAny_getItem_list_neg (Q:=fun r s'=>r=w/\EP X c σ Q r s') M.isList (by omega) (by rw[zN]<;>omega) (by omega) (by rw[l];simpa using Y) ⟨rfl,f⟩) hs
theorem jC:IxR X (zfN X.K):=by
 intro M A c s σ H x y v u Q I rx ry h hs;obtain⟨p,xs,i,z,rfl,rfl,hq,Y,q⟩:=h;cases rx;obtain⟨t,rfl⟩:=ry;obtain⟨a0,r,N,hz⟩:=I.tuple hq;obtain⟨j,h1,U,h3,h4,h5⟩:=Xk Y;obtain⟨w,O,l⟩:=r.get U;have hl:=r.length;have hn:=yf;have f:EP X c σ Q w s:=⟨z,H,I,l,q⟩;exact subscriptTail_builtinR (x:=w) N.typeIs slot_tuple_getitem.lookup
  (getItem_tuple (j:=j) (Q:=fun r s'=>r=w/\EP X c σ Q r s') N (by omega) (by omega) (by rw[zN,<- hl];exact h1) (by simpa using O) ⟨rfl,f⟩) hs
theorem zgw:IxR X zhD:=by
 intro l f w s σ H x y v u Q I rx ry h Y;obtain⟨z,i,c,rfl,rfl,hz,O,q⟩:=h;obtain⟨t,rfl⟩:=rx;obtain⟨t',rfl⟩:=ry;obtain⟨j,h1,A,h3,M,N⟩:=Xk O;have U:z.cps.toList.length=z.length:=by simp[Str.length]
 rw[U] at h1 M N;have hn:=yf;exact tail_any (typeIs_str s z t) slot_str_getitem.lookup (getItem_str (c:=c) (by
  have e1:decide (i< -(2^63:Int))=false:=qZ (by omega)
  have e2:decide (i≥2^63)=false:=qZ (by omega)
  rw[e1,e2,Bool.or_false]) (by rw[h1];simpa using A) ⟨.str ⟨#[c]⟩,H,I.tok _,⟨_,rfl⟩,q⟩) Y
theorem WI(c:List Value)(n j:Nat)(u:Value):Obj.mapSeq (·.setIfInBounds j u) { cls:=.type "list",data:=.seq c.toArray n }={ cls:=.type "list",data:=.seq (c.set j u).toArray n }:=by
 simp[Obj.mapSeq]
theorem Inv.lst{f:List (Addr×Obj)}{σ:St}{H:Hp}{s:Shared}{p:Addr}{j:List V}(I:Inv X f σ H s)(h:H p=some (.lst j)) :
  ∃(c:List Value) (n:Nat),Vals j c/\s.heap.get? p=some { cls:=.type "list",data:=.seq c.toArray n }/\j.length<=sizeLine:=by
 obtain⟨z,c,n,r,e⟩:=I.hok p _ h;exact⟨c,n,r,e,z⟩
theorem Inv.lstUpd{j:List (Addr×Obj)}{σ:St}{H:Hp}{s:Shared}{p:Addr}{O A:List V}{l c:List Value}{n w:Nat}{f:Obj->Obj}(I:Inv X j σ H s)(h:H p=some (.lst O))
  (N:s.heap.get? p=some { cls:=.type "list",data:=.seq l.toArray n }) (M:f { cls:=.type "list",data:=.seq l.toArray n }={ cls:=.type "list",data:=.seq c.toArray w }) (r:Vals A c) (hz:A.length<=sizeLine) (t:Nat) :
  Inv X j σ (upd H p (.lst A)) { s with heap:=s.heap.update p f,toks:=t }:=by
 have e:(s.heap.update p f).get? p=some { cls:=.type "list",data:=.seq c.toArray w }:=by
  rw[yb f N (by rw[M]<;>rfl),M]
 refine I.write (x:=p) (e:=p) (by rw[h];trivial) (.inl rfl) (fun b u hb q=>(QD _ _ (zM hb)).trans q) ⟨_,e⟩ ?_
 exact⟨hz,c,w,r,e⟩
inductive zfk(o:V)(i:V)(v:V)(H:Hp)(Q:Hp->Prop):Prop
 | mk (p c k j:_) (_:o=.ref p) (_:i=.int k) (_:H p=some (.lst c)) (_:ixN c.length k=some j) (_:Q (upd H p (.lst (c.set j v)))):zfk  o i v H Q
theorem we:zgR X zfk:=by
 intro f s σ H o i v ov iv u Q I ro Y rv h;obtain⟨p,xs,k,j,rfl,rfl,hp,U,q⟩:=h;cases ro;obtain⟨t,rfl⟩:=Y;obtain⟨c,n,r,w,hz⟩:=I.lst hp;obtain⟨h1,h2,N,O⟩:=zaq U;have l:=r.length;have hn:=yf;have A:Inv X f σ (upd H p (.lst (xs.set j v))) { s with heap:=s.heap.update p (Obj.mapSeq (·.setIfInBounds j u)) }:=
  I.lstUpd hp w (WI c n j u) (r.set rv j) (by rw[Zf];exact hz) s.toks
 by_cases M:0<=k
 ·have hk:k.toNat=j:=by
   rw[seqIndex_of M O] at h1;exact jt h1
  exact PySem.W.ki_setAt w M (by omega) (by rw[zN,<- l];exact O) (by rw[hk];exact⟨_,A,q⟩)
 ·have hk:(k+(c.toArray.size:Int)).toNat=j:=by
   rw[seqIndex_neg (by omega) N] at h1
   rw[zN,<- l];exact jt h1
  exact PySem.W.ki_setBack w (by omega) (by rw[zN,<- l];exact N) (by omega) (by rw[hk];exact⟨_,A,q⟩)
theorem JS(lo c:Option Int)(n:Nat):(sliceBounds lo c none n).1=((HT.sIx n 0 lo:Nat):Int)/\(sliceBounds lo c none n).2.1=((HT.sIx n n c:Nat):Int)/\(sliceBounds lo c none n).2.2=1:=by
 refine⟨?_,?_,rfl⟩
 ·cases lo with
  | none=>simp[sliceBounds,HT.sIx]
  | some i=>
   simp only[sliceBounds,HT.sIx,Option.getD_none,show(1:Int)>0 by decide,if_true]
   by_cases h:i<0
   ·simp only[h,if_true]<;>omega
   ·simp only[h,if_false]<;>omega
 ·cases c with
  | none=>simp[sliceBounds,HT.sIx]
  | some i=>
   simp only[sliceBounds,HT.sIx,Option.getD_none,show(1:Int)>0 by decide,if_true]
   by_cases h:i<0
   ·simp only[h,if_true]<;>omega
   ·simp only[h,if_false]<;>omega
theorem Q5(c:List Value)(lo f:Option Int):slicePick c.toArray lo f none=((c.drop (HT.sIx c.length 0 lo)).take (HT.sIx c.length c.length f-HT.sIx c.length 0 lo)).toArray:=by
 obtain⟨h1,j,l⟩:=JS lo f c.toArray.size;unfold slicePick;rw[h1,j,l];simp only[sliceRange_one,pick_run,zN]<;>rfl
inductive zhB(K:W.Frag)(x:V)(lo:Option Int)(c:Option Int)(H:Hp)(Q:VK):Prop
 | mk (a f:_) (_:x=.ref a) (_:SqL K H a f) (_:∀p,H p=none->Q (.ref p) (upd H p (.lst (jY f lo c)))):zhB K x lo c H Q
theorem JT:SlR X (zhB X.K):=by
 intro w s σ H x v vl vu lo j sl Q I U A N O h;obtain⟨a,c,rfl,hx,q⟩:=h;cases U;obtain⟨M,r,l,hz⟩:=I.list hx;have f:=r.length;refine⟨"list",_,slot_list_getitem.lookup,l.isList.typeIs,?_⟩
 refine wpAny_getItem_list_slice l.isList A N O .none (by simp) ?_ (by rw[zN]<;>omega)
 rw[Q5,<- f];refine⟨.ref s.heap.objs.size,_,I.laid (t':=s.toks) (o:=.lst (jY c lo j)) (fun b Y q=>zV _ q) (zC _) ?_,rfl,q _ (I.hok.fresh (zC _))⟩
 exact⟨qL (Zt c lo j) hz,_,0,(r.drop (HT.sIx c.length 0 lo)).take (HT.sIx c.length c.length j-HT.sIx c.length 0 lo),zT _ rfl⟩
def xO:V->Bool
 | .non=>true
 | .bl _=>true
 | .int _=>true
 | .str _=>true
 | _=>false
def eqV:V->V->Bool
 | .non,.non=>true
 | .bl a,.bl b=>a==b
 | .bl a,.int b=>(if a then 1 else 0)==b
 | .int a,.bl b=>a==(if b then 1 else 0)
 | .int a,.int b=>a==b
 | .str a,.str b=>a==b
 | _,_=>false
theorem zdi{A:Around}{s:Shared}{y x:V}{u v:Value}(l:RelV y u)(c:RelV x v)(w:xO y=true)(j:xO x=true):SeqAt.EqAt A s u v (eqV y x):=by
 cases y with
 | non=>
  cases l;cases x with
  | non=>cases c;exact Ze _
  | bl b=>cases c;exact SeqAt.EqAt.none_bool b
  | int b=>obtain⟨t,rfl⟩:=c;exact SeqAt.EqAt.none_int b t
  | str b=>obtain⟨t,rfl⟩:=c;exact SeqAt.EqAt.none_str b t
  | _=>exact absurd (show false=true from j) qO
 | bl a=>
  cases l;cases x with
  | non=>cases c;exact SeqAt.EqAt.bool_none a
  | bl b=>cases c;exact SeqAt.EqAt.bool_bool a b
  | int b=>obtain⟨t,rfl⟩:=c;exact SeqAt.EqAt.bool_int a b t
  | str b=>obtain⟨t,rfl⟩:=c;exact SeqAt.EqAt.bool_str a b t
  | _=>exact absurd (show false=true from j) qO
 | int a=>
  obtain⟨f,rfl⟩:=l;cases x with
  | non=>cases c;exact SeqAt.EqAt.int_none a f
  | bl b=>cases c;exact SeqAt.EqAt.int_bool a f b
  | int b=>obtain⟨t,rfl⟩:=c;exact SeqAt.EqAt.int_int a f b t
  | str b=>obtain⟨t,rfl⟩:=c;exact SeqAt.EqAt.int_str a f b t
  | _=>exact absurd (show false=true from j) qO
 | str a=>
  obtain⟨f,rfl⟩:=l;cases x with
  | non=>cases c;exact SeqAt.EqAt.str_none a f
  | bl b=>cases c;exact SeqAt.EqAt.str_bool a f b
  | int b=>obtain⟨t,rfl⟩:=c;exact SeqAt.EqAt.str_int a f b t
  | str b=>obtain⟨t,rfl⟩:=c;exact SeqAt.EqAt.str_str a f b t
  | _=>exact absurd (show false=true from j) qO
 | _=>exact absurd (show false=true from w) qO
def eqU(x:V)(u:Value):Bool:=match u with
 | .none=>eqV .non x
 | .bool b=>eqV (.bl b) x
 | .int i _=>eqV (.int i) x
 | .str z _=>eqV (.str z) x
 | _=>false
theorem zdh{x y:V}{u:Value}(r:RelV y u)(f:xO y=true):eqU x u=eqV y x:=by
 cases y with
 | non=>cases r;rfl
 | bl b=>cases r;rfl
 | int i=>obtain⟨t,rfl⟩:=r;rfl
 | str z=>obtain⟨t,rfl⟩:=r;rfl
 | _=>exact absurd (show false=true from f) qO
theorem yK{x:V}:∀{c:List V} {j:List Value},Vals c j->c.all xO=true->j.any (eqU x)=c.any fun y=>eqV y x
 | _,_,.nil,_=>rfl
 | y::c,u::j,.cons r t,f=>by
  rw[List.all_cons,jO] at f;rw[wy,wy,zdh r f.1,yK t f.2]
theorem wj{A:Around}{s:Shared}{x:V}{v:Value}(w:RelV x v)(l:xO x=true):∀{j:List V} {c:List Value},Vals j c->j.all xO=true->∀u∈c,SeqAt.EqAt A s u v (eqU x u)
 | _,_,.nil,_=>fun u hu=>by cases hu
 | y::j,u::c,.cons r t,f=>fun H hu=>by
  rw[List.all_cons,jO] at f;rcases zR.mp hu with rfl | hu
  ·rw[zdh r f.1];exact zdi r w f.1 l
  ·exact wj w l t f.2 H hu
def inV(x:V)(c:List V):Bool:=c.any fun y=>eqV y x
inductive rIn(K:W.Frag)(c:Bool)(x:V)(y:V)(H:Hp)(Q:VK):Prop
 | mk (p f:_) (_:y=.ref p) (_:(SqL K H p f\/SqT K H p f)) (_:xO x=true) (_:f.all xO=true) (_:Q (.bl (if c then !inV x f else inV x f)) H):rIn K c x y H Q
theorem yY:OpR X (compareOp .In) (rIn X.K false):=by
 intro A s σ H x y v u Q I M N h;obtain⟨p,O,rfl,hq,l,fs,q⟩:=h;cases N;rcases hq with hq | hq
 ·obtain⟨c,r,j,hz⟩:=I.list hq
  refine SeqAt.in_listAt (eqU x) j.isList (fun w f=>wj M l r fs w (by simpa using f)) ⟨.bl _,H,I,rfl,?_⟩
  rw[show c.toArray.any (eqU x)=c.any (eqU x) by simp,yK r fs]
  exact q
 ·obtain⟨c,r,j,hz⟩:=I.tuple hq
  refine SeqAt.in_tupleAt (eqU x) j (fun w f=>wj M l r fs w (by simpa using f)) ⟨.bl _,H,I,rfl,?_⟩
  rw[show c.toArray.any (eqU x)=c.any (eqU x) by simp,yK r fs]
  exact q
theorem J3:OpR X (compareOp .NotIn) (rIn X.K true):=by
 intro A s σ H x y v u Q I M N h;obtain⟨p,O,rfl,hq,l,fs,q⟩:=h;cases N;rcases hq with hq | hq
 ·obtain⟨c,r,j,hz⟩:=I.list hq
  refine SeqAt.notIn_listAt (eqU x) j.isList (fun w f=>wj M l r fs w (by simpa using f)) ⟨.bl _,H,I,rfl,?_⟩
  rw[show c.toArray.any (eqU x)=c.any (eqU x) by simp,yK r fs]
  exact q
 ·obtain⟨c,r,j,hz⟩:=I.tuple hq
  refine SeqAt.notIn_tupleAt (eqU x) j (fun w f=>wj M l r fs w (by simpa using f)) ⟨.bl _,H,I,rfl,?_⟩
  rw[show c.toArray.any (eqU x)=c.any (eqU x) by simp,yK r fs]
  exact q
inductive vk(K:W.Frag)(f:List V)(H:Hp)(Q:VK):Prop
 | mk (p c:_) (_:f=[.ref p]) (_:(SqL K H p c\/SqT K H p c)) (_:Q (.int c.length) H):vk K f H Q
theorem zE:CallR X (.builtin "len") (vk X.K):=by
 intro w s σ H U O Q I r h;obtain⟨p,A,rfl,hq,q⟩:=h;obtain⟨u,rfl,M⟩:=xW r;cases M;have N:=yf;rcases hq with hq | hq
 ·obtain⟨f,l,j,hz⟩:=I.list hq
  have c:=l.length;exact Calls.call_len_list j.isList (by simp only[zN]<;>omega) ⟨.int A.length,H,I.tok _,⟨s.toks+1,by rw[zN,c]⟩,q⟩
 ·obtain⟨f,l,j,hz⟩:=I.tuple hq
  have c:=l.length;exact len_tuple j (by simp only[zN]<;>omega) ⟨.int A.length,H,I.tok _,⟨s.toks+1,by rw[zN,c]⟩,q⟩
inductive wM(c:List V)(H:Hp)(Q:VK):Prop
 | mk (z:_) (_:c=[.str z]) (_:z.length<=sizeLine) (_:Q (.int z.length) H):wM c H Q
theorem Xi:CallR X (.builtin "len") (wM):=by
 intro c s σ H l j Q I r h;obtain⟨z,rfl,hz,q⟩:=h;obtain⟨u,rfl,t,rfl⟩:=xW r;have f:=yf;exact len_str (by omega) ⟨.int z.length,H,I.tok _,⟨_,rfl⟩,q⟩
theorem CallR.or{f:Value}{r l:List V->Hp->VK->Prop}(h:CallR X f r)(M:CallR X f l):CallR X f (fun j H Q=>r j H Q\/l j H Q):=by
 intro c s σ H j A Q I w q;rcases q with q | q
 ·exact h c s σ H j A Q I w q
 ·exact M c s σ H j A Q I w q
inductive wL(K:W.Frag)(f:List V)(H:Hp)(Q:VK):Prop
 | mk (p c:_) (_:f=[.ref p]) (_:(SqL K H p c\/SqT K H p c)) (_:∀l,H l=none->Q (.ref l) (upd H l (.lst c))):wL K f H Q
theorem xT:CallR X (.type "list") (wL X.K):=by
 intro N s σ H xs us Q I r h;obtain⟨p,Y,rfl,hq,q⟩:=h;obtain⟨u,rfl,rx⟩:=xW r;cases rx;have w:∀(c:List Value),Vals Y c->Y.length<=sizeLine->∀(f:Heap) (j:Nat),(∀b o',s.heap.get? b=some o'->f.get? b=some o') ->
   f.get? s.heap.objs.size=some { cls:=.type "list",dict:=none,data:=.seq c.toArray j,slots:=#[] }->EP X N σ Q (.ref s.heap.objs.size) { s with heap:=f }:=fun c l hz f j M e=>
  ⟨.ref s.heap.objs.size,_,I.laid (t':=s.toks) M (zC _) (show ObjOk X.prog X.w _ f _ (.lst Y) from ⟨hz,c,j,l,e⟩),rfl,q _ (I.hok.fresh (zC _))⟩
 rcases hq with hq | hq
 ·obtain⟨c,l,U,hz⟩:=I.list hq
  have A:=l.length;obtain⟨o,O,hc,n,hd⟩:=U.isList;exact call_list_seq p (.inl rfl) O hc hd (fun f j M e=>w c l hz f j M e) (by simp only[zN]<;>omega)
 ·obtain⟨c,l,U,hz⟩:=I.tuple hq
  have A:=l.length;obtain⟨o,O,hc,n,hd⟩:=U;exact call_list_seq p (.inr rfl) O hc hd (fun f j M e=>w c l hz f j M e) (by simp only[zN]<;>omega)
inductive wa(K:W.Frag)(f:List V)(H:Hp)(Q:VK):Prop
 | mk (p c:_) (_:f=[.ref p]) (_:((SqL K H p c/\∀l,H l=none->Q (.ref l) (upd H l (.tup c)))\/(SqT K H p c/\Q (.ref p) H))):wa K f H Q
theorem qI:CallR X (.type "tuple") (wa X.K):=by
 intro c s σ H xs us Q I r h;obtain⟨p,N,rfl,h⟩:=h;obtain⟨u,rfl,Y⟩:=xW r;cases Y;rcases h with ⟨hq,q⟩ | ⟨hq,q⟩
 ·obtain⟨f,w,l,hz⟩:=I.list hq
  have M:=w.length;refine call_tuple_list l.isList (fun j U=>?_) (by simp only[zN]<;>omega)
  have A:Inv X c σ H { s with heap:=j }:=I.kept (t':=s.toks) U;have O:Inv X c σ (upd H j.objs.size (.tup N)) { s with heap:=j.push { cls:=.type "tuple",data:=.seq f.toArray } }:=
   A.laid (t':=s.toks) (fun b o e=>zV _ e) (zC _) (show ObjOk X.prog X.w _ _ _ (.tup N) from ⟨hz,f,w,⟨IsTup.new _ _,_,zT _ rfl,rfl⟩⟩)
  exact⟨.ref j.objs.size,_,O,rfl,q _ (A.hok.fresh (zC _))⟩
 ·obtain⟨f,w,l,hz⟩:=I.tuple hq
  exact call_tuple_same l ⟨.ref p,H,I,rfl,q⟩
def tyV(K:W.Frag)(T:String)(x:V)(H:Hp):Prop:=match x with
 | .str _=>T = "str"
 | .int _=>T = "int"
 | .ref p=>(T = "list" /\ ∃f,SqL K H p f)\/(T = "tuple" /\ ∃o,K.lookup p=some o/\o.cls=.type "tuple" /\ o.dict=none) \/
   (T = "dict" /\ ((∃c,H p=some (.dK c))\/∃c,H p=some (.dT c)))\/(T = "set" /\ ∃S n,H p=some (.set S n))
 | _=>False
theorem zbQ{j:List (Addr×Obj)}{σ:St}{H:Hp}{s:Shared}{T:String}{x:V}{v:Value}(I:Inv X j σ H s)(r:RelV x v)(ty:tyV X.K T x H) :
  s.TypeIs v T/\∀a,v=.ref a->∃w,s.heap.get? a=some w/\w.dict=none:=by
 cases x with
 | str z=>
  obtain⟨t,rfl⟩:=r;cases(show T = "str" from ty)
  exact⟨typeIs_str s z t,fun _ e=>nomatch e⟩
 | int i=>
  obtain⟨t,rfl⟩:=r;cases(show T = "int" from ty)
  exact⟨typeIs_int s i t,fun _ e=>nomatch e⟩
 | ref p=>
  cases r;rcases ty with ⟨rfl,N,hq⟩ | ⟨rfl,o,hk,hc,hd⟩ | ⟨rfl,hk⟩ | ⟨rfl,S,n,hk⟩
  ·obtain⟨M,_,A,_⟩:=I.list hq
   refine⟨A.isList.typeIs,fun a e=>?_⟩
   cases e;obtain⟨o,n,e,c,hd,_⟩:=A;exact⟨o,e,hd⟩
  ·refine⟨⟨o,I.kIn p o hk,hc⟩,fun a e=>?_⟩
   cases e;exact⟨o,I.kIn _ o hk,hd⟩
  ·have z:∃o,s.heap.get? p=some o/\o.ExactDict:=by
    rcases hk with ⟨l,hk⟩ | ⟨l,hk⟩
    ·obtain⟨_,_,_,_,o,_,_,e,f,_⟩:=I.hok p _ hk
     exact⟨o,e,f⟩
    ·obtain⟨_,_,_,_,o,_,_,e,f,_⟩:=I.hok p _ hk
     exact⟨o,e,f⟩
   obtain⟨o,e,f⟩:=z;refine⟨⟨o,e,f.1⟩,fun a e2=>?_⟩
   cases e2;exact⟨o,e,f.2.1⟩
  ·obtain⟨o,_,_,_,e,f,_⟩:=I.hok p _ hk
   refine⟨⟨o,e,f.1⟩,fun a e2=>?_⟩
   cases e2;exact⟨o,e,f.2.1⟩
 | _=>exact False.elim ty
def ziO(K:W.Frag)(T:String)(r:V->List V->Hp->VK->Prop)(to:TE):TE:=fun σ H Q=>to σ H fun x c=>tyV K T x c/\r x [] c Q
def tBM(K:W.Frag)(T:String)(r:V->List V->Hp->VK->Prop)(to:TE)(t:TA):TE:=fun σ H Q=>to σ H fun x c=>tyV K T x c/\t σ c fun j f=>r x j f Q
variable{o e:Expr}{E:List Expr}{to:TE}{t:TA}{B:Str}{D g:Pos}{T id:String}{r:V->List V->Hp->VK->Prop}
theorem WB(pa:PlainAttrs T)(l:Slot T B id)(w:typeOf (.builtin id)=pure (.type "method_descriptor"))(U:MtR X id r)(Y:PE X o to)
  (f:attributeBase o B X.env (eval o X.env)=eval o X.env:=by rfl) (j:(D.endLine==g.line)=true:=by rfl):PE X (.Call (.Attribute o B D) [] [] g) (ziO X.K T r to):=by
 intro c s σ H Q I h;refine wpAny_Call_method0_late f j (thn (Y c s σ H _ I h) fun v s1 ⟨x,N,A,M,ty,q1⟩=>?_)
 obtain⟨h1,O⟩:=zbQ A M ty;exact⟨T,id,pa,l,w,h1,O,QS rfl (PySem.evalArgs_none (U c s1 σ N x [] v [] Q A M .nil q1))⟩
theorem xo(pa:PlainAttrs T)(A:Slot T B id)(M:typeOf (.builtin id)=pure (.type "method_descriptor"))(hm:MtR X id r)(ho:PE X o to)(ha:PA X (e::E) t)
  (j:attributeBase o B X.env (eval o X.env)=eval o X.env:=by rfl)
  (w:((backTo g (starEach (e::E) X.env)).all (fun x=>!x.1)&&(backToKw g (keywordEach [] X.env)).all (fun x=>x.1.isSome)
   && decide ((e::E).length+([]:List Keyword).length+(if([]:List Keyword).isEmpty then 0 else 1)<30))=true:=by rfl)
  (l:(D.endLine==g.line)=true:=by rfl) (hs:starEach (e::E) X.env=(false,eval e X.env)::starEach E X.env:=by rfl) (f:(backTo g (starEach E X.env)).any (·.1)=false:=by rfl) :
  PE X (.Call (.Attribute o B D) (e::E) [] g) (tBM X.K T r to t):=by
 intro c s σ H Q I h;refine wpAny_Call_method_late j w l rfl (thn (ho c s σ H _ I h) fun v s1 ⟨x,Y,N,U,ty,q1⟩=>?_)
 obtain⟨h1,h2⟩:=zbQ N U ty;refine⟨T,id,pa,A,M,h1,h2,?_⟩
 have O:=ha g c s1 σ Y _ N q1;rw[hs] at O ⊢;refine QS (by show(false||(backTo g (starEach E X.env)).any (·.1))=false;rw[f]<;>rfl) (Yl ?_)
 exact thn O fun us s2 ⟨vs,H2,I2,r2,q2⟩=>hm c s2 σ H2 x vs v us Q I2 U r2 q2
end
def MtM(X:Cx)(id:String)(r:V->List V->Hp->VK->Prop):Prop:=
 ∀(b:List (Addr×Obj)) (s:Shared) (σ:St) (H:Hp) (x:V) (f:List V) (v:Value) (c:List Value) (Q:VK),Inv X b σ H s->RelV x v->Vals f c->r x f H Q ->
  wpAny (model X.prog X.w) X.A (call (.builtin id) (v::c)) (EP X b σ Q) X.xe s
theorem Vals.one:∀{x:V} {b:List Value},Vals [x] b->∃u,b=[u]/\RelV x u
 | _,_,.cons r .nil=>⟨_,rfl,r⟩
theorem Vals.two:∀{x y:V} {b:List Value},Vals [x,y] b->∃u v,b=[u,v]/\RelV x u/\RelV y v
 | _,_,_,.cons r (.cons q .nil)=>⟨_,_,rfl,r,q⟩
theorem Vals.zero:∀{b:List Value},Vals [] b->b=[]
 | _,.nil=>rfl
theorem Vals.dropLast{c:List V}{b:List Value}(h:Vals c b):Vals c.dropLast b.dropLast:=by
 induction h with
 | nil=>exact .nil
 | cons r t f=>
  cases t with
  | nil=>exact .nil
  | cons q g=>exact .cons r f
theorem Vals.eraseIdx:∀{c:List V} {b:List Value} (i:Nat),Vals c b->Vals (c.eraseIdx i) (b.eraseIdx i)
 | _,_,_,.nil=>.nil
 | _,_,0,.cons _ t=>t
 | _,_,i+1,.cons r t=>.cons r (Vals.eraseIdx i t)
theorem Vals.reverse{c:List V}{b:List Value}(h:Vals c b):Vals c.reverse b.reverse:=by
 induction h with
 | nil=>exact .nil
 | cons r t f=>rw[List.reverse_cons,List.reverse_cons];exact Vals.append f (.cons r .nil)
theorem Vals.rep{c:List V}{b:List Value}(h:Vals c b):∀k:Nat,Vals (List.replicate k c).flatten (List.replicate k b).flatten
 | 0=>.nil
 | k+1=>by
  rw[QQ,QQ,XA,XA];exact Vals.append h (Vals.rep h k)
theorem Jz(c:List Value):∀(k:Nat) (b:List Value),
  List.foldl (fun f g=>f++g) b.toArray (List.replicate k c.toArray)=(b++(List.replicate k c).flatten).toArray
 | 0,b=>by simp
 | k+1,b=>by
  have e:b.toArray++c.toArray=(b++c).toArray:=by simp
  have e2:(b++c)++(List.replicate k c).flatten=b++(List.replicate (k+1) c).flatten:=by
   rw[QQ,XA,Zj]
  rw[<- e2,<- Jz c k (b++c),<- e,QQ,W0]
section
variable{X:Cx}{c:List (Addr×Obj)}{σ:St}{H:Hp}{s:Shared}{l b:Addr}{g ys j:List V}
theorem Inv.lset{w its':List Value}{n:Nat}{f:Array Value->Array Value}{D:Nat}(I:Inv X c σ H s)(A:H l=some (.lst g))
  (e:s.heap.get? l=some { cls:=.type "list",data:=.seq w.toArray n }) (B:f w.toArray=its'.toArray) (hv:Vals ys its') (hz:ys.length<=sizeLine) :
  Inv X c σ (upd H l (.lst ys)) { s with heap:=s.heap.update l (Obj.mapSeq f),toks:=D }:=by
 have q:=PySem.IsL.update e f;rw[B] at q;refine I.write (x:=l) (e:=l) (by rw[A];exact trivial) (.inl rfl) (fun E u hb hu=>(QD s.heap (Obj.mapSeq f) (zM hb)).trans hu) ⟨_,q⟩ ?_
 exact⟨hz,its',_,hv,q⟩
theorem Inv.lnew{f:List Value}{t':Nat}(I:Inv X c σ H s)(hv:Vals ys f)(hz:ys.length<=sizeLine) :
  Inv X c σ (upd H s.heap.objs.size (.lst ys)) { s with heap:=s.heap.push { cls:=.type "list",data:=.seq f.toArray },toks:=t' }:=
 I.laid (fun _ _ q=>zV _ q) (zC _) ⟨hz,f,0,hv,zT _ rfl⟩
theorem Inv.fresh(I:Inv X c σ H s):H s.heap.objs.size=none:=I.hok.fresh (zC _)
theorem Inv.lstM(I:Inv X c σ H s)(w:H l=some (.lst g)):g.length<=sizeLine/\∃(f:List Value) (n:Nat),Vals g f/\g.length=f.length/\s.heap.get? l=some { cls:=.type "list",data:=.seq f.toArray n }:=by
 obtain⟨z,f,n,r,e⟩:=I.hok l _ w;exact⟨z,f,n,r,r.length,e⟩
theorem zc0{n:Nat}(h:n<=sizeLine):Builtin.List.listTooLong n=false:=by
 unfold Builtin.List.listTooLong;exact qZ (by omega)
end
section
variable{X:Cx}
inductive zaa(x:V)(c:List V)(H:Hp)(Q:VK):Prop
 | mk (l b y:_) (_:x=.ref l) (_:c=[y]) (_:H l=some (.lst b)) (_:b.length<sizeLine) (_:Q .non (upd H l (.lst (b++[y])))):zaa  x c H Q
theorem qE:MtM X "list.append" zaa:=by
 intro g s σ H x E v D Q I A w h;obtain⟨l,G,y,rfl,rfl,c,hz,q⟩:=h;cases A;obtain⟨u,rfl,j⟩:=w.one;obtain⟨z,b,n,r,B,e⟩:=I.lstM c;refine call_meets F.slot_list_append ⟨_,e,rfl⟩ F.entry_list_append (F.args_list_append_2 _ _) (PySem.list_append l b.toArray n u (by rw[zN];omega)) ⟨e,?_⟩
 refine⟨.non,_,I.lset (its':=b++[u]) c e (by simp) (r.append (.cons j .nil)) ?_,rfl,q⟩
 rw[zS,Yo];omega
inductive zcy(x:V)(b:List V)(H:Hp)(Q:VK):Prop
 | mk (l c:_) (_:x=.ref l) (_:b=[]) (_:H l=some (.lst c)) (_:Q .non (upd H l (.lst []))):zcy  x b H Q
theorem Ql:MtM X "list.clear" zcy:=by
 intro j s σ H x E v D Q I A w h;obtain⟨l,G,rfl,rfl,f,q⟩:=h;cases A;have b:=w.zero;subst b;obtain⟨z,c,n,r,B,e⟩:=I.lstM f;refine call_meets F.slot_list_clear ⟨_,e,rfl⟩ F.entry_list_clear (F.args_list_clear_1 _) (AutoSeq1.list_clear_list_0 l c.toArray n (by rw[zN];omega)) ⟨e,?_⟩
 exact⟨.non,_,I.lset (its':=[]) (ys:=[]) f e rfl .nil (qV _),rfl,q⟩
inductive zfP(x:V)(y:V)(H:Hp)(Q:VK):Prop
 | mk (l b c f:_) (_:x=.ref l) (_:y=.ref b) (_:H l=some (.lst c)) (_:H b=some (.lst f)) (_:c.length+f.length<=sizeLine) (_:∀p,H p=none->Q (.ref p) (upd H p (.lst (c++f)))):zfP  x y H Q
theorem J5:OpR X (binaryOp .Add) zfP:=by
 intro g s σ H x y v u Q I E G h;obtain⟨l,b,N,T,rfl,rfl,A,w,hz,q⟩:=h;cases E;cases G;obtain⟨z,f,n,r,J,e⟩:=I.lstM A;obtain⟨O,c,L,D,B,e2⟩:=I.lstM w;refine PySem.P.add_list e e2 ?_ (by rw[zN,zN];omega)
 have j:f.toArray++c.toArray=(f++c).toArray:=by simp
 rw[j];exact⟨.ref _,_,I.lnew (t':=s.toks) (r.append D) (by rw[zS];omega),rfl,q _ I.fresh⟩
inductive zhC(x:V)(y:V)(H:Hp)(Q:VK):Prop
 | mk (l k b:_) (_:x=.ref l) (_:y=.int k) (_:H l=some (.lst b)) (_:-(2^63)<=k) (_:k<2^63) (_:b.length*k.toNat<=sizeLine) (_:∀p,H p=none->Q (.ref p) (upd H p (.lst (List.replicate k.toNat b).flatten))):zhC  x y H Q
theorem zen{α:Type}(b:List α)(k:Nat):(List.replicate k b).flatten.length=k*b.length:=by
 induction k with
 | zero=>simp
 | succ k c=>rw[QQ,XA,zS,c,Nat.succ_mul,Nat.add_comm]
theorem zf5:OpR X (binaryOp .Mult) zhC:=by
 intro D s σ H x y v u Q I M N h;obtain⟨l,k,xs,rfl,rfl,J,h1,G,hz,q⟩:=h;cases M;obtain⟨t,rfl⟩:=N;obtain⟨z,b,n,r,L,e⟩:=I.lstM J;have j:b.toArray.size*k.toNat<=sizeLine:=by rw[zN,<- L];exact hz
 have f:¬b.toArray.size*k.toNat>(2^63-1)/8:=by
  have:(sizeLine:Nat)<=(2^63-1)/8:=by decide
  omega
 have g:¬(!Builtin.List.listFitsIndex k)=true:=by
  rw[fitsIndex_both h1 G];exact qO
 have c:¬Builtin.List.listTooLong (b.toArray.size*k.toNat)=true:=by
  rw[zc0 j];exact qO
 have w:List.foldl (fun A B=>A++B) #[] (List.replicate (if b.toArray.isEmpty=true then 0 else k.toNat) b.toArray)=(List.replicate k.toNat b).flatten.toArray:=by
  have E:∀m:Nat,List.foldl (fun A B=>A++B) #[] (List.replicate m b.toArray)=(List.replicate m b).flatten.toArray:=fun m=>by
   have:=Jz b m [];rw[QK] at this;exact this
  rw[E];cases b with
  | nil=>simp
  | cons a Y=>rw[zr (by simp)]
 refine wpAny_binaryOp_repeat_ref (T:= "list") (U:= "int") (by decide) ⟨_,e,rfl⟩ (fun O=>typeIs_int O k t) noFill_list_mul F.fills_int_mul F.slot_int_rmul repeat_list F.slot_int_index.lookup
  (call_meets F.slot_int_rmul (typeIs_int s k t) F.entry_int_rmul (F.args_int_rmul_2 _ _) (int___rmul___int_list k t l b.toArray n)
   ⟨e,rfl,⟨_,e,rfl⟩,call_meets F.slot_list_mul ⟨_,e,rfl⟩ F.entry_list_mul (F.args_list_mul_2 _ _) (AutoListH.list___mul___list_int_3 l b.toArray n k t g f c) ⟨e,?_⟩⟩)
 rw[w];exact⟨.ref _,_,I.lnew (t':=s.toks) (r.rep k.toNat) (by rw[zen,Nat.mul_comm];exact hz),rfl,q _ I.fresh⟩
end
section
variable{b:Program}{w:World}{A:Around}{E:Value->Shared->Prop}{s:Shared}
end
section
variable{X:Cx}
end
end L2
namespace Att
open PySem PySem.W PySem.Calls PyProof.Rows
theorem ZK{P:Params}{h:Heap}:∀(c:List Int) (f:List Value),WellAll P h f (c.map WData.int)->IntsAre f c:=by
 intro c;induction c with
 | nil=>
  intro f w;rw[wF] at w;cases w;exact .nil
 | cons n c g=>
  intro f w;rw[ji] at w;cases w with
  | cons a b=>
   cases a;exact .cons _ _ (g _ b)
theorem za7{l:OpenLaw}{n:Nat}(H:l.most=some n){P:Params}{h:Heap}{args:List WData}{f:List Value}
  (c:l.row.toRowW.claim.pre args=true) (B:WellAll P h f args) :
  ∃a D b,f=[Value.ref a]/\args=[WData.list (b.map WData.int)]/\h.get? a=some { cls:=.type "list",data:=.seq D.toArray }/\IntsAre D b/\b.length<=n:=by
 have A:WShape.hasAll [] args [.list .int]=true:=(pre_splitW c).1;have hc:l.pre.holds [] { args:=args }=true:=(pre_splitW c).2;obtain⟨d,r,rfl,h1,E⟩:=hasAllW_cons A;obtain rfl:=hasAllW_nil E;obtain⟨M,rfl,G⟩:=hasW_list h1;obtain⟨b,rfl⟩:=items_int G;have j:b.length<=n:=by
  unfold OpenLaw.pre at hc;have s:(WTm.not (.lt (.lit (.int (n:Int))) (.len (.arg 0)))).holds [] { args:=[.list (b.map .int)] }=true:=by
   have s:=(holds_andW hc).1;rw[H] at s;exact s
  have w:=condW_of s (w_not (w_lt w_lit (w_len_list (w_arg rfl))));rw[zn] at w;refine Nat.le_of_not_lt fun q=>?_
  have J:(n:Int)<((b.length:Nat):Int):=by omega
  first
   | (rw[zX J] at w;exact absurd w (by decide))
   | (simp at w;omega)
 cases B with
 | cons w1 L=>
  cases L;cases w1 with
  | list I g=>exact⟨_,_,b,rfl,rfl,I,ZK b _ g,j⟩
theorem zbb(l:OpenLaw)(args:List WData):l.row.toRowW.claim.post args (.bool true) args=true:=
 postW_of (r:=l.row.toRowW) (X:=(true==true))
  (show WShape.has [] (.bool true) .bool=true by first| rfl | decide | simp[WShape.has,WShape.arms,WShape.armsAll])
  (show(WTm.eq .res (.lit (.bool true))).value [] { args:=args,res:=some (.bool true),after:=args }=some (.bool (true==true)) from w_eq_bool (w_res rfl) w_lit) rfl
theorem attach_call{l:OpenLaw}{n:Nat}{q:Program}{b:List Str}{XP:(Str->Option Value)->Heap->Prop}{YP:World->Heap->Prop}{d:DefRec}
  (hn:l.most=some n) (N:d.params.defaults=[])
  (call:∀(w:World) (s₀ c:Shared) (I T:Str->Option Value) (A:Addr) (o:Obj) (U H g:Value) (a:Addr) (s:List Value) (J:List Int),
   Ground q b [] XP w s₀ I T c.heap->YP w c.heap ->
   c.heap.get? A=some o->o.data=.func (docDef d.name d.params d.body d.scope U H g)->c.heap.CodeRec H d.name->I d.name=some (.ref A) ->
   c.heap.get? a=some { cls:=.type "list",data:=.seq s.toArray }->IntsAre s J->J.length<=n->c.gens=#[] ->
   codeAny (model l.prog w) callerA (.call (.ref A) ⟨[.ref a],[]⟩) (fun r L=>r=.ok (.ret (.bool true))/\OldK c.heap L.heap/\L.os=c.os/\AllBare L.gens) c) :
  WalkO q b XP YP l.row.toRowW d [] (fun f s=>PySem.call f s):=by
 intro w s₀ c I T G Y A o U H g dV kV ho hd M hD O hg args aa as E a0 ac Q ab;obtain rfl:dV=.none:=Dflts.none hD N;obtain rfl:kV=.none:=Dflts.noKw hD;obtain⟨a,s,J,rfl,rfl,D,j,B⟩:=za7 hn E Q;refine enter_call (codeAny_mono (call w s₀ c I T A o U H g a s J G Y ho (fd_plain hd) M O D j B hg) fun r L hq=>?_)
 obtain⟨rfl,h2,h3,h4⟩:=hq;exact⟨.inl ⟨.bool true,.bool true,[],rfl,fun _=>rfl,.bool true,zbb l _,fun _=>⟨List.Pairwise.nil,fun _ hm=>(nomatch hm)⟩⟩,h2,h3,h4⟩
section
variable{b:Program}{w:World}{A:Around}{E:Value->Shared->Prop}{s:Shared}{K:Frag}
def ledger(h:Heap)(L d:Addr):List (Addr×Obj):=(List.range h.objs.size).filterMap fun a=>if a=L\/a=d then none else(h.get? a).map fun o=>(a,o)
end
end Att
namespace L2
open PySem PySem.Spec PyProof.Rows
theorem Q9:∀{c:List Value} {b:List Int},IntsAre c b->Vals (b.map V.int) c
 | _,_,.nil=>.nil
 | _,_,.cons n t h=>.cons ⟨t,rfl⟩ (Q9 h)
def zeQ(H:Hp):Prop:=∀b,H b=none\/∃o c,H b=some (.frz o (.lst c))
theorem VL{P:Program}{w:World}{K:W.Frag}{T mb:Str->Option Value}{CX:CXT}{k:Nat}{fa a:Addr}{fd:FuncData}{x:Str}{sp:Sp}{c:Shared}{D:List Value}{U:List Int}
  (KX:K.In c.heap) (M:c.heap.Ns mainGlobals T) (hb:c.heap.Ns builtinsNs mb) (aa:∀x:Str,x ≠ "__name__" -> mb x=bootBuiltins x) (L:c.heap.NoLimit) (hg:c.gens=#[])
  (ha:c.heap.get? a=some { cls:=.type "list",data:=.seq D.toArray }) (hi:IntsAre D U) (hl:U.length<=sizeLine) (hr:Room k callerA)
  (F:∀g:Heap,K.In g->g.Ns mainGlobals T->FnOk P w K T g CX k fa fd [x] sp) (B:∀(s:Shared) (u:Value),BindsTo s fd ⟨[u],[]⟩ [(x,u)])
  (ab:∀H:Hp,zeQ H->SqL K H a (U.map V.int)->sp [.ref a] H (fun v _=>v=.bl true) fun _ _ _=>False)
  (a0:∀H e j,CX [] H c (fun _ _ _=>False) e j->False) :
  codeAny (model P w) callerA (.call (.ref fa) ⟨[.ref a],[]⟩) (fun r j=>r=.ok (.ret (.bool true))/\OldK c.heap j.heap/\j.os=c.os/\AllBare j.gens) c:=by
 have rv:=Q9 hi;have Q:=hi.length;have A:∀H:Hp,zeQ H->SqL K H a (U.map V.int)->HOk P w H c.heap->(∀b,H b≠none->b=a)->(H a≠none->K.lookup a=none) ->
   codeAny (model P w) callerA (.call (.ref fa) ⟨[.ref a],[]⟩) (fun r j=>r=.ok (.ret (.bool true))/\OldK c.heap j.heap/\j.os=c.os/\AllBare j.gens) c:=by
  intro H hO hS N hA hK;have f:∀{b:Addr} {o:Obj},c.heap.get? b=some o->H b=none->(Xb c.heap H).get? b=some o:=fun e n=>zdb e n
  have ac:∀{b:Addr} {o:Obj} {I:Array DictEntry} {G:Nat},c.heap.get? b=some o->o.data=.dict I G->H b=none:=fun {b o I G} e d=>by
   cases q:H b with
   | none=>rfl
   | some u=>
    have e':b=a:=hA b (by rw[q];simp)
    subst e';rw[ha] at e;cases e
    have d':Data.seq D.toArray _=Data.dict I G:=d;cases d'
  have l:∀{b:Addr} {m:Str->Option Value},c.heap.Ns b m->(Xb c.heap H).Ns b m:=fun {b m} ⟨o,I,G,e,d,r⟩=>⟨o,I,G,f e (ac e d),d,r⟩
  have J:K.In (Xb c.heap H):=fun b o e=>f (KX b o e) (by
   cases q:H b with
   | none=>rfl
   | some u=>
    have e':b=a:=hA b (by rw[q];simp)
    subst e';rw[hK (by rw[q];simp)] at e;cases e)
  have hM:Mod K T (Xb c.heap H):=⟨J,l M,⟨mb,l hb,aa⟩,let ⟨mc,h1,h2⟩:=L;⟨mc,l h1,h2⟩⟩
  have e0:Env0 P w K T (Xb c.heap H) callerA [] c H:=⟨rfl,hM,fun b o e=>zei e,yo (zbs _ _),trivial,fun b hb=>absurd (show b∈([]:List Addr) from hb) (by simp),N,.of_eq hg⟩
  refine codeAny_mono ((F _ J (l M)).run callerA [] c H ⟨[.ref a],[]⟩ [.ref a] [.ref a] _ _ hr e0 (B c (.ref a)) (.cons rfl .nil) (ab H hO hS)) fun r j h=>?_
  cases r with
  | error e=>exact(a0 H e j h).elim
  | ok fl=>
   cases fl with
   | next=>exact False.elim h
   | brk=>exact False.elim h
   | cont=>exact False.elim h
   | ret u=>
    obtain⟨v,H',os,E,un,O,r',q⟩:=h;have q':v=.bl true:=q;subst q';obtain rfl:u=Value.bool true:=r';refine⟨rfl,OldK.of_keep fun b o e=>?_,os,E⟩
    cases q:H b with
    | none=>exact un.keep b o e q (by intro z;exact absurd (show b∈([]:List Addr) from z) (by simp)) (by simp)
    | some u=>
     rcases hO b with z | ⟨ob,xs,z⟩
     ·rw[q] at z;cases z
     ·have z2:=un.frzs b ob _ z
      obtain⟨e1,_⟩:=N b _ z;obtain⟨e2,_⟩:=O b _ z2;rw[e] at e1;cases e1
      exact e2
 cases hk:K.lookup a with
 | some o=>
  have e:=KX a o hk;rw[ha] at e;cases e;refine A (fun _=>none) (fun _=>.inl rfl) (.inr ⟨_,D.toArray,_,hk,rfl,rfl,rfl,by rw[zN,Q];exact hl,by simpa using rv⟩) (fun b u z=>by have Y:(none:Option HO)=some u:=z;cases Y) (fun b z=>absurd rfl z) fun z=>absurd rfl z
 | none=>
  refine A (fun b=>if b=a then some (.frz { cls:=.type "list",data:=.seq D.toArray } (.lst (U.map V.int))) else none) (fun b=>?_) (.inl (.inr ⟨{ cls:=.type "list",data:=.seq D.toArray },zx rfl⟩)) (fun b u z=>?_) (fun b z=>?_) fun _=>hk
  ·by_cases hb:b=a
   ·exact .inr ⟨_,_,zx hb⟩
   ·exact .inl (zr hb)
  ·by_cases hb:b=a
   ·have Y:=(zx hb).symm.trans z
    cases Y;subst hb;exact⟨ha,by rw[zn];exact hl,D,_,rv,ha⟩
   ·have Y:=(zr hb).symm.trans z
    cases Y
  ·by_cases hb:b=a
   ·exact hb
   ·exact absurd (zr hb) z
abbrev KOf{K:W.Frag}{h:Heap}(_:K.In h):PySem.W.Frag:=K
theorem walk_of{l:PySem.W.OpenLaw}{n k:Nat}{q:Program}{j:List Str}{XP:(Str->Option Value)->Heap->Prop}{YP:World->Heap->Prop}{d:DefRec}{K:Params->PySem.W.Frag}{T:World->CXT}{sp:World->Sp}{x:Str}
  (hn:l.most=some n) (N:n<=sizeLine) (L:d.params.defaults=[]) (hr:Room k callerA)
  (hY:∀(w:World) (h:Heap),YP w h->(K w.params).In h)
  (F:∀(w:World) (A:Str->Option Value) (D:Addr) (h:Heap),(K w.params).In h->h.Ns mainGlobals A->A d.name=some (.ref D) ->
   ∃I:FuncData,(∀(s:Shared) (u:Value),BindsTo s I ⟨[u],[]⟩ [(x,u)]) /\
    ∀b:Heap,(K w.params).In b->b.Ns mainGlobals A->FnOk l.prog w (K w.params) A b (T w) k D I [x] (sp w))
  (O:∀(w:World) (H:Hp) (a:Addr) (E:List Int),E.length<=n->zeQ H->SqL (K w.params) H a (E.map V.int)->sp w [.ref a] H (fun v _=>v=.bl true) fun _ _ _=>False)
  (J:∀(w:World) (H:Hp) (s:Shared) (e:Value) (Q:Shared),T w [] H s (fun _ _ _=>False) e Q->False) :
  PySem.W.WalkO q j XP YP l.row.toRowW d [] (fun f vs=>PySem.call f vs):=by
 refine Att.attach_call hn L fun w s₀ s₁ A mb D o pm cd a0 a vs E G Y ho hd aa M B g c hg=>?_
 have U:=hY w _ Y;obtain⟨I,hb,hF⟩:=F w A D _ U G.T.g M;exact VL U G.T.g G.T.b G.T.builtins G.T.nolimit hg B g (qL c N) hr hF hb (fun H hO hS=>O w H a E c hO hS) fun H e Q=>J w H s₁ e Q
def yH(s:Stmt):Arguments:=match s with
 | .FunctionDef _ a _ _ _ _ _ _ _ _=>a
 | _=>{ posonlyargs:=[],args:=[],vararg:=none,kwonlyargs:=[],kw_defaults:=[],kwarg:=none,defaults:=[] }
def wT(s:Stmt):List Stmt:=match s with
 | .FunctionDef _ _ b _ _ _ _ _ _ _=>b
 | _=>[]
def zq(s:Stmt):Scope:=match s with
 | .FunctionDef _ _ _ _ _ _ b _ _ _=>b
 | _=>{ kind:=.function,names:=[],isGenerator:=false,isCoroutine:=false }
abbrev CX0:CXT:=fun _ _ _ _ _ _=>False
abbrev E0:XK:=fun _ _ _=>False
theorem zhK{X:Cx}:Yy CX0 X E0:=fun _ _ _ _ _ _ _ h=>h.elim
structure Fun(K:W.Frag)(x qual:Str)(st:Stmt)(f:Addr)(fd:FuncData):Prop where
 ex:∃(oc:Value) (od:Option Addr) (kV doc pm:Value) (an:Option Addr) (cdv ct:Value) (osl:Array (Option Value)),
  fd=PySem.W.fnOf x qual (yH st) (wT st) (zq st) .none kV doc pm an cdv ct/\K.lookup f=some ⟨oc,od,.func fd,osl⟩/\PySem.W.codeIn K cdv qual=true
 kp:PySem.W.keepIn K (.ref f)=true
section
variable{P:Program}{w:World}{K:W.Frag}{c:Str->Option Value}{b:Heap}
theorem Fun.ok{x j:Str}{st:Stmt}{f:Addr}{O:FuncData}{N L:List Str}{k:Nat}{M:Sp}(F:Fun K x j st f O)(S:zy N L (zq st))(J:∀D H Q E,M D H Q E->D.length=L.length)
  (B:∀(l:Value) (A:Around) (g:List Env) (s:Shared) (H:Hp) (D:List V) (Q:VK) (E:XK),Room k (A.deeper (envOfC j (zq st) s.heap.objs.size f l))->M D H Q E ->
   ∃t,PSs (zbA CX0 P w K c b N j (zq st) f l A g s H E).nox (wT st) t/\t { nx:=fun _ T=>Q .non T,rt:=Q } (Zp N D) H):FnOk P w K c b CX0 (k+1) f O L M:=by
 obtain⟨oc,od,kV,U,pm,an,l,ct,a0,rfl,lk,G⟩:=F.ex;refine zij lk G S J fun A g s H D Q E Y I=>?_
 obtain⟨t,h,q⟩:=B l A g s H D Q E Y I;exact⟨t,h.nox,q⟩
theorem Fun.binds{x g:Str}{st:Stmt}{f:Addr}{E:FuncData}{B:List Str}(F:Fun K x g st f E)
  (h:∀(kV l A:Value) (s:Option Addr) (j ct:Value) (D:List Value),D.length=B.length->bindArgs (PySem.W.fnOf x g (yH st) (wT st) (zq st) .none kV l A s j ct) ⟨D,[]⟩=pure (B.zip D)):Binds K E B []:=by
 obtain⟨J,L,kV,l,A,s,j,ct,H,rfl,I,G⟩:=F.ex;exact .all (h kV l A s j ct)
end
theorem Zs{A:Around}{k:Nat}(b:Room k A):A.units+1<cLine:=wD (QP (by decide:1<=64) _) b.units
theorem za6{n:Nat}(h:n<=1000):n<sizeLine:=wD h (by decide)
section
variable{X:Cx}
theorem pv(i:Nat){x:Str}{c:Pos}(f:X.N[i]? =some x:=by rfl)(hv:Vis X.env.scope x:=by first| exact Or.inl rfl | exact Or.inr (Or.inl rfl) | exact Or.inr (Or.inr rfl))(hd:(x==("__debug__":Str))=false:=by decide)
  (b:(x==("__classdict__":Str))=false:=by decide):PE X (.Name x c) (zfz i):=zfX f hv hd b
end
theorem xg{c A B:Prop}[Decidable c](h1:c->A)(b:¬c->B):if c then A else B:=by
 by_cases h:c
 ·rw[zx h]
  exact h1 h
 ·rw[zr h]
  exact b h
def Same(H c:Hp):Prop:=∀b o,H b=some o->c b=some o
theorem Same.refl(H:Hp):Same H H:=fun _ _ h=>h
def u6:=@Same.refl
theorem Same.trans{H f g:Hp}(a:Same H f)(b:Same f g):Same H g:=fun c o h=>b c o (a c o h)
theorem Same.free{H b:Hp}(e:Same H b){l:Addr}(h:b l=Option.none):H l=Option.none:=by
 cases q:H l with
 | none=>rfl
 | some o=>
  rw[e l o q] at h;cases h
theorem Same.seq{K:W.Frag}{H b:Hp}{a:Addr}{c:List V}(e:Same H b)(h:SqL K H a c):SqL K b a c:=by
 rcases h with(h | ⟨o,h⟩) | h
 ·exact .inl (.inl (e _ _ h))
 ·exact .inl (.inr ⟨o,e _ _ h⟩)
 ·exact .inr h
end L2
namespace L2
inductive Ex1{b:Sort _}(P:b->Prop):Prop
 | mk (a1:b) (h:P a1):Ex1 P
inductive Ex2{b:Sort _}{c:Sort _}(P:b->c->Prop):Prop
 | mk (a1:b) (a2:c) (h:P a1 a2):Ex2 P
inductive Ex3{b:Sort _}{c:Sort _}{f:Sort _}(P:b->c->f->Prop):Prop
 | mk (a1:b) (a2:c) (a3:f) (h:P a1 a2 a3):Ex3 P
inductive Ex4{b:Sort _}{c:Sort _}{f:Sort _}{g:Sort _}(P:b->c->f->g->Prop):Prop
 | mk (a1:b) (a2:c) (a3:f) (a4:g) (h:P a1 a2 a3 a4):Ex4 P
inductive Ex5{b:Sort _}{c:Sort _}{f:Sort _}{g:Sort _}{j:Sort _}(P:b->c->f->g->j->Prop):Prop
 | mk (a1:b) (a2:c) (a3:f) (a4:g) (a5:j) (h:P a1 a2 a3 a4 a5):Ex5 P
inductive Ex6{b:Sort _}{c:Sort _}{f:Sort _}{g:Sort _}{j:Sort _}{l:Sort _}(P:b->c->f->g->j->l->Prop):Prop
 | mk (a1:b) (a2:c) (a3:f) (a4:g) (a5:j) (a6:l) (h:P a1 a2 a3 a4 a5 a6):Ex6 P
inductive Ex8{b:Sort _}{c:Sort _}{f:Sort _}{g:Sort _}{j:Sort _}{l:Sort _}{s:Sort _}{w:Sort _}(P:b->c->f->g->j->l->s->w->Prop):Prop
 | mk (a1:b) (a2:c) (a3:f) (a4:g) (a5:j) (a6:l) (a7:s) (a8:w) (h:P a1 a2 a3 a4 a5 a6 a7 a8):Ex8 P
inductive ziz{j:Sort _}{l:Sort _}{s:Sort _}{w:Sort _}{A:Sort _}{B:Sort _}{D:Sort _}{E:Sort _}{G:Sort _}{b:Sort _}{c:Sort _}(P:j->l->s->w->A->B->D->E->G->b->c->Prop):Prop
 | mk (a1:j) (a2:l) (a3:s) (a4:w) (a5:A) (a6:B) (a7:D) (a8:E) (a9:G) (f:b) (g:c) (h:P a1 a2 a3 a4 a5 a6 a7 a8 a9 f g):ziz P
inductive An2(b c:Prop):Prop
 | mk (h1:b) (f:c):An2 b c
inductive An3(b c f:Prop):Prop
 | mk (h1:b) (g:c) (j:f):An3 b c f
inductive An4(b c f g:Prop):Prop
 | mk (h1:b) (j:c) (l:f) (s:g):An4 b c f g
inductive An5(b c f g j:Prop):Prop
 | mk (h1:b) (l:c) (s:f) (w:g) (A:j):An5 b c f g j
inductive An6(b c f g j l:Prop):Prop
 | mk (h1:b) (s:c) (w:f) (A:g) (B:j) (D:l):An6 b c f g j l
inductive An7(b c f g j l s:Prop):Prop
 | mk (h1:b) (w:c) (A:f) (B:g) (D:j) (E:l) (G:s):An7 b c f g j l s
inductive An8(b c f g j l s w:Prop):Prop
 | mk (h1:b) (A:c) (B:f) (D:g) (E:j) (G:l) (H:s) (I:w):An8 b c f g j l s w
inductive An9(b c f g j l s w A:Prop):Prop
 | mk (h1:b) (B:c) (D:f) (E:g) (G:j) (H:l) (I:s) (J:w) (L:A):An9 b c f g j l s w A
theorem zib{α:Type _}{c:List α}(h:c.length=1):∃b,c=[b]:=
 match c,h with
 | [b],_=>⟨b,rfl⟩
theorem zia{α:Type _}{c:List α}(h:c.length=2):∃b a1,c=[b,a1]:=
 match c,h with
 | [b,a1],_=>⟨b,a1,rfl⟩
theorem zh9{α:Type _}{c:List α}(h:c.length=3):∃b a1 a2,c=[b,a1,a2]:=
 match c,h with
 | [b,a1,a2],_=>⟨b,a1,a2,rfl⟩
theorem zh8{α:Type _}{c:List α}(h:c.length=4):∃b a1 a2 a3,c=[b,a1,a2,a3]:=
 match c,h with
 | [b,a1,a2,a3],_=>⟨b,a1,a2,a3,rfl⟩
theorem zh7{α:Type _}{c:List α}(h:c.length=5):∃b a1 a2 a3 a4,c=[b,a1,a2,a3,a4]:=
 match c,h with
 | [b,a1,a2,a3,a4],_=>⟨b,a1,a2,a3,a4,rfl⟩
theorem zh6{α:Type _}{c:List α}(h:c.length=6):∃b a1 a2 a3 a4 a5,c=[b,a1,a2,a3,a4,a5]:=
 match c,h with
 | [b,a1,a2,a3,a4,a5],_=>⟨b,a1,a2,a3,a4,a5,rfl⟩
end L2
set_option maxHeartbeats 4000000
namespace L2
open PySem PySem.Spec PyProof.Rows
def jN(c:List (Str×Addr)):List (Str×NameKind)->List (Str×Addr)->List (Str×Addr)
 | [],b=>b
 | (n,k)::r,b=>jN c r (if(k==NameKind.free)=true then(n,(c.lookup n).getD 0)::b else b)
theorem zdp{env:Env}(names:List (Str×NameKind)):∀(b:List (Str×Addr)),(∀y∈names,y.2=NameKind.free->∃c,env.cells.lookup y.1=some c) ->
  (forIn names b fun(x:Str×NameKind) (f:List (Str×Addr))=>
   (if(x.2==NameKind.free)=true then(cellOf env x.1 >>= fun a=>(pure (ForInStep.yield ((x.1,a)::f)):Sem (ForInStep (List (Str×Addr))))) else pure (ForInStep.yield f)))=(pure (jN env.cells names b):Sem (List (Str×Addr))):=by
 induction names with
 | nil=>intro b _;rfl
 | cons y r g=>
  intro b h;obtain⟨n,k⟩:=y;rw[Xv];by_cases hk:(k==NameKind.free)=true
  ·obtain⟨c,hc⟩:=h (n,k) jb (by simpa using hk)
   have e1:cellOf env n=pure c:=by
    unfold cellOf;rw[show env.cells.lookup n=some c from hc]
   simp only[hk,if_true,e1,pure_bind];rw[g _ fun z hz=>h z (jc _ hz)]
   show _=pure (jN env.cells r (if(k==NameKind.free)=true then(n,(env.cells.lookup n).getD 0)::b else b))
   rw[zx hk,show env.cells.lookup n=some c from hc]
   all_goals rfl
  ·simp only[hk,pure_bind]
   simp only[jW,if_false,pure_bind];rw[g _ fun z hz=>h z (jc _ hz)]
   show _=pure (jN env.cells r (if(k==NameKind.free)=true then(n,(env.cells.lookup n).getD 0)::b else b))
   rw[zr hk]
theorem zaA{f:Env}{b:Scope}(h:∀y∈b.names,y.2=NameKind.free->∃c,f.cells.lookup y.1=some c):closureFor b f=pure (jN f.cells b.names []):=by
 have e:=zdp (env:=f) b.names [] h;unfold closureFor;refine Eq.trans ?_ (Eq.trans (congrArg (fun m=>m >>= fun g=>(pure g:Sem (List (Str×Addr)))) e) ?_)
 ·rfl
 ·simp
theorem vS{g:List (Str×Addr)}{x:Str}:∀(names:List (Str×NameKind)) (b:List (Str×Addr)),(jN g names b).lookup x=(if(names.any fun y=>y.2==NameKind.free&&x==y.1)=true then some ((g.lookup x).getD 0) else b.lookup x)
 | [],b=>by simp[jN]
 | (n,k)::r,b=>by
  unfold jN;rw[vS r];by_cases c:(r.any fun y=>y.2==NameKind.free&&x==y.1)=true
  ·rw[zx c,zx (by rw[wy,c,Bool.or_true])]
  ·rw[zr c]
   by_cases hk:(k==NameKind.free)=true
   ·rw[zx hk]
    by_cases hx:(x==n)=true
    ·rw[zx (by rw[wy];simp only[hk,hx,Bool.and_self,Bool.true_or])]
     have e:x=n:=by simpa using hx
     subst e;simp[vc]
    ·rw[zr (by rw[wy];simp only[hk,hx,Xr,Xp];exact c)]
     have f:(x==n)=false:=by simpa using hx
     simp[vc,f]
   ·rw[zr hk,zr (by rw[wy];simp only[hk,Bool.false_and,Xp];exact c)]
abbrev zD(X:Cx)(c:List Str)(b:Scope)(C:Addr)(s:Shared)(H:Hp)(ex:List Addr):Cx where
 prog:=X.prog
 w:=X.w
 K:=X.K
 mg:=X.mg
 base:=X.base
 A:=X.A
 N:=c
 s₀:=s
 H₀:=H
 env:=compEnvC b (jN X.env.cells b.names []) C X.env
 outer:=X.stack
 stack:=X.stack
 ex:=ex
 fn:=fun _=>false
 calm:=X.calm
 pn:=[]
 xe:=fun _ _=>False
abbrev xS(f:List Expr)(b:Env):Sem Bool:=
 forIn f true fun(c:Expr) (r:Bool)=>if r=true then(isTrue c b (eval c b) >>= fun ok=>(pure (ForInStep.yield ok):Sem (ForInStep Bool))) else pure (ForInStep.yield r)
theorem zdr{b:Program}{w:World}{A:Around}{R:Result->Shared->Prop}{s:Shared}{j O l:Expr}{B:List Expr}{f:Scope}{G:Pos}{I g:Value}{c:Env}(J:Nat->Shared->Prop)
  (H:∀n s,J n s->wpAny (model b w) A (pyNext I) (fun r s1=>match r with
   | none=>R (.ok .next) s1
   | some v=>wpAny (model b w) A (letOwnedTupleGo O I v) (fun _ s2=>wpAny (model b w) A (assign O c v) (fun _ Y=>
     wpAny (model b w) A (xS B c) (fun ok L=>
      if ok=true then wpAny (model b w) A (eval j c) (fun x M=>
       wpAny (model b w) A (call (.builtin "list.append") [g,x]) (fun _ N=>∃m,m<n/\J m N) (fun _ _=>False) M) (fun _ _=>False) L
      else ∃m,m<n/\J m L) (fun _ _=>False) Y) (fun _ _=>False) s2) (fun _ _=>False) s1) (fun _ _=>False) s)
  (n:Nat) (h:J n s):codeAny (model b w) A (.compLoop (.ListComp j [⟨O,l,B,0⟩] f G) 0 I g c) R s:=by
 have D:∀{α:Type} {t:Sem α} {Q:α->Shared->Prop} {E:Value->Shared->Prop} {s:Shared},wpAny (model b w) A t Q (fun _ _=>False) s->wpAny (model b w) A t Q E s:=fun x=>qh x (fun _ _ q=>q) fun _ _ q=>q.elim
 refine codeAny_loop rfl J (fun k u hJ=>?_) n h
 show wpAny _ A ((compTurn (.ListComp j [⟨O,l,B,0⟩] f G) 0 I g c).onRaise (fun x=>do noteFrame x c;theTreesLotGoes x)) _ _ u
 refine wpAny_noted ?_
 rw[compTurn_list];refine zf (vL (zf (D (qh (H k u hJ) (fun r s1 h1=>?_) fun _ _ q=>q))))
 cases r with
 | none=>exact zv h1
 | some v=>
  refine zf (D (qh h1 (fun _ s2 h2=>zf (D (qh h2 (fun _ Y h3=>zf (D (qh h3 (fun ok L U=>?_) fun _ _ q=>q))) fun _ _ q=>q))) fun _ _ q=>q))
  cases ok with
  | false=>exact zv ⟨rfl,U⟩
  | true=>
   have T:wpAny (model b w) A (eval j c) (fun x M=>wpAny (model b w) A (call (.builtin "list.append") [g,x]) (fun _ N=>∃m,m<k/\J m N) (fun _ _=>False) M) (fun _ _=>False) L:=U
   refine zf (zf (D (qh T (fun x M h5=>zf (D (qh h5 (fun _ N h6=>zv (zv ⟨rfl,h6⟩)) fun _ _ q=>q))) fun _ _ q=>q)))
def PF(X:Cx)(c:List Expr)(t:TT):Prop:=
 ∀(b:List (Addr×Obj)) (s:Shared) (σ:St) (H:Hp) (Q:Bool->Hp->Prop),Inv X b σ H s->t σ H Q->wpAny (model X.prog X.w) X.A (xS c X.env) (TP X b σ Q) X.xe s
def zim:TT:=fun _ H Q=>Q true H
theorem qQ{X:Cx}:PF X [] zim:=fun b s σ H Q I h=>zv ⟨H,I,h⟩
theorem j5{X:Cx}{c:Expr}{t:TT}(hc:PT X c t):PF X [c] t:=by
 intro b s σ H Q I h;unfold xS;simp only[Xv,WW,if_true];refine zf (zf (thn (hc b s σ H Q I h) fun ok s1 q=>zv (zv q)))
theorem zas{P:Program}{w:World}{H:Hp}{h f:Heap}{C:Addr}(x:HOk P w H h)(g:H C=none)(k:∀b o,b≠C->h.get? b=some o->f.get? b=some o):HOk P w H f:=fun b u e=>by
 refine(x b u e).stay (fun c v hc q=>k c v ?_ q) (fun _ q=>q) fun _ _ q=>q
 rcases hc with z | z
 ·rw[z];exact zj e g
 ·exact zj z g
theorem Jw{P:Program}{w:World}{H:Hp}{h:Heap}{a:Addr}{o:HO}(x:HOk P w H h)(g:H a=none)(f:ObjOk P w (upd H a o) h a o):HOk P w (upd H a o) h:=fun b u e=>by
 by_cases hb:b=a
 ·subst hb;rw[zc] at e;cases e;exact f
 ·rw[zm hb] at e
  exact(x b u e).stay (fun c v _ q=>q) (fun c q=>by rw[zm (zj q g)];exact q) fun c j q=>by rw[zm (zj q g)];exact q
theorem XX{fs c:List Addr}{H j:Hp}{h l:Heap}{a:Addr}{o:HO}(u:Un fs c H j h l)(s:a∈c)(f:H a=none):Un fs c H (upd j a o) h l where
 keep:=u.keep
 slot:=u.slot
 free:=fun b g q n hx=>by
  have hb:b≠a:=fun z=>hx (by rw[z];exact s)
  rw[zm hb];exact u.free b g q n hx
 there:=u.there
 tups:=fun b A q=>by rw[zm (zj q f)];exact u.tups b A q
 frzs:=fun b g v q=>by rw[zm (zj q f)];exact u.frzs b g v q
 tbls:=fun b w q=>by rw[zm (zj q f)];exact u.tbls b w q
theorem zbP{fs g:List Addr}{H f:Hp}{h h1 j:Heap}{C:Addr}(u:Un fs g H f h h1)(c:h.objs.size<=C)(k:∀b o,b≠C->h1.get? b=some o->j.get? b=some o):Un fs g H f h j where
 keep:=fun b o q n hb hx=>k b o (zU (jP (zF q) c)) (u.keep b o q n hb hx)
 slot:=fun b o q n hb hx=>let ⟨s,e⟩:=u.slot b o q n hb hx;⟨s,k b _ (zU (jP (zF q) c)) e⟩
 free:=u.free
 there:=fun b o q hx=>let ⟨l,e⟩:=u.there b o q hx;⟨l,k b _ (zU (jP (zF q) c)) e⟩
 tups:=u.tups
 frzs:=u.frzs
 tbls:=u.tbls
def yJ(sn on:List (Str×NameKind))(N b:List Str)(c:List Nat):Bool:=
 sn.all (fun y=>y.2 != .cell&&(y.2 != .local||sn.lookup y.1==some .local)&&(y.2 != .free||(on.lookup y.1==some .cell||on.lookup y.1==some .free)))&&b.length==c.length
  && (b.zip c).all fun p=>sn.lookup p.1==some .free&&N[p.2]? ==some p.1
structure zdK(sn on:List (Str×NameKind))(N fr:List Str)(js:List Nat):Prop where
 cell:∀y∈sn,y.2≠NameKind.cell
 loc:∀y∈sn,y.2=NameKind.local->sn.lookup y.1=some .local
 free:∀y∈sn,y.2=NameKind.free->on.lookup y.1=some .cell\/on.lookup y.1=some .free
 len:fr.length=js.length
 fr:∀(k:Nat) (x:Str),fr[k]? =some x->sn.lookup x=some .free/\∃j:Nat,js[k]? =some j/\N[j]? =some x
theorem Wa{sn on:List (Str×NameKind)}{N c:List Str}{b:List Nat}(h:yJ sn on N c b=true):zdK sn on N c b:=by
 unfold yJ at h;rw[jO,jO,vX,vX] at h;obtain⟨⟨h1,j⟩,l⟩:=h;have f:c.length=b.length:=by simpa using j
 refine⟨fun y hy=>?_,fun y hy e=>?_,fun y hy e=>?_,f,fun k x e=>?_⟩
 ·have:=h1 y hy
  simp only[jO,bne_iff_ne] at this;exact this.1.1
 ·have:=h1 y hy
  simp only[jO,Bool.or_eq_true,bne_iff_ne,jT] at this;exact this.1.2.resolve_left fun z=>z e
 ·have:=h1 y hy
  simp only[jO,Bool.or_eq_true,bne_iff_ne,jT] at this;exact this.2.resolve_left fun z=>z e
 ·have hk:k<c.length:=(zK.mp e).1
  have g:k<b.length:=by omega
  have s:(x,b[k])∈c.zip b:=by
   refine zY (i:=k) ?_
   rw[List.getElem?_zip_eq_some]
   exact⟨e,by simp[g]⟩
  have:=l _ s;simp only[jO,jT] at this;exact⟨this.1,b[k],by simp[g],this.2⟩
def upS(n:Nat)(b:List Nat)(σ:St):St:=List.replicate n none++b.map fun j=>(σ[j]?).join
def tLC(T:TI)(n:Nat)(A:List Nat)(g:TG)(O:TT)(M:TE):TE:=fun σ H Q=>T σ H fun J G=>
 ∃W:Nat->Nat->List V->Hp->Prop,(∃m,W 0 m [] G)/\∀i m f c,W i m f c ->
  (J.stop i c/\f.length<=sizeLine/\∀D,c D=none->Q (.ref D) (upd c D (.lst f))) \/
  (J.go i c/\∃N:List V->Hp->Prop,(∀E l,N E l->∃B,B<m/\W (i+1) B E l)/\∀x s,J.yld i c x s->g x (upS n A σ) s fun j I=>j.drop n=(upS n A σ).drop n/\O j I fun b w=>
   if b=true then M j w fun y L=>f.length<sizeLine/\N (f++[y]) L else N f w)
theorem wf{b:Env}{x:Str}{f:NameKind}:∀{names:List (Str×NameKind)},(names.map fun(n,k)=>if(k==NameKind.free&&b.scope.kind==.function&&b.kindOf n==some .cell) then(n,NameKind.cell) else(n,k)).lookup x=some f ->
  ∃k,names.lookup x=some k/\(f=k\/(k=.free/\f=.cell))
 | [],h=>by simp at h
 | (n,k)::r,h=>by
  by_cases hx:(x==n)=true
  ·refine⟨k,by simp[vc,hx],?_⟩
   have h:List.lookup x ((if(k==NameKind.free&&b.scope.kind==.function&&b.kindOf n==some .cell)=true then(n,NameKind.cell) else(n,k))::_)=some f:=h
   by_cases hc:(k==NameKind.free&&b.scope.kind==.function&&b.kindOf n==some .cell)=true
   ·rw[zx hc,vc,hx] at h
    simp only[jO,jT] at hc;exact .inr ⟨hc.1.1,(jt h).symm⟩
   ·rw[zr hc,vc,hx] at h
    exact .inl (jt h).symm
  ·have c:(x==n)=false:=by simpa using hx
   have h:List.lookup x ((if(k==NameKind.free&&b.scope.kind==.function&&b.kindOf n==some .cell)=true then(n,NameKind.cell) else(n,k))::_)=some f:=h
   have g:(r.map fun(n,k)=>if(k==NameKind.free&&b.scope.kind==.function&&b.kindOf n==some .cell) then(n,NameKind.cell) else(n,k)).lookup x=some f:=by
    by_cases hc:(k==NameKind.free&&b.scope.kind==.function&&b.kindOf n==some .cell)=true
    ·rw[zx hc,vc,c] at h;exact h
    ·rw[zr hc,vc,c] at h;exact h
   obtain⟨j,e,z⟩:=wf g;exact⟨j,by rw[vc,c];exact e,z⟩
theorem ye{env:Env}{x:Str}:∀{names:List (Str×NameKind)},names.lookup x=some .free->∃b,(names.map fun(n,k)=>if(k==NameKind.free&&env.scope.kind==.function&&env.kindOf n==some .cell) then(n,NameKind.cell) else(n,k)).lookup x=some b/\(b=.cell\/b=.free)
 | [],h=>by simp at h
 | (n,k)::r,h=>by
  by_cases hx:(x==n)=true
  ·rw[vc,hx] at h
   cases(jt h);show ∃b,List.lookup x ((if(NameKind.free==NameKind.free&&env.scope.kind==.function&&env.kindOf n==some .cell)=true then(n,NameKind.cell) else(n,NameKind.free))::_)=some b/\_
   by_cases hc:(NameKind.free==NameKind.free&&env.scope.kind==.function&&env.kindOf n==some .cell)=true
   ·rw[zx hc];exact⟨.cell,by simp[vc,hx],.inl rfl⟩
   ·rw[zr hc];exact⟨.free,by simp[vc,hx],.inr rfl⟩
  ·have c:(x==n)=false:=by simpa using hx
   rw[vc,c] at h;obtain⟨b,e,z⟩:=ye (env:=env) (names:=r) h;refine⟨b,?_,z⟩
   show List.lookup x ((if(k==NameKind.free&&env.scope.kind==.function&&env.kindOf n==some .cell)=true then(n,NameKind.cell) else(n,k))::_)=some b
   by_cases hc:(k==NameKind.free&&env.scope.kind==.function&&env.kindOf n==some .cell)=true
   ·rw[zx hc,vc,c];exact e
   ·rw[zr hc,vc,c];exact e
theorem qG{b:List (Str×Addr)}{names:List (Str×NameKind)}{x:Str}{c:Addr}(h:(jN b names []).lookup x=some c)(j:∀y∈names,y.2=NameKind.free->∃c,b.lookup y.1=some c):b.lookup x=some c:=by
 rw[vS] at h;by_cases f:(names.any fun y=>y.2==NameKind.free&&x==y.1)=true
 ·rw[zx f] at h
  obtain⟨y,hy,e⟩:=yM.mp f;simp only[jO,jT] at e;obtain⟨l,g⟩:=j y hy e.1;rw[<- e.2] at g;rw[g] at h ⊢;exact h
 ·rw[zr f] at h
  cases h
theorem wU{b:List (Str×Addr)}{names:List (Str×NameKind)}{x:Str}(h:names.lookup x=some .free):(jN b names []).lookup x=some ((b.lookup x).getD 0):=by
 rw[vS,zx];exact yM.mpr ⟨(x,.free),w9 h,by simp⟩
theorem yu{n:Nat}{b:List Nat}{σ:St}{i:Nat}{v:V}(h:(upS n b σ)[i]? =some (some v)):n<=i/\((upS n b σ).drop n)[i-n]? =some (some v)/\∃j:Nat,b[i-n]? =some j/\σ[j]? =some (some v):=by
 unfold upS at h ⊢;by_cases g:i<n
 ·rw[xQ (by simpa using g),List.getElem?_replicate] at h
  split at h<;>cases h
 ·have e:(List.replicate n (none:Option V)++b.map fun j=>(σ[j]?).join).drop n=b.map fun j=>(σ[j]?).join:=by
   rw[List.drop_append_of_le_length (by simp)];simp
  rw[xR (by simpa using g),xP] at h
  refine⟨by omega,by rw[e];exact h,?_⟩
  rw[qm] at h;cases c:b[i-n]? with
  | none=>rw[c] at h;cases h
  | some j=>
   rw[c] at h;have h:(σ[j]?).join=some v:=jt h;refine⟨j,rfl,?_⟩
   cases f:σ[j]? with
   | none=>rw[f] at h;cases h
   | some o=>rw[f] at h;exact congrArg some h
theorem YC{n:Nat}{b:List Nat}{σ:St}:(upS n b σ).length=n+b.length:=by unfold upS;simp
section
variable{X:Cx}{A G w:Expr}{E:List Expr}{f:Scope}{L:Pos}{U:TI}{g:TG}{O:TT}{M:TE}
theorem zbI{N:List (Addr×Obj)}{σ:St}{H:Hp}{s:Shared}{fp:List Addr}(own fr:List Str)(js:List Nat)(I:Inv X N σ H s)(B:zdK f.names X.env.scope.names X.N fr js)(hk:f.kind=.function)
  (f2:∀b∈fp,xh X N H b) (fl:∀b∈fp,b<s.heap.objs.size) {D C:Addr} (hD:D=s.heap.objs.size) {T h1:Heap} (e3:T=s.heap.push { cls:=.type "list",dict:=none,data:=.seq ([]:List Value).toArray }) (hC:C=T.objs.size)
  {m:Str->Option Value} (ae:h1.Ns C m) (k4:∀b o,T.get? b=some o->h1.get? b=some o) {t4:Nat} :
  Inv (zD X (own++fr) f C { s with heap:=T } H (D::fp)) [] (upS own.length js σ) H { s with heap:=h1,toks:=t4 }:=by
 have k3:∀b o,s.heap.get? b=some o->T.get? b=some o:=fun b o e=>by rw[e3];exact zV _ e
 have I3:Inv X N σ H { s with heap:=T }:=I.kept (t':=s.toks) k3;have hz:T.objs.size=s.heap.objs.size+1:=by rw[e3,xr]
 have J:∀y∈f.names,y.2=NameKind.free->∃c,X.env.cells.lookup y.1=some c:=fun y hy e=>I.ok.has y.1 (B.free y hy e)
 have Q:∀x c,X.env.cells.lookup x=some c->c<s.heap.objs.size:=fun x c e=>by
  obtain⟨v,q⟩:=I.cell x c e;exact q.lt
 refine⟨⟨I.ok.mod,hk,I.ok.glob,I.ok.blt,yo hC.symm,fun x y c e1 e2=>?_,fun x hx=>?_,fun x c hf=>(nomatch hf),fun hc=>I.ok.hd hc,I.ok.frames,.inl rfl,fun b hb=>?_,I3.bs,qL I.ok.bsz I3.sz,fun b o e hb=>?_,fun b hb hf=>?_,I3.stack,I3.stkFree⟩,
  rfl,I.bare,Un.kept k4,⟨m,ae,fun i x v e1 e2 af=>?_⟩,fun x c e=>?_,?_,fun x c e=>?_,fun p hp=>absurd (show p∈([]:List (Addr×Obj)) from hp) (by simp),I3.hok.kept k4,?_⟩
 ·exact I.ok.inj x y c (qG e1 J) (qG e2 J)
 ·obtain⟨k,e,z⟩:∃k,f.names.lookup x=some k/\(k=.free):=by
   rcases hx with hx | hx
   ·obtain⟨k,e,z⟩:=wf hx
    rcases z with z | z
    ·subst z;exact absurd rfl (B.cell _ (w9 e))
    ·exact⟨k,e,z.1⟩
   ·obtain⟨k,e,z⟩:=wf hx
    rcases z with z | z
    ·subst z;exact⟨_,e,rfl⟩
    ·exact⟨k,e,z.1⟩
  subst z;exact⟨_,wU e⟩
 ·rcases zR.mp hb with z | hb
  ·subst z
   refine⟨by rw[hD,hC,hz];exact zU (Zy _),fun x c e=>?_⟩
   have:=Q x c (qG e J);rw[hD];exact zU this
  ·refine⟨by rw[hC,hz];exact zU (W9 (fl b hb)),fun x c e=>?_⟩
   exact(f2 b hb).2.2.2.2.1 x c (qG e J)
 ·rcases zR.mp hb with z | hb
  ·have:=zF (I.bk b o e)
   rw[z,hD] at this;exact vM _ this
  ·rcases(f2 b hb).2.2.2.1 with z | z
   ·exact I.ok.noex b o e z
   ·exact absurd (jP (zF (I.ok.bs b o e).1) z) (vM _)
 ·have aa:=zR.mp (I.stkSub b hf)
  rcases zR.mp hb with z | hb
  ·rcases aa with y | y
   ·have:=I.lt
    rw[<- y,z,hD] at this;exact vM _ this
   ·exact I.nofs (a:=b) (by rw[z,hD];exact zC _) y
  ·rcases aa with y | y
   ·exact(f2 b hb).2.1 y
   ·exact(f2 b hb).2.2.1 y
 ·obtain⟨hn,_,j,ej,es⟩:=yu e2
  have ex:fr[i-own.length]? =some x:=by rw[xR hn] at e1;exact e1
  obtain⟨Y,j',a0,eN⟩:=B.fr _ x ex;have:j'=j:=by rw[ej] at a0;exact(jt a0).symm
  subst this;have ab:=B.free _ (w9 Y) rfl;obtain⟨m0,_,hl⟩:=I.loc;obtain⟨u,r,l⟩:=hl j' x v eN es (by rcases ab with z | z;exact .inr (.inl z);exact .inr (.inr z))
  refine⟨u,r,.inr ?_⟩
  rcases l with ⟨kl,_⟩ | ⟨_,c,ec,o,eo,ed⟩
  ·have ac:X.env.scope.names.lookup x=some .local:=kl
   rcases ab with z | z
   ·exact absurd (z.symm.trans ac) (by decide)
   ·exact absurd (z.symm.trans ac) (by decide)
  ·obtain⟨k',e',z⟩:=ye (env:=X.env) Y
   have eq:(jN X.env.cells f.names []).lookup x=some c:=by rw[wU Y,ec];rfl
   refine⟨?_,c,eq,o,k4 c o (k3 c o eo),ed⟩
   rcases z with z | z
   ·subst z;exact .inl e'
   ·subst z;exact .inr e'
 ·obtain⟨v,o,eo,ed⟩:=I.cell x c (qG e J)
  exact⟨v,o,k4 c o (k3 c o eo),ed⟩
 ·exact I3.hok.fresh (yo hC.symm)
 ·exact I.freeC x c (qG e J)
 ·rw[YC,<- B.len]
  show _=(own++fr).length;rw[zS]
inductive LcJ(Y:Cx)(D:Addr)(H:Nat->Heap->Prop)(B:List Addr)(c:List (Addr×Obj))(σ:St)(W:Nat->Nat->List V->Hp->Prop)(n:Nat)(s:Shared):Prop
 | mk (i:Nat) (I:List V) (j:List Value) (l:Hp) (z:Nat) (_:Inv Y c σ l s) (_:H i s.heap) (_:∀b∈B,l b=none) (_:l D=none) (_:s.heap.get? D=some { cls:=.type "list",data:=.seq j.toArray z }) (_:Vals I j) (_:W i n I l):LcJ Y D H B c σ W n s
inductive LcE(Y:Cx)(D:Addr)(b:List (Addr×Obj))(σ:St)(N:List V->Hp->Prop)(s:Shared):Prop
 | mk (l:List V) (c:List Value) (j:Hp) (z:Nat) (_:Inv Y b σ j s) (_:j D=none) (_:s.heap.get? D=some { cls:=.type "list",data:=.seq c.toArray z }) (_:Vals l c) (_:N l j):LcE Y D b σ N s
theorem zam{Y:Cx}{D it:Addr}{B:List Addr}{tn:Nat->Heap->Prop}{J:It}{c:List (Addr×Obj)}{σ4:St}{Kp:St->Prop}{W:Nat->Nat->List V->Hp->Prop}{N:List V->Hp->Prop}{n:Nat}{Q:Shared}
  (hc:Y.calm=true) (hx:Y.xe=fun _ _=>False) (hg:PG Y G g) (hf:PF Y E O) (he:PE Y A M) (T:wX Y.prog Y.w Y.K G J B it tn)
  (fD:∀s:Hp,s D=none->xh Y c s D) (f2:∀b∈B,∀s:Hp,s b=none->xh Y c s b) (nD:∀b∈B,D≠b) (bk:∀σ9 s s',Inv Y c σ9 s s'->Kp σ9->Inv Y c σ4 s s')
  (ao:∀i m zs H7,W i m zs H7->(J.stop i H7/\N zs H7)\/(J.go i H7/\∃N2:List V->Hp->Prop,(∀zs s,N2 zs s->∃m',m'<m/\W (i+1) m' zs s)/\∀x H8,J.yld i H7 x H8->g x σ4 H8 fun σ9 H9=>Kp σ9/\O σ9 H9 fun b a0=>
    if b=true then M σ9 a0 fun y ap=>zs.length<sizeLine/\N2 (zs++[y]) ap else N2 zs a0)) (j:LcJ Y D tn B c σ4 W n Q) :
  wpAny (model Y.prog Y.w) Y.A (pyNext (.ref it)) (fun r s1=>match r with
   | none=>LcE Y D c σ4 N s1
   | some v=>wpAny (model Y.prog Y.w) Y.A (letOwnedTupleGo G (.ref it) v) (fun _ s2=>wpAny (model Y.prog Y.w) Y.A (assign G Y.env v) (fun _ s3=>
     wpAny (model Y.prog Y.w) Y.A (xS E Y.env) (fun ok s4=>
      if ok=true then wpAny (model Y.prog Y.w) Y.A (eval A Y.env) (fun x Q=>
       wpAny (model Y.prog Y.w) Y.A (call (.builtin "list.append") [.ref D,x]) (fun _ s6=>∃m,m<n/\LcJ Y D tn B c σ4 W m s6) (fun _ _=>False) Q) (fun _ _=>False) s4
      else ∃m,m<n/\LcJ Y D tn B c σ4 W m s4) (fun _ _=>False) s3) (fun _ _=>False) s2) (fun _ _=>False) s1) (fun _ _=>False) Q:=by
 unfold PG at hg;unfold PF at hf;unfold PE at he
 rw[hx] at hg hf he;obtain⟨i,ys,H,H5,z5,I5,an,aj,as,am,ab,w5⟩:=j;have ai:=I5.pinned (fp:=[D]) (fun b hb=>by rw[qg.mp hb];exact fD _ as) (fun b hb=>by rw[qg.mp hb];exact⟨_,am,fun v q=>nomatch q⟩)
 have mD:(D,({ cls:=.type "list",data:=.seq H.toArray z5 }:Obj))∈c++qz [D] Q.heap:=qD _ (jk (qg.mpr rfl) am);have ag:∀{s:Hp},(∀b∈B,s b=none)->∀b∈B,xh Y (c++qz [D] Q.heap) s b:=fun hn b hb=>by
  obtain⟨a1,a2,a3,a4,a5,a6⟩:=f2 b hb _ (hn b hb);refine⟨a1,a2,a3,a4,a5,fun p hp=>?_⟩
  rcases qM.mp hp with q | q
  ·exact a6 p (j3 _ q)
  ·rcases qM.mp q with q | q
   ·exact a6 p (qD _ q)
   ·rw[qg.mp (vH q).1];exact nD b hb
 rcases ao i n ys H5 w5 with ⟨stop,q⟩ | ⟨go,N2,hN,step⟩
 ·refine thn (T.done Y rfl rfl rfl hc i _ Q _ H5 _ ai (ag aj) an stop) fun r s6 ⟨hr,I6⟩=>?_
  subst hr;obtain⟨o6,ax,_⟩:=I6.pin (D,_) (qD _ mD);exact⟨ys,H,H5,z5,I6.unpinned,ax,o6,ab,q⟩
 ·refine thn (T.item Y rfl rfl rfl hc i _ Q _ H5 _ ai (ag aj) an go) fun r s6 ⟨u,hr,h6⟩=>?_
  subst hr;refine thn h6 fun _ s7 ⟨x,H7,I7,r7,y7,ac,ar⟩=>?_
  refine thn (hg _ s7 _ H7 x u _ (I7.pinned (ag ar) (T.obj _ _ ac)) r7 (step x H7 y7)) fun _ s8 ⟨σ8,H8,I8,au,q8⟩=>?_
  refine thn (hf _ s8 σ8 H8 _ I8 q8) fun ok s9 ⟨H9,I9,q9⟩=>?_
  have ah:=qD Y.pn (j3 (qz B s7.heap) mD);have mF:∀b∈B,∀o,s7.heap.get? b=some o->(b,o)∈Y.pn++((c++qz [D] Q.heap)++qz B s7.heap):=fun b hb o e=>qD _ (qD _ (jk hb e))
  generalize hP:(c++qz [D] Q.heap)++qz B s7.heap=P at I9 ah mF he;have af:∀{s:Hp} {s':Shared},Inv Y P σ8 s s'->Inv Y c σ4 s s':=fun {s s'} J=>by subst hP;exact bk _ _ _ (J.unpinned).unpinned au
  have ak:∀{s:Hp} {s':Shared},Inv Y P σ8 s s'->∀b∈B,s b=none:=fun {s s'} J b hb=>by
   obtain⟨o,e,_⟩:=T.obj _ _ ac b hb;exact(J.pin (b,o) (mF b hb o e)).2.1
  cases ok with
  | false=>
   obtain⟨m',hm,w'⟩:=hN _ _ (show N2 ys H9 by simpa using q9)
   obtain⟨o9,ay,_⟩:=I9.pin (D,_) ah;exact⟨m',hm,i+1,ys,H,H9,z5,af I9,T.keep _ _ _ ac fun b hb o e=>(I9.pin (b,o) (mF b hb o e)).1,ak I9,ay,o9,ab,w'⟩
  | true=>
   refine thn (he _ s9 σ8 H9 (fun y H6=>ys.length<sizeLine/\N2 (ys++[y]) H6) I9 (by simpa using q9)) fun yv ba ⟨y,a0,aa,b0,av,bb⟩=>?_
   obtain⟨m',hm,w'⟩:=hN _ _ bb;obtain⟨az,I,_⟩:=aa.pin (D,_) ah;refine wpAny_list_append_plain (l:=D) (items:=H.toArray) (hsz:=by rw[zN,<- ab.length];exact QF av) ⟨_,az⟩ fun bd al ae=>?_
   obtain⟨bc,aq⟩:=al;obtain⟨d0,d1,d2,d3,d4,d5⟩:=fD _ I;refine⟨m',hm,i+1,ys++[y],H++[yv],a0,bc,?_,T.keep _ _ _ ac fun b hb o e=>ae.extBut b o (zM (nD b hb)) (aa.pin (b,o) (mF b hb o e)).1,ak aa,I,?_,ab.append (.cons b0 .nil),w'⟩
   ·exact(af aa).turned (t':=ba.toks) (it:=D) (fun b o hb e=>ae.extBut b o hb e) I d1 d3 d4 d5
   ·rw[aq];simp
theorem zdo{use:Option (Value->Sem Unit)}{Qx:Value->Shared->Prop}{cp:Pos}{rest:List Comprehension}{j:List (Addr×Obj)}{s:Shared}{σ:St}{H:Hp}{Q:VK}{Tl:It->(Nat->Nat->List V->Hp->Prop)->Prop}(own fr:List Str)(js:List Nat)(hk:f.kind=.function)(hb:yJ f.names X.env.scope.names X.N fr js=true)(hi:PI X G w U)
  (hs:∀x,foldedSetIterable w X.env x=pure x) (I:Inv X j σ H s) (h:U σ H fun J H1=>∃W:Nat->Nat->List V->Hp->Prop,(∃m,W 0 m [] H1)/\Tl J W)
  (ah:∀(C D it:Addr) (l:List Addr) (tn:Nat->Heap->Prop) (J:It) (W:Nat->Nat->List V->Hp->Prop) (N:Hp) (s3 s4:Shared) (m0:Nat) (R:Result->Shared->Prop),(∀b∈D::l,∀H':Hp,H' b=none->xh (zD X (own++fr) f C s3 N (D::l)) [] H' b)->(∀b∈l,D≠b) ->
   wX X.prog X.w X.K G J l it tn->Tl J W->LcJ (zD X (own++fr) f C s3 N (D::l)) D tn l [] (upS own.length js σ) W m0 s4 ->
   (∀s6,LcE (zD X (own++fr) f C s3 N (D::l)) D [] (upS own.length js σ) (fun ys H5=>ys.length<=sizeLine/\∀D,H5 D=none->Q (.ref D) (upd H5 D (.lst ys))) s6->R (.ok .next) s6) ->
   codeAny (model X.prog X.w) X.A (.compLoop (.ListComp A (⟨G,w,E,0⟩::rest) f L) 0 (.ref it) (.ref D) (compEnvC f (jN X.env.cells f.names []) C X.env)) R s4)
  (aj:∀(s6:Shared) (D C:Addr) (H6:Hp) (m:Str->Option Value),s6.heap.Ns C m->(∀h7:Heap,(∀b o,b≠C->s6.heap.get? b=some o->h7.get? b=some o)->Inv X j σ H6 { s6 with heap:=h7 })->xh X j H6 C->Q (.ref D) H6->compPost (model X.prog X.w) X.A X.xe use Qx (.ref D) C (.ok .next) s6) :
  wpAny (model X.prog X.w) X.A (comprehension (.ListComp A (⟨G,w,E,0⟩::rest) f L) f X.env cp (newList []) false (eval w X.env) use) Qx X.xe s:=by
 have B:=Wa hb;have a0:∀y∈f.names,y.2=NameKind.free->∃c,X.env.cells.lookup y.1=some c:=fun y hy e=>I.ok.has y.1 (B.free y hy e)
 refine wpAny_comprehension_free rfl hs (zaA a0) hk (fun y hy e=>B.loc y hy e) (thn (hi j s σ H _ I h) fun v s1 h1=>thn h1 fun ar s2 h2=>?_)
 obtain⟨it,l,tn,J,N,e,I2,T,ae,f2,W,⟨m0,w0⟩,tl⟩:=h2;subst e;have fl:∀b∈l,b<s2.heap.objs.size:=fun b hb=>let ⟨o,e,_⟩:=T.obj _ _ ae b hb;zF e
 refine vf (wpAny_newFunctionEnv B.cell (by intro y hy;simp at hy) (fun h1 ab ac=>?_) hk)
 dsimp only at ab ac ⊢;generalize e3:s2.heap.push { cls:=.type "list",dict:=none,data:=.seq ([]:List Value).toArray }=Y at ab ac ⊢;have k3:∀b o,s2.heap.get? b=some o->Y.get? b=some o:=fun b o e=>by rw[<- e3];exact zV _ e
 have k4:∀b o,Y.get? b=some o->h1.get? b=some o:=fun b o e=>ac.extBut b o (zU (zF e)) (zV _ e)
 have I4:Inv (zD X (own++fr) f Y.objs.size { s2 with heap:=Y } N (s2.heap.objs.size::l)) [] (upS own.length js σ) N { s2 with heap:=h1,toks:=s2.toks+([]:List (Str×Value)).length }:=
  zbI own fr js I2 B hk f2 fl rfl e3.symm rfl ab k4
 have I3:Inv X j σ N { s2 with heap:=Y }:=I2.kept (t':=s2.toks) k3;have hz:Y.objs.size=s2.heap.objs.size+1:=by rw[<- e3,xr]
 have aa:s2.heap.objs.size≠Y.objs.size:=by rw[hz];exact zU (Zy _)
 have af:h1.get? s2.heap.objs.size=some { cls:=.type "list",data:=.seq ([]:List Value).toArray }:=k4 _ _ (by rw[<- e3];exact zT _ rfl)
 have al:=(I3.fpOk (b:=Y.objs.size) (zC _) (I3.hok.fresh (zC _))).2;have dN:N s2.heap.objs.size=none:=I2.hok.fresh (zC _);have dO:=I2.fpOk (b:=s2.heap.objs.size) (zC _) dN;have fD:∀b∈l,s2.heap.objs.size≠b:=fun b hb=>vW (fl b hb)
 generalize s2.heap.objs.size=D at *
 generalize eC:Y.objs.size=C at *
 have hx:∀b,xh X j N b->∀x c,(jN X.env.cells f.names []).lookup x=some c->c≠b:=fun b hb x c e=>hb.2.2.2.2.1 x c (qG e a0)
 have ap:∀b∈D::l,b∉frs X.stack:=I4.ok.exfs;have nC:∀b∈D::l,b≠C:=fun b hb=>by
  rcases zR.mp hb with z | hb
  ·rw[z];exact aa
  ·exact(I4.ok.exf b (jc _ hb)).1
 have all:∀b∈D::l,xh X j N b:=fun b hb=>by
  rcases zR.mp hb with z | hb
  ·rw[z];exact dO
  ·exact f2 b hb
 have ak:∀b∈D::l,∀H':Hp,H' b=none->xh (zD X (own++fr) f C { s2 with heap:=Y } N (D::l)) [] H' b:=fun b hb H' hn=>
  ⟨hn,nC b hb,ap b hb,.inl hb,fun x c e=>hx b (all b hb) x c e,fun p h=>absurd h (by simp)⟩
 have go:∀s4:Shared,s4={ s2 with heap:=h1,toks:=s2.toks+([]:List (Str×Value)).length } ->
   codeAny (model X.prog X.w) X.A (.compLoop (.ListComp A (⟨G,w,E,0⟩::rest) f L) 0 (.ref it) (.ref D) (compEnvC f (jN X.env.cells f.names []) C X.env)) (compPost (model X.prog X.w) X.A X.xe use Qx (.ref D) C) s4:=by
  intro s4 e4;subst e4;refine ah C D it l tn J W N _ _ m0 _ ak fD T tl ⟨0,[],[],N,0,I4,T.keep _ _ _ ae fun b hb o e=>k4 b o (k3 b o e),fun b hb=>(f2 b hb).1,dN,af,.nil,w0⟩ fun s6 h6=>?_
  obtain⟨ys,ao,H5,z5,I6,ai,o6,aq,ag,q⟩:=h6;obtain⟨m6,an,_⟩:=I6.loc;have am:upd H5 D (.lst ys) C=none:=by rw[zm (zM aa)];exact I6.free
  refine aj s6 D C (upd H5 D (.lst ys)) m6 an (fun h7 k7=>?_) ⟨am,al⟩ (q D ai)
  refine I3.call' (s':={ s6 with heap:=h7 }) (ch:=D::l) I6.os (XX (zbP I6.base (yo eC) k7) jb dN) (Jw (zas I6.hok I6.free k7) ai ⟨ag,ao,z5,aq,k7 D _ aa o6⟩) I6.bare fun b hb=>?_
  obtain⟨_,g1,_,g3,g4,g5⟩:=all b hb;exact⟨g3,g1,g4,g5⟩
 exact codeAny_compStart_list (go _ rfl) (T.self X.A 0 _ _ _ (T.keep _ _ _ ae fun b hb o e=>k4 b o (k3 b o e)) (go _ rfl))
theorem XW{Y:Cx}{b:List (Addr×Obj)}{n:Nat}{c:List Nat}{σ s:St}{j:Hp}{l:Shared}(B:(upS n c σ).length=Y.N.length)(J:Inv Y b s j l)(hd:s.drop n=(upS n c σ).drop n):Inv Y b (upS n c σ) j l:=by
 refine J.weak (B.trans J.len.symm) fun k v e=>?_
 obtain⟨D,e1,_⟩:=yu e;rw[<- hd,List.getElem?_drop] at e1
 rw[<- e1];congr 1
 omega
theorem zan{C D it:Addr}{c:List Addr}{tn:Nat->Heap->Prop}{J:It}{W:Nat->Nat->List V->Hp->Prop}{H2:Hp}{s3 s4:Shared}{m0 n:Nat}{R:Result->Shared->Prop}{js:List Nat}{σ:St}{l:List Str}{N:List V->Hp->Prop}(hc:X.calm=true)
  (hg:∀C s H ex,PG (zD X l f C s H ex) G g) (hf:∀C s H ex,PF (zD X l f C s H ex) E O) (he:∀C s H ex,PE (zD X l f C s H ex) A M) (aa:∀b∈D::c,∀Q:Hp,Q b=none->xh (zD X l f C s3 H2 (D::c)) [] Q b) (fD:∀b∈c,D≠b) (T:wX X.prog X.w X.K G J c it tn)
  (ab:∀i m B H7,W i m B H7->(J.stop i H7/\N B H7)\/(J.go i H7/\∃N2:List V->Hp->Prop,(∀B Q,N2 B Q->∃m',m'<m/\W (i+1) m' B Q)/\∀x H8,J.yld i H7 x H8->g x (upS n js σ) H8 fun σ9 H9=>σ9.drop n=(upS n js σ).drop n/\O σ9 H9 fun b a0=>
    if b=true then M σ9 a0 fun y ac=>B.length<sizeLine/\N2 (B++[y]) ac else N2 B a0))
  (j:LcJ (zD X l f C s3 H2 (D::c)) D tn c [] (upS n js σ) W m0 s4) (ae:∀s6,LcE (zD X l f C s3 H2 (D::c)) D [] (upS n js σ) N s6->R (.ok .next) s6) :
  codeAny (model X.prog X.w) X.A (.compLoop (.ListComp A [⟨G,w,E,0⟩] f L) 0 (.ref it) (.ref D) (compEnvC f (jN X.env.cells f.names []) C X.env)) R s4:=by
 have hl:=(let ⟨_,_,_,_,_,I,_,_,_,_,_,_⟩:=j;I.len:(upS n js σ).length=l.length)
 refine zdr (LcJ (zD X l f C s3 H2 (D::c)) D tn c [] (upS n js σ) W) (fun k s5 j=>qh (zam (Y:=zD X l f C s3 H2 (D::c)) hc rfl (hg _ _ _ _) (hf _ _ _ _) (he _ _ _ _) T (aa D jb) (fun b hb=>aa b (jc _ hb)) fD (fun σ9 Q s' J hd=>XW hl J hd) ab j) (fun r s6 h6=>?_) fun _ _ q=>q) m0 j
 cases r with
 | some v=>exact h6
 | none=>exact ae s6 h6
theorem zfn(own l:List Str)(Y:List Nat)(hc:X.calm=true)(hk:f.kind=.function)(hb:yJ f.names X.env.scope.names X.N l Y=true)(hi:PI X G w U)
  (hg:∀C s H c,PG (zD X (own++l) f C s H c) G g) (hf:∀C s H c,PF (zD X (own++l) f C s H c) E O) (he:∀C s H c,PE (zD X (own++l) f C s H c) A M)
  (hs:∀x,foldedSetIterable w X.env x=pure x:=by intro _;rfl):PE X (.ListComp A [⟨G,w,E,0⟩] f L) (tLC U own.length Y g O M):=by
 intro a0 s σ H Q I h;rw[eval_ListComp];exact zdo (rest:=[]) own l Y hk hb hi hs I h (fun C D it fp tn J W H2 s3 s4 m0 R a b T tl j B=>zan hc hg hf he a b T tl j B) fun s6 D C H6 m hn all _ q=>⟨m,hn,fun h7 N=>⟨.ref D,H6,all h7 fun b o hb e=>N.extBut b o hb e,rfl,q⟩⟩
end
section
variable{X:Cx}{f:List (Addr×Obj)}{σ:St}{H:Hp}{s:Shared}
theorem ZP{ch:List Addr}{h':Heap}{t':Nat}{T:Addr}{l:List V}{its:List Value}(I:Inv X f σ H s)(j:∀b∈ch,xh X f H b)(w:s.heap.objs.size<=T)
  (k:∀b o,b∉ch->s.heap.get? b=some o->h'.get? b=some o) (M:l.length<=sizeLine) (U:Vals l its) (Q:TupX h' T its.toArray) :
  Inv X f σ (upd H T (.tup l)) { s with heap:=h',toks:=t' }:=by
 have g:H T=none:=I.hok.fresh w;have ne:∀b o,s.heap.get? b=some o->b≠T:=fun b o e=>zU (jP (zF e) w)
 have A:∀b u,H b=some u->b∉ch:=fun b u e hb=>by rw[(j b hb).1] at e;cases e
 refine I.step (g':=s.gens) (d':=s.drawn) (ch:=ch) (fun b hb=>?_) (fun b o _ _ hc e _=>k b o hc e) (fun b o _ _ hc e _=>⟨o.slots,k b o hc e⟩) (fun b o _ e n=>by rw[zm (ne b o e)];exact n) (fun b o hc e=>⟨o,k b o hc e⟩)
  (fun b Y e=>by rw[zm (zj e g)];exact e) (fun b o u e=>by rw[zm (zj e g)];exact e) (fun b ps e=>⟨#[],by rw[zm (zj e g),e];simp⟩) (fun m N=>?_) (fun b u e=>?_) I.bare
 ·obtain⟨_,E,_,G,J,L⟩:=j b hb
  exact⟨G,E,J,L⟩
 ·obtain⟨o,D,B,O,r⟩:=N
  exact⟨o,D,B,k _ o (fun z=>(j _ z).2.1 rfl) O,r⟩
 ·by_cases hb:b=T
  ·subst hb
   rw[zc] at e;cases e;exact⟨M,its,U,Q⟩
  ·rw[zm hb] at e
   refine(I.hok b u e).stay (fun c v hc q=>k c v ?_ q) (fun c q=>by rw[zm (zj q g)];exact q) fun c Y q=>by rw[zm (zj q g)];exact q
   rcases hc with z | z
   ·rw[z];exact A b u e
   ·exact A c _ z
end
def Ite(K:W.Frag)(a:Addr):It:=
 ⟨fun i H=>∃b x,SqL K H a b/\b[i]? =some x,fun i H x c=>∃T y,x=.ref T/\H T=none/\c=upd H T (.tup [.int i,y])/\∀b,SqL K H a b->b[i]? =some y,fun i H=>∃b,SqL K H a b/\b.length<=i⟩
theorem za3{P:Program}{w:World}{K:W.Frag}{N:List Expr}{kk:Nat}{aj:Pos}(a e j:Addr)(G:e≠j) :
  wX P w K (.Tuple N kk aj) (Ite K a) [e,j] e (fun i h=>(∃B,IsEnum h e j i B)/\h.IsListIter j a i) where
 mem:=by simp
 obj:=fun i h st b hb=>by
  obtain⟨⟨B,f⟩,⟨o,ho,c,d⟩⟩:=st;rcases zR.mp hb with z | z
  ·subst z;exact⟨_,f,fun v q=>nomatch q⟩
  ·rw[qg.mp z];exact⟨o,ho,fun v q=>by rw[d] at q;cases q⟩
 keep:=fun i h h' st k=>by
  obtain⟨⟨B,f⟩,hi⟩:=st;exact⟨⟨B,k e (by simp) _ f⟩,hi.at fun o q=>k j (by simp) o q⟩
 item:=by
  intro X hP hw hK hc i Y s σ H E I hf st hg;subst hP hw hK;obtain⟨⟨B,f⟩,g⟩:=st;obtain⟨xs,x,hq,hx⟩:=hg;obtain⟨l,rv,p,hz⟩:=I.list hq;obtain⟨u,hu,ru⟩:=rv.get hx;have M:=p.isList;have O:a≠j:=fun z=>by
   obtain⟨o,e1,c1,_⟩:=M;obtain⟨o',e2,c2,_⟩:=g;rw[z,e2] at e1;cases e1;rw[c2] at c1;exact absurd (wH c1) (by decide)
  have aa:e≠a:=fun z=>by
   obtain⟨o,e1,c1,_⟩:=M;rw[<- z,f] at e1;cases e1;exact absurd (wH c1) (by decide)
  have D:=Draws.list (prog:=X.prog) (w:=X.w) (A:=X.A.in1) (I.ok.hd hc) j a O l.toArray;have hi:i<l.toArray.size:=by
   have h1:=(zK.mp hu).1;simpa using h1
  refine wpAny_pyNext_enum_itemD D f ⟨g,M⟩ hi G (by simp[G,aa]) fun x' h' tk a0 Q U hT am hk=>?_
  have ex:x'=u:=by
   have L:l[i]? =some x':=by simpa using a0
   rw[hu] at L;exact(jt L).symm
  subst ex;refine⟨_,rfl,wpAny_letOwnedTupleGo_enum Q fun L af J=>?_⟩
  have eT:s.heap.objs.size≠e:=vW (zF f);have k2:∀b o,b∉[e,j]->s.heap.get? b=some o->L.get? b=some o:=fun b o hb q=>by
   have n1:b≠e:=fun z=>hb (by simp[z])
   have n2:b≠j:=fun z=>hb (by simp[z])
   exact(J.2 b n1).trans (hk b o n1 n2 q)
  have ai:L.IsListIter j a (i+1):=U.1.extBut J.extBut (zM G);refine⟨.ref s.heap.objs.size,upd H s.heap.objs.size (.tup [.int i,x]),?_,rfl,⟨_,x,rfl,I.hok.fresh (zC _),rfl,fun ys hy=>by rw[I.list_inj hy hq];exact hx⟩,⟨⟨_,by simpa using af⟩,ai⟩,fun b hb=>?_⟩
  ·refine ZP (s:=s) (h':=L) (t':=tk+1) (its:=[.int i tk,x']) I hf (zC _) k2 (by rw[sizeLine_eq];exact(by decide:2<=16777216)) (.cons ⟨tk,rfl⟩ (.cons ru .nil)) (TupX.by ((J.2 _ eT).trans hT))
  ·have ab:b<s.heap.objs.size:=by
    rcases zR.mp hb with z | z
    ·rw[z];exact zF f
    ·rw[qg.mp z]
     obtain⟨o',e',_⟩:=g;exact zF e'
   rw[zm (zU ab)];exact(hf b hb).1
 done:=by
  intro X hP hw hK hc i Y s σ H E I hf st hg;subst hP hw hK;obtain⟨⟨B,f⟩,g⟩:=st;obtain⟨xs,hq,hx⟩:=hg;obtain⟨l,rv,p,hz⟩:=I.list hq;have M:=p.isList;have O:a≠j:=fun z=>by
   obtain⟨o,e1,c1,_⟩:=M;obtain⟨o',e2,c2,_⟩:=g;rw[z,e2] at e1;cases e1;rw[c2] at c1;exact absurd (wH c1) (by decide)
  obtain⟨f0,f1,f2,f3,f4,f5⟩:=hf j (by simp)
  have ag:l.toArray.size<=i:=by
   have:=rv.length;simp only[zN];omega
  have hT:s.TypeIs (.ref e) "enumerate" :=⟨_,f,rfl⟩;unfold pyNext;refine zf (yp (yN (name:=Str.ofString "__next__") hT XG (vY XG hT F.entry_enumerate_next ?_ (F.args_enumerate_next_1 _))))
  show wpAny _ _ (field (.ref e) 2 >>= _) _ _ _;refine zf (xG f rfl (x:=.ref j) rfl (zf (wpAny_nextOf_list_end (I.ok.hd hc) g M (by simpa using ag) fun h' x ae ah=>?_)))
  obtain⟨o,ho,ac⟩:=ah;refine zf (yL (T:= "StopIteration") (b:=true) ⟨o,ho,ac⟩ isSubtype_stop ?_)
  exact zv ⟨rfl,I.turned (t':=s.toks) (fun b o hb q=>ae b o hb q) f0 f1 f3 f4 f5⟩
 self:=fun _ _ _ _ _ st h=>let ⟨⟨_,f⟩,_⟩:=st;wpAny_pyIter_enum f h
section
variable{X:Cx}
def zii(K:W.Frag)(c:TA):TI:=fun σ H R=>c σ H fun f b=>∃a,f=[.ref a]/\(∃g,SqL K b a g)/\R (Ite K a) b
theorem zd3{l:Expr}{D:TA}{p j tp:Pos}{f:List Expr}{T:Nat}(hg:Gl X "enumerate")(M:X.mg "enumerate" = none)(J:PA X [l] D)(N:starEach [l] X.env=[(false,eval l X.env)]:=by rfl) :
  PI X (.Tuple f T tp) (.Call (.Name "enumerate" p) [l] [] j) (zii X.K D):=by
 intro c s σ H R I h;refine Call_ (vt I hg M boot_enumerate (QE (thn (J j c s σ H _ I h) fun us s1 ⟨vs,A,w,r1,Y⟩=>?_) N rfl))
 obtain⟨a,e,⟨xs,hq⟩,q⟩:=Y;subst e;obtain⟨u,rfl,ru⟩:=xW r1;cases ru;obtain⟨Q,rv,U,hz⟩:=w.list hq;refine call_enumerate_list U.isList fun G B L O hk=>wpAny_pyIter_enum B ?_
 have E:Inv X c σ A { s1 with heap:=G }:=w.kept (t':=s1.toks) hk;refine⟨s1.heap.objs.size+1,[s1.heap.objs.size+1,s1.heap.objs.size],_,_,A,rfl,E,za3 a _ _ (Nat.succ_ne_self _),⟨⟨_,B⟩,L⟩,fun b hb=>?_,q⟩
 have g:s1.heap.objs.size<=b:=by
  rcases zR.mp hb with z | z
  ·rw[z];exact Xm _
  ·rw[qg.mp z];exact zC _
 exact w.fpOk g (w.hok.fresh g)
theorem zdg{K:W.Frag}{a:Addr}{xs:List V}{g:TG}{w:TS}{D:Q7}{σ:St}{H:Hp}(Pv:Nat->St->Hp->Prop)(A:Pv 0 σ H)(G:∀i σ H,i<=xs.length->Pv i σ H->SqL K H a xs)
  (I:∀i x σ H T,xs[i]? =some x->Pv i σ H->H T=none->g (.ref T) σ (upd H T (.tup [.int i,x])) fun l f=>w { D with nx:=Pv (i+1),ct:=Pv (i+1),bk:=D.nx } l f) (hd:∀σ H,Pv xs.length σ H->D.nx σ H) :
  ∃W:Nat->Nat->St->Hp->Prop,(∃m,W 0 m σ H)/\∀i m σ H,W i m σ H ->
   ((Ite K a).stop i H/\D.nx σ H)\/((Ite K a).go i H/\∃N:St->Hp->Prop,(∀j b,N j b->∃s,s<m/\W (i+1) s j b)/\∀x b,(Ite K a).yld i H x b->g x σ b fun l f=>w { D with nx:=N,ct:=N,bk:=D.nx } l f):=by
 refine⟨fun i m σ H=>m=xs.length-i/\i<=xs.length/\Pv i σ H,⟨xs.length,by simp,qV _,A⟩,?_⟩
 rintro i m σ H ⟨rfl,E,p⟩;have q:=G i σ H E p;by_cases c:i<xs.length
 ·refine .inr ⟨⟨xs,xs[i],q,by simp[c]⟩,Pv (i+1),fun j b J=>⟨xs.length-(i+1),by omega,rfl,c,J⟩,fun x b y=>?_⟩
  obtain⟨T,z,e1,B,e2,y⟩:=y;subst e1 e2;exact I i z σ H T (y xs q) p B
 ·have e:i=xs.length:=by omega
  subst e;exact .inl ⟨⟨xs,q,zC _⟩,hd σ H p⟩
inductive ZH(K:W.Frag)(c:List V)(H:Hp)(Q:VK):Prop
 | mk (p:Addr) (b:List Bool) (_:c=[.ref p]) (_:SqL K H p (b.map V.bl)) (_:Q (.bl (b.all id)) H):ZH K c H Q
theorem xB(hc:X.calm=true):CallR X (.builtin "all") (ZH X.K):=by
 intro M s σ H xs us Q I r h;obtain⟨p,c,rfl,hq,q⟩:=h;obtain⟨u,rfl,G⟩:=xW r;cases G;obtain⟨f,J,pl,hz⟩:=I.list hq;have D:=pl.isList;have E:p≠s.heap.objs.size:=by
  obtain⟨o,e,_⟩:=D;exact zU (zF e)
 refine call_all_walk (wpAny_pyIter_list D ?_)
 refine⟨s.heap.objs.size,_,_,_,_,_,fun i=>c.getD i true,rfl,yh (prog:=X.prog) (w:=X.w) (A:=X.A.in1) (I.ok.hd hc) _ p E f.toArray,⟨⟨_,zT _ rfl,rfl,rfl⟩,D.push _⟩,?_,fun Y tk hk=>?_⟩
 ·intro i v s' O E' B hQ
  have B:f.toArray[i]? =some v:=B;have e1:f[i]? =some v:=by simpa using B
  have g:i<c.length:=by
   have h1:=(zK.mp e1).1;have h2:=J.length;rw[zn] at h2;omega
  have e2:(c.map V.bl)[i]? =some (.bl c[i]):=by simp[g]
  obtain⟨u',L,G⟩:=J.get e2;rw[e1] at L;cases L;cases G;have T:c.getD i true=c[i]:=by simp[g]
  have j:O (c.getD i true) s':=hQ;rw[T] at j;exact vZ j
 ·have k:∀b o,s.heap.get? b=some o->Y.get? b=some o:=fun b o e=>hk b o (by simp;exact zU (zF e)) (zV _ e)
  have U:(List.range f.toArray.size).all (fun i=>c.getD i true)=c.all id:=by
   have l:f.toArray.size=c.length:=by
    have:=J.length;rw[zn] at this;simp only[zN];omega
   rw[l,va,vX,vX];constructor
   ·intro h b hb
    obtain⟨i,g,rfl⟩:=JM.mp hb;have:=h i (jJ.mpr g);simpa [g] using this
   ·intro h i g
    have g:=jJ.mp g;have:=h c[i] (wA g);simpa [g] using this
  exact⟨.bl (c.all id),H,I.kept k,by rw[U];rfl,q⟩
end
def SqK(K:W.Frag)(c:Bool)(H:Hp)(a:Addr)(b:List V):Prop:=match c with
 | true=>SqL K H a b
 | false=>SqT K H a b
def SeqK(c:Bool)(h:Heap)(a:Addr)(b:Array Value):Prop:=match c with
 | true=>h.IsList a b
 | false=>h.IsTuple a b
def ItrK(c:Bool)(h:Heap)(b a:Addr)(i:Nat):Prop:=match c with
 | true=>h.IsListIter b a i
 | false=>h.IsTupleIter b a i
theorem SeqK.at{kd:Bool}{h c:Heap}{a:Addr}{b:Array Value}(x:SeqK kd h a b)(k:∀o,h.get? a=some o->c.get? a=some o):SeqK kd c a b:=by
 cases kd with
 | true=>exact Heap.IsList.at x k
 | false=>obtain⟨o,e,r⟩:=(show h.IsTuple a b from x);exact⟨o,k o e,r⟩
theorem ItrK.at{kd:Bool}{h c:Heap}{b a:Addr}{i:Nat}(x:ItrK kd h b a i)(k:∀o,h.get? b=some o->c.get? b=some o):ItrK kd c b a i:=by
 cases kd with
 | true=>exact Heap.IsListIter.at x k
 | false=>obtain⟨o,e,r⟩:=(show h.IsTupleIter b a i from x);exact⟨o,k o e,r⟩
theorem ItrK.obj{f:Bool}{h:Heap}{b a:Addr}{i:Nat}(x:ItrK f h b a i):∃o,h.get? b=some o/\(o.cls=.type "list_iterator" \/ o.cls=.type "tuple_iterator")/\∀v,o.data≠.cell v:=by
 cases f with
 | true=>obtain⟨o,e,c,d⟩:=(show h.IsListIter b a i from x);exact⟨o,e,.inl c,fun v q=>by rw[d] at q;cases q⟩
 | false=>obtain⟨o,e,c,d⟩:=(show h.IsTupleIter b a i from x);exact⟨o,e,.inr c,fun v q=>by rw[d] at q;cases q⟩
theorem SeqK.cls{f:Bool}{h:Heap}{a:Addr}{b:Array Value}(x:SeqK f h a b):∃o,h.get? a=some o/\(o.cls=.type "list" \/ o.cls=.type "tuple")/\∃n,o.data=.seq b n:=by
 cases f with
 | true=>obtain⟨o,e,c,n,d⟩:=(show h.IsList a b from x);exact⟨o,e,.inl c,n,d⟩
 | false=>obtain⟨o,e,c,n,d⟩:=(show h.IsTuple a b from x);exact⟨o,e,.inr c,n,d⟩
section
variable{l:Program}{w:World}{A:Around}{E:Value->Shared->Prop}{s:Shared}
theorem vR{kd:Bool}{c a:Addr}{i:Nat}{f:Array Value}{x:Value}{Q:Value->Shared->Prop}(H:ItrK kd s.heap c a i)(I:SeqK kd s.heap a f)(hx:f[i]? =some x)
  (G:∀j,ItrK kd j c a (i+1)->Heap.SameBut c s.heap j->Q x { s with heap:=j }):wpAny (model l w) A (Builtin.SmallTypes.nextOf (.ref c)) Q E s:=by
 cases kd with
 | true=>exact wpAny_nextOf_list_item H I hx G
 | false=>
  have b:s.heap.IsTupleIter c a i:=H;obtain⟨o,g,hc,hd⟩:=id b;obtain⟨L,D,_,nl,B⟩:=(show s.heap.IsTuple a f from I)
  unfold Builtin.SmallTypes.nextOf;refine zf (yN (name:=Str.ofString "__next__") b.typeIs XO (vY XO b.typeIs zdC ?_ (zdE _)))
  show wpAny _ _ (field (.ref c) 0 >>= _) _ _ _;refine zf (xG g hd (x:=.ref a) rfl ?_)
  show wpAny _ _ (if(Value.ref a==Value.none)=true then _ else _) _ _ _;rw[zr (show ¬((Value.ref a==Value.none)=true) from qO)]
  show wpAny _ _ (field (.ref c) 1 >>= _) _ _ _;refine zf (xG g hd (x:=.int i 0) rfl ?_)
  show wpAny _ _ (seqItems? (.ref a) >>= _) _ _ _;refine zf (x9 D B ?_);simp only[Zk,hx]
  refine zf (wpAny_setField g hd (by simp) (zv ⟨x,rfl,zv (G _ (show Heap.IsTupleIter _ _ _ _ from ?_) (QB ..))⟩))
  refine⟨_,yb _ g (Yn (QO hd _)),(W8 ..).trans hc,?_⟩;rw[QO hd];simp[rawInt]
theorem wR{kd:Bool}{f a:Addr}{i:Nat}{c:Array Value}{Q:Value->Shared->Prop}(B:A.handled=none)(I:ItrK kd s.heap f a i)(J:SeqK kd s.heap a c)(hx:c[i]? =none)
  (H:∀g e,Heap.ExtBut f s.heap g->(∃o,g.get? e=some o/\o.cls=.type "StopIteration")->E (.ref e) { s with heap:=g }):wpAny (model l w) A (Builtin.SmallTypes.nextOf (.ref f)) Q E s:=by
 cases kd with
 | true=>exact wpAny_nextOf_list_end B I J hx H
 | false=>
  have b:s.heap.IsTupleIter f a i:=I;obtain⟨o,D,hc,hd⟩:=id b;obtain⟨M,G,_,nl,j⟩:=(show s.heap.IsTuple a c from J)
  unfold Builtin.SmallTypes.nextOf;refine zf (yN (name:=Str.ofString "__next__") b.typeIs XO (vY XO b.typeIs zdC ?_ (zdE _)))
  show wpAny _ _ (field (.ref f) 0 >>= _) _ _ _;refine zf (xG D hd (x:=.ref a) rfl ?_)
  show wpAny _ _ (if(Value.ref a==Value.none)=true then _ else _) _ _ _;rw[zr (show ¬((Value.ref a==Value.none)=true) from qO)]
  show wpAny _ _ (field (.ref f) 1 >>= _) _ _ _;refine zf (xG D hd (x:=.int i 0) rfl ?_)
  show wpAny _ _ (seqItems? (.ref a) >>= _) _ _ _;refine zf (x9 G j ?_);simp only[Zk,hx]
  refine zf (x6 (zf (wpAny_setField D hd (by simp) ?_)));show wpAny _ _ (newExc (.type "StopIteration") [] >>= _) _ _ _
  refine zf ?_;simp only[newExc,newTuple];refine zf (vf ?_ (by size_fits))
  refine zf (m:=firstArgMember _ _) (yj (a:=Value.none) (by first| rfl | (simp only[firstArgMember];rfl)) (vf ?_ (by size_fits)))
  simp only[raiseNew];refine zf (wpAny_handled ?_);first| rw[show A.in1.handled=none from B] | rw[B]
  exact zf (zv (wpAny_throw (H _ _ (((QB ..).extBut.push _).push _) ⟨_,zT _ rfl,rfl⟩)))
structure JN(k1 k2:Bool)(h:Heap)(z TI TO i1 i2 a1 a2:Addr)(i:Nat):Prop where
 zz:IsZip h z TI TO .none
 ti:IsPair h TI (.ref i1) (.ref i2)
 to:∃a b,IsPair h TO a b
 r1:ItrK k1 h i1 a1 i
 r2:ItrK k2 h i2 a2 i
structure zaF(z TI TO i1 i2:Addr):Prop where
 a:TI≠z
 b:TO≠z
 c:i1≠z
 d:i2≠z
 e:TI≠TO
 f:TI≠i1
 g:TI≠i2
 h:TO≠i1
 i:TO≠i2
 j:i1≠i2
theorem zaH{k1 k2:Bool}{z TI TO j I a1 a2:Addr}{i:Nat}{xs ys:Array Value}{x y:Value}{Q:Option Value->Shared->Prop}(N:zaF z TI TO j I)(Z:JN k1 k2 s.heap z TI TO j I a1 a2 i)
  (l1:SeqK k1 s.heap a1 xs) (l2:SeqK k2 s.heap a2 ys) (m1:∀b∈[z,TO,j,I],a1≠b) (m2:∀b∈[z,TO,j,I],a2≠b) (hx:xs[i]? =some x) (hy:ys[i]? =some y)
  (hQ:∀J,IsZip J z TI TO (rawInt s.heap.objs.size)->IsPair J TI (.ref j) (.ref I)->(∃a b,IsPair J TO a b)->ItrK k1 J j a1 (i+1)->ItrK k2 J I a2 (i+1)->IsPair J s.heap.objs.size x y->J.objs.size=s.heap.objs.size+1 ->
   (∀c o,c∉[z,TO,j,I]->s.heap.get? c=some o->J.get? c=some o)->Q (some (.ref s.heap.objs.size)) { s with heap:=J }):wpAny (model l w) A (pyNext (.ref z)) Q E s:=by
 obtain⟨hz,af,⟨a,b,aj⟩,h1,h2⟩:=Z;have hT:s.TypeIs (.ref z) "zip" :=⟨_,hz,rfl⟩;unfold pyNext;refine zf (yp (yN (name:=Str.ofString "__next__") hT Xu (vY Xu hT F.entry_zip_next ?_ (F.args_zip_next_1 _))))
 show wpAny _ _ (field (.ref z) 2 >>= _) _ _ _;refine zf (xG hz rfl (x:=.bool false) rfl ?_)
 show wpAny _ _ (field (.ref z) 3 >>= _) _ _ _;refine zf (xG hz rfl (x:=.ref TI) rfl (zf (x9 af rfl ?_)))
 show wpAny _ _ (Builtin.SmallTypes.ownedTupleIsFree (.ref z) >>= _) _ _ _;refine zf ?_
 unfold Builtin.SmallTypes.ownedTupleIsFree;refine zf (xG hz rfl (x:=.none) rfl (zv ?_));simp only[if_true]
 refine zf (x6 (zf (xG hz rfl (x:=.ref TO) rfl (zf (Zl hz (by simp) fun g1 ab D=>?_)))))
 replace ab:IsZip g1 z TI TO .ellipsis:=ab
 refine zf ?_;simp only[List.zipIdx_cons,List.zipIdx_nil,Xv,WW]
 refine zf (zf (wpAny_onRaise ?_));show wpAny _ _ (Builtin.SmallTypes.nextOf (.ref j) >>= _) _ _ _
 refine zf (vR (h1.at fun o e=>D.extBut _ o N.c e) (l1.at fun o e=>D.extBut _ o (m1 z (by simp)) e) hx fun g2 ah L=>zv ?_)
 have T:IsPair g2 TO a b:=L.extBut _ _ N.h (D.extBut _ _ N.b aj);refine zf (x9 T rfl (zf (wpAny_updateSeq_pair T fun g3 B M=>?_)))
 replace B:IsPair g3 TO x b:=B
 refine zf (yi (zv ?_));refine zf (zf (wpAny_onRaise ?_));show wpAny _ _ (Builtin.SmallTypes.nextOf (.ref I) >>= _) _ _ _
 have Y:∀c o,c∉[z,TO,j]->s.heap.get? c=some o->g3.get? c=some o:=fun c o hc e=>M.extBut _ o (fun q=>hc (by simp[q])) (L.extBut _ o (fun q=>hc (by simp[q])) (D.extBut _ o (fun q=>hc (by simp[q])) e))
 refine zf (vR (h2.at fun o e=>Y _ o (by simp[N.d,zM N.i,zM N.j]) e) (l2.at fun o e=>Y _ o (by simp[m2 z (by simp),m2 TO (by simp),m2 j (by simp)]) e) hy fun g4 ai G=>zv ?_)
 have U:IsPair g4 TO x b:=G.extBut _ _ N.i B;refine zf (x9 U rfl (zf (wpAny_updateSeq_pair U fun f g H=>?_)))
 replace g:IsPair f TO x y:=g
 refine zf (yi (zv (zv (zf (x9 g rfl (zf (wpAny_newTuple ?_)))))))
 have zs:f.objs.size=s.heap.objs.size:=by rw[H.1,G.1,M.1,L.1,D.1]
 have ag:IsZip f z TI TO .ellipsis:=H.extBut _ _ (zM N.b) (G.extBut _ _ (zM N.d) (M.extBut _ _ (zM N.b) (L.extBut _ _ (zM N.c) ab)));have k5:∀c o,c∉[z,TO,j,I]->s.heap.get? c=some o->f.get? c=some o:=fun c o hc e=>H.extBut _ o (fun q=>hc (by simp[q])) (G.extBut _ o (fun q=>hc (by simp[q])) (Y c o (fun q=>hc (by simp at q ⊢;rcases q with q | q | q<;>simp[q])) e))
 have r1:ItrK k1 f j a1 (i+1):=ah.at fun o e=>H.extBut _ o (zM N.h) (G.extBut _ o N.j (M.extBut _ o (zM N.h) e))
 have r2:ItrK k2 f I a2 (i+1):=ai.at fun o e=>H.extBut _ o (zM N.i) e
 have zl:z<f.objs.size:=zF ag;show wpAny _ _ (Builtin.SmallTypes.ownedTupleHandOut (.ref z) (.ref f.objs.size) >>= _) _ _ _;refine zf ?_;unfold Builtin.SmallTypes.ownedTupleHandOut
 have ak:IsZip (f.push { cls:=.type "tuple",data:=.seq #[x,y] }) z TI TO .ellipsis:=zV _ ag;refine zf (Zl ak (by simp) fun g7 ac a0=>?_)
 replace ac:IsZip g7 z TI TO (rawInt f.objs.size):=ac
 refine Zl ac (by simp) fun g8 O aa=>?_
 replace O:IsZip g8 z TI TO (rawInt f.objs.size):=O
 have up:∀c o,c≠z->f.get? c=some o->g8.get? c=some o:=fun c o c1 e=>aa.extBut _ o c1 (a0.extBut _ o c1 (zV _ e))
 have ae:IsPair g8 f.objs.size x y:=aa.extBut _ _ (vW zl) (a0.extBut _ _ (vW zl) (zT _ rfl));have z8:g8.objs.size=f.objs.size+1:=by rw[aa.1,a0.1,xr]
 rw[zs] at O ae z8;refine zv ⟨_,rfl,zv ?_⟩;show Q (some (.ref f.objs.size)) _;rw[zs]
 exact hQ g8 O (up _ _ N.a (k5 _ _ (by simp[N.a,N.e,N.f,N.g]) af)) ⟨_,_,up _ _ N.b g⟩ (r1.at fun o e=>up _ o N.c e) (r2.at fun o e=>up _ o N.d e) ae z8 fun c o hc e=>up c o (fun q=>hc (by simp[q])) (k5 c o hc e)
theorem zbM{k1 k2:Bool}{z TI TO I M a1 a2:Addr}{i:Nat}{xs ys:Array Value}{Q:Option Value->Shared->Prop}(hh:A.handled=none)(N:zaF z TI TO I M)(Z:JN k1 k2 s.heap z TI TO I M a1 a2 i)
  (l1:SeqK k1 s.heap a1 xs) (l2:SeqK k2 s.heap a2 ys) (m1:∀b∈[z,TO,I,M],a1≠b) (m2:∀b∈[z,TO,I,M],a2≠b) (O:xs[i]? =none\/ys[i]? =none)
  (hQ:∀h',(∀c o,c∉[z,TO,I,M]->s.heap.get? c=some o->h'.get? c=some o)->Q none { s with heap:=h' }):wpAny (model l w) A (pyNext (.ref z)) Q E s:=by
 obtain⟨hz,ab,⟨a,b,ac⟩,h1,h2⟩:=Z;have hT:s.TypeIs (.ref z) "zip" :=⟨_,hz,rfl⟩;unfold pyNext;refine zf (yp (yN (name:=Str.ofString "__next__") hT Xu (vY Xu hT F.entry_zip_next ?_ (F.args_zip_next_1 _))))
 show wpAny _ _ (field (.ref z) 2 >>= _) _ _ _;refine zf (xG hz rfl (x:=.bool false) rfl ?_)
 show wpAny _ _ (field (.ref z) 3 >>= _) _ _ _;refine zf (xG hz rfl (x:=.ref TI) rfl (zf (x9 ab rfl ?_)))
 show wpAny _ _ (Builtin.SmallTypes.ownedTupleIsFree (.ref z) >>= _) _ _ _;refine zf ?_
 unfold Builtin.SmallTypes.ownedTupleIsFree;refine zf (xG hz rfl (x:=.none) rfl (zv ?_));simp only[if_true]
 refine zf (x6 (zf (xG hz rfl (x:=.ref TO) rfl (zf (Zl hz (by simp) fun g1 G g=>?_)))))
 replace G:IsZip g1 z TI TO .ellipsis:=G
 refine zf ?_;simp only[List.zipIdx_cons,List.zipIdx_nil,Xv,WW]
 refine zf (zf (wpAny_onRaise ?_));show wpAny _ _ (Builtin.SmallTypes.nextOf (.ref I) >>= _) _ _ _
 cases hx:xs[i]? with
 | none=>
  refine zf (wR hh (h1.at fun o e=>g.extBut _ o N.c e) (l1.at fun o e=>g.extBut _ o (m1 z (by simp)) e) hx fun g2 e j he=>?_)
  obtain⟨oe,f,B⟩:=he;have a0:IsZip g2 z TI TO .ellipsis:=j _ _ (zM N.c) G;have L:e≠z:=fun q=>by subst q;rw[a0] at f;cases f;exact absurd (wH B) (by decide)
  refine Zl a0 (by simp) fun g3 ah D=>?_
  refine zf (yL (T:= "StopIteration") (b:=true) ⟨oe,D.extBut _ _ L f,B⟩ isSubtype_stop (zv (hQ _ fun c o hc q=>?_)))
  exact D.extBut _ o (fun q=>hc (by simp[q])) (j _ o (fun q=>hc (by simp[q])) (g.extBut _ o (fun q=>hc (by simp[q])) q))
 | some x=>
  have hy:ys[i]? =none:=by rcases O with q | q;rw[hx] at q;cases q;exact q
  refine zf (vR (h1.at fun o e=>g.extBut _ o N.c e) (l1.at fun o e=>g.extBut _ o (m1 z (by simp)) e) hx fun g2 ag j=>zv ?_)
  have H:IsPair g2 TO a b:=j.extBut _ _ N.h (g.extBut _ _ N.b ac);refine zf (x9 H rfl (zf (wpAny_updateSeq_pair H fun g3 ae D=>?_)))
  have J:∀c o,c∉[z,TO,I]->s.heap.get? c=some o->g3.get? c=some o:=fun c o hc e=>D.extBut _ o (fun q=>hc (by simp[q])) (j.extBut _ o (fun q=>hc (by simp[q])) (g.extBut _ o (fun q=>hc (by simp[q])) e))
  refine zf (yi (zv ?_));refine zf (zf (wpAny_onRaise ?_));show wpAny _ _ (Builtin.SmallTypes.nextOf (.ref M) >>= _) _ _ _
  refine zf (wR hh (h2.at fun o e=>J _ o (by simp[N.d,zM N.i,zM N.j]) e) (l2.at fun o e=>J _ o (by simp[m2 z (by simp),m2 TO (by simp),m2 I (by simp)]) e) hy fun g4 e U he=>?_)
  obtain⟨oe,f,B⟩:=he;have aa:IsZip g4 z TI TO .ellipsis:=U _ _ (zM N.d) (D.extBut _ _ (zM N.b) (j.extBut _ _ (zM N.c) G));have L:e≠z:=fun q=>by subst q;rw[aa] at f;cases f;exact absurd (wH B) (by decide)
  refine Zl aa (by simp) fun g5 ai Y=>?_
  refine zf (yL (T:= "StopIteration") (b:=true) ⟨oe,Y.extBut _ _ L f,B⟩ isSubtype_stop (zv (hQ _ fun c o hc q=>?_)))
  exact Y.extBut _ o (fun q=>hc (by simp[q])) (U _ o (fun q=>hc (by simp[q])) (J c o (fun q=>hc (by simp at q ⊢;rcases q with q | q | q<;>simp[q])) q))
abbrev zh(h:Heap)(b c:Obj):Heap:=((((h.push b).push c).push { cls:=.type "tuple",data:=.seq #[.ref h.objs.size,.ref (h.push b).objs.size] }).push { cls:=.type "tuple",data:=.seq #[.none,.none] }).push
 { cls:=.type "zip",data:=.fields #[.none,.bool false,.bool false,.ref ((h.push b).push c).objs.size,.ref (((h.push b).push c).push { cls:=.type "tuple",data:=.seq #[.ref h.objs.size,.ref (h.push b).objs.size] }).objs.size] }
theorem zgV{G H:Bool}{a1 a2:Addr}{h:Heap}{b f:Obj}(O:∀g:Heap,g.get? h.objs.size=some b->ItrK G g h.objs.size a1 0)(Q:∀(g:Heap) (n:Addr),g.get? n=some f->ItrK H g n a2 0)(M:b.isFreed=false)(N:f.isFreed=false) :
  JN G H (zh h b f) (h.objs.size+4) (h.objs.size+2) (h.objs.size+3) h.objs.size (h.objs.size+1) a1 a2 0/\(∀c o,h.get? c=some o->(zh h b f).get? c=some o)/\(zh h b f).objs.size=h.objs.size+5:=by
 have j:(h.push b).objs.size=h.objs.size+1:=xr ..;have B:((h.push b).push f).objs.size=h.objs.size+2:=by rw[xr,j]
 have D:(((h.push b).push f).push { cls:=.type "tuple",data:=.seq #[.ref h.objs.size,.ref (h.push b).objs.size] }).objs.size=h.objs.size+3:=by rw[xr,B]
 have L:((((h.push b).push f).push { cls:=.type "tuple",data:=.seq #[.ref h.objs.size,.ref (h.push b).objs.size] }).push { cls:=.type "tuple",data:=.seq #[.none,.none] }).objs.size=h.objs.size+4:=by rw[xr,D]
 have J:(zh h b f).get? (h.objs.size+4)=some _:=L▸zT _ rfl;have Y:(zh h b f).get? (h.objs.size+3)=some _:=D▸zV _ (zT _ rfl);have I:(zh h b f).get? (h.objs.size+2)=some _:=B▸zV _ (zV _ (zT _ rfl));have U:(zh h b f).get? (h.objs.size+1)=some f:=j▸zV _ (zV _ (zV _ (zT _ N)));have T:(zh h b f).get? h.objs.size=some b:=zV _ (zV _ (zV _ (zV _ (zT _ M))));rw[B,D] at J;rw[j] at I;exact⟨⟨J,I,⟨_,_,Y⟩,O _ T,Q _ _ U⟩,fun c o e=>zV _ (zV _ (zV _ (zV _ (zV _ e)))),by rw[xr,L]⟩
theorem zbL{k1 k2:Bool}{a1 a2:Addr}{xs ys:Array Value} :
  PySem.Meets (Builtin.«zip.__new__» ⟨[.type "zip",.ref a1,.ref a2],[]⟩) (fun _ R s=>SeqK k1 s.heap a1 xs/\SeqK k2 s.heap a2 ys /\
   ∀J,JN k1 k2 J (s.heap.objs.size+4) (s.heap.objs.size+2) (s.heap.objs.size+3) s.heap.objs.size (s.heap.objs.size+1) a1 a2 0->(∀c o,s.heap.get? c=some o->J.get? c=some o)->J.objs.size=s.heap.objs.size+5->R (.ok (.ret (.ref (s.heap.objs.size+4)))) { s with heap:=J }):=
 .of_wp fun l w A R s hq=>by
  obtain⟨hp,g,d,D,os⟩:=s;obtain⟨I,f,O⟩:=hq;have L:=sub_zip;have b:∀{j G:Obj},(∀g:Heap,g.get? hp.objs.size=some j->ItrK k1 g hp.objs.size a1 0)->(∀(g:Heap) (n:Addr),g.get? n=some G->ItrK k2 g n a2 0)->j.isFreed=false->G.isFreed=false ->
    R (.ok (.ret (.ref ((((hp.push j).push G).push { cls:=.type "tuple",data:=.seq #[.ref hp.objs.size,.ref (hp.push j).objs.size] }).push { cls:=.type "tuple",data:=.seq #[.none,.none] }).objs.size))) ⟨zh hp j G,g,d,D,os⟩:=fun {j G} Q T M N=>by
   obtain⟨A,B,C⟩:=zgV Q T M N;have e:((((hp.push j).push G).push { cls:=.type "tuple",data:=.seq #[.ref hp.objs.size,.ref (hp.push j).objs.size] }).push { cls:=.type "tuple",data:=.seq #[.none,.none] }).objs.size=hp.objs.size+4:=by
    rw[xr,xr,xr,xr]
   rw[e];exact O _ A B C
  cases k1 with
  | true=>
   have H:Heap.IsList (Shared.heap ⟨hp,g,d,D,os⟩) a1 xs:=I;cases k2 with
   | true=>
    have L2:Heap.IsList (Shared.heap ⟨hp.push { cls:=.type "list_iterator",data:=.fields #[.ref a1,.int 0 0] },g,d,D,os⟩) a2 ys:=Heap.IsList.push f _;wp_walk using wpAny_pyIter_list H,wpAny_pyIter_list L2
    exact⟨_,rfl,b (fun g e=>⟨_,e,rfl,rfl⟩) (fun g n e=>⟨_,e,rfl,rfl⟩) rfl rfl⟩
   | false=>
    have L2:Heap.IsTuple (Shared.heap ⟨hp.push { cls:=.type "list_iterator",data:=.fields #[.ref a1,.int 0 0] },g,d,D,os⟩) a2 ys:=Heap.IsTuple.push f _;wp_walk using wpAny_pyIter_list H,wpAny_pyIter_tuple L2
    exact⟨_,rfl,b (fun g e=>⟨_,e,rfl,rfl⟩) (fun g n e=>⟨_,e,rfl,rfl⟩) rfl rfl⟩
  | false=>
   have H:Heap.IsTuple (Shared.heap ⟨hp,g,d,D,os⟩) a1 xs:=I;cases k2 with
   | true=>
    have L2:Heap.IsList (Shared.heap ⟨hp.push { cls:=.type "tuple_iterator",data:=.fields #[.ref a1,.int 0 0] },g,d,D,os⟩) a2 ys:=Heap.IsList.push f _;wp_walk using wpAny_pyIter_tuple H,wpAny_pyIter_list L2
    exact⟨_,rfl,b (fun g e=>⟨_,e,rfl,rfl⟩) (fun g n e=>⟨_,e,rfl,rfl⟩) rfl rfl⟩
   | false=>
    have L2:Heap.IsTuple (Shared.heap ⟨hp.push { cls:=.type "tuple_iterator",data:=.fields #[.ref a1,.int 0 0] },g,d,D,os⟩) a2 ys:=Heap.IsTuple.push f _;wp_walk using wpAny_pyIter_tuple H,wpAny_pyIter_tuple L2
    exact⟨_,rfl,b (fun g e=>⟨_,e,rfl,rfl⟩) (fun g n e=>⟨_,e,rfl,rfl⟩) rfl rfl⟩
theorem zbC{f g:Bool}{a1 a2:Addr}{B D:Array Value}{Q:Value->Shared->Prop}(h1:SeqK f s.heap a1 B)(G:SeqK g s.heap a2 D)
  (h:∀b,JN f g b (s.heap.objs.size+4) (s.heap.objs.size+2) (s.heap.objs.size+3) s.heap.objs.size (s.heap.objs.size+1) a1 a2 0->(∀c o,s.heap.get? c=some o->b.get? c=some o)->b.objs.size=s.heap.objs.size+5 ->
   Q (.ref (s.heap.objs.size+4)) { s with heap:=b }):wpAny (model l w) A (call (.type "zip") [.ref a1,.ref a2]) Q E s:=by
 refine callType_new F.called_zip (by decide) (F.typeCall_zip_2 _ _) (F.newCall_zip_2 _ _) (fun j=>F.args_object_init_3 j _ _) F.entry_zip_new (zbL (k1:=f) (k2:=g) (xs:=B) (ys:=D)) ⟨h1,G,fun b Z k z=>?_⟩
 exact⟨⟨_,Z.zz,rfl⟩,h b Z k z⟩
end
theorem Inv.seqK{X:Cx}{c:List (Addr×Obj)}{σ:St}{H:Hp}{s:Shared}{f:Bool}{a:Addr}{g:List V}(I:Inv X c σ H s)(h:SqK X.K f H a g):∃b:List Value,Vals g b/\SeqK f s.heap a b.toArray/\g.length<=sizeLine:=by
 cases f with
 | true=>obtain⟨b,r,p,z⟩:=I.list h;exact⟨b,r,p.isList,z⟩
 | false=>obtain⟨b,r,p,z⟩:=I.tuple h;exact⟨b,r,p,z⟩
theorem Inv.seqK_inj{X:Cx}{b:List (Addr×Obj)}{σ:St}{H:Hp}{s:Shared}{c:Bool}{a:Addr}{g j:List V}(I:Inv X b σ H s)(h:SqK X.K c H a g)(f:SqK X.K c H a j):g=j:=by
 cases c with
 | true=>exact I.list_inj h f
 | false=>exact I.tuple_inj h f
theorem SqK.ne_fp{X:Cx}{c:List (Addr×Obj)}{σ:St}{H:Hp}{s:Shared}{l:Bool}{a b:Addr}{g:List V}(I:Inv X c σ H s)(h:SqK X.K l H a g)(f:xh X c H b):a≠b:=fun z=>by
 have w:∀o,X.K.lookup a=some o->False:=fun o e=>by
  have j:=I.mod.kin a o e;rcases f.2.2.2.1 with q | q
  ·exact I.ok.noex a o j (by rw[z];exact q)
  ·have:=zF (I.ok.bs a o j).1
   rw[z] at this;exact vM _ (jP this q)
 cases l with
 | true=>
  rcases(show SqL X.K H a g from h) with(q | ⟨o,q⟩) | ⟨o,_,_,q,_⟩
  ·rw[z,f.1] at q;cases q
  ·rw[z,f.1] at q;cases q
  ·exact w o q
 | false=>
  rcases(show SqT X.K H a g from h) with(q | ⟨o,q⟩) | ⟨o,_,_,q,_⟩
  ·rw[z,f.1] at q;cases q
  ·rw[z,f.1] at q;cases q
  ·exact w o q
def Itz(K:W.Frag)(f g:Bool)(a1 a2:Addr):It:=
 ⟨fun i H=>∃b c x y,SqK K f H a1 b/\SqK K g H a2 c/\b[i]? =some x/\c[i]? =some y,
  fun i H x j=>∃T u v,x=.ref T/\H T=none/\j=upd H T (.tup [u,v])/\(∀b,SqK K f H a1 b->b[i]? =some u)/\∀c,SqK K g H a2 c->c[i]? =some v,
  fun i H=>∃b c,SqK K f H a1 b/\SqK K g H a2 c/\(b.length<=i\/c.length<=i)⟩
theorem zbR{P:Program}{w:World}{K:W.Frag}{L:List Expr}{kk:Nat}{ag:Pos}{k1 k2:Bool}{a1 a2 z TI TO A B:Addr}(N:zaF z TI TO A B) :
  wX P w K (.Tuple L kk ag) (Itz K k1 k2 a1 a2) [z,TI,TO,A,B] z (fun i h=>JN k1 k2 h z TI TO A B a1 a2 i) where
 mem:=by simp
 obj:=fun i h Z b hb=>by
  obtain⟨a,T,q⟩:=Z.to;have e1:=Z.r1.obj;have e2:=Z.r2.obj;simp only[zR,yr,or_false] at hb;rcases hb with r | r | r | r | r
  ·subst r;exact⟨_,Z.zz,fun v q=>nomatch q⟩
  ·subst r;exact⟨_,Z.ti,fun v q=>nomatch q⟩
  ·subst r;exact⟨_,q,fun v q=>nomatch q⟩
  ·subst r;obtain⟨o,e,_,d⟩:=e1;exact⟨o,e,d⟩
  ·subst r;obtain⟨o,e,_,d⟩:=e2;exact⟨o,e,d⟩
 keep:=fun i h J Z k=>by
  obtain⟨a,T,q⟩:=Z.to;exact⟨k _ (by simp) _ Z.zz,k _ (by simp) _ Z.ti,⟨a,T,k _ (by simp) _ q⟩,Z.r1.at fun o e=>k _ (by simp) o e,Z.r2.at fun o e=>k _ (by simp) o e⟩
 item:=by
  intro X Y hw U hc i Q s σ H E I l Z hg;subst Y hw U;obtain⟨xs,ys,x,y,f,g,hx,hy⟩:=hg;obtain⟨M,D,p1,ae⟩:=I.seqK f;obtain⟨O,G,p2,af⟩:=I.seqK g;obtain⟨u1,ab,ah⟩:=D.get hx;obtain⟨u2,ac,ai⟩:=G.get hy;have sub:∀b∈[z,TO,A,B],b∈[z,TI,TO,A,B]:=fun b hb=>by
   simp only[zR,yr,or_false] at hb ⊢;rcases hb with r | r | r | r<;>simp[r]
  refine zaH N Z p1 p2 (fun b hb=>f.ne_fp I (l b (sub b hb))) (fun b hb=>g.ne_fp I (l b (sub b hb))) (by simpa using ab) (by simpa using ac) fun h1 zz ti to r1 r2 hT ak hk=>?_
  refine⟨_,rfl,wpAny_letOwnedTupleGo_zip zz fun h2 aj j=>?_⟩
  have zl:z<s.heap.objs.size:=zF Z.zz;obtain⟨ta,tb,to⟩:=to;refine⟨.ref s.heap.objs.size,upd H s.heap.objs.size (.tup [x,y]),?_,rfl,⟨_,x,y,rfl,I.hok.fresh (zC _),rfl,fun am J=>by rw[I.seqK_inj J f];exact hx,fun an J=>by rw[I.seqK_inj J g];exact hy⟩,
   ⟨aj,j.extBut _ _ N.a ti,⟨ta,tb,j.extBut _ _ N.b to⟩,r1.at fun o e=>j.extBut _ o N.c e,r2.at fun o e=>j.extBut _ o N.d e⟩,fun b hb=>?_⟩
  ·exact ZP (s:=s) (h':=h2) (t':=s.toks) (ch:=[z,TO,A,B]) (its:=[u1,u2]) I (fun b hb=>l b (sub b hb)) (zC _) (fun b o hb e=>j.extBut _ o (fun q=>hb (by simp[q])) (hk b o hb e)) (by rw[sizeLine_eq];exact(by decide:2<=16777216)) (.cons ah (.cons ai .nil))
    (TupX.by (j.extBut _ _ (vW zl) hT))
  ·have a0:b<s.heap.objs.size:=by
    have e1:=Z.r1.obj;have e2:=Z.r2.obj;obtain⟨a,T,q⟩:=Z.to;simp only[zR,yr,or_false] at hb;rcases hb with r | r | r | r | r
    ·subst r;exact zl
    ·subst r;exact zF Z.ti
    ·subst r;exact zF q
    ·subst r;obtain⟨o,e,_⟩:=e1;exact zF e
    ·subst r;obtain⟨o,e,_⟩:=e2;exact zF e
   rw[zm (zU a0)];exact(l b hb).1
 done:=by
  intro X Y hw U hc i Q s σ H E I l Z hg;subst Y hw U;obtain⟨xs,ys,f,g,aa⟩:=hg;obtain⟨M,D,p1,ae⟩:=I.seqK f;obtain⟨O,G,p2,af⟩:=I.seqK g;have sub:∀b∈[z,TO,A,B],b∈[z,TI,TO,A,B]:=fun b hb=>by
   simp only[zR,yr,or_false] at hb ⊢;rcases hb with r | r | r | r<;>simp[r]
  have tr:∀b u,H b=some u->b∉[z,TO,A,B]:=fun b u e hb=>by rw[(l b (sub b hb)).1] at e;cases e
  refine zbM (I.ok.hd hc) N Z p1 p2 (fun b hb=>f.ne_fp I (l b (sub b hb))) (fun b hb=>g.ne_fp I (l b (sub b hb))) ?_ fun J hk=>⟨rfl,?_⟩
  ·have l1:=D.length
   have l2:=G.length;rcases aa with q | q
   ·exact .inl (by simp;omega)
   ·exact .inr (by simp;omega)
  ·refine I.step (g':=s.gens) (d':=s.drawn) (t':=s.toks) (ch:=[z,TO,A,B]) (fun b hb=>?_) (fun b o _ _ hc e _=>hk b o hc e) (fun b o _ _ hc e _=>⟨o.slots,hk b o hc e⟩) (fun _ _ _ _ n=>n) (fun b o hc e=>⟨o,hk b o hc e⟩)
    (fun _ _ e=>e) (fun _ _ _ e=>e) (fun b ps e=>⟨#[],by rw[e];simp⟩) (fun m hm=>?_) (fun b u e=>?_) I.bare
   ·obtain⟨_,g1,_,g3,g4,g5⟩:=l b (sub b hb)
    exact⟨g3,g1,g4,g5⟩
   ·obtain⟨o,es,ep,ho,r⟩:=hm
    exact⟨o,es,ep,hk _ o (fun z=>(l _ (sub _ z)).2.1 rfl) ho,r⟩
   ·refine(I.hok b u e).stay (fun c v hc q=>hk c v ?_ q) (fun _ q=>q) fun _ _ q=>q
    rcases hc with z | z
    ·rw[z];exact tr b u e
    ·exact tr c _ z
 self:=fun _ _ _ _ _ Z h=>wpAny_pyIter_zip Z.zz h
section
variable{X:Cx}
def ziT(K:W.Frag)(g:TA):TI:=fun σ H R=>g σ H fun j b=>∃c f a1 a2,j=[.ref a1,.ref a2]/\(∃l,SqK K c b a1 l)/\(∃s,SqK K f b a2 s)/\R (Itz K c f a1 a2) b
theorem WA{l m:Expr}{M:TA}{p A tp:Pos}{g:List Expr}{kk:Nat}(hg:Gl X "zip")(U:X.mg "zip" = none)(T:PA X [l,m] M)(Y:starEach [l,m] X.env=[(false,eval l X.env),(false,eval m X.env)]:=by rfl)(w:starEach [m] X.env=[(false,eval m X.env)]:=by rfl) :
  PI X (.Tuple g kk tp) (.Call (.Name "zip" p) [l,m] [] A) (ziT X.K M):=by
 intro c s σ H R I h;refine Call_ (vt I hg U boot_zip (QE (thn (T A c s σ H _ I h) fun us s1 ⟨vs,G,f,r1,q1⟩=>?_) (by rw[Y,w]) (by rw[w];rfl)))
 obtain⟨k1,k2,a1,a2,e,⟨xs,B⟩,⟨ys,D⟩,q⟩:=q1;subst e;obtain⟨u,u',rfl,ru,E⟩:=Ja r1;cases ru;cases E;obtain⟨J,ac,p1,aa⟩:=f.seqK B;obtain⟨L,ae,p2,ab⟩:=f.seqK D;refine zbC p1 p2 fun Q Z hk a0=>wpAny_pyIter_zip Z.zz ?_
 have O:Inv X c σ G { s1 with heap:=Q }:=f.kept (t':=s1.toks) hk;have N:zaF (s1.heap.objs.size+4) (s1.heap.objs.size+2) (s1.heap.objs.size+3) s1.heap.objs.size (s1.heap.objs.size+1):=by
  constructor<;>(intro e;have e':(_:Nat)=_:=e;omega)
 refine⟨s1.heap.objs.size+4,_,_,_,G,rfl,O,zbR N,Z,fun b hb=>?_,q⟩
 have j:s1.heap.objs.size<=b:=by
  simp only[zR,yr,or_false] at hb;rcases hb with r | r | r | r | r<;>(rw[r];first| exact Nat.le_add_right _ _ | exact zC _)
 exact f.fpOk j (f.hok.fresh j)
end
def TyN(K:W.Frag)(H:Hp)(x:V)(T:String):Prop:=match x with
 | .non=>T = "NoneType"
 | .bl _=>T = "bool"
 | .int _=>T = "int"
 | .str _=>T = "str"
 | .ref a=>(T = "list" /\ ∃b,SqL K H a b)\/(T = "tuple" /\ ∃b,SqT K H a b)
 | _=>False
def zbV(T C:String):Bool:=T==C||(T == "bool" && C == "int")
def ZN:List String:=["NoneType","bool","int","str","list","tuple"]
def yI:List String:=["bool","int","str","list","tuple","dict"]
theorem zap{K:W.Frag}:∀T∈ZN,∀C∈yI,PySem.W.kitOne K (.type T) (.type C)=some (zbV T C):=by
 intro T c C b;simp only[ZN,yI,zR,yr,or_false] at c b;rcases c with rfl | rfl | rfl | rfl | rfl | rfl<;>rcases b with rfl | rfl | rfl | rfl | rfl | rfl<;>kernel_rfl
theorem VM{K:W.Frag}{T:String}(b:T∈ZN):∀{Cs:List String},(∀C∈Cs,C∈yI)->PySem.W.kitAny K (.type T) (Cs.map Value.type)=some (Cs.any fun C=>zbV T C)
 | [],_=>rfl
 | C::r,h=>by
  have g:=VM (K:=K) b (Cs:=r) fun c f=>h c (jc _ f)
  show(match PySem.W.kitOne K (.type T) (.type C) with | some true=>some true | some false=>PySem.W.kitAny K (.type T) (r.map Value.type) | none=>none)=_
  rw[zap T b C (h C jb),wy];cases zbV T C with
  | true=>rfl
  | false=>rw[g];rfl
theorem TyN.mem{K:W.Frag}{H:Hp}{x:V}{T:String}(h:TyN K H x T):T∈ZN:=by
 cases x with
 | non=>cases(show T=_ from h);decide
 | bl _=>cases(show T=_ from h);decide
 | int _=>cases(show T=_ from h);decide
 | str _=>cases(show T=_ from h);decide
 | ref a=>rcases(show _\/_ from h) with ⟨e,_⟩ | ⟨e,_⟩<;>(subst e;decide)
 | _=>exact(show False from h).elim
section
variable{X:Cx}{b:List (Addr×Obj)}{σ:St}{H:Hp}{s:Shared}
theorem zao{x:V}{u:Value}{T:String}(I:Inv X b σ H s)(c:RelV x u)(ty:TyN X.K H x T):∃P:Heap->Prop,P s.heap/\PySem.W.KitX X.K u (.type T) P/\u≠.builtin "__main__.__loader__#opaque" :=by
 cases x with
 | non=>cases(show u=Value.none from c);cases(show T=_ from ty);exact⟨_,True.intro,PySem.W.kitx_none,fun z=>nomatch z⟩
 | bl y=>cases(show u=Value.bool y from c);cases(show T=_ from ty);exact⟨_,True.intro,PySem.W.kitx_bool,fun z=>nomatch z⟩
 | int i=>obtain⟨t,q⟩:=(show ∃t,u=Value.int i t from c);cases q;cases(show T=_ from ty);exact⟨_,True.intro,PySem.W.kitx_int,fun z=>nomatch z⟩
 | str y=>obtain⟨t,q⟩:=(show ∃t,u=Value.str y t from c);cases q;cases(show T=_ from ty);exact⟨_,True.intro,PySem.W.kitx_str,fun z=>nomatch z⟩
 | ref a=>
  cases(show u=Value.ref a from c)
  rcases(show _\/_ from ty) with ⟨e,g,hx⟩ | ⟨e,g,hx⟩
  ·subst e
   obtain⟨f,r,⟨o,n,e1,e2,_⟩,_⟩:=I.list hx;exact⟨_,⟨o,e1,e2⟩,PySem.W.kitx_list,fun z=>nomatch z⟩
  ·subst e
   obtain⟨f,r,⟨o,e1,e2,_⟩,_⟩:=I.tuple hx;exact⟨_,⟨o,e1,e2⟩,PySem.W.kitx_tuple,fun z=>nomatch z⟩
 | _=>exact(show False from ty).elim
end
section
variable{X:Cx}
theorem YA:∀{c:List String} {b:List Value},Vals (c.map V.ty) b->b=c.map Value.type
 | [],b,r=>by cases r;rfl
 | C::r,b,h=>by
  cases h with
  | cons h1 f=>rw[YA f,show _=Value.type C from h1];rfl
inductive QY(K:W.Frag)(b:List V)(H:Hp)(Q:VK):Prop
 | mk (x T C:_) (_:b=[x,.ty C]) (_:TyN K H x T) (_:C∈yI) (_:Q (.bl (zbV T C)) H):QY K b H Q
theorem jg:CallR X (.builtin "isinstance") (QY X.K):=by
 intro c s σ H D B Q I r h;obtain⟨x,T,C,rfl,ty,f,q⟩:=h;obtain⟨u,A,rfl,l,b⟩:=Ja r;cases(show A=Value.type C from b)
 obtain⟨P,g,Z,j⟩:=zao I l ty;exact PySem.W.kia_one Z I.kIn g (zap T ty.mem C f) j fun w=>⟨.bl _,H,I.tok w,rfl,q⟩
inductive ZG(K:W.Frag)(c:List V)(H:Hp)(Q:VK):Prop
 | mk (x:V) (T:String) (p:Addr) (b:List String) (_:c=[x,.ref p]) (_:TyN K H x T) (_:H p=some (.tup (b.map V.ty))) (_:(∀C∈b,C∈yI)) (_:Q (.bl (b.any fun C=>zbV T C)) H):ZG K c H Q
theorem JF:CallR X (.builtin "isinstance") (ZG X.K):=by
 intro j s σ H U O Q I r h;obtain⟨x,T,p,L,rfl,ty,hp,w,q⟩:=h;obtain⟨u,J,rfl,E,g⟩:=Ja r;cases(show J=Value.ref p from g)
 obtain⟨P,A,Z,B⟩:=zao I E ty;obtain⟨f,D,⟨o,e1,e2,n,b⟩,_⟩:=I.tuple (u5 hp);obtain⟨c,M,l,N⟩:=o;have e2:c=.type "tuple" :=e2;have b:l=.seq f.toArray n:=b;subst e2 b;rw[YA D] at e1;exact PySem.W.kia_tup Z I.kIn A e1 (VM ty.mem w) B fun G=>⟨.bl _,H,I.tok G,rfl,q⟩
end
inductive Dat where
 | non | bl (b:Bool) | int (i:Int) | str (x:Str) | lst (c:List Dat) | tup (c:List Dat)
mutual
def Rep(K:W.Frag)(H:Hp):Dat->V->Prop
 | .non,v=>v=.non
 | .bl b,v=>v=.bl b
 | .int i,v=>v=.int i
 | .str x,v=>v=.str x
 | .lst f,v=>∃a c,v=.ref a/\SqL K H a c/\Reps K H f c
 | .tup f,v=>∃a c,v=.ref a/\SqT K H a c/\Reps K H f c
def Reps(K:W.Frag)(H:Hp):List Dat->List V->Prop
 | [],b=>b=[]
 | d::c,b=>∃x r,b=x::r/\Rep K H d x/\Reps K H c r
end
mutual
def Dat.dp:Dat->Nat
 | .lst b=>Dat.dps b+1
 | .tup b=>Dat.dps b+1
 | _=>0
def Dat.dps:List Dat->Nat
 | []=>0
 | d::b=>max d.dp (Dat.dps b)
end
theorem Same.sqT{K:W.Frag}{H b:Hp}{a:Addr}{c:List V}(e:Same H b)(h:SqT K H a c):SqT K b a c:=by
 rcases h with(h | ⟨o,h⟩) | h
 ·exact .inl (.inl (e _ _ h))
 ·exact .inl (.inr ⟨o,e _ _ h⟩)
 ·exact .inr h
mutual
theorem Rep.same{K:W.Frag}{H f:Hp}(e:Same H f):∀{d:Dat} {v:V},Rep K H d v->Rep K f d v
 | .non,_,h=>h
 | .bl _,_,h=>h
 | .int _,_,h=>h
 | .str _,_,h=>h
 | .lst _,_,h=>by
  obtain⟨a,c,e1,e2,b⟩:=h;exact⟨a,c,e1,e.seq e2,Reps.same e b⟩
 | .tup _,_,h=>by
  obtain⟨a,c,e1,e2,b⟩:=h;exact⟨a,c,e1,e.sqT e2,Reps.same e b⟩
theorem Reps.same{K:W.Frag}{H b:Hp}(e:Same H b):∀{c:List Dat} {f:List V},Reps K H c f->Reps K b c f
 | [],_,h=>h
 | _::_,_,h=>by
  obtain⟨x,r,e1,e2,g⟩:=h;exact⟨x,r,e1,Rep.same e e2,Reps.same e g⟩
end
theorem Reps.len{K:W.Frag}{H:Hp}:∀{b:List Dat} {xs:List V},Reps K H b xs->xs.length=b.length
 | [],_,h=>by rw[show _=_ from h];rfl
 | _::_,_,h=>by
  obtain⟨x,r,e1,e2,c⟩:=h;rw[e1,jV,jV,Reps.len c]
theorem Reps.get{K:W.Frag}{H:Hp}:∀{b:List Dat} {c:List V} {i:Nat} {x:V},Reps K H b c->c[i]? =some x->∃d,b[i]? =some d/\Rep K H d x
 | [],_,_,_,h,e=>by rw[show _=_ from h] at e;simp at e
 | d::b,_,i,x,h,e=>by
  obtain⟨y,r,e1,e2,g⟩:=h;subst e1;cases i with
  | zero=>simp at e;subst e;exact⟨d,rfl,e2⟩
  | succ i=>
   obtain⟨f,j,l⟩:=Reps.get (i:=i) g (by simpa using e)
   exact⟨f,by simpa using j,l⟩
theorem zd{H:Hp}{a:Addr}{o:HO}(h:H a=none):Same H (upd H a o):=fun b u e=>by rw[zm (zj e h)];exact e
def zbw:List V->List V->Bool
 | [],[]=>true
 | x::b,y::c=>eqV x y&&zbw b c
 | _,_=>false
theorem Qs:∀(b c:List V),(((List.range (min b.length c.length)).all fun j=>eqV (b.getD j .non) (c.getD j .non))&&(b.length==c.length))=zbw b c
 | [],[]=>rfl
 | [],y::c=>by simp[zbw]
 | x::b,[]=>by simp[zbw]
 | x::b,y::c=>by
  have f:=Qs b c;have e1:min (x::b).length (y::c).length=min b.length c.length+1:=by simp only[jV];omega
  rw[e1,List.range_succ_eq_map,List.all_cons,List.all_map];unfold zbw;rw[<- f,Bool.and_assoc];congr 1
  have e2:((x::b).length==(y::c).length)=(b.length==c.length):=by
   rw[va];simp
  rw[e2];congr 1
section
variable{X:Cx}
end
structure Dfn(P:Program)(w:World)(K:W.Frag)(mg:Str->Option Value)(base:Heap)(x:Str)(k:Nat)(ps:List Str)(sp:Sp):Prop where
 ex:∃f fd,FnOk P w K mg base CX0 k f fd ps sp/\mg x=some (.ref f)/\PySem.W.keepIn K (.ref f)=true/\Binds K fd ps []
theorem Dfn.imp{P:Program}{w:World}{K:W.Frag}{g:Str->Option Value}{b:Heap}{x:Str}{k:Nat}{j:List Str}{l c:Sp}(D:Dfn P w K g b x k j l)(h:∀s H Q E,c s H Q E->l s H Q E):Dfn P w K g b x k j c:=by
 obtain⟨f,A,F,r⟩:=D.ex;exact⟨f,A,F.imp h,r⟩
section
variable{X:Cx}{x:Str}{k:Nat}{j:List Str}{g:Sp}{p c:Pos}{e:Expr}{b:List Expr}{t:TA}
theorem zg(D:Dfn X.prog X.w X.K X.mg X.base x k j g)(A:Room k X.A)(hg:Gl X x)(s:PA X (e::b) t)(hd:(x==("__debug__":Str))=false:=by decide)
  (B:starEach (e::b) X.env=(false,eval e X.env)::starEach b X.env:=by rfl) (l:(backTo c (starEach b X.env)).any (·.1)=false:=by rfl):PE X (.Call (.Name x p) (e::b) [] c) (zeS g [] E0 t):=by
 obtain⟨f,E,F,w,hk,hb⟩:=D.ex;exact zd6 F A hg w hk hb .nil zhK s hd B l
end
theorem ifT{b:Bool}{A B:Prop}(h:b=true)(q:A):if b=true then A else B:=by rw[zx h];exact q
theorem ifF{b:Bool}{A B:Prop}(h:b=false)(q:B):if b=true then A else B:=by rw[zr (by rw[h];exact qO)];exact q
theorem J8{K:W.Frag}{k1 k2:Bool}{a1 a2:Addr}{xs ys:List V}{g:TG}{M:TT}{L:TE}{s:St}{n:Nat}{R:List V->Hp->Prop}{H:Hp}(Pv:Nat->List V->Hp->Prop)(O:Pv 0 [] H)
  (h1:∀i c H,Pv i c H->SqK K k1 H a1 xs/\SqK K k2 H a2 ys)
  (U:∀i x y c H T,xs[i]? =some x->ys[i]? =some y->Pv i c H->H T=none->g (.ref T) s (upd H T (.tup [x,y])) fun j B=>j.drop n=s.drop n/\M j B fun b l=>
   if b=true then L j l fun v D=>c.length<sizeLine/\Pv (i+1) (c++[v]) D else Pv (i+1) c l)
  (hd:∀c H,Pv (min xs.length ys.length) c H->c.length<=sizeLine/\R c H) :
  ∃W:Nat->Nat->List V->Hp->Prop,(∃m,W 0 m [] H)/\∀i m c f,W i m c f ->
   ((Itz K k1 k2 a1 a2).stop i f/\c.length<=sizeLine/\R c f) \/
   ((Itz K k1 k2 a1 a2).go i f/\∃N:List V->Hp->Prop,(∀c w,N c w->∃J,J<m/\W (i+1) J c w)/\∀x A,(Itz K k1 k2 a1 a2).yld i f x A->g x s A fun j B=>j.drop n=s.drop n/\M j B fun b l=>
    if b=true then L j l fun y D=>c.length<sizeLine/\N (c++[y]) D else N c l):=by
 refine⟨fun i m c f=>m=min xs.length ys.length-i/\i<=min xs.length ys.length/\Pv i c f,⟨_,rfl,qV _,O⟩,?_⟩
 rintro i m c f ⟨rfl,hi,p⟩;obtain⟨G,I⟩:=h1 i c f p;by_cases E:i<min xs.length ys.length
 ·have Y:i<xs.length:=by omega
  have l2:i<ys.length:=by omega
  refine .inr ⟨⟨xs,ys,xs[i],ys[i],G,I,by simp[Y],by simp[l2]⟩,Pv (i+1),fun a0 w p'=>⟨_,by omega,rfl,E,p'⟩,fun x A y=>?_⟩
  obtain⟨T,u,v,e1,Q,e2,y1,y2⟩:=y;subst e1 e2;exact U i u v c f T (y1 xs G) (y2 ys I) p Q
 ·have e:i=min xs.length ys.length:=by omega
  subst e;obtain⟨z1,z2⟩:=hd c f p;exact .inl ⟨⟨xs,ys,G,I,by omega⟩,z1,z2⟩
theorem VG{lo:Int}{N n:Nat}{g:TG}{J:TT}{I:TE}{w:St}{R:List V->Hp->Prop}{H:Hp}(Pv:Nat->List V->Hp->Prop)(L:Pv 0 [] H)
  (O:∀i c H,i<N->Pv i c H->g (.int (lo+i)) w H fun l D=>l.drop n=w.drop n/\J l D fun b s=>if b=true then I l s fun v E=>c.length<sizeLine/\Pv (i+1) (c++[v]) E else Pv (i+1) c s)
  (hd:∀c H,Pv N c H->c.length<=sizeLine/\R c H) :
  ∃W:Nat->Nat->List V->Hp->Prop,(∃m,W 0 m [] H)/\∀i m c f,W i m c f ->
   ((Itr lo N).stop i f/\c.length<=sizeLine/\R c f) \/
   ((Itr lo N).go i f/\∃M:List V->Hp->Prop,(∀c A,M c A->∃G,G<m/\W (i+1) G c A)/\∀x B,(Itr lo N).yld i f x B->g x w B fun l D=>l.drop n=w.drop n/\J l D fun b s=>
    if b=true then I l s fun y E=>c.length<sizeLine/\M (c++[y]) E else M c s):=by
 refine⟨fun i m c f=>m=N-i/\i<=N/\Pv i c f,⟨_,rfl,qV _,L⟩,?_⟩
 rintro i m c f ⟨rfl,hi,p⟩;by_cases j:i<N
 ·refine .inr ⟨j,Pv (i+1),fun Y A Q=>⟨_,by omega,rfl,j,Q⟩,fun x B y=>?_⟩
  obtain⟨e1,e2⟩:=y;subst e1 e2;exact O i c _ j p
 ·have e:i=N:=by omega
  subst e;obtain⟨T,U⟩:=hd c f p;exact .inl ⟨zC _,T,U⟩
def vz(sn on:List (Str×NameKind))(N own b:List Str)(c:List Nat):Bool:=
 yJ sn on N b c&&own.all (fun x=>sn.lookup x==some .local)&&decide (own++b).Nodup
theorem xf{sn on:List (Str×NameKind)}{N own b:List Str}{c:List Nat}(h:vz sn on N own b c=true):yJ sn on N b c=true/\(∀x∈own,sn.lookup x=some .local)/\(own++b).Nodup:=by
 unfold vz at h;rw[jO,jO,vX] at h;exact⟨h.1.1,fun x hx=>by simpa using h.1.2 x hx,ju h.2⟩
section
variable{X:Cx}{f c:Expr}{g:List Expr}{b:Scope}{j l E G:Pos}{B:TI}{A:TT}{w:TE}{x y:Str}{D:Nat}
theorem jL{I:List Str}{C:Addr}{s:Shared}{H:Hp}{J:List Addr}{i:Nat}(L:b.names.lookup x=some .local)(N:I.Nodup)(M:I[i]? =some x):PG (zD X I b C s H J) (.Name x l) (xa i):=
 zu (X:=zD X I b C s H J) N M (.inl (lookup_relabel_local L)) (.inr (lookup_relabel_local L))
theorem jB(J:List Str)(L:List Nat)(hc:X.calm=true)(hk:b.kind=.function)(hb:vz b.names X.env.scope.names X.N [x] J L=true)(T:PI X (.Name x l) c B)
  (Q:∀C s H I,PF (zD X ([x]++J) b C s H I) g A) (O:∀C s H I,PE (zD X ([x]++J) b C s H I) f w)
  (U:∀x,foldedSetIterable c X.env x=pure x:=by intro _;rfl):PE X (.ListComp f [⟨.Name x l,c,g,0⟩] b j) (tLC B 1 L (xa 0) A w):=by
 obtain⟨h1,M,N⟩:=xf hb;exact zfn [x] J L hc hk h1 T (fun C s H I=>jL (M x (by simp)) N rfl) Q O U
theorem vP(J:List Str)(L:List Nat)(hc:X.calm=true)(hk:b.kind=.function)(hb:vz b.names X.env.scope.names X.N [x,y] J L=true)(T:PI X (.Tuple [.Name x l,.Name y E] D G) c B)
  (Q:∀C s H I,PF (zD X ([x,y]++J) b C s H I) g A) (O:∀C s H I,PE (zD X ([x,y]++J) b C s H I) f w)
  (U:∀x,foldedSetIterable c X.env x=pure x:=by intro _;rfl):PE X (.ListComp f [⟨.Tuple [.Name x l,.Name y E] D G,c,g,0⟩] b j) (tLC B 2 L (VT X.K 2 (xN (xa 0) (xN (xa 1) WM))) A w):=by
 obtain⟨h1,M,N⟩:=xf hb;refine zfn [x,y] J L hc hk h1 T (fun C s H I=>?_) Q O U
 exact jd (X:=zD X ([x,y]++J) b C s H I) hc (zt (jL (M x (by simp)) N rfl) (zt (jL (M y (by simp)) N rfl) qA))
end
def tWk(t:TS):TS:=fun D σ H=>∃J:St->Hp->Prop,t { D with nx:=J } σ H/\∀c b,J c b->D.nx c b
theorem wQ{X:Cx}{st:Stmt}{t:TS}(h:PS X st t):PS X st (tWk t):=by
 intro b s σ H D I l;obtain⟨J,w,A⟩:=l;refine thn (h b s σ H _ I w) fun f s1 q=>?_
 cases f with
 | next=>obtain⟨g,c,j,z⟩:=q;exact⟨g,c,j,A g c z⟩
 | brk=>exact q
 | cont=>exact q
 | ret u=>exact q
def Dat.ok:Nat->Dat->Prop
 | n+1,.lst b=>b.length<=1000000/\∀d∈b,Dat.ok n d
 | n+1,.tup b=>b.length<=1000000/\∀d∈b,Dat.ok n d
 | 0,.lst _=>False
 | 0,.tup _=>False
 | _,_=>True
def Dat.tyN:Dat->String
 | .non=> "NoneType" | .bl _=> "bool" | .int _=> "int" | .str _=> "str" | .lst _=> "list" | .tup _=> "tuple"
theorem Rep.ty{K:W.Frag}{H:Hp}{d:Dat}{v:V}(h:Rep K H d v):TyN K H v d.tyN:=by
 cases d with
 | non=>rw[show v=_ from h];exact rfl
 | bl b=>rw[show v=_ from h];exact rfl
 | int b=>rw[show v=_ from h];exact rfl
 | str b=>rw[show v=_ from h];exact rfl
 | lst f=>obtain⟨a,c,rfl,e,_⟩:=h;exact .inl ⟨rfl,c,e⟩
 | tup f=>obtain⟨a,c,rfl,e,_⟩:=h;exact .inr ⟨rfl,c,e⟩
mutual
def Dat.py:Dat->PyData
 | .non=>.none
 | .bl b=>.bool b
 | .int i=>.int i
 | .str x=>.str x
 | .lst c=>.list (Dat.pys c)
 | .tup c=>.tuple (Dat.pys c)
def Dat.pys:List Dat->List PyData
 | []=>[]
 | d::b=>d.py::Dat.pys b
end
mutual
def Dat.shw:Dat->Bool
 | .int i=>decide (i.natAbs<1000000000000)
 | .str x=>x.cps.toList.all fun c=>decide (c<1000000)
 | .lst b=>Dat.shws b
 | .tup b=>Dat.shws b
 | _=>true
def Dat.shws:List Dat->Bool
 | []=>true
 | d::b=>d.shw&&Dat.shws b
end
mutual
def Dat.blk:Dat->Nat
 | .str x=>x.cps.size
 | .lst b=>Dat.blks b
 | .tup b=>Dat.blks b
 | _=>0
def Dat.blks:List Dat->Nat
 | []=>0
 | d::b=>d.blk+1+Dat.blks b
end
mutual
theorem Dat.py_blk:∀d:Dat,d.py.bulk=d.blk
 | .non=>rfl
 | .bl _=>rfl
 | .int _=>rfl
 | .str _=>rfl
 | .lst b=>Dat.pys_blk b
 | .tup b=>Dat.pys_blk b
theorem Dat.pys_blk:∀b:List Dat,PyData.bulkAll (Dat.pys b)=Dat.blks b
 | []=>rfl
 | d::b=>by
  show PyData.bulk d.py+1+PyData.bulkAll (Dat.pys b)=d.blk+1+Dat.blks b;rw[Dat.py_blk d,Dat.pys_blk b]
end
theorem zek{n:Nat}(h:n<1000000000000):n.log2<1920:=by
 by_cases b:n=0
 ·rw[b];decide
 ·exact yn ((Nat.log2_lt b).mpr (yn h (by decide:1000000000000<2^40))) (by decide)
mutual
theorem Dat.py_short:∀d:Dat,d.shw=true->d.py.leavesShort 13=true/\d.py.showable=true/\d.py.hasDict=false
 | .non,_=>⟨rfl,rfl,rfl⟩
 | .bl _,_=>⟨rfl,rfl,rfl⟩
 | .int i,h=>by
  have b:i.natAbs<1000000000000:=ju h;refine⟨zX (PyData.shown_int_le b),zX (zek b),rfl⟩
 | .str x,h=>by
  refine⟨?_,rfl,rfl⟩
  have b:(x.cps.toList.all fun c=>decide (c<1000000))=true:=h
  show(x.cps.toList.all fun c=>decide (c<16^8))=true
  rw[vX] at b ⊢;intro c hc;have:=ju (b c hc);exact zX (by omega)
 | .lst f,h=>Dat.pys_short f h
 | .tup f,h=>Dat.pys_short f h
theorem Dat.pys_short:∀b:List Dat,Dat.shws b=true->PyData.leavesShortAll 13 (Dat.pys b)=true/\PyData.showableAll (Dat.pys b)=true/\PyData.hasDictAll (Dat.pys b)=false
 | [],_=>⟨rfl,rfl,rfl⟩
 | d::b,h=>by
  have c:(d.shw&&Dat.shws b)=true:=h;rw[jO] at c;obtain⟨a1,a2,a3⟩:=Dat.py_short d c.1;obtain⟨b1,b2,b3⟩:=Dat.pys_short b c.2;refine⟨?_,?_,?_⟩
  ·show(PyData.leavesShort 13 d.py&&PyData.leavesShortAll 13 (Dat.pys b))=true
   rw[a1,b1];rfl
  ·show(PyData.showable d.py&&PyData.showableAll (Dat.pys b))=true
   rw[a2,b2];rfl
  ·show(PyData.hasDict d.py||PyData.hasDictAll (Dat.pys b))=false
   rw[a3,b3];rfl
end
mutual
theorem Rep.reads{X:Cx}{f:List (Addr×Obj)}{σ:St}{H:Hp}{s:Shared}(I:Inv X f σ H s):∀{d:Dat} {v:V} {u:Value},Rep X.K H d v->RelV v u->∃g,Reads s.heap u d.py g
 | .non,v,u,h,r=>by cases(show v=_ from h);cases(show u=_ from r);exact⟨_,.none⟩
 | .bl b,v,u,h,r=>by cases(show v=_ from h);cases(show u=_ from r);exact⟨_,.bool b⟩
 | .int i,v,u,h,r=>by cases(show v=_ from h);obtain⟨t,rfl⟩:=r;exact⟨_,.int i t⟩
 | .str x,v,u,h,r=>by cases(show v=_ from h);obtain⟨t,rfl⟩:=r;exact⟨_,.str x t⟩
 | .lst B,v,u,h,r=>by
  obtain⟨a,E,rfl,hx,l⟩:=h;cases(show u=_ from r)
  obtain⟨w,A,D,_⟩:=I.list hx;obtain⟨o,e,c,n,j⟩:=D.isList;obtain⟨g,q⟩:=Reps.reads I l A;exact⟨_,.list e c j (by simpa using q)⟩
 | .tup B,v,u,h,r=>by
  obtain⟨a,E,rfl,hx,l⟩:=h;cases(show u=_ from r)
  obtain⟨w,A,⟨o,e,c,n,j⟩,_⟩:=I.tuple hx;obtain⟨g,q⟩:=Reps.reads I l A;exact⟨_,.tuple e c j (by simpa using q)⟩
theorem Reps.reads{X:Cx}{b:List (Addr×Obj)}{σ:St}{H:Hp}{s:Shared}(I:Inv X b σ H s):∀{g:List Dat} {c:List V} {f:List Value},Reps X.K H g c->Vals c f->∃j,ReadsAll s.heap f (Dat.pys g) j
 | [],c,f,h,r=>by cases(show c=_ from h);cases r;exact⟨_,.nil⟩
 | d::g,c,f,h,r=>by
  obtain⟨x,G,rfl,h1,l⟩:=h;cases r with
  | cons B D=>
   obtain⟨j,w⟩:=Rep.reads I h1 B;obtain⟨E,A⟩:=Reps.reads I l D;exact⟨_,.cons w A⟩
end
section
variable{X:Cx}
inductive wJ(K:W.Frag)(b:List V)(H:Hp)(Q:VK):Prop
 | mk (a:Addr) (d:Dat) (_:b=[.ref a]) (_:Rep K H d (.ref a)) (_:d.shw=true) (_:d.blk<=1048576) (_:d.py.depth<=60) (_:Q (.str d.py.shown) H):wJ K b H Q
theorem JD(hg:X.A.guards=some [])(hu:X.A.units+64<cLine):CallR X (.type "str") (wJ X.K):=by
 intro b s σ H J G Q I r h;obtain⟨a,d,rfl,g,h1,f,D,q⟩:=h;obtain⟨u,rfl,c⟩:=xW r;obtain⟨w,j⟩:=g.reads I c;cases(show u=_ from c)
 obtain⟨s1,s2,l⟩:=Dat.py_short d h1;refine str_of_reads j s2 (PyData.noDict_hsm l) hg (by omega) (fun _ _ e=>e) (fun A u E hk=>⟨.str d.py.shown,H,I.kept hk,⟨u,rfl⟩,q⟩) ?_
 exact PyData.shown_fits_bulk (B:=13) (by decide) (by decide) s1 (by rw[Dat.py_blk];exact f)
inductive ZC(K:W.Frag)(c:List V)(H:Hp)(Q:VK):Prop
 | mk (p:Addr) (b:List Int) (_:c=[.ref p]) (_:SqL K H p (b.map V.int)) (_:(∀z∈b,0<=z/\z<=1000000)) (_:b.length<=100000) (_:Q (.int b.sum) H):ZC K c H Q
theorem zbD(hc:X.calm=true):CallR X (.builtin "sum") (ZC X.K):=by
 intro T s σ H xs us Q I r h;obtain⟨p,c,rfl,hq,hz,hn,q⟩:=h;obtain⟨u,rfl,ru⟩:=xW r;cases(show u=_ from ru)
 obtain⟨f,Y,pl,_⟩:=I.list hq;have D:=pl.isList;have E:p≠s.heap.objs.size:=by
  obtain⟨o,e,_⟩:=D;exact zU (zF e)
 have B:f.length=c.length:=by have:=Y.length;rw[zn] at this;omega
 have G:∀j,j<=c.length->0<=(c.take j).sum/\(c.take j).sum<=1000000*(j:Int):=by
  intro j;induction j with
  | zero=>intro _;simp
  | succ j ih=>
   intro O;have:=ih (by omega)
   have e:c.take (j+1)=c.take j++[c[j]'(by omega)]:=by rw[yc]
   have b:=hz (c[j]'(by omega)) (wA _)
   rw[e,List.sum_append];simp only[List.sum_cons,List.sum_nil];constructor
   ·omega
   ·have:(1000000:Int)*((j+1:Nat):Int)=1000000*(j:Int)+1000000:=by omega
    omega
 refine call_sum_walk (wpAny_pyIter_list D ?_)
 refine⟨s.heap.objs.size,_,_,_,_,_,fun i=>c.getD i 0,rfl,yh (prog:=X.prog) (w:=X.w) (A:=X.A.in1) (I.ok.hd hc) _ p E f.toArray,⟨⟨_,zT _ rfl,rfl,rfl⟩,D.push _⟩,fun b hb=>?_,fun i v hP=>?_,fun j O=>?_,fun h' tk t' hk=>?_⟩
 ·have J:(s.heap.push { cls:=.type "list_iterator",data:=.fields #[.ref p,.int 0 0] }).objs.size=s.heap.objs.size+1:=xr ..
  show b<(s.heap.push _).objs.size;rw[J];rcases zR.mp hb with z | z
  ·rw[z];exact Zy _
  ·rw[qg.mp z]
   obtain⟨o,e,_⟩:=D;exact W9 (zF e)
 ·have e1:f[i]? =some v:=by simpa using hP
  have N:i<c.length:=by have h1:=(zK.mp e1).1;omega
  obtain⟨u',M,L⟩:=Y.get (i:=i) (x:=.int c[i]) (by simp[N])
  rw[e1] at M;cases M
  obtain⟨t,e⟩:=L;exact⟨t,by rw[e];simp[N]⟩
 ·have l:j<c.length:=by simp only[zN] at O;omega
  have a1:=hz c[j] (wA l);have a2:=G (j+1) (by omega)
  have g:(2:Int)^63=9223372036854775808:=by decide
  refine⟨?_,?_⟩
  ·show InLong (c.getD j 0)
   rw[show c.getD j 0=c[j] by simp[l]]
   unfold InLong;rw[g];omega
  ·rw[preSum_getD]
   unfold InLong;rw[g];have:((j+1:Nat):Int)<=100000:=by omega
   omega
 ·have k:∀b o,s.heap.get? b=some o->h'.get? b=some o:=fun b o e=>hk b o (by simp;exact zU (zF e)) (zV _ e)
  refine⟨.int c.sum,H,I.kept k,⟨t',?_⟩,q⟩
  rw[preSum_getD];have:c.take f.toArray.size=c:=by rw[zN,B,qW]
  rw[this]
end
def Its(x:Str):It:=⟨fun i _=>i<x.cps.size,fun i H v b=>b=H/\∃c,x.cps[i]? =some c/\v=.str ⟨#[c]⟩,fun i _=>x.cps.size<=i⟩
theorem XY{P:Program}{w:World}{K:W.Frag}{tg:Expr}(j:Addr)(x:Str)(t:Tok)(ty:String)(B:ty = "str_ascii_iterator" \/ ty = "str_iterator"):wX P w K tg (Its x) [j] j (fun i h=>h.IsStrIter j ty x t i) where
 mem:=by simp
 obj:=fun i h st b hb=>by
  have e:b=j:=by simpa using hb
  subst e;obtain⟨o,e,c,d⟩:=st;exact⟨o,e,fun v z=>by rw[d] at z;cases z⟩
 keep:=fun i h l st k=>let ⟨o,e,r⟩:=st;⟨o,k j (by simp) o e,r⟩
 item:=by
  intro X hP hw Y hc i f s σ H E I N st hg;subst hP hw Y;obtain⟨D,G,f2,J,L,M⟩:=N j (by simp)
  rcases B with rfl | rfl
  ·refine(Walks.strAscii (prog:=X.prog) (w:=X.w) (I.ok.hd hc) j x t).item i s _ _ hg st fun v l Q hv g kk=>?_
   obtain⟨c,u,A,rfl⟩:=hv;have T:Inv X f σ H { s with heap:=l,toks:=Q }:=I.turned (fun b o hb e=>kk b o (by simpa using hb) e) D G J L M
   obtain⟨o,e,c1,d⟩:=id g;exact⟨_,rfl,Jx (s:={ s with heap:=l,toks:=Q }) e c1 d (by decide) ⟨.str ⟨#[c]⟩,H,T,⟨u,rfl⟩,⟨rfl,c,A,rfl⟩,g,fun b hb=>(N b hb).1⟩⟩
  ·refine(Walks.strWide (prog:=X.prog) (w:=X.w) (I.ok.hd hc) j x t).item i s _ _ hg st fun v l Q hv g kk=>?_
   obtain⟨c,u,A,rfl⟩:=hv;have T:Inv X f σ H { s with heap:=l,toks:=Q }:=I.turned (fun b o hb e=>kk b o (by simpa using hb) e) D G J L M
   obtain⟨o,e,c1,d⟩:=id g;exact⟨_,rfl,Jx (s:={ s with heap:=l,toks:=Q }) e c1 d (by decide) ⟨.str ⟨#[c]⟩,H,T,⟨u,rfl⟩,⟨rfl,c,A,rfl⟩,g,fun b hb=>(N b hb).1⟩⟩
 done:=by
  intro X hP hw Y hc i f s σ H E I N st hg;subst hP hw Y;obtain⟨D,G,f2,J,L,M⟩:=N j (by simp)
  have hn:x.cps[i]? =none:=XI hg;rcases B with rfl | rfl
  ·exact wpAny_pyNext_ascii_end (I.ok.hd hc) st hn fun l U=>⟨rfl,I.turned (t':=s.toks) (fun b o hb e=>U b o hb e) D G J L M⟩
  ·exact wpAny_pyNext_wide_end (I.ok.hd hc) st hn fun l U=>⟨rfl,I.turned (t':=s.toks) (fun b o hb e=>U b o hb e) D G J L M⟩
 self:=fun _ _ _ _ _ st h=>by
  rcases B with rfl | rfl
  ·exact wpAny_pyIter_striter_ascii st h
  ·exact wpAny_pyIter_striter_wide st h
section
variable{X:Cx}{c:Expr}
def ziU(f:TE):TI:=fun σ H R=>f σ H fun v b=>∃x,v=.str x/\R (Its x) b
theorem zfW{l:Expr}{A:TE}(B:PE X l A):PI X c l (ziU A):=by
 intro g s σ H R I h;refine thn (B g s σ H _ I h) fun v s1 ⟨y,j,f,E,D⟩=>?_
 obtain⟨x,e,q⟩:=D;subst e;obtain⟨t,rfl⟩:=E;cases w:x.cps.all (·<128)
 ·refine wpAny_pyIter_wide w ?_
  refine⟨s1.heap.objs.size,[s1.heap.objs.size],_,_,j,rfl,f.kept (t':=s1.toks) fun b o e=>zV _ e,XY _ x t "str_iterator" (.inr rfl),⟨_,zT _ rfl,rfl,rfl⟩,fun b hb=>?_,q⟩
  have e:b=s1.heap.objs.size:=by simpa using hb
  subst e;exact f.fpOk (zC _) (f.hok.fresh (zC _))
 ·refine wpAny_pyIter_ascii w ?_
  refine⟨s1.heap.objs.size,[s1.heap.objs.size],_,_,j,rfl,f.kept (t':=s1.toks) fun b o e=>zV _ e,XY _ x t "str_ascii_iterator" (.inl rfl),⟨_,zT _ rfl,rfl,rfl⟩,fun b hb=>?_,q⟩
  have e:b=s1.heap.objs.size:=by simpa using hb
  subst e;exact f.fpOk (zC _) (f.hok.fresh (zC _))
end
theorem zgq{x:Str}{n:Nat}{g:TG}{L:TT}{J:TE}{A:St}{R:List V->Hp->Prop}{H:Hp}(Pv:Nat->List V->Hp->Prop)(O:Pv 0 [] H)
  (Q:∀i c f H,x.cps[i]? =some c->Pv i f H->g (.str ⟨#[c]⟩) A H fun l E=>l.drop n=A.drop n/\L l E fun b s=>if b=true then J l s fun v G=>f.length<sizeLine/\Pv (i+1) (f++[v]) G else Pv (i+1) f s)
  (hd:∀f H,Pv x.cps.size f H->f.length<=sizeLine/\R f H) :
  ∃W:Nat->Nat->List V->Hp->Prop,(∃m,W 0 m [] H)/\∀i m f j,W i m f j ->
   ((Its x).stop i j/\f.length<=sizeLine/\R f j) \/
   ((Its x).go i j/\∃M:List V->Hp->Prop,(∀f B,M f B->∃I,I<m/\W (i+1) I f B)/\∀v D,(Its x).yld i j v D->g v A D fun l E=>l.drop n=A.drop n/\L l E fun b s=>
    if b=true then J l s fun y G=>f.length<sizeLine/\M (f++[y]) G else M f s):=by
 refine⟨fun i m f j=>m=x.cps.size-i/\i<=x.cps.size/\Pv i f j,⟨_,rfl,qV _,O⟩,?_⟩
 rintro i m f j ⟨rfl,hi,p⟩;by_cases w:i<x.cps.size
 ·refine .inr ⟨w,Pv (i+1),fun a0 B T=>⟨_,by omega,rfl,w,T⟩,fun v D y=>?_⟩
  obtain⟨e1,c,e2,N⟩:=y;subst e1 N;exact Q i c f _ e2 p
 ·have e:i=x.cps.size:=by omega
  subst e;obtain⟨U,Y⟩:=hd f j p;exact .inl ⟨zC _,U,Y⟩
section
variable{X:Cx}
inductive Y8(x:V)(s:List V)(H:Hp)(Q:VK):Prop
 | mk (l:Addr) (j:List V) (i:Int) (y:V) (_:x=.ref l) (_:s=[.int i,y]) (_:H l=some (.lst j)) (_:0<=i) (_:i<2^62) (_:j.length<sizeLine) (_:Q .non (upd H l (.lst (j.take i.toNat++y::j.drop i.toNat)))):Y8  x s H Q
theorem zbk:MtM X "list.insert" Y8:=by
 intro G s σ H x vs v us Q I N M h;obtain⟨l,xs,i,y,rfl,rfl,B,T,U,hz,q⟩:=h;cases N;obtain⟨Y,A,rfl,J,L⟩:=Ja M;obtain⟨t,rfl⟩:=J;obtain⟨z,j,n,r,O,e⟩:=I.lstM B;have D:=r.length;refine call_meets F.slot_list_insert ⟨_,e,rfl⟩ F.entry_list_insert (F.args_list_insert_3 _ _ _) (AutoListH.list_insert_list_int_val_1 l j.toArray n i t A ?_ (by rw[zN];omega)) ⟨e,?_⟩
 ·unfold Builtin.List.listFitsIndex
  simp;omega
 refine⟨.non,_,I.lset (its':=j.take i.toNat++A::j.drop i.toNat) B e ?_ ((r.take _).append (.cons L (r.drop _))) ?_,rfl,q⟩
 ·show(have k:=if i<0 then(i+((j.toArray.size:Nat):Int)).toNat else min i.toNat j.toArray.size;(j.toArray.extract 0 k).push A++j.toArray.extract k)=_
  have hk:(if i<0 then(i+((j.toArray.size:Nat):Int)).toNat else min i.toNat j.toArray.size)=min i.toNat j.length:=by
   rw[zr (by omega),zN]
  simp only[hk];apply Array.toList_inj.mp
  simp;by_cases w:i.toNat<=j.length
  ·have h1:(j.drop i.toNat).take (j.length-i.toNat)=j.drop i.toNat:=QR (by rw[Zh];omega)
   rw[Nat.min_eq_left w,h1]
  ·have h1:j.length<=i.toNat:=by omega
   rw[Nat.min_eq_right h1,QR h1,List.drop_of_length_le h1];simp
 ·simp only[zS,qC,jV,Zh]
  omega
variable{e st:Expr}{f:TE}{g:TO}{b c:Pos}
end
theorem jI{K:W.Frag}{a:Addr}{xs:List V}{g:TG}{J:TT}{I:TE}{w:St}{n:Nat}{R:List V->Hp->Prop}{H:Hp}(Pv:Nat->List V->Hp->Prop)(L:Pv 0 [] H)
  (h1:∀i c H,Pv i c H->SqL K H a xs)
  (M:∀i x c H,xs[i]? =some x->Pv i c H->g x w H fun j D=>j.drop n=w.drop n/\J j D fun b l=>
   if b=true then I j l fun v E=>c.length<sizeLine/\Pv (i+1) (c++[v]) E else Pv (i+1) c l)
  (hd:∀c H,Pv xs.length c H->c.length<=sizeLine/\R c H) :
  ∃W:Nat->Nat->List V->Hp->Prop,(∃m,W 0 m [] H)/\∀i m c f,W i m c f ->
   ((Itl K a).stop i f/\c.length<=sizeLine/\R c f) \/
   ((Itl K a).go i f/\∃N:List V->Hp->Prop,(∀c A,N c A->∃G,G<m/\W (i+1) G c A)/\∀x B,(Itl K a).yld i f x B->g x w B fun j D=>j.drop n=w.drop n/\J j D fun b l=>
    if b=true then I j l fun y E=>c.length<sizeLine/\N (c++[y]) E else N c l):=by
 refine⟨fun i m c f=>m=xs.length-i/\i<=xs.length/\Pv i c f,⟨_,rfl,qV _,L⟩,?_⟩
 rintro i m c f ⟨rfl,Y,p⟩;have q:=h1 i c f p;by_cases s:i<xs.length
 ·refine .inr ⟨⟨xs,xs[i],q,by simp[s]⟩,Pv (i+1),fun U A O=>⟨_,by omega,rfl,s,O⟩,fun x B y=>?_⟩
  obtain⟨e,y⟩:=y;subst e;exact M i x c _ (y xs q) p
 ·have e:i=xs.length:=by omega
  subst e;obtain⟨Q,T⟩:=hd c f p;exact .inl ⟨⟨xs,q,zC _⟩,Q,T⟩
theorem xx{K:W.Frag}{a:Addr}{xs:List V}{g:TG}{J:TT}{I:TE}{w:St}{n:Nat}{R:List V->Hp->Prop}{H:Hp}(Pv:Nat->List V->Hp->Prop)(L:Pv 0 [] H)
  (h1:∀i c H,Pv i c H->SqT K H a xs)
  (M:∀i x c H,xs[i]? =some x->Pv i c H->g x w H fun j D=>j.drop n=w.drop n/\J j D fun b l=>
   if b=true then I j l fun v E=>c.length<sizeLine/\Pv (i+1) (c++[v]) E else Pv (i+1) c l)
  (hd:∀c H,Pv xs.length c H->c.length<=sizeLine/\R c H) :
  ∃W:Nat->Nat->List V->Hp->Prop,(∃m,W 0 m [] H)/\∀i m c f,W i m c f ->
   ((Itt K a).stop i f/\c.length<=sizeLine/\R c f) \/
   ((Itt K a).go i f/\∃N:List V->Hp->Prop,(∀c A,N c A->∃G,G<m/\W (i+1) G c A)/\∀x B,(Itt K a).yld i f x B->g x w B fun j D=>j.drop n=w.drop n/\J j D fun b l=>
    if b=true then I j l fun y E=>c.length<sizeLine/\N (c++[y]) E else N c l):=by
 refine⟨fun i m c f=>m=xs.length-i/\i<=xs.length/\Pv i c f,⟨_,rfl,qV _,L⟩,?_⟩
 rintro i m c f ⟨rfl,Y,p⟩;have q:=h1 i c f p;by_cases s:i<xs.length
 ·refine .inr ⟨⟨xs,xs[i],q,by simp[s]⟩,Pv (i+1),fun U A O=>⟨_,by omega,rfl,s,O⟩,fun x B y=>?_⟩
  obtain⟨e,y⟩:=y;subst e;exact M i x c _ (y xs q) p
 ·have e:i=xs.length:=by omega
  subst e;obtain⟨Q,T⟩:=hd c f p;exact .inl ⟨⟨xs,q,zC _⟩,Q,T⟩
inductive DV(K:W.Frag)(F:Hp)(n:Nat):V->Prop
 | non:DV K F n .non
 | bl (b:Bool):DV K F n (.bl b)
 | int (i:Int) (h:i.natAbs<=10000000000+n):DV K F n (.int i)
 | str (x:Str) (h:x.length<=n):DV K F n (.str x)
 | lst (a:Addr) (c:List V) (h:SqL K F a c) (f:c.length<=n) (all:∀x∈c,DV K F n x):DV K F n (.ref a)
 | tup (a:Addr) (c:List V) (h:SqT K F a c) (f:c.length<=n) (all:∀x∈c,DV K F n x):DV K F n (.ref a)
theorem DV.up{K:W.Frag}{F g:Hp}{n m:Nat}{v:V}(h:DV K F n v)(s:Same F g)(l:n<=m):DV K g m v:=by
 induction h with
 | non=>exact .non
 | bl b=>exact .bl b
 | int i h=>exact .int i (by omega)
 | str x h=>exact .str x (by omega)
 | lst a f h j all c=>exact .lst a f (s.seq h) (by omega) c
 | tup a f h j all c=>exact .tup a f (s.sqT h) (by omega) c
def WX(b:List Addr)(H:Hp):Hp:=fun c=>if c∈b then none else H c
theorem WX.le{b:List Addr}{H:Hp}:Same (WX b H) H:=fun c o e=>by
 unfold WX at e;split at e
 ·cases e
 ·exact e
theorem WX.new{b:List Addr}{H:Hp}{p:Addr}{o:HO}(h:H p=none):Same (WX b H) (WX b (upd H p o)):=fun c u e=>by
 unfold WX at e ⊢;split at e
 ·cases e
 ·rename_i hc
  rw[zr hc,zm (zj e h)];exact e
theorem WX.same{f:List Addr}{H b:Hp}(h:Same H b):Same (WX f H) (WX f b):=fun c u e=>by
 unfold WX at e ⊢;split at e
 ·cases e
 ·rename_i hc
  rw[zr hc];exact h c u e
theorem WX.cons{b:List Addr}{H:Hp}{m:Addr}:Same (WX (m::b) H) (WX b H):=fun c u e=>by
 unfold WX at e ⊢;split at e
 ·cases e
 ·rename_i hc
  rw[zr (fun z=>hc (jc _ z))]
  exact e
theorem WX.fresh{b:List Addr}{H:Hp}{m:Addr}(h:H m=none)(o:HO):Same (WX b H) (WX (m::b) (upd H m o)):=fun c u e=>by
 unfold WX at e ⊢;split at e
 ·cases e
 ·rename_i hc
  have f:c≠m:=zj e h;rw[zr (fun z=>(zR.mp z).elim f hc),zm f]
  exact e
theorem WX.put{b:List Addr}{H:Hp}{m:Addr}{o:HO}(h:m∈b):Same (WX b H) (WX b (upd H m o)):=fun c u e=>by
 unfold WX at e ⊢;split at e
 ·cases e
 ·rename_i hc
  rw[zr hc,zm (show c≠m from fun z=>hc (by rw[z];exact h))]
  exact e
theorem WX.at{b:List Addr}{H:Hp}{c:Addr}{o:HO}(h:c∉b)(e:H c=some o):WX b H c=some o:=by
 unfold WX;rw[zr h];exact e
def zc2:Expr->Bool
 | .Starred _ _=>false
 | _=>true
theorem je{e:Expr}{c:List Expr}{b:Env}(h:zc2 e=true):starEach (e::c) b=(false,eval e b)::starEach c b:=by
 cases e<;>first| rfl | cases h
theorem pa5{X:Cx}{b e1 e2 c f:Expr}{g j l s w:TE}(A:PE X b g)(h1:PE X e1 j)(B:PE X e2 l)(D:PE X c s)(E:PE X f w)(h:([b,e1,e2,c,f]).all zc2=true:=by rfl):PA X [b,e1,e2,c,f] (vB g (vB j (vB l (vB s (vB w zfA))))):=by
 have hz:=vX.mp h;exact(za A (za h1 (za B (za D (za E zb (je (hz _ (by simp)))) (je (hz _ (by simp)))) (je (hz _ (by simp)))) (je (hz _ (by simp)))) (je (hz _ (by simp))))
theorem pa7{X:Cx}{b e1 e2 c f g j:Expr}{l s w A B D E:TE}(G:PE X b l)(h1:PE X e1 s)(H:PE X e2 w)(I:PE X c A)(J:PE X f B)(L:PE X g D)(M:PE X j E)(h:([b,e1,e2,c,f,g,j]).all zc2=true:=by rfl):PA X [b,e1,e2,c,f,g,j] (vB l (vB s (vB w (vB A (vB B (vB D (vB E zfA))))))):=by
 have hz:=vX.mp h;exact(za G (za h1 (za H (za I (za J (za L (za M zb (je (hz _ (by simp)))) (je (hz _ (by simp)))) (je (hz _ (by simp)))) (je (hz _ (by simp)))) (je (hz _ (by simp)))) (je (hz _ (by simp)))) (je (hz _ (by simp))))
section
variable{X:Cx}{l L f:Expr}{w:List Expr}{c:Scope}{A:Pos}{G:TI}{g:TG}{E:TT}{B:TE}
theorem zbN{y:Str}{py:Pos}{g2:TG}{j:List (Addr×Obj)}{σ:St}{M:Hp}{Q:St->Hp->Prop}{H:Shared}{D C:Addr}{m:Str->Option Value}(N:PG X (.Name y py) g2)(hn:H.heap.Ns C m)
  (all:∀h7:Heap,(∀b o,b≠C->H.heap.get? b=some o->h7.get? b=some o)->Inv X j σ M { H with heap:=h7 }) (Y:xh X j M C) (q:g2 (.ref D) σ M Q) :
  wpAny (model X.prog X.w) X.A (assign (.Name y py) X.env (.ref D)) (fun _ s=>∃m,s.heap.Ns C m/\∀h',Heap.SameBut C s.heap h'->∃σ' T,Inv X j σ' T { s with heap:=h' }/\Q σ' T) X.xe H:=by
 have J0:=all H.heap fun b o _ e=>e
 obtain⟨J,es,ep,I,hd,r⟩:=hn;have J1:=J0.pinned (fp:=[C]) (fun b hb=>by rw[qg.mp hb];exact Y) (fun b hb=>by rw[qg.mp hb];exact⟨J,I,fun v z=>by rw[hd] at z;cases z⟩)
 have mC:(C,J)∈j++qz [C] H.heap:=qD _ (jk (qg.mpr rfl) I);refine thn (N _ H σ _ (.ref D) (.ref D) _ J1 rfl q) fun _ s8 ⟨σ8,H8,U,q8⟩=>?_
 obtain⟨e8,n8,_⟩:=U.pin (C,J) (qD _ mC);obtain⟨_,g1,_,g3,g4,g5⟩:=Y;exact⟨m,⟨J,es,ep,e8,hd,r⟩,fun h9 O=>⟨σ8,H8,(U.unpinned).turned (t':=s8.toks) (it:=C) (fun b o hb e=>O.extBut b o hb e) n8 g1 g3 g4 g5,q8⟩⟩
theorem zac{y:Str}{Y M:Pos}{g2:TG}(own O:List Str)(js:List Nat)(hc:X.calm=true)(hk:c.kind=.function)(hb:yJ c.names X.env.scope.names X.N O js=true)(hi:PI X L f G)
  (hg:∀C s H N,PG (zD X (own++O) c C s H N) L g) (hf:∀C s H N,PF (zD X (own++O) c C s H N) w E) (he:∀C s H N,PE (zD X (own++O) c C s H N) l B)
  (aa:PG X (.Name y Y) g2) (ab:swapsWith (.ListComp l [⟨L,f,w,0⟩] c A) (some (.Name y Y)) M.line X.env=pure true:=by rfl)
  (hs:∀x,foldedSetIterable f X.env x=pure x:=by intro _;rfl):PS X (.Assign [.Name y Y] (.ListComp l [⟨L,f,w,0⟩] c A) M) (Wn (tLC G own.length js g E B) g2):=by
 intro U s σ H Dn I h;rw[exec_Assign_Name_used _ _ _ _ ab];refine zf (vL (zf ?_))
 show wpAny _ X.A (do let _<-comprehension (.ListComp l [⟨L,f,w,0⟩] c A) c X.env _ (newList []) false (eval f X.env) (some (assign (.Name y Y) X.env))) _ _ s
 refine zf (qh (zdo (rest:=[]) (use:=some (assign (.Name y Y) X.env)) (Qx:=fun _ s'=>∃σ' H',Inv X U σ' H' s'/\Dn.nx σ' H') (Q:=fun v H1=>g2 v σ H1 Dn.nx) own O js hk hb hi hs I h (fun C D it fp tn J W H2 s3 s4 m0 R a b T tl j a0=>zan hc hg hf he a b T tl j a0) fun s6 D C H6 m hn all fc q=>zbN aa hn all fc q) (fun _ s' hq=>zv (zv hq)) fun _ _ e=>e)
theorem JW{x y:Str}{N O b:Pos}{Q:TG}(D:List Str)(M:List Nat)(hc:X.calm=true)(hk:c.kind=.function)(hb:vz c.names X.env.scope.names X.N [x] D M=true)(hi:PI X (.Name x N) f G)
  (hf:∀C s H j,PF (zD X ([x]++D) c C s H j) w E) (Y:∀C s H j,PE (zD X ([x]++D) c C s H j) l B)
  (I:PG X (.Name y O) Q) (J:swapsWith (.ListComp l [⟨.Name x N,f,w,0⟩] c A) (some (.Name y O)) b.line X.env=pure true:=by rfl)
  (hs:∀x,foldedSetIterable f X.env x=pure x:=by intro _;rfl):PS X (.Assign [.Name y O] (.ListComp l [⟨.Name x N,f,w,0⟩] c A) b) (Wn (tLC G 1 M (xa 0) E B) Q):=by
 obtain⟨h1,T,U⟩:=xf hb;exact zac [x] D M hc hk h1 hi (fun C s H j=>jL (T x (by simp)) U rfl) hf Y I J hs
theorem Wx{x z y:Str}{O T Q b U:Pos}{N:Nat}{Y:TG}(D:List Str)(M:List Nat)(hc:X.calm=true)(hk:c.kind=.function)(hb:vz c.names X.env.scope.names X.N [x,z] D M=true)(hi:PI X (.Tuple [.Name x O,.Name z T] N U) f G)
  (hf:∀C s H j,PF (zD X ([x,z]++D) c C s H j) w E) (he:∀C s H j,PE (zD X ([x,z]++D) c C s H j) l B)
  (I:PG X (.Name y Q) Y) (J:swapsWith (.ListComp l [⟨.Tuple [.Name x O,.Name z T] N U,f,w,0⟩] c A) (some (.Name y Q)) b.line X.env=pure true:=by rfl)
  (hs:∀x,foldedSetIterable f X.env x=pure x:=by intro _;rfl):PS X (.Assign [.Name y Q] (.ListComp l [⟨.Tuple [.Name x O,.Name z T] N U,f,w,0⟩] c A) b) (Wn (tLC G 2 M (VT X.K 2 (xN (xa 0) (xN (xa 1) WM))) E B) Y):=by
 obtain⟨h1,h2,h3⟩:=xf hb;refine zac [x,z] D M hc hk h1 hi (fun C s H j=>?_) hf he I J hs
 exact jd (X:=zD X ([x,z]++D) c C s H j) hc (zt (jL (h2 x (by simp)) h3 rfl) (zt (jL (h2 z (by simp)) h3 rfl) qA))
end
theorem Vals.mem{u:Value}:∀{b:List V} {c:List Value},Vals b c->u∈c->∃x∈b,RelV x u
 | _,_,.nil,h=>by cases h
 | x::b,v::g,.cons r t,h=>by
  rcases zR.mp h with e | h
  ·rw[e];exact⟨x,jb,r⟩
  ·obtain⟨y,hy,f⟩:=Vals.mem t h
   exact⟨y,jc _ hy,f⟩
section
variable{X:Cx}
inductive QW(K:W.Frag)(x:V)(y:V)(H:Hp)(Q:VK):Prop
 | mk (a b:Addr) (c:List V) (_:x=.ref a) (_:y=.ref b) (_:SqL K H a c) (_:SqL K H b []) (_:Q (.bl (!c.isEmpty)) H):QW K x y H Q
theorem Qg(hu:X.A.units<cLine):OpR X (compareOp .NotEq) (QW X.K):=by
 intro w s σ H x y v u Q I D E h;obtain⟨a,b,G,rfl,rfl,hx,hy,q⟩:=h;cases D;cases E;obtain⟨c,A,g,J⟩:=I.list hx;obtain⟨f,B,l,L⟩:=I.list hy;cases B;cases A with
 | nil=>exact SeqAt.RcNeAt.lists (e:=fun _=>true) g.isList l.isList rfl hu (fun j h1 _=>by simp at h1) _ _ _ _ ⟨.bl _,H,I,rfl,q⟩
 | cons r t=>exact SeqAt.RcNeAt.lists_lengths g.isList l.isList (by simp) hu _ _ _ _ ⟨.bl _,H,I,rfl,q⟩
inductive QX(K:W.Frag)(x:V)(y:V)(H:Hp)(Q:VK):Prop
 | mk (a b:Addr) (c:List V) (_:x=.ref a) (_:y=.ref b) (_:SqL K H a c) (_:SqL K H b []) (_:Q (.bl c.isEmpty) H):QX K x y H Q
theorem zcR(hu:X.A.units<cLine):OpR X (compareOp .Eq) (QX X.K):=by
 intro w s σ H x y v u Q I D E h;obtain⟨a,b,G,rfl,rfl,hx,hy,q⟩:=h;cases D;cases E;obtain⟨c,A,g,J⟩:=I.list hx;obtain⟨f,B,l,L⟩:=I.list hy;cases B;cases A with
 | nil=>exact SeqAt.RcAt.lists (e:=fun _=>true) g.isList l.isList rfl hu (fun j h1 _=>by simp at h1) _ _ _ _ ⟨.bl _,H,I,rfl,q⟩
 | cons r t=>exact SeqAt.RcAt.lists_lengths g.isList l.isList (by simp) hu _ _ _ _ ⟨.bl _,H,I,rfl,q⟩
theorem XT:∀{b:List Value} {n k:Nat},b.length=n->(∀j v,b[j]? =some v->∃t,v=Value.int ((k+j:Nat):Int) t)->Vals ((List.range' k n).map fun i:Nat=>V.int (i:Int)) b
 | [],0,k,_,_=>.nil
 | v::b,n+1,k,f,h=>by
  rw[List.range'_succ,ji];obtain⟨t,e⟩:=h 0 v rfl;refine .cons ⟨t,by rw[e];rfl⟩ (XT (by simpa using f) fun j w g=>?_)
  obtain⟨l,c⟩:=h (j+1) w (by simpa using g)
  exact⟨l,by rw[c,show k+(j+1)=k+1+j by omega]⟩
theorem yB{a:Expr}{T:TA}{p J L c:Pos}(hc:X.calm=true)(hg:Gl X "list")(hm:X.mg "list" = none)(E:Gl X "range")(G:X.mg "range" = none)(hv:bootBuiltins "list" = some (.type "list"))(ha:PA X [a] T)(hs:starEach [a] X.env=[(false,eval a X.env)]:=by rfl)
  (N:starEach [.Call (.Name "range" J) [a] [] c] X.env=[(false,eval (.Call (.Name "range" J) [a] [] c) X.env)]:=by rfl) :
  PE X (.Call (.Name "list" p) [.Call (.Name "range" J) [a] [] c] [] L) (fun σ H Q=>T σ H fun U D=>∃j:Int,U=[.int j]/\0<=j/\j<=1000000/\∀l,D l=none->Q (.ref l) (upd D l (.lst ((List.range j.toNat).map fun i:Nat=>V.int (i:Int))))):=by
 intro w s σ H Q I h;refine wpAny_Call_Name_kw (vt I hg hm hv ?_ (by decide) (by decide))
 refine QE ?_ N rfl
 rw[N];refine Zm ?_
 refine Call_ (vt I E G boot_range (QE (thn (ha c w s σ H _ I h) fun us s1 ⟨U,D,Y,r1,q1⟩=>?_) hs rfl))
 obtain⟨j,e,j0,j1,q⟩:=q1;subst e;cases r1 with
 | cons r rr=>
  cases rr;obtain⟨t,rfl⟩:=r;refine call_range_1 (XB ?_)
  have M:Inv X w σ D { s1 with heap:=s1.heap.push { cls:=.type "range",data:=.fields #[.int 0 s1.toks,.int j t,.int 1 (s1.toks+1)] },toks:=s1.toks+1+1 }:=Y.kept fun b o e=>zV _ e
  have g:=bGe;refine call_list_range (n:=j.toNat) (I.ok.hd hc) (IsRange.new ..) (small_one (by rw[g];omega) (by rw[g];omega) (by rw[g];omega) (by rw[g];omega)) (by rw[rangeSize_one];split<;>omega) (by omega) fun h' tk A c' B get f=>?_
  refine⟨.ref _,_,M.laid (t':=tk) (o:=.lst ((List.range j.toNat).map fun i:Nat=>V.int (i:Int))) B (zC _) ?_,rfl,q _ (M.hok.fresh (zC _))⟩
  refine⟨by rw[zn,vd,sizeLine_eq];omega,A.toList,c',?_,by rw[Array.toArray_toList];exact get⟩
  rw[List.range_eq_range'];refine XT (by rw[jE];exact f.1) fun i v hv=>?_
  obtain⟨O,e'⟩:=f.2 i v (by simpa using hv)
  exact⟨O,by rw[e'];congr 1;omega⟩
end
section
variable{b:Program}{w:World}{A:Around}{E:Value->Shared->Prop}{s:Shared}
end
def Tups(H:Hp)(c f:List V)(b:List Addr):Prop:=∀(j:Nat) (T:Addr),b[j]? =some T->∃x y,c[j]? =some x/\f[j]? =some y/\H T=some (.tup [x,y])
theorem Tups.same{H f:Hp}{l w:List V}{g:List Addr}(h:Tups H l w g)(s:Same H f):Tups f l w g:=fun j T e=>let ⟨x,y,a,b,c⟩:=h j T e;⟨x,y,a,b,s _ _ c⟩
theorem Tups.snoc{H:Hp}{c f:List V}{b:List Addr}{T:Addr}{x y:V}(h:Tups H c f b)(hx:c[b.length]? =some x)(hy:f[b.length]? =some y)(g:H T=some (.tup [x,y])):Tups H c f (b++[T]):=fun j U e=>by
 by_cases l:j<b.length
 ·rw[xQ l] at e
  exact h j U e
 ·rw[xR (by omega)] at e
  have:j=b.length:=by
   have:=(zK.mp e).1;simp at this;omega
  subst this;simp at e;subst e;exact⟨x,y,hx,hy,g⟩
section
variable{X:Cx}{A:Around}{R:Result->Shared->Prop}
end
section
variable{X:Cx}
theorem yG{K:W.Frag}(h:X.K=K):IxR X (zfO K):=by rw[<- h];exact z9
theorem xm{K:W.Frag}(h:X.K=K):IxR X (zfN K):=by rw[<- h];exact jC
theorem vy{K:W.Frag}(h:X.K=K):CallR X (.builtin "len") (vk K):=by rw[<- h];exact zE
theorem vQ{K:W.Frag}(h:X.K=K):OpR X (compareOp .In) (rIn K false):=by rw[<- h];exact yY
theorem vo{K:W.Frag}(h:X.K=K):OpR X (compareOp .NotIn) (rIn K true):=by rw[<- h];exact J3
inductive We(x:V)(y:V)(H:Hp)(Q:VK):Prop
 | mk (a b:_) (_:x=.bl a) (_:y=.bl b) (_:Q (.bl (decide (a=b))) H):We x y H Q
theorem zf7:OpR X (compareOp .Is) (We):=by
 intro c s σ H x y v u Q I f g h;obtain⟨a,b,rfl,rfl,q⟩:=h;cases f;cases g;refine wpAny_is_plain (by cases a<;>cases b<;>rfl) (qe I q ?_)
 cases a<;>cases b<;>rfl
end
section
open AutoSeq1 (wpAny_loadPart')
theorem wm(l:Addr)(b:Array Value)(n:Nat)(j:Option Addr)(G:Array (Option Value)) :
  Meets (Builtin.«enumerate.__new__» ⟨[.type "enumerate",.ref l],[]⟩) (fun _ R s=>s.heap.get? l=some { cls:=.type "tuple",dict:=j,data:=.seq b n,slots:=G } /\
   R (.ok (.ret (.ref (s.heap.push { cls:=.type "tuple_iterator",data:=.fields #[.ref l,.int 0 0] }).objs.size)))
    { s with heap:=(s.heap.push { cls:=.type "tuple_iterator",data:=.fields #[.ref l,.int 0 0] }).push { cls:=.type "enumerate",data:=.fields #[.none,.bool false,.ref s.heap.objs.size,rawInt 0,.none,.none] } }):=
 .of_wp fun E w A R s h=>by
  obtain⟨hp,g,d,H,os⟩:=s;obtain⟨f,h⟩:=h
  have D:=sub_enumerate;have B:Heap.IsTuple (Shared.heap ⟨hp,g,d,H,os⟩) l b:=⟨_,f,rfl,n,rfl⟩;wp_walk using wpAny_loadPart' f
  refine wpAny_stack_any fun st=>zv ?_
  split
  ·rename_i c _ _ _ _ _
   cases(c==Value.type "enumerate")
   ·wp_walk using wpAny_loadPart' f,wpAny_pyIter_tuple B
    exact⟨_,rfl,h⟩
   ·wp_walk using wpAny_loadPart' f,wpAny_pyIter_tuple B
    exact⟨_,rfl,h⟩
  ·wp_walk using wpAny_loadPart' f,wpAny_pyIter_tuple B
   exact⟨_,rfl,h⟩
end
section
variable{prog:Program}{w:World}{A:Around}{E:Value->Shared->Prop}{s:Shared}
theorem wu{l:Addr}{f:Array Value}{Q:Value->Shared->Prop}(H:s.heap.IsTuple l f)
  (h:∀g,IsEnum g (s.heap.objs.size+1) s.heap.objs.size 0 .none->g.IsTupleIter s.heap.objs.size l 0->g.objs.size=s.heap.objs.size+2 ->
   (∀b o,s.heap.get? b=some o->g.get? b=some o)->Q (.ref (s.heap.objs.size+1)) { s with heap:=g }) :
  wpAny (model prog w) A (call (.type "enumerate") [.ref l]) Q E s:=by
 obtain⟨⟨c,j,G,J⟩,I,hc,n,hd⟩:=H;replace hc:c=.type "tuple" :=hc
 replace hd:G=.seq f n:=hd
 subst hc hd;refine callType_new F.called_enumerate (by decide) (F.typeCall_enumerate_1 _) (F.newCall_enumerate_1 _) (fun B=>F.args_object_init_2 B _) F.entry_enumerate_new
  (wm l f n j J) ⟨I,?_⟩
 have hz:(s.heap.push { cls:=.type "tuple_iterator",data:=.fields #[.ref l,.int 0 0] }).objs.size=s.heap.objs.size+1:=xr ..;show _/\_;rw[hz];have D:IsEnum ((s.heap.push { cls:=.type "tuple_iterator",data:=.fields #[.ref l,.int 0 0] }).push
   { cls:=.type "enumerate",data:=.fields #[.none,.bool false,.ref s.heap.objs.size,rawInt 0,.none,.none] }) (s.heap.objs.size+1) s.heap.objs.size 0 .none:=by
  have:=zT (s.heap.push { cls:=.type "tuple_iterator",data:=.fields #[.ref l,.int 0 0] })
   (o:={ cls:=.type "enumerate",data:=.fields #[.none,.bool false,.ref s.heap.objs.size,rawInt 0,.none,.none] }) rfl
  rw[hz] at this;exact this
 refine⟨⟨_,D,rfl⟩,h _ D ⟨_,zV _ (zT _ rfl),rfl,rfl⟩ (by rw[xr,hz]) fun b o x=>zV _ (zV _ x)⟩
theorem Draws.tuple{prog:Program}{w:World}{A:Around}(J:A.handled=none)(g l:Addr)(B:l≠g)(b:Array Value) :
  Draws prog w A g [g,l] b.size (fun i v=>b[i]? =some v) (fun i h=>h.IsTupleIter g l i/\h.IsTuple l b) where
 live:=fun _ _ st=>let ⟨o,L,_⟩:=st.1;⟨o,L⟩
 frame:=fun _ _ _ st hk=>⟨ItrK.at (kd:=false) st.1 fun o e=>hk g (by simp) o e,SeqK.at (kd:=false) st.2 fun o e=>hk l (by simp) o e⟩
 item:=fun i s Q E D st I=>by
  refine vR (kd:=false) st.1 st.2 (x:=b[i]) (by simp[D]) fun G c f=>?_
  exact I _ G s.toks (by simp[D]) ⟨c,SeqK.at (kd:=false) st.2 fun o e=>f.extBut l o B e⟩ f
 done:=fun s Q E st H=>wR (kd:=false) J st.1 st.2 (by simp) H
end
def Wf(K:W.Frag)(a:Addr):It:=
 ⟨fun i H=>∃b x,SqT K H a b/\b[i]? =some x,fun i H x c=>∃T y,x=.ref T/\H T=none/\c=upd H T (.tup [.int i,y])/\∀b,SqT K H a b->b[i]? =some y,fun i H=>∃b,SqT K H a b/\b.length<=i⟩
theorem Wl{P:Program}{w:World}{K:W.Frag}{N:List Expr}{kk:Nat}{aj:Pos}(a e g:Addr)(G:e≠g) :
  wX P w K (.Tuple N kk aj) (Wf K a) [e,g] e (fun i h=>(∃B,IsEnum h e g i B)/\h.IsTupleIter g a i) where
 mem:=by simp
 obj:=fun i h st b hb=>by
  obtain⟨⟨B,j⟩,⟨o,ho,c,d⟩⟩:=st;rcases zR.mp hb with z | z
  ·subst z;exact⟨_,j,fun v q=>nomatch q⟩
  ·rw[qg.mp z];exact⟨o,ho,fun v q=>by rw[d] at q;cases q⟩
 keep:=fun i h h' st k=>by
  obtain⟨⟨B,j⟩,hi⟩:=st;exact⟨⟨B,k e (by simp) _ j⟩,ItrK.at (kd:=false) hi fun o q=>k g (by simp) o q⟩
 item:=by
  intro X hP hw hK hc i Y s σ H E I hf st hg;subst hP hw hK;obtain⟨⟨B,j⟩,l⟩:=st;obtain⟨xs,x,hq,hx⟩:=hg;obtain⟨f,rv,p,hz⟩:=I.tuple hq;obtain⟨u,hu,ru⟩:=rv.get hx;have M:s.heap.IsTuple a f.toArray:=p;have O:a≠g:=fun z=>by
   obtain⟨o,e1,c1,_⟩:=M;obtain⟨o',e2,c2,_⟩:=l;rw[z,e2] at e1;cases e1;rw[c2] at c1;exact absurd (wH c1) (by decide)
  have aa:e≠a:=fun z=>by
   obtain⟨o,e1,c1,_⟩:=M;rw[<- z,j] at e1;cases e1;exact absurd (wH c1) (by decide)
  have D:=Draws.tuple (prog:=X.prog) (w:=X.w) (A:=X.A.in1) (I.ok.hd hc) g a O f.toArray;have hi:i<f.toArray.size:=by
   have h1:=(zK.mp hu).1;simpa using h1
  refine wpAny_pyNext_enum_itemD D j ⟨l,M⟩ hi G (by simp[G,aa]) fun x' h' tk a0 Q U hT am hk=>?_
  have ex:x'=u:=by
   have L:f[i]? =some x':=by simpa using a0
   rw[hu] at L;exact(jt L).symm
  subst ex;refine⟨_,rfl,wpAny_letOwnedTupleGo_enum Q fun L af J=>?_⟩
  have eT:s.heap.objs.size≠e:=vW (zF j);have k2:∀b o,b∉[e,g]->s.heap.get? b=some o->L.get? b=some o:=fun b o hb q=>by
   have n1:b≠e:=fun z=>hb (by simp[z])
   have n2:b≠g:=fun z=>hb (by simp[z])
   exact(J.2 b n1).trans (hk b o n1 n2 q)
  have ai:L.IsTupleIter g a (i+1):=ItrK.at (kd:=false) U.1 fun o q=>J.extBut g o (zM G) q
  refine⟨.ref s.heap.objs.size,upd H s.heap.objs.size (.tup [.int i,x]),?_,rfl,⟨_,x,rfl,I.hok.fresh (zC _),rfl,fun ys hy=>by rw[I.tuple_inj hy hq];exact hx⟩,⟨⟨_,by simpa using af⟩,ai⟩,fun b hb=>?_⟩
  ·refine ZP (s:=s) (h':=L) (t':=tk+1) (its:=[.int i tk,x']) I hf (zC _) k2 (by rw[sizeLine_eq];exact(by decide:2<=16777216)) (.cons ⟨tk,rfl⟩ (.cons ru .nil)) (TupX.by ((J.2 _ eT).trans hT))
  ·have ab:b<s.heap.objs.size:=by
    rcases zR.mp hb with z | z
    ·rw[z];exact zF j
    ·rw[qg.mp z]
     obtain⟨o',e',_⟩:=l;exact zF e'
   rw[zm (zU ab)];exact(hf b hb).1
 done:=by
  intro X hP hw hK hc i Y s σ H E I hf st hg;subst hP hw hK;obtain⟨⟨B,j⟩,l⟩:=st;obtain⟨xs,hq,hx⟩:=hg;obtain⟨f,rv,p,hz⟩:=I.tuple hq;have M:s.heap.IsTuple a f.toArray:=p;have O:a≠g:=fun z=>by
   obtain⟨o,e1,c1,_⟩:=M;obtain⟨o',e2,c2,_⟩:=l;rw[z,e2] at e1;cases e1;rw[c2] at c1;exact absurd (wH c1) (by decide)
  obtain⟨f0,f1,f2,f3,f4,f5⟩:=hf g (by simp)
  have ag:f.toArray.size<=i:=by
   have:=rv.length;simp only[zN];omega
  have hT:s.TypeIs (.ref e) "enumerate" :=⟨_,j,rfl⟩;unfold pyNext;refine zf (yp (yN (name:=Str.ofString "__next__") hT XG (vY XG hT F.entry_enumerate_next ?_ (F.args_enumerate_next_1 _))))
  show wpAny _ _ (field (.ref e) 2 >>= _) _ _ _;refine zf (xG j rfl (x:=.ref g) rfl (zf (wR (kd:=false) (I.ok.hd hc) l M (by simpa using ag) fun h' x ae ah=>?_)))
  obtain⟨o,ho,ac⟩:=ah;refine zf (yL (T:= "StopIteration") (b:=true) ⟨o,ho,ac⟩ isSubtype_stop ?_)
  exact zv ⟨rfl,I.turned (t':=s.toks) (fun b o hb q=>ae b o hb q) f0 f1 f3 f4 f5⟩
 self:=fun _ _ _ _ _ st h=>let ⟨⟨_,j⟩,_⟩:=st;wpAny_pyIter_enum j h
section
variable{X:Cx}
def zgA(K:W.Frag)(c:TA):TI:=fun σ H R=>c σ H fun f b=>∃a,f=[.ref a]/\(∃g,SqT K b a g)/\R (Wf K a) b
theorem Qb{l:Expr}{D:TA}{p j tp:Pos}{f:List Expr}{T:Nat}(hg:Gl X "enumerate")(M:X.mg "enumerate" = none)(J:PA X [l] D)(N:starEach [l] X.env=[(false,eval l X.env)]:=by rfl) :
  PI X (.Tuple f T tp) (.Call (.Name "enumerate" p) [l] [] j) (zgA X.K D):=by
 intro c s σ H R I h;refine Call_ (vt I hg M boot_enumerate (QE (thn (J j c s σ H _ I h) fun us s1 ⟨vs,A,w,r1,Y⟩=>?_) N rfl))
 obtain⟨a,e,⟨xs,hq⟩,q⟩:=Y;subst e;obtain⟨u,rfl,ru⟩:=xW r1;cases ru;obtain⟨Q,rv,U,hz⟩:=w.tuple hq;refine wu U fun G B L O hk=>wpAny_pyIter_enum B ?_
 have E:Inv X c σ A { s1 with heap:=G }:=w.kept (t':=s1.toks) hk;refine⟨s1.heap.objs.size+1,[s1.heap.objs.size+1,s1.heap.objs.size],_,_,A,rfl,E,Wl a _ _ (Nat.succ_ne_self _),⟨⟨_,B⟩,L⟩,fun b hb=>?_,q⟩
 have g:s1.heap.objs.size<=b:=by
  rcases zR.mp hb with z | z
  ·rw[z];exact Xm _
  ·rw[qg.mp z];exact zC _
 exact w.fpOk g (w.hok.fresh g)
theorem zbv{K:W.Frag}{a:Addr}{xs:List V}{g:TG}{w:TS}{D:Q7}{σ:St}{H:Hp}(Pv:Nat->St->Hp->Prop)(A:Pv 0 σ H)(G:∀i σ H,i<=xs.length->Pv i σ H->SqT K H a xs)
  (I:∀i x σ H T,xs[i]? =some x->Pv i σ H->H T=none->g (.ref T) σ (upd H T (.tup [.int i,x])) fun l f=>w { D with nx:=Pv (i+1),ct:=Pv (i+1),bk:=D.nx } l f) (hd:∀σ H,Pv xs.length σ H->D.nx σ H) :
  ∃W:Nat->Nat->St->Hp->Prop,(∃m,W 0 m σ H)/\∀i m σ H,W i m σ H ->
   ((Wf K a).stop i H/\D.nx σ H)\/((Wf K a).go i H/\∃N:St->Hp->Prop,(∀j b,N j b->∃s,s<m/\W (i+1) s j b)/\∀x b,(Wf K a).yld i H x b->g x σ b fun l f=>w { D with nx:=N,ct:=N,bk:=D.nx } l f):=by
 refine⟨fun i m σ H=>m=xs.length-i/\i<=xs.length/\Pv i σ H,⟨xs.length,by simp,qV _,A⟩,?_⟩
 rintro i m σ H ⟨rfl,E,p⟩;have q:=G i σ H E p;by_cases c:i<xs.length
 ·refine .inr ⟨⟨xs,xs[i],q,by simp[c]⟩,Pv (i+1),fun j b J=>⟨xs.length-(i+1),by omega,rfl,c,J⟩,fun x b y=>?_⟩
  obtain⟨T,z,e1,B,e2,y⟩:=y;subst e1 e2;exact I i z σ H T (y xs q) p B
 ·have e:i=xs.length:=by omega
  subst e;exact .inl ⟨⟨xs,q,zC _⟩,hd σ H p⟩
end
end L2
namespace L2
open PySem PySem.Spec PyProof.Rows
section
variable{b:Program}{w:World}{A:Around}{R:Result->Shared->Prop}{s:Shared}
abbrev lc2(l E c:Expr)(g:List Expr)(G j:Expr)(B:List Expr)(f:Scope)(D:Pos):Expr:=.ListComp l [⟨E,c,g,0⟩,⟨G,j,B,0⟩] f D
theorem V1(E I j:Expr)(B:List Expr)(L g:Expr)(G:List Expr)(l:Scope)(H:Pos)(J D:Value)(f:Env) :
  compTurn (lc2 E I j B L g G l H) 1 J D f=(do
   standAt g.pos
   match<-pyNext J with
   | none=>pure (.done .next)
   | some v=>
    letOwnedTupleGo L J v
    assign L f v
    let mut ok:=true
    for c in G do
     if ok then ok<-isTrue c f (eval c f)
    if ok then
     (do let _<-call (.builtin "list.append") [D,<- eval E f])
    again (.compLoop (lc2 E I j B L g G l H) 1 J D f)):=by rfl
theorem Xh(E B f:Expr)(l:List Expr)(J c:Expr)(G:List Expr)(j:Scope)(H:Pos)(I D:Value)(g:Env) :
  compTurn (lc2 E B f l J c G j H) 0 I D g=(do
   standAt f.pos
   match<-pyNext I with
   | none=>pure (.done .next)
   | some v=>
    letOwnedTupleGo B I v
    assign B g v
    let ok<-xS l g
    if ok=true then do
     let x<-eval c g
     standAt c.pos
     let x<-foldedSetIterable c g x
     let L<-holding [x] (pyIter x)
     let _<-runOwn (.compStart (lc2 E B f l J c G j H) 1 L D g) g
     again (.compLoop (lc2 E B f l J c G j H) 0 I D g)
    else again (.compLoop (lc2 E B f l J c G j H) 0 I D g)):=by rfl
theorem wq{D H c j M g E f G L B l}
  (O:codeAny (model b w) A (.compLoop (lc2 D H c j M g E f G) 1 L B l) R s)
  (h:wpAny (model b w) A (pyIter L) (fun I J=>codeAny (model b w) A (.compLoop (lc2 D H c j M g E f G) 1 I B l) R J)
   (notedBy (model b w) A l fun x J=>R (.error x) J) s) :
  codeAny (model b w) A (.compStart (lc2 D H c j M g E f G) 1 L B l) R s:=by
 refine codeAny_of_tree ?_
 show wpAny _ _ ((compStart (lc2 D H c j M g E f G) 1 L B l).onRaise (fun x=>do noteFrame x l;standAt theWindowsPlace)) _ _ s
 refine wpAny_notedAt ?_
 unfold compStart;show wpAny _ _ (ask >>= _) _ _ s;refine zf (wpAny_askSetting (wpAny_ite ?_))
 split
 ·first
   | exact zf (zv (zv (And.intro rfl O)))
   | exact zv (And.intro rfl O)
 ·first
   | exact zf (x6 (zf (vL (zf (qh h (fun I J N=>zv (And.intro rfl N)) fun _ _ x=>x)))))
   | (refine zf (x6 ?_);show wpAny _ _ (standAt g.pos >>= _) _ _ s;exact zf (vL (zf (qh h (fun I J N=>zv (And.intro rfl N)) fun _ _ x=>x))))
theorem zgM{l L f:Expr}{B:List Expr}{Y D:Expr}{G:List Expr}{g:Scope}{I:Pos}{N j:Value}{c:Env}(J:Nat->Shared->Prop)
  (M:∀n s,J n s->wpAny (model b w) A (pyNext N) (fun r s1=>match r with
   | none=>R (.ok .next) s1
   | some v=>wpAny (model b w) A (letOwnedTupleGo Y N v) (fun _ s2=>wpAny (model b w) A (assign Y c v) (fun _ s3=>
     wpAny (model b w) A (xS G c) (fun ok O=>
      if ok=true then wpAny (model b w) A (eval l c) (fun x T=>
       wpAny (model b w) A (call (.builtin "list.append") [j,x]) (fun _ U=>∃m,m<n/\J m U) (fun _ _=>False) T) (fun _ _=>False) O
      else ∃m,m<n/\J m O) (fun _ _=>False) s3) (fun _ _=>False) s2) (fun _ _=>False) s1) (fun _ _=>False) s)
  (n:Nat) (h:J n s):codeAny (model b w) A (.compLoop (lc2 l L f B Y D G g I) 1 N j c) R s:=by
 have H:∀{α:Type} {t:Sem α} {Q:α->Shared->Prop} {E:Value->Shared->Prop} {s:Shared},wpAny (model b w) A t Q (fun _ _=>False) s->wpAny (model b w) A t Q E s:=fun x=>qh x (fun _ _ q=>q) fun _ _ q=>q.elim
 refine codeAny_loop rfl J (fun k u hJ=>?_) n h
 show wpAny _ A ((compTurn (lc2 l L f B Y D G g I) 1 N j c).onRaise (fun x=>do noteFrame x c;theTreesLotGoes x)) _ _ u
 refine wpAny_noted ?_
 rw[V1];refine zf (vL (zf (H (qh (M k u hJ) (fun r s1 h1=>?_) fun _ _ q=>q))))
 cases r with
 | none=>exact zv h1
 | some v=>
  refine zf (H (qh h1 (fun _ s2 h2=>zf (H (qh h2 (fun _ s3 h3=>zf (H (qh h3 (fun ok O h4=>?_) fun _ _ q=>q))) fun _ _ q=>q))) fun _ _ q=>q))
  cases ok with
  | false=>exact zv ⟨rfl,h4⟩
  | true=>
   have a0:wpAny (model b w) A (eval l c) (fun x T=>wpAny (model b w) A (call (.builtin "list.append") [j,x]) (fun _ U=>∃m,m<k/\J m U) (fun _ _=>False) T) (fun _ _=>False) O:=h4
   refine zf (zf (H (qh a0 (fun x T h5=>zf (H (qh h5 (fun _ U h6=>zv (zv ⟨rfl,h6⟩)) fun _ _ q=>q))) fun _ _ q=>q)))
theorem zeG{H D j:Expr}{B:List Expr}{tg c:Expr}{I:List Expr}{l:Scope}{L:Pos}{T G:Value}{g:Env}(hs:∀x,foldedSetIterable c g x=pure x)(J:Nat->Shared->Prop)
  (N:∀n s,J n s->wpAny (model b w) A (pyNext T) (fun r s1=>match r with
   | none=>R (.ok .next) s1
   | some v=>wpAny (model b w) A (letOwnedTupleGo D T v) (fun _ s2=>wpAny (model b w) A (assign D g v) (fun _ s3=>
     wpAny (model b w) A (xS B g) (fun ok U=>
      if ok=true then wpAny (model b w) A (eval c g) (fun x Y=>
       wpAny (model b w) A (pyIter x) (fun O s6=>codeAny (model b w) A (.compStart (lc2 H D j B tg c I l L) 1 O G g) (fun r s7=>match r with | .ok _=>∃m,m<n/\J m s7 | .error _=>False) s6) (fun _ _=>False) Y) (fun _ _=>False) U
      else ∃m,m<n/\J m U) (fun _ _=>False) s3) (fun _ _=>False) s2) (fun _ _=>False) s1) (fun _ _=>False) s)
  (n:Nat) (h:J n s):codeAny (model b w) A (.compLoop (lc2 H D j B tg c I l L) 0 T G g) R s:=by
 have M:∀{α:Type} {t:Sem α} {Q:α->Shared->Prop} {E:Value->Shared->Prop} {s:Shared},wpAny (model b w) A t Q (fun _ _=>False) s->wpAny (model b w) A t Q E s:=fun x=>qh x (fun _ _ q=>q) fun _ _ q=>q.elim
 refine codeAny_loop rfl J (fun k u hJ=>?_) n h
 show wpAny _ A ((compTurn (lc2 H D j B tg c I l L) 0 T G g).onRaise (fun x=>do noteFrame x g;theTreesLotGoes x)) _ _ u
 refine wpAny_noted ?_
 rw[Xh];refine zf (vL (zf (M (qh (N k u hJ) (fun r s1 h1=>?_) fun _ _ q=>q))))
 cases r with
 | none=>exact zv h1
 | some v=>
  refine zf (M (qh h1 (fun _ s2 h2=>zf (M (qh h2 (fun _ s3 h3=>zf (M (qh h3 (fun ok U h4=>?_) fun _ _ q=>q))) fun _ _ q=>q))) fun _ _ q=>q))
  cases ok with
  | false=>exact zv ⟨rfl,h4⟩
  | true=>
   have a0:wpAny (model b w) A (eval c g) (fun x Y=>
       wpAny (model b w) A (pyIter x) (fun O s6=>codeAny (model b w) A (.compStart (lc2 H D j B tg c I l L) 1 O G g) (fun r s7=>match r with | .ok _=>∃m,m<k/\J m s7 | .error _=>False) s6) (fun _ _=>False) Y) (fun _ _=>False) U:=h4
   refine zf (M (qh a0 (fun x Y h5=>zf (vL (zf (yj (hs x) (zf (x8 (M (qh h5 (fun O s6 h6=>?_) fun _ _ q=>q)))))))) fun _ _ q=>q))
   refine zf (wpAny_runOwn (h:=none) ?_)
   rw[Around.mark_none];refine codeAny_mono h6 fun r s7 h7=>?_
   cases r with
   | ok f=>exact zv ⟨rfl,h7⟩
   | error e=>exact h7.elim
end
def Sub:St->St->Prop
 | [],[]=>True
 | none::r,_::b=>Sub r b
 | some v::r,x::b=>x=some v/\Sub r b
 | _,_=>False
theorem Sub.len:∀{a b:St},Sub a b->a.length=b.length
 | [],[],_=>rfl
 | [],_::_,h=>h.elim
 | none::_,[],h=>h.elim
 | some _::_,[],h=>h.elim
 | none::r,_::c,h=>by rw[jV,jV,Sub.len (a:=r) (b:=c) h]
 | some _::r,_::c,h=>by rw[jV,jV,Sub.len (a:=r) (b:=c) h.2]
theorem Sub.get:∀{a b:St} {i:Nat} {v:V},Sub a b->a[i]? =some (some v)->b[i]? =some (some v)
 | [],[],_,_,_,e=>e
 | [],_::_,_,_,h,_=>h.elim
 | none::_,[],_,_,h,_=>h.elim
 | some _::_,[],_,_,h,_=>h.elim
 | none::r,_::c,0,v,h,e=>by simp at e
 | none::r,_::c,i+1,v,h,e=>by
  rw[List.getElem?_cons_succ] at e ⊢
  exact Sub.get (a:=r) (b:=c) h e
 | some _::r,_::c,0,v,h,e=>by
  rw[List.getElem?_cons_zero] at e ⊢
  rw[h.1];exact e
 | some _::r,_::c,i+1,v,h,e=>by
  rw[List.getElem?_cons_succ] at e ⊢
  exact Sub.get (a:=r) (b:=c) h.2 e
def tIn(O:TI)(g:TG)(M:TT)(L:TE)(Q:List V)(N:List V->Hp->Prop):St->Hp->Prop:=fun w G=>O w G fun J H=>
 ∃W:Nat->Nat->List V->Hp->Prop,(∃m,W 0 m Q H)/\∀i m c j,W i m c j ->
  (J.stop i j/\N c j) \/
  (J.go i j/\∃s:List V->Hp->Prop,(∀c B,s c B->∃E,E<m/\W (i+1) E c B)/\∀x D,J.yld i j x D->g x w D fun A I=>Sub w A/\M A I fun b f=>
   if b=true then L A f fun y l=>c.length<sizeLine/\s (c++[y]) l else s c f)
section
variable{X:Cx}{l G c:Expr}{w:List Expr}{E A:Expr}{s:List Expr}{f:Scope}{B:Pos}{U O:TI}{g Q:TG}{L M:TT}{H:TE}
theorem zeu{Y:Cx}{D:Addr}{a0:List (Addr×Obj)}{σ4:St}{H0:Hp}{s0:Shared}{it:Addr}{fp:List Addr}{tn:Nat->Heap->Prop}{J:It}{R:Result->Shared->Prop}{N:List V->Hp->Prop}{ys:List V}{aa:List Value}{z:Nat}{m0:Nat}{W:Nat->Nat->List V->Hp->Prop}
  (hc:Y.calm=true) (hx:Y.xe=fun _ _=>False) (hg:PG Y E g) (hf:PF Y s L) (he:PE Y l H)
  (T:wX Y.prog Y.w Y.K E J fp it tn) (fD:∀H':Hp,H' D=none->xh Y a0 H' D) (f2:∀b∈fp,∀H':Hp,H' b=none->xh Y a0 H' b) (nD:∀b∈fp,D≠b)
  (I:Inv Y a0 σ4 H0 s0) (st:tn 0 s0.heap) (fr:∀b∈fp,H0 b=none) (ag:H0 D=none) (ho:s0.heap.get? D=some { cls:=.type "list",data:=.seq aa.toArray z }) (rv:Vals ys aa) (w0:W 0 m0 ys H0)
  (ac:∀i m zs H7,W i m zs H7 ->
   (J.stop i H7/\N zs H7) \/
   (J.go i H7/\∃N2:List V->Hp->Prop,(∀zs H',N2 zs H'->∃m',m'<m/\W (i+1) m' zs H')/\∀x H8,J.yld i H7 x H8->g x σ4 H8 fun σ9 H9=>Sub σ4 σ9/\L σ9 H9 fun b ab=>
    if b=true then H σ9 ab fun y ae=>zs.length<sizeLine/\N2 (zs++[y]) ae else N2 zs ab))
  (af:∀s',LcE Y D a0 σ4 N s'->R (.ok .next) s') :
  codeAny (model Y.prog Y.w) Y.A (.compLoop (lc2 l G c w E A s f B) 1 (.ref it) (.ref D) Y.env) R s0:=by
 refine zgM (LcJ Y D tn fp a0 σ4 W) (fun n s5 j=>qh (zam hc hx hg hf he T fD f2 nD (fun σ9 H' s' J hd=>J.weak hd.len fun k v e=>hd.get e) ac j) (fun r s6 h6=>?_) fun _ _ q=>q) m0 ⟨0,ys,aa,H0,z,I,st,fr,ag,ho,rv,w0⟩
 cases r with
 | some v=>exact h6
 | none=>exact af s6 h6
end
def zg2(l:TI)(n:Nat)(E:List Nat)(O:TG)(j:TT)(Y:TI)(g:TG)(U:TT)(T:TE):TE:=fun σ H Q=>l σ H fun J L=>
 ∃W:Nat->Nat->List V->Hp->Prop,(∃m,W 0 m [] L)/\∀i m f c,W i m f c ->
  (J.stop i c/\f.length<=sizeLine/\∀D,c D=none->Q (.ref D) (upd c D (.lst f))) \/
  (J.go i c/\∃N:List V->Hp->Prop,(∀I w,N I w->∃G,G<m/\W (i+1) G I w)/\∀x A,J.yld i c x A->O x (upS n E σ) A fun s M=>s.drop n=(upS n E σ).drop n/\j s M fun b B=>
   if b=true then tIn Y g U T f N s B else N f B)
section
variable{X:Cx}{w l iter1:Expr}{f:List Expr}{E c:Expr}{A:List Expr}{scope:Scope}{pos:Pos}{M U:TI}{g O:TG}{L B:TT}{G:TE}
theorem zc8{Y:Cx}{D it:Addr}{H:List Addr}{tn:Nat->Heap->Prop}{J:It}{σ4:St}{Kp:St->Prop}{W:Nat->Nat->List V->Hp->Prop}{N:List V->Hp->Prop}{n:Nat}{s5:Shared}
  (hc:Y.calm=true) (hx:Y.xe=fun _ _=>False) (hg:PG Y l O) (hf:PF Y f B) (bc:PI Y E c M) (bb:PG Y E g) (ba:PF Y A L) (he:PE Y w G) (T:wX Y.prog Y.w Y.K l J H it tn)
  (fB:∀b∈D::H,∀s:Hp,s b=none->xh Y [] s b) (nD:∀b∈H,D≠b) (bk:∀σ9 s s',Inv Y [] σ9 s s'->Kp σ9->Inv Y [] σ4 s s')
  (au:∀i m zs H7,W i m zs H7->(J.stop i H7/\N zs H7)\/(J.go i H7/\∃N2:List V->Hp->Prop,(∀zs s,N2 zs s->∃m',m'<m/\W (i+1) m' zs s)/\∀x H8,J.yld i H7 x H8->O x σ4 H8 fun σ9 H9=>Kp σ9/\B σ9 H9 fun b am=>
    if b=true then tIn M g L G zs N2 σ9 am else N2 zs am)) (j:LcJ Y D tn H [] σ4 W n s5) :
  wpAny (model Y.prog Y.w) Y.A (pyNext (.ref it)) (fun r s1=>match r with
   | none=>LcE Y D [] σ4 N s1
   | some v=>wpAny (model Y.prog Y.w) Y.A (letOwnedTupleGo l (.ref it) v) (fun _ s2=>wpAny (model Y.prog Y.w) Y.A (assign l Y.env v) (fun _ s3=>
     wpAny (model Y.prog Y.w) Y.A (xS f Y.env) (fun ok s4=>
      if ok=true then wpAny (model Y.prog Y.w) Y.A (eval c Y.env) (fun x s5=>
       wpAny (model Y.prog Y.w) Y.A (pyIter x) (fun i2 s6=>codeAny (model Y.prog Y.w) Y.A (.compStart (lc2 w l iter1 f E c A scope pos) 1 i2 (.ref D) Y.env) (fun r Q=>match r with | .ok _=>∃m,m<n/\LcJ Y D tn H [] σ4 W m Q | .error _=>False) s6) (fun _ _=>False) s5) (fun _ _=>False) s4
      else ∃m,m<n/\LcJ Y D tn H [] σ4 W m s4) (fun _ _=>False) s3) (fun _ _=>False) s2) (fun _ _=>False) s1) (fun _ _=>False) s5:=by
 have af:=hg;have ae:=hf;have ag:=bc
 unfold PG at af;unfold PF at ae;unfold PI at ag
 rw[hx] at af ae ag;obtain⟨i,ys,ah,H5,z5,I5,as,ao,az,ap,aj,w5⟩:=j;have an:=I5.pinned (fp:=[D]) (fun b hb=>by rw[qg.mp hb];exact fB D jb _ az) (fun b hb=>by rw[qg.mp hb];exact⟨_,ap,fun v q=>nomatch q⟩)
 have mD:(D,({ cls:=.type "list",data:=.seq ah.toArray z5 }:Obj))∈[]++qz [D] s5.heap:=qD _ (jk (qg.mpr rfl) ap);have ac:∀{s:Hp},(∀b∈H,s b=none)->∀b∈H,xh Y ([]++qz [D] s5.heap) s b:=fun hn b hb=>by
  obtain⟨a1,a2,a3,a4,a5,a6⟩:=fB b (jc _ hb) _ (hn b hb);refine⟨a1,a2,a3,a4,a5,fun p hp=>?_⟩
  rcases qM.mp hp with q | q
  ·exact a6 p (j3 _ q)
  ·rw[qg.mp (vH ((qM.mp q).resolve_left (by simp))).1];exact nD b hb
 rcases au i n ys H5 w5 with ⟨stop,q⟩ | ⟨go,N2,hN,step⟩
 ·refine thn (T.done Y rfl rfl rfl hc i _ s5 _ H5 _ an (ac ao) as stop) fun r s6 ⟨hr,I6⟩=>?_
  subst hr;obtain⟨o6,bf,_⟩:=I6.pin (D,_) (qD _ mD);exact⟨ys,ah,H5,z5,I6.unpinned,bf,o6,aj,q⟩
 ·refine thn (T.item Y rfl rfl rfl hc i _ s5 _ H5 _ an (ac ao) as go) fun r s6 ⟨u,hr,h6⟩=>?_
  subst hr;refine thn h6 fun _ Q ⟨x,H7,I7,r7,y7,ak,ax⟩=>?_
  refine thn (af _ Q _ H7 x u _ (I7.pinned (ac ax) (T.obj _ _ ak)) r7 (step x H7 y7)) fun _ s8 ⟨σ8,H8,I8,b0,q8⟩=>?_
  refine thn (ae _ s8 σ8 H8 _ I8 q8) fun ok s9 ⟨H9,I9,q9⟩=>?_
  have ai:=j3 (qz H Q.heap) mD;have kp:∀{P:List (Addr×Obj)} {s:Hp} {s':Shared},Inv Y P σ8 s s'->(∀p∈qz H Q.heap,p∈P)->Inv Y [] σ4 s s'/\tn (i+1) s'.heap/\∀b∈H,s b=none:=fun {P s s'} J hP=>
   ⟨bk _ _ _ (J.pins_of fun p hp=>absurd hp (by simp)) b0,T.keep _ _ _ ak fun b hb o e=>(J.pin (b,o) (qD _ (hP _ (jk hb e)))).1,fun b hb=>by
    obtain⟨o,e,_⟩:=T.obj _ _ ak b hb;exact(J.pin (b,o) (qD _ (hP _ (jk hb e)))).2.1⟩
  cases ok with
  | false=>
   obtain⟨m',hm,w'⟩:=hN _ _ (show N2 ys H9 by simpa using q9)
   obtain⟨o9,bg,_⟩:=I9.pin (D,_) (qD _ ai);obtain⟨k1,k2,k3⟩:=kp I9 fun p hp=>qD _ hp
   exact⟨m',hm,i+1,ys,ah,H9,z5,k1,k2,k3,bg,o9,aj,w'⟩
  | true=>
   refine thn (ag _ s9 σ8 H9 _ I9 (show tIn M g L G ys N2 σ8 H9 by simpa using q9)) fun xv bo ay=>thn ay fun bn bj ⟨bd,aw,bp,J2,bm,ei,aa,T2,a0,ab,W2,⟨m2,w2⟩,al⟩=>?_
   subst ei;obtain⟨bh,ar,_⟩:=aa.pin (D,_) (qD _ ai);have av:∀b∈aw,∀s:Hp,s b=none->xh Y (qz H Q.heap) s b:=fun b hb s hn=>by
    obtain⟨_,a2,a3,a4,a5,a6⟩:=ab b hb;exact⟨hn,a2,a3,a4,a5,fun p hp=>a6 p ((qM.mp hp).elim (fun q=>j3 _ q) fun q=>qD _ (qD _ q))⟩
   have fD:∀s:Hp,s D=none->xh Y (qz H Q.heap) s D:=fun s hn=>by
    obtain⟨a1,a2,a3,a4,a5,a6⟩:=fB D jb _ hn;refine⟨a1,a2,a3,a4,a5,fun p hp=>?_⟩
    rcases qM.mp hp with q | q
    ·exact a6 p (j3 _ q)
    ·exact zM (nD _ (vH q).1)
   have I:codeAny (model Y.prog Y.w) Y.A (.compLoop (lc2 w l iter1 f E c A scope pos) 1 (.ref bd) (.ref D) Y.env) (fun r Q=>match r with
     | .ok _=>∃m,m<n/\LcJ Y D tn H [] σ4 W m Q
     | .error _=>False) bj:=by
    refine zeu (N:=N2) hc hx bb ba he T2 fD av (fun b hb=>(ab b hb).2.2.2.2.2 (D,_) (qD _ ai)) (aa.pins_of fun p hp=>aa.pin p (qD _ (qD _ hp))) a0 (fun b hb=>(ab b hb).1) ar bh aj w2 al fun s' h'=>?_
    obtain⟨zs,aq,s,z',I',be,o',bi,q'⟩:=h';obtain⟨m',hm,w'⟩:=hN _ _ q';obtain⟨k1,k2,k3⟩:=kp I' fun p hp=>hp
    exact⟨m',hm,i+1,zs,aq,s,z',k1,k2,k3,be,o',bi,w'⟩
   exact wq I (T2.self Y.A 0 _ _ _ a0 I)
theorem zc9{C D it:Addr}{fp:List Addr}{tn:Nat->Heap->Prop}{J:It}{W:Nat->Nat->List V->Hp->Prop}{H2:Hp}{s3 s4:Shared}{m0 n:Nat}{R:Result->Shared->Prop}{js:List Nat}{σ:St}{Q:List Str}{N:List V->Hp->Prop}(hc:X.calm=true)
  (hg:∀C s H ex,PG (zD X Q scope C s H ex) l O) (hf:∀C s H ex,PF (zD X Q scope C s H ex) f B) (ag:∀C s H ex,PI (zD X Q scope C s H ex) E c M) (af:∀C s H ex,PG (zD X Q scope C s H ex) E g) (ae:∀C s H ex,PF (zD X Q scope C s H ex) A L) (he:∀C s H ex,PE (zD X Q scope C s H ex) w G)
  (ah:∀C x,foldedSetIterable c (compEnvC scope (jN X.env.cells scope.names []) C X.env) x=pure x) (ac:∀b∈D::fp,∀H':Hp,H' b=none->xh (zD X Q scope C s3 H2 (D::fp)) [] H' b) (fD:∀b∈fp,D≠b) (T:wX X.prog X.w X.K l J fp it tn)
  (aa:∀i m zs H7,W i m zs H7->(J.stop i H7/\N zs H7)\/(J.go i H7/\∃N2:List V->Hp->Prop,(∀zs H',N2 zs H'->∃m',m'<m/\W (i+1) m' zs H')/\∀x H8,J.yld i H7 x H8->O x (upS n js σ) H8 fun σ9 H9=>σ9.drop n=(upS n js σ).drop n/\B σ9 H9 fun b a0=>
    if b=true then tIn M g L G zs N2 σ9 a0 else N2 zs a0))
  (j:LcJ (zD X Q scope C s3 H2 (D::fp)) D tn fp [] (upS n js σ) W m0 s4) (ab:∀s6,LcE (zD X Q scope C s3 H2 (D::fp)) D [] (upS n js σ) N s6->R (.ok .next) s6) :
  codeAny (model X.prog X.w) X.A (.compLoop (lc2 w l iter1 f E c A scope pos) 0 (.ref it) (.ref D) (compEnvC scope (jN X.env.cells scope.names []) C X.env)) R s4:=by
 have hl:=(let ⟨_,_,_,_,_,I,_,_,_,_,_,_⟩:=j;I.len:(upS n js σ).length=Q.length)
 refine zeG (ah C) (LcJ (zD X Q scope C s3 H2 (D::fp)) D tn fp [] (upS n js σ) W) (fun k s5 j=>qh (zc8 (iter1:=iter1) (scope:=scope) (pos:=pos) (Y:=zD X Q scope C s3 H2 (D::fp)) hc rfl (hg _ _ _ _) (hf _ _ _ _) (ag _ _ _ _) (af _ _ _ _) (ae _ _ _ _) (he _ _ _ _) T ac fD (fun σ9 H' s' J hd=>XW hl J hd) aa j) (fun r s6 h6=>?_) fun _ _ q=>q) m0 j
 cases r with
 | some v=>exact h6
 | none=>exact ab s6 h6
theorem zf0(own Y:List Str)(js:List Nat)(hc:X.calm=true)(hk:scope.kind=.function)(hb:yJ scope.names X.env.scope.names X.N Y js=true)(hi:PI X l iter1 U)
  (hg:∀C s H N,PG (zD X (own++Y) scope C s H N) l O) (hf:∀C s H N,PF (zD X (own++Y) scope C s H N) f B)
  (ac:∀C s H N,PI (zD X (own++Y) scope C s H N) E c M) (ab:∀C s H N,PG (zD X (own++Y) scope C s H N) E g) (aa:∀C s H N,PF (zD X (own++Y) scope C s H N) A L) (he:∀C s H N,PE (zD X (own++Y) scope C s H N) w G)
  (hs:∀x,foldedSetIterable iter1 X.env x=pure x:=by intro _;rfl) (ae:∀C x,foldedSetIterable c (compEnvC scope (jN X.env.cells scope.names []) C X.env) x=pure x:=by intro _ _;rfl):PE X (lc2 w l iter1 f E c A scope pos) (zg2 U own.length js O B M g L G):=by
 intro ag s σ H Q I h;rw[eval_ListComp];exact zdo own Y js hk hb hi hs I h (fun C D it fp tn J W H2 s3 s4 m0 R a b T tl j a0=>zc9 hc hg hf ac ab aa he ae a b T tl j a0) fun s6 D C H6 m hn all _ q=>⟨m,hn,fun h7 af=>⟨.ref D,H6,all h7 fun b o hb e=>af.extBut b o hb e,rfl,q⟩⟩
end
section
variable{X:Cx}
inductive wN(K:W.Frag)(c:List V)(H:Hp)(Q:VK):Prop
 | mk (p:Addr) (b:List Bool) (_:c=[.ref p]) (_:SqL K H p (b.map V.bl)) (_:Q (.bl (b.any id)) H):wN K c H Q
theorem JG(hc:X.calm=true):CallR X (.builtin "any") (wN X.K):=by
 intro M s σ H xs us Q I r h;obtain⟨p,c,rfl,hq,q⟩:=h;obtain⟨u,rfl,G⟩:=xW r;cases G;obtain⟨f,J,pl,hz⟩:=I.list hq;have D:=pl.isList;have E:p≠s.heap.objs.size:=by
  obtain⟨o,e,_⟩:=D;exact zU (zF e)
 refine call_any_walk (wpAny_pyIter_list D ?_)
 refine⟨s.heap.objs.size,_,_,_,_,_,fun i=>c.getD i false,rfl,yh (prog:=X.prog) (w:=X.w) (A:=X.A.in1) (I.ok.hd hc) _ p E f.toArray,⟨⟨_,zT _ rfl,rfl,rfl⟩,D.push _⟩,?_,fun Y tk hk=>?_⟩
 ·intro i v s' O E' B hQ
  have B:f.toArray[i]? =some v:=B;have e1:f[i]? =some v:=by simpa using B
  have g:i<c.length:=by
   have h1:=(zK.mp e1).1;have h2:=J.length;rw[zn] at h2;omega
  have e2:(c.map V.bl)[i]? =some (.bl c[i]):=by simp[g]
  obtain⟨u',L,G⟩:=J.get e2;rw[e1] at L;cases L;cases G;have T:c.getD i false=c[i]:=by simp[g]
  have j:O (c.getD i false) s':=hQ;rw[T] at j;exact vZ j
 ·have k:∀b o,s.heap.get? b=some o->Y.get? b=some o:=fun b o e=>hk b o (by simp;exact zU (zF e)) (zV _ e)
  have U:(List.range f.toArray.size).any (fun i=>c.getD i false)=c.any id:=by
   have l:f.toArray.size=c.length:=by
    have:=J.length;rw[zn] at this;simp only[zN];omega
   rw[l,va,yM,yM];constructor
   ·rintro⟨i,g,e⟩
    have g:=jJ.mp g;exact⟨c[i],wA g,by simpa [g] using e⟩
   ·rintro⟨b,hb,e⟩
    obtain⟨i,g,rfl⟩:=JM.mp hb;exact⟨i,jJ.mpr g,by simpa [g] using e⟩
  exact⟨.bl (c.any id),H,I.kept k,by rw[U];rfl,q⟩
theorem V8:bootBuiltins "any" = some (.builtin "any"):=by decide +kernel
theorem VP:∀{c:List Int} {b:List Value},Vals (c.map V.int) b->IntsAre b c
 | [],b,h=>by cases h;exact .nil
 | n::c,b,h=>by
  cases h with
  | cons r q=>
   obtain⟨t,rfl⟩:=r;exact .cons n t (VP q)
theorem JA{α β:Type}(f:α->β):∀(l:List α) (i:Nat),(l.eraseIdx i).map f=(l.map f).eraseIdx i
 | [],_=>rfl
 | _::_,0=>rfl
 | a::r,i+1=>by
  show f a::(r.eraseIdx i).map f=f a::(r.map f).eraseIdx i;rw[JA f r i]
inductive Vm(x:V)(c:List V)(H:Hp)(Q:VK):Prop
 | mk (l:Addr) (b:List Int) (k:Int) (_:x=.ref l) (_:c=[.int k]) (_:H l=some (.lst (b.map V.int))) (_:k∈b) (_:Q .non (upd H l (.lst ((b.erase k).map V.int)))):Vm  x c H Q
theorem WE:MtM X "list.remove" Vm:=by
 intro E s σ H x vs v us Q I O N h;obtain⟨l,b,k,rfl,rfl,A,hk,q⟩:=h;cases O;obtain⟨u,rfl,j⟩:=N.one;obtain⟨t,rfl⟩:=j;obtain⟨z,c,n,r,L,e⟩:=I.lstM A;rw[zn] at L z;have T:b.idxOf k<b.length:=List.idxOf_lt_length_of_mem hk;have f:∀i (B:i<c.length),isInt k c[i]=(b[i]'(by omega)==k):=fun i B=>by
  have e2:(b.map V.int)[i]? =some (.int (b[i]'(by omega))):=by simp[show i<b.length by omega]
  obtain⟨Y,w,j⟩:=r.get e2;rw[qP B] at w;cases w;obtain⟨U,G⟩:=j;rw[G];rfl
 refine call_meets F.slot_list_remove ⟨_,e,rfl⟩ F.entry_list_remove (F.args_list_remove_2 _ _) (MeetsSeq.list_remove l c.toArray n (.int k t) (isInt k) (fun y hy=>eq_isInt k t (VP r) y (by simpa using hy)) (b.idxOf k) (by simp;omega) ?_ ?_ (by simp;omega)) ⟨e,?_⟩
 ·rw[List.getElem_toArray,f _ (by omega)]
  simp
 ·intro m M g
  rw[List.getElem_toArray,f _ (by simpa using M)]
  have:=List.not_of_lt_findIdx (p:=(·==k)) (xs:=b) (i:=m) (by exact g)
  simpa using this
 refine⟨.non,_,I.lset (its':=c.eraseIdx (b.idxOf k)) A e ?_ ?_ ?_,rfl,q⟩
 ·apply Array.toList_inj.mp
  simp[Array.toList_eraseIdxIfInBounds]
 ·have J:(b.erase k).map V.int=(b.map V.int).eraseIdx (b.idxOf k):=by rw[List.erase_eq_eraseIdx_of_idxOf rfl,JA]
  rw[J];exact r.eraseIdx _
 ·rw[zn]
  exact qL (List.length_erase_le) z
end
theorem VH{K:W.Frag}{a:Addr}{xs:List V}{g:TG}{J:TT}{I:TE}{w:St}{n:Nat}{R:List V->Hp->Prop}{H:Hp}(Pv:Nat->List V->Hp->Prop)(L:Pv 0 [] H)
  (h1:∀i c H,Pv i c H->SqT K H a xs)
  (O:∀i x c H T,xs[i]? =some x->Pv i c H->H T=none->g (.ref T) w (upd H T (.tup [.int i,x])) fun j D=>j.drop n=w.drop n/\J j D fun b l=>
   if b=true then I j l fun v E=>c.length<sizeLine/\Pv (i+1) (c++[v]) E else Pv (i+1) c l)
  (hd:∀c H,Pv xs.length c H->c.length<=sizeLine/\R c H) :
  ∃W:Nat->Nat->List V->Hp->Prop,(∃m,W 0 m [] H)/\∀i m c f,W i m c f ->
   ((Wf K a).stop i f/\c.length<=sizeLine/\R c f) \/
   ((Wf K a).go i f/\∃N:List V->Hp->Prop,(∀c A,N c A->∃G,G<m/\W (i+1) G c A)/\∀x B,(Wf K a).yld i f x B->g x w B fun j D=>j.drop n=w.drop n/\J j D fun b l=>
    if b=true then I j l fun y E=>c.length<sizeLine/\N (c++[y]) E else N c l):=by
 refine⟨fun i m c f=>m=xs.length-i/\i<=xs.length/\Pv i c f,⟨_,rfl,qV _,L⟩,?_⟩
 rintro i m c f ⟨rfl,hi,p⟩;have q:=h1 i c f p;by_cases s:i<xs.length
 ·refine .inr ⟨⟨xs,xs[i],q,by simp[s]⟩,Pv (i+1),fun a0 A Q=>⟨_,by omega,rfl,s,Q⟩,fun x B y=>?_⟩
  obtain⟨T,z,e1,M,e2,y⟩:=y;subst e1 e2;exact O i z c f T (y xs q) p M
 ·have e:i=xs.length:=by omega
  subst e;obtain⟨U,Y⟩:=hd c f p;exact .inl ⟨⟨xs,q,zC _⟩,U,Y⟩
theorem zda{K:W.Frag}{a:Addr}{xs:List V}{g:TG}{L:TT}{M:TI}{G:TG}{w:TT}{J:TE}{A:St}{n:Nat}{R:List V->Hp->Prop}{H:Hp}(Pv:Nat->List V->Hp->Prop)(O:Pv 0 [] H)
  (h1:∀i c H,Pv i c H->SqL K H a xs)
  (Q:∀i x c H,xs[i]? =some x->Pv i c H->g x A H fun j E=>j.drop n=A.drop n/\L j E fun b l=>
   if b=true then tIn M G w J c (Pv (i+1)) j l else Pv (i+1) c l)
  (hd:∀c H,Pv xs.length c H->c.length<=sizeLine/\R c H) :
  ∃W:Nat->Nat->List V->Hp->Prop,(∃m,W 0 m [] H)/\∀i m c f,W i m c f ->
   ((Itl K a).stop i f/\c.length<=sizeLine/\R c f) \/
   ((Itl K a).go i f/\∃N:List V->Hp->Prop,(∀c B,N c B->∃I,I<m/\W (i+1) I c B)/\∀x D,(Itl K a).yld i f x D->g x A D fun j E=>j.drop n=A.drop n/\L j E fun b l=>
    if b=true then tIn M G w J c N j l else N c l):=by
 refine⟨fun i m c f=>m=xs.length-i/\i<=xs.length/\Pv i c f,⟨_,rfl,qV _,O⟩,?_⟩
 rintro i m c f ⟨rfl,hi,p⟩;have q:=h1 i c f p;by_cases s:i<xs.length
 ·refine .inr ⟨⟨xs,xs[i],q,by simp[s]⟩,Pv (i+1),fun a0 B T=>⟨_,by omega,rfl,s,T⟩,fun x D y=>?_⟩
  obtain⟨e,y⟩:=y;subst e;exact Q i x c _ (y xs q) p
 ·have e:i=xs.length:=by omega
  subst e;obtain⟨U,Y⟩:=hd c f p;exact .inl ⟨⟨xs,q,zC _⟩,U,Y⟩
theorem zgz{K:W.Frag}{a:Addr}{xs:List V}{g:TG}{L:TT}{J:TE}{w:St}{N:List V->Hp->Prop}{M:List V}{H:Hp}(Pv:Nat->List V->Hp->Prop)(O:Pv 0 M H)
  (h1:∀i c H,Pv i c H->SqT K H a xs)
  (Q:∀i x c H,xs[i]? =some x->Pv i c H->g x w H fun j D=>Sub w j/\L j D fun b l=>
   if b=true then J j l fun v E=>c.length<sizeLine/\Pv (i+1) (c++[v]) E else Pv (i+1) c l)
  (hd:∀c H,Pv xs.length c H->N c H) :
  ∃W:Nat->Nat->List V->Hp->Prop,(∃m,W 0 m M H)/\∀i m c f,W i m c f ->
   ((Itt K a).stop i f/\N c f) \/
   ((Itt K a).go i f/\∃G:List V->Hp->Prop,(∀c A,G c A->∃I,I<m/\W (i+1) I c A)/\∀x B,(Itt K a).yld i f x B->g x w B fun j D=>Sub w j/\L j D fun b l=>
    if b=true then J j l fun y E=>c.length<sizeLine/\G (c++[y]) E else G c l):=by
 refine⟨fun i m c f=>m=xs.length-i/\i<=xs.length/\Pv i c f,⟨_,rfl,qV _,O⟩,?_⟩
 rintro i m c f ⟨rfl,Y,p⟩;have q:=h1 i c f p;by_cases s:i<xs.length
 ·refine .inr ⟨⟨xs,xs[i],q,by simp[s]⟩,Pv (i+1),fun U A T=>⟨_,by omega,rfl,s,T⟩,fun x B y=>?_⟩
  obtain⟨e,y⟩:=y;subst e;exact Q i x c _ (y xs q) p
 ·have e:i=xs.length:=by omega
  subst e;exact .inl ⟨⟨xs,q,zC _⟩,hd c f p⟩
section
variable{X:Cx}{j c:Expr}{g:List Expr}{f:Expr}{l:List Expr}{b:Scope}{B:Pos}{N A:TI}{L w:TT}{J:TE}{x y z:Str}{E G I M Q:Pos}{D O:Nat}
theorem zd4(U:List Str)(js:List Nat)(hc:X.calm=true)(hk:b.kind=.function)(hb:vz b.names X.env.scope.names X.N [x,y,z] U js=true)(hi:PI X (.Tuple [.Name x E,.Name y G] D M) c A)
  (hf:∀C s H T,PF (zD X ([x,y,z]++U) b C s H T) g w) (aa:∀C s H T,PI (zD X ([x,y,z]++U) b C s H T) (.Name z I) f N) (a0:∀C s H T,PF (zD X ([x,y,z]++U) b C s H T) l L) (he:∀C s H T,PE (zD X ([x,y,z]++U) b C s H T) j J)
  (hs:∀x,foldedSetIterable c X.env x=pure x:=by intro _;rfl) (ab:∀C x,foldedSetIterable f (compEnvC b (jN X.env.cells b.names []) C X.env) x=pure x:=by intro _ _;rfl) :
  PE X (lc2 j (.Tuple [.Name x E,.Name y G] D M) c g (.Name z I) f l b B) (zg2 A 3 js (VT X.K 2 (xN (xa 0) (xN (xa 1) WM))) w N (xa 2) L J):=by
 obtain⟨h1,Y,h3⟩:=xf hb;refine zf0 [x,y,z] U js hc hk h1 hi (fun C s H T=>?_) hf aa (fun C s H T=>jL (Y z (by simp)) h3 rfl) a0 he hs ab
 exact jd (X:=zD X ([x,y,z]++U) b C s H T) hc (zt (jL (Y x (by simp)) h3 rfl) (zt (jL (Y y (by simp)) h3 rfl) qA))
end
section
variable{X:Cx}
theorem zae{K:W.Frag}(h:X.K=K){f l:Expr}{b:TE}(c:PE X l b):PI X f l (zig K b):=by rw[<- h];exact xt c
theorem zcF{K:W.Frag}(h:X.K=K){f l:Expr}{b:TE}(c:PE X l b):PI X f l (zft K b):=by rw[<- h];exact qH c
def tLT(K:W.Frag)(t:TE):TT:=fun σ H Q=>t σ H fun x b=>∃a c,x=.ref a/\SqL K b a c/\Q (!c.isEmpty) b
theorem zdY{e:Expr}{t:TE}(h:PE X e t)(A:∀b,isTrue e X.env b=(do let v<-b;standAt e.pos;holding [v] (truthy v)):=by intro _;rfl):PT X e (tLT X.K t):=by
 intro c s σ H Q I D;refine isTrue_plain (thn (h c s σ H _ I D) fun v s1 ⟨x,l,f,J,G⟩=>?_) (A _)
 obtain⟨a,w,rfl,hq,q⟩:=G;cases(show v=_ from J)
 obtain⟨g,j,E,hz⟩:=f.list hq;have B:=j.length;refine wpAny_truthy_list E.isList (by rw[zN,<- B];rw[sizeLine_eq] at hz;omega) ?_
 have e:(!w.isEmpty)=(!g.toArray.isEmpty):=by
  cases w with
  | nil=>cases j;rfl
  | cons y L=>cases j;rfl
 first
  | exact⟨l,f.tok _,by rw[e] at q;simpa using q⟩
  | exact⟨l,f,by rw[e] at q;simpa using q⟩
end
section
variable{X:Cx}{l D b:Expr}{f:List Expr}{O j:Expr}{s:List Expr}{c:Scope}{A:Pos}{T G:TI}{g H:TG}{N B:TT}{M:TE}{x z:Str}{J L Q E:Pos}{I w:Nat}
end
def Jy:Nat->List Obj->PySem.W.Frag
 | _,[]=>[]
 | n,o::r=>match o.data with
  | .freed=>Jy (n+1) r
  | _=>(n,o)::Jy (n+1) r
def Xd(h:Heap):PySem.W.Frag:=Jy 0 h.objs.toList
theorem VW:∀{l:List Obj} {n a:Nat} {o:Obj},(Jy n l).lookup a=some o->n<=a/\l[a-n]? =some o/\o.data≠.freed
 | [],n,a,o,h=>by cases h
 | x::r,n,a,o,h=>by
  have b:(Jy (n+1) r).lookup a=some o->n<=a/\(x::r)[a-n]? =some o/\o.data≠.freed:=fun h=>by
   obtain⟨h1,c,f⟩:=VW h;refine⟨by omega,?_,f⟩
   rw[show a-n=(a-(n+1))+1 by omega];exact c
  unfold Jy at h;split at h
  ·exact b h
  ·rename_i g
   rw[vc] at h;split at h
   ·rename_i e
    cases h;have:=jT.mp e;subst this;exact⟨zC _,by simp,g⟩
   ·exact b h
theorem zbu(h:Heap):(Xd h).In h:=fun a o e=>by
 obtain⟨_,b,g⟩:=VW e;have b:h.objs[a]? =some o:=by simpa using b
 unfold Heap.get?;rw[b];obtain⟨c,d,f,j⟩:=o;cases f<;>first| rfl | exact absurd rfl g
inductive Fd(K:W.Frag)(b:Str)(st:Stmt):Prop
 | mk (f:Addr) (c:FuncData) (a:PySem.W.nsIn K mainGlobals b=some (some (.ref f))) (F:Fun K b b st f c):Fd K b st
def zid:Value->Bool
 | .none=>true
 | _=>false
def Xe(K:W.Frag)(c:Str):Option (Arguments×FuncBody×Scope×Bool):=match PySem.W.nsIn K mainGlobals c with
 | some (some (.ref f))=>(match K.lookup f with
  | some ⟨_,_,.func b,_⟩=>some (b.params,b.body,b.scope,b.name==c&&(b.qualname==c&&(b.globals==mainGlobals&&(b.closure.isEmpty&&(zid b.defaults&&(b.builtins==builtinsNs&&PySem.W.codeIn K b.code c))))))
  | _=>none)
 | _=>none
def zau(st:Stmt):Option (Arguments×FuncBody×Scope×Bool):=some (yH st,.stmts (wT st),zq st,true)
theorem zil{K:W.Frag}{G:Str}{st:Stmt}(e:Xe K G=zau st):Fd K G st:=by
 unfold Xe zau at e;split at e
 ·rename_i f J
  split at e
  ·rename_i c d I sl D
   simp only[QN,Xo,jO] at e;obtain⟨e1,e2,B,b,g,j,l,s,w,E⟩:=e;obtain⟨L,qn,Y,N,sc,T,Q,A,U,H,pm,M,O,ct,bl⟩:=I;dsimp only at e1 e2 B b g j l s w E;have b:=jT.mp b;have g:=jT.mp g;have j:=jT.mp j;have l:=List.isEmpty_iff.mp l;have w:=jT.mp w;have s:A=.none:=by cases A<;>first| rfl | exact Bool.noConfusion s
   subst e1 e2 B b g j l s w;exact⟨f,_,J,⟨⟨_,_,_,_,_,_,_,_,_,rfl,D,E⟩,by unfold PySem.W.keepIn;dsimp only;rw[D]⟩⟩
  ·cases e
 ·cases e
theorem zgD{K:W.Frag}{l:List (Str×Stmt)}(e:l.map (fun x=>Xe K x.1)=l.map fun x=>zau x.2)(i:Nat){b:Str}{st:Stmt}(h:l[i]? =some (b,st)):Fd K b st:=by
 have:=congrArg (fun z=>z[i]?) e
 simp only[qm,h,Zw,QN] at this;exact zil this
theorem zeF{K:W.Frag}{l:List Str}(e:l.map (fun x=>PySem.W.nsIn K mainGlobals x)=l.map fun _=>some none){x:Str}(i:Nat)(h:l[i]? =some x):PySem.W.nsIn K mainGlobals x=some none:=by
 have:=congrArg (fun z=>z[i]?) e
 simpa only[qm,h,Zw,QN] using this
def zdM:List Value->Option (List Str)
 | []=>some []
 | .str x _::r=>(zdM r).map (x:: ·)
 | _=>none
def Wh(K:W.Frag)(c:Str):Option (List Str×Bool):=match PySem.W.nsIn K mainGlobals c with
 | some (some (.ref a))=>(match K.lookup a with
  | some ⟨.type t,_,.seq b _,_⟩=>(zdM b.toList).map fun l=>(l,t == "tuple" && decide (b.size<=1000))
  | _=>none)
 | _=>none
theorem Jc:∀{b:List Value} {l:List Str},zdM b=some l->Vals (l.map V.str) b
 | [],l,h=>by cases h;exact .nil
 | v::r,l,h=>by
  cases v<;>first| (cases h;done) | skip
  simp only[zdM] at h;obtain⟨c,h1,rfl⟩:=qS.mp h;exact .cons ⟨_,rfl⟩ (Jc h1)
theorem zgX{K:W.Frag}{f:Str}{l:List Str}(e:Wh K f=some (l,true)):∃a:Addr,PySem.W.nsIn K mainGlobals f=some (some (.ref a))/\∀H,SqT K H a (l.map V.str):=by
 unfold Wh at e;split at e
 ·rename_i a j
  split at e
  ·rename_i t _ B n A s
   obtain⟨w,h1,c⟩:=qS.mp e;simp only[Xo,jO,decide_eq_true_eq] at c;obtain⟨rfl,b,g⟩:=c;have b:=jT.mp b;subst b;exact⟨a,j,fun H=>.inr ⟨_,_,_,s,rfl,rfl,QF (za6 g),Jc h1⟩⟩
  ·cases e
 ·cases e
def zgm(c:List (Str×Stmt))(b:List Str)(f:List (Str×List Str))(K:W.Frag):List (Option (Arguments×FuncBody×Scope×Bool))×List (Option (Option Value))×List (Option (List Str×Bool)):=
 (c.map fun x=>Xe K x.1,b.map fun x=>PySem.W.nsIn K mainGlobals x,f.map fun x=>Wh K x.1)
def zgG(c:List (Str×Stmt))(b:List Str)(f:List (Str×List Str)):List (Option (Arguments×FuncBody×Scope×Bool))×List (Option (Option Value))×List (Option (List Str×Bool)):=
 (c.map fun x=>zau x.2,b.map fun _=>some none,f.map fun x=>some (x.2,true))
def zgH(s:Stmt):Pos:=match s with
 | .FunctionDef _ _ _ _ _ _ _ _ _ p=>p
 | _=>⟨0,0,0,0⟩
def defRec(x:Str)(s:Stmt):DefRec:=⟨x,yH s,wT s,zq s,zgH s⟩
structure Tp(P:Program)(w:World)(K:W.Frag)(mg:Str->Option Value)(base h:Heap)(ds:List (Str×Stmt))(bs:List Str)(ts:List (Str×List Str)):Prop where
 x:K.In h
 g:h.Ns mainGlobals mg
 e:zgm ds bs ts K=zgG ds bs ts
section
variable{P:Program}{w:World}{K:W.Frag}{g:Str->Option Value}{c h:Heap}{j:List (Str×Stmt)}{s:List Str}{A:List (Str×List Str)}
theorem Tp.fd(Z:Tp P w K g c h j s A)(i:Nat){b:Str}{st:Stmt}(f:j[i]? =some (b,st)):Fd K b st:=zgD (congrArg Prod.fst Z.e) i f
theorem Tp.bl(Z:Tp P w K g c h j s A)(i:Nat){x:Str}(b:s[i]? =some x):g x=none:=PySem.W.mg_none_of Z.x Z.g (zeF (congrArg (fun z=>z.2.1) Z.e) i b)
theorem Tp.tx(Z:Tp P w K g c h j s A)(i:Nat){x:Str}{l:List Str}(f:A[i]? =some (x,l)):∃a:Addr,g x=some (.ref a)/\∀H,SqT K H a (l.map V.str):=by
 have:=congrArg (fun z=>z.2.2[i]?) Z.e
 simp only[zgm,zgG,qm,f,Zw,QN] at this;obtain⟨a,h1,b⟩:=zgX this;exact⟨a,QH Z.x Z.g h1,b⟩
theorem Tp.dfn(Z:Tp P w K g c h j s A)(i:Nat){B:Str}{st:Stmt}{k:Nat}{D:List Str}{I:Sp}(L:j[i]? =some (B,st))
  (ok:∀f fd,Fun K B B st f fd->g B=some (.ref f)->Binds K fd D []->FnOk P w K g c CX0 k f fd D I)
  (hb:∀(kV H M:Value) (J:Option Addr) (G ct:Value) (E:List Value),E.length=D.length->bindArgs (PySem.W.fnOf B B (yH st) (wT st) (zq st) .none kV H M J G ct) ⟨E,[]⟩=pure (D.zip E):=by
   intro _ _ _ _ _ _ E l;first| (obtain⟨_,rfl⟩:=zib l;rfl) | (obtain⟨_,_,rfl⟩:=zia l;rfl) | (obtain⟨_,_,_,rfl⟩:=zh9 l;rfl) | (obtain⟨_,_,_,_,rfl⟩:=zh8 l;rfl) | (obtain⟨_,_,_,_,_,rfl⟩:=zh7 l;rfl) | (obtain⟨_,_,_,_,_,_,rfl⟩:=zh6 l;rfl) | (exact match E,l with | [],_=>rfl)) :
  Dfn P w K g c B k D I:=by
 obtain⟨f,fd,a,F⟩:=Z.fd i L;have b:=F.binds hb;have m:=QH Z.x Z.g a;exact⟨f,fd,ok f fd F m b,m,F.kp,b⟩
end
inductive Seen{β:Type}(f:PySem.W.Frag->β)(v:β)(w:World)(h:Heap):Prop
 | mk (K:W.Frag) (k:K.In h) (e:f K=v):Seen f v w h
theorem Seen.keeps{β:Type}{f:PySem.W.Frag->β}{v:β}(w:World)(h c:Heap)(s:Seen f v w h)(k:∀b o,h.get? b=some o->c.get? b=some o):Seen f v w c:=by
 obtain⟨K,x,e⟩:=s;exact⟨K,x.keeps k,e⟩
theorem walkS{l:PySem.W.OpenLaw}{n k:Nat}{q:Program}{j:List Str}{T:(Str->Option Value)->Heap->Prop}{β:Type}{f:PySem.W.Frag->β}{v:β}{d:DefRec}{sp:PySem.W.Frag->Sp}{x:Str}
  (hn:l.most=some n) (M:n<=sizeLine) (J:d.params.defaults=[]) (hr:Room k callerA)
  (F:∀(w:World) (A:Str->Option Value) (D:Addr) (K:W.Frag) (h:Heap),K.In h->f K=v->h.Ns mainGlobals A->A d.name=some (.ref D) ->
   ∃I:FuncData,(∀(s:Shared) (u:Value),BindsTo s I ⟨[u],[]⟩ [(x,u)]) /\
    ∀b:Heap,K.In b->b.Ns mainGlobals A->FnOk l.prog w K A b CX0 k D I [x] (sp K))
  (N:∀(K:W.Frag) (H:Hp) (a:Addr) (E:List Int),E.length<=n->zeQ H->SqL K H a (E.map V.int)->sp K [.ref a] H (fun v _=>v=.bl true) fun _ _ _=>False) :
  PySem.W.WalkO q j T (Seen f v) l.row.toRowW d [] (fun f Q=>PySem.call f Q):=by
 refine Att.attach_call hn J fun w s₀ s₁ A mb D o pm cd U a Q E G Y ho hd a0 L B g c hg=>?_
 obtain⟨K,O,e⟩:=Y;obtain⟨I,hb,hF⟩:=F w A D K _ O e G.T.g L;exact VL O G.T.g G.T.b G.T.builtins G.T.nolimit hg B g (qL c M) hr hF hb (fun H hO hS=>N K H a E c hO hS) fun H e s' z=>z
theorem ownHead{l:PySem.W.OpenLaw}{q:Program}{b:List Str}{β:Type}{f:PySem.W.Frag->β}{v:β}{d:DefRec}(N:Nat)
  (g:l.wellSaid=true)
  (left:∀w,(PySem.W.openEnds treeTable l.prog w N).map (fun s=>(PySem.W.openSeen q b (importedModules l.prog.main.body) (fun _=>true) true s,f (Xd s.heap)))=some (PySem.W.openGood q b,v))
  (c:PySem.W.defOf q l.name=some (d,[])) (hp:l.prog.theDef l.name=some (d.params,d.body,d.scope)) (hk:PySem.W.kwWritten? d.params.kwonlyargs d.params.kw_defaults=some [])
  (ok:(PySem.W.chainsOk q&&PySem.W.opensWell l.prog&&(PySem.W.frees l.row.toRowW&&l.row.within.isEmpty))=true) (hb:l.prog.bare) (j:l.row.toRowW.promised)
  (call:PySem.W.WalkO q b (fun _ _=>True) (Seen f v) l.row.toRowW d [] fun f B=>PySem.call f B):l.Holds:=
 PySem.W.holds_law g fun A=>PySem.W.holds_open (r:=l.row) (Yf:=fun s=>f (Xd s.heap)) (Ya:=fun _=>v) left (fun _ s e=>⟨_,zbu s.heap,e⟩) Seen.keeps (fun _ _=>trivial) (fun _ _ _ _ _=>trivial) c hp hk (fun _ _=>PySem.W.recFacts_nil rfl) (Bool.or_true _) A ok hb j call
def y8(K:W.Frag)(b:Str):Option (Sum Int Str):=match PySem.W.nsIn K mainGlobals b with
 | some (some (.int i _))=>some (.inl i)
 | some (some (.str s _))=>some (.inr s)
 | _=>none
theorem zgL{K:W.Frag}{b:Str}{i:Int}(e:y8 K b=some (.inl i)):∃t,PySem.W.nsIn K mainGlobals b=some (some (.int i t)):=by
 unfold y8 at e;split at e
 ·rename_i t h
  cases e;exact⟨t,h⟩
 ·cases e
 ·cases e
theorem zgK{K:W.Frag}{b:Str}{s:Str}(e:y8 K b=some (.inr s)):∃t,PySem.W.nsIn K mainGlobals b=some (some (.str s t)):=by
 unfold y8 at e;split at e
 ·cases e
 ·rename_i t h
  cases e;exact⟨t,h⟩
 ·cases e
def zbh(f:List (Str×Stmt))(b:List Str)(g:List (Str×List Str))(c:List (Str×Sum Int Str))(K:W.Frag):=(zgm f b g K,c.map fun x=>y8 K x.1)
def zbx(f:List (Str×Stmt))(b:List Str)(g:List (Str×List Str))(c:List (Str×Sum Int Str)):(List (Option (Arguments×FuncBody×Scope×Bool))×List (Option (Option Value))×List (Option (List Str×Bool)))×List (Option (Sum Int Str)):=(zgG f b g,c.map fun x=>some x.2)
section
variable{K:W.Frag}{l:Str->Option Value}{h:Heap}{g:List (Str×Stmt)}{f:List Str}{j:List (Str×List Str)}{b:List (Str×Sum Int Str)}
theorem zfv(e:zbh g f j b K=zbx g f j b)(i:Nat){x:Str}{c:Sum Int Str}(s:b[i]? =some (x,c)):y8 K x=some c:=by
 have:=congrArg (fun z=>z.2[i]?) e
 simpa only[zbh,zbx,qm,s,Zw,QN] using this
theorem cnI(X:K.In h)(G:h.Ns mainGlobals l)(e:zbh g f j b K=zbx g f j b)(i:Nat){x:Str}{n:Int}(c:b[i]? =some (x,.inl n)):∃t,l x=some (.int n t):=
 let ⟨t,s⟩:=zgL (zfv e i c)
 ⟨t,QH X G s⟩
theorem cnS(X:K.In h)(G:h.Ns mainGlobals l)(e:zbh g f j b K=zbx g f j b)(i:Nat){x s:Str}(c:b[i]? =some (x,.inr s)):∃t,l x=some (.str s t):=
 let ⟨t,w⟩:=zgK (zfv e i c)
 ⟨t,QH X G w⟩
end
def topL(i:Nat):Stmt:=PySem.Challenge.pw_pickboard_k45_restocked_and_by_turns.main.body.getD i (.Pass ⟨0,0,0,0⟩)
structure Blt(mg:Str->Option Value):Prop where
 abs:mg "abs" = none
 all:mg "all" = none
 divmod:mg "divmod" = none
 enumerate:mg "enumerate" = none
 int:mg "int" = none
 isinstance:mg "isinstance" = none
 len:mg "len" = none
 list:mg "list" = none
 max:mg "max" = none
 min:mg "min" = none
 range:mg "range" = none
 str:mg "str" = none
 tuple:mg "tuple" = none
 bool:mg "bool" = none
 zip:mg "zip" = none
 sum:mg "sum" = none
 any:mg "any" = none
 repr:mg "repr" = none
 sorted:mg "sorted" = none
 dict:mg "dict" = none
 set:mg "set" = none
theorem V9:bootBuiltins "abs" = some (.builtin "abs"):=by decide +kernel
theorem V6:bootBuiltins "max" = some (.builtin "max"):=by decide +kernel
theorem V5:bootBuiltins "min" = some (.builtin "min"):=by decide +kernel
theorem V7:bootBuiltins "divmod" = some (.builtin "divmod"):=by decide +kernel
theorem ww:bootBuiltins "int" = some (.type "int"):=by decide +kernel
theorem jy:bootBuiltins "list" = some (.type "list"):=by decide +kernel
theorem qv:bootBuiltins "tuple" = some (.type "tuple"):=by decide +kernel
theorem vJ:bootBuiltins "str" = some (.type "str"):=by decide +kernel
theorem Za:bootBuiltins "bool" = some (.type "bool"):=by decide +kernel
theorem wv:bootBuiltins "sorted" = some (.builtin "sorted"):=by decide +kernel
theorem zbG:bootBuiltins "dict" = some (.type "dict"):=by decide +kernel
def zbJ(i:Int):Int:=if i<0 then -i else i
def za9:Str:= "abcdefghijklmnopqrstuvwxyz"
def ZI(c:Nat):Bool:=decide (97<=c)&&decide (c<=122)
theorem VF:za9.cps.toList=List.range' 97 26:=by decide +kernel
def WN:List (Str×Stmt):=[(("is_number":Str),topL 4),(("is_number_within":Str),topL 5),(("is_name":Str),topL 6),(("is_place":Str),topL 7),(("is_tuple_of":Str),topL 14),(("is_tuple_upto":Str),topL 15),(("is_feeder":Str),topL 16),(("are_feeders":Str),topL 17),(("is_part":Str),topL 18),(("are_parts":Str),topL 19),(("is_ahead":Str),topL 20),(("are_aheads":Str),topL 21),(("is_job":Str),topL 22),(("turned":Str),topL 23),(("next_by":Str),topL 24),(("steps_from":Str),topL 25),(("nearest_of":Str),topL 26),(("ring_by":Str),topL 27),(("ring_in":Str),topL 28),(("all_from":Str),topL 29),(("ahead_of":Str),topL 30),(("feeders_for":Str),topL 31),(("picks_in":Str),topL 33),(("staying_picks":Str),topL 34),(("new_feeders":Str),topL 35),(("dropped_parts":Str),topL 36),(("mended_trip":Str),topL 37),(("mended_plan":Str),topL 38),(("restocked_job":Str),topL 39),(("_law_box":Str),topL 41),(("_law_take":Str),topL 42),(("_law_folded":Str),topL 43),(("_law_same":Str),topL 44),(("_law_spelled":Str),topL 45),(("_law_name":Str),topL 46),(("_law_names":Str),topL 47),(("_law_place":Str),topL 48),(("_law_places":Str),topL 49),(("_law_shuffled":Str),topL 50),(("_law_feeders":Str),topL 51),(("_law_aheads":Str),topL 52),(("_law_job":Str),topL 53),(("_law_order":Str),topL 54),(("_law_trip":Str),topL 55),(("_law_plan":Str),topL 56),(("_law_stock_now":Str),topL 57),(("_law_broken":Str),topL 58),(("_law_restocked_right":Str),topL 59),(("_law_right":Str),topL 60),(("law":Str),topL 61)]
def zbH:List Str:=[("abs":Str),("all":Str),("divmod":Str),("enumerate":Str),("int":Str),("isinstance":Str),("len":Str),("list":Str),("max":Str),("min":Str),("range":Str),("str":Str),("tuple":Str),("bool":Str),("zip":Str),("sum":Str),("any":Str),("repr":Str),("sorted":Str),("dict":Str),("set":Str)]
def za1:List (Str×List Str):=[]
def zeD:List (Str×Sum Int Str):=[(("LETTERS":Str),.inr ("abcdefghijklmnopqrstuvwxyz":Str)),(("LONGEST_NAME":Str),.inl 8),(("FARTHEST":Str),.inl 1000),(("MOST_HEADS":Str),.inl 4),(("MOST_FEEDERS":Str),.inl 20),(("MOST_IN_FEEDER":Str),.inl 400),(("MOST_PARTS":Str),.inl 60),(("MOST_AHEADS":Str),.inl 200)]
def zhi:List Str:=WN.dropLast.map (·.1)++[("FARTHEST":Str),("LETTERS":Str),("LONGEST_NAME":Str),("MOST_AHEADS":Str),("MOST_FEEDERS":Str),("MOST_HEADS":Str),("MOST_IN_FEEDER":Str),("MOST_PARTS":Str),("__name__":Str)]
def zfG:Program:={ PySem.Challenge.pw_pickboard_k45_restocked_and_by_turns with main:={ PySem.Challenge.pw_pickboard_k45_restocked_and_by_turns.main with body:=[topL 61] } }
theorem head1:PySem.Challenge.rw_pickboard_k45_restocked_and_by_turns.wellSaid=true:=by kernel_rfl
theorem head2:∀w,(PySem.W.openEnds treeTable PySem.Challenge.pw_pickboard_k45_restocked_and_by_turns w 9999).map (fun s=>(PySem.W.openSeen zfG zhi (importedModules PySem.Challenge.pw_pickboard_k45_restocked_and_by_turns.main.body) (fun _=>true) true s,zbh WN zbH za1 zeD (Xd s.heap)))=some (PySem.W.openGood zfG zhi,zbx WN zbH za1 zeD):=fun w=>by kernel_rfl
theorem head3:(PySem.W.chainsOk zfG&&PySem.W.opensWell PySem.Challenge.pw_pickboard_k45_restocked_and_by_turns&&(PySem.W.frees PySem.Challenge.rw_pickboard_k45_restocked_and_by_turns.row.toRowW&&PySem.Challenge.rw_pickboard_k45_restocked_and_by_turns.row.within.isEmpty))=true:=by kernel_rfl
section
variable{κ:Type}[DecidableEq κ]
def qX(b:List (κ×V))(k:κ):Option V:=(b.find? fun c=>decide (c.1=k)).map (·.2)
def jQ(b:List (κ×V))(k:κ)(v:V):List (κ×V):=
 if(b.any fun c=>decide (c.1=k))=true then b.map (fun c=>if c.1=k then(c.1,v) else c) else b++[(k,v)]
def zfu(b:List (κ×V))(k:κ):List (κ×V):=b.filter fun c=>decide (c.1≠k)
theorem jv{p:κ×V}{r:List (κ×V)}{k:κ}(e:p.1=k):qX (p::r) k=some p.2:=by simp[qX,wI,e]
theorem jw{p:κ×V}{r:List (κ×V)}{k:κ}(e:¬p.1=k):qX (p::r) k=qX r k:=by simp[qX,wI,e]
theorem wb(k:κ):∀b:List (κ×V),(b.any fun c=>decide (c.1=k))=(qX b k).isSome
 | []=>rfl
 | p::r=>by
  rw[wy];by_cases e:p.1=k
  ·simp only[jv e,zX e,Bool.true_or,Option.isSome_some]
  ·rw[jw e,qZ e,Xp];exact wb k r
theorem XV(k j:κ)(y:V):∀b:List (κ×V),qX (b.map fun c=>if c.1=k then(c.1,y) else c) j=(qX b j).map fun x=>if j=k then y else x
 | []=>rfl
 | p::r=>by
  have f:=XV k j y r;rw[ji];by_cases h:p.1=k
  ·rw[zx h]
   by_cases e:p.1=j
   ·rw[jv (p:=(p.1,y)) e,jv e,Zw,zx (e.symm.trans h)]
   ·rw[jw (p:=(p.1,y)) e,jw e,f]
  ·rw[zr h]
   by_cases e:p.1=j
   ·rw[jv (p:=p) e,jv e,Zw,zr (fun z=>h (e.trans z))]
   ·rw[jw (p:=p) e,jw e,f]
theorem Jb(k j:κ)(y:V):∀b:List (κ×V),qX b k=none->qX (b++[(k,y)]) j=if j=k then some y else qX b j
 | [],_=>by
  by_cases e:k=j
  ·rw[zx e.symm];exact jv (p:=(k,y)) e
  ·rw[zr (fun z=>e z.symm)];exact jw (p:=(k,y)) e
 | p::r,c=>by
  rw[List.cons_append];have hk:¬p.1=k:=fun z=>by rw[jv z] at c;cases c
  rw[jw hk] at c;have f:=Jb k j y r c;by_cases e:p.1=j
  ·rw[jv e,jv e,zr (fun z=>hk (e.trans z))]
  ·rw[jw e,jw e,f]
theorem ZW(b:List (κ×V))(k j:κ)(y:V):qX (jQ b k y) j=if j=k then some y else qX b j:=by
 unfold jQ;by_cases a:(b.any fun c=>decide (c.1=k))=true
 ·rw[zx a,XV]
  rw[wb] at a;by_cases e:j=k
  ·obtain⟨x,hx⟩:=Option.isSome_iff_exists.mp a
   rw[zx e,e,hx,Zw,zx rfl]
  ·rw[zr e]
   cases qX b j with
   | none=>rfl
   | some x=>rw[Zw,zr e]
 ·rw[zr a]
  refine Jb k j y b ?_
  rw[wb] at a;cases q:qX b k with
  | none=>rfl
  | some x=>rw[q] at a;exact(a rfl).elim
theorem xD(b:List (κ×V))(k:κ)(v:V):(jQ b k v).length<=b.length+1:=by
 unfold jQ;split
 ·rw[zn];omega
 ·rw[zS,jV,QL];omega
theorem Z8{b:List (κ×V)}{k:κ}(v:V)(h:qX b k=none):jQ b k v=b++[(k,v)]:=by
 unfold jQ;rw[wb,h];exact zr (by decide)
theorem RelO.isSome_eq{o:Option V}{u:Option Value}(r:RelO o u):o.isSome=u.isSome:=by
 cases o with
 | none=>cases u with
  | none=>rfl
  | some _=>exact(show False from r).elim
 | some _=>cases u with
  | none=>exact(show False from r).elim
  | some _=>rfl
theorem RelO.getD{o:Option V}{u:Option Value}{d:V}{b:Value}(r:RelO o u)(c:RelV d b):RelV (o.getD d) (u.getD b):=by
 cases o with
 | none=>cases u with
  | none=>exact c
  | some _=>exact(show False from r).elim
 | some _=>cases u with
  | none=>exact(show False from r).elim
  | some _=>exact r
theorem KV.val{c:List (κ×V)}{j:List (κ×Value)}(r:KV c j)(k:κ):RelO (qX c k) (valueAt j k):=by
 unfold KV at r;induction r with
 | nil=>exact True.intro
 | @cons p q w g h t s=>
  obtain⟨h1,l⟩:=h;by_cases e:p.1=k
  ·have f:q.1=k:=h1.symm.trans e
   have b:valueAt (q::g) k=some q.2:=by simp[valueAt,wI,f]
   rw[jv e,b];exact l
  ·have f:¬q.1=k:=fun z=>e (h1.trans z)
   have b:valueAt (q::g) k=valueAt g k:=by simp[valueAt,wI,f]
   rw[jw e,b];exact s
theorem KV.any{b:List (κ×V)}{f:List (κ×Value)}(r:KV b f)(k:κ):(b.any fun c=>decide (c.1=k))=f.any fun c=>decide (c.1=k):=by
 unfold KV at r;induction r with
 | nil=>rfl
 | cons h t g=>rw[wy,wy,g,h.1]
theorem KV.repl{c:List (κ×V)}{f:List (κ×Value)}(r:KV c f)(k:κ){y:V}{u:Value}(l:RelV y u) :
  KV (c.map fun b=>if b.1=k then(b.1,y) else b) (f.map fun b=>if b.1=k then(b.1,u) else b):=by
 unfold KV at r ⊢;induction r with
 | nil=>exact .nil
 | @cons p q s w h t j=>
  rw[ji,ji];refine .cons ?_ j
  obtain⟨h1,g⟩:=h;by_cases e:p.1=k
  ·rw[zx e,zx (h1.symm.trans e)];exact⟨h1,l⟩
  ·rw[zr e,zr (fun z=>e (h1.trans z))];exact⟨h1,g⟩
theorem KV.put{b:List (κ×V)}{c:List (κ×Value)}(r:KV b c)(k:κ){y:V}{u:Value}(f:RelV y u):KV (jQ b k y) (stored c k u):=by
 unfold jQ stored;rw[r.any k];by_cases e:(c.any fun g=>decide (g.1=k))=true
 ·rw[zx e,zx e];exact r.repl k f
 ·rw[zr e,zr e];exact Paired.snoc r ⟨rfl,f⟩
theorem KV.drop{c:List (κ×V)}{g:List (κ×Value)}(r:KV c g)(k:κ):KV (zfu c k) (without g k):=by
 unfold KV at r ⊢;unfold zfu without;induction r with
 | nil=>exact .nil
 | @cons p q s w h t f=>
  obtain⟨h1,l⟩:=h;rw[List.filter_cons,List.filter_cons];by_cases e:p.1=k
  ·have a:¬decide (p.1≠k)=true:=by simp[e]
   have b:¬decide (q.1≠k)=true:=by simp[h1.symm.trans e]
   rw[zr a,zr b];exact f
  ·have j:¬q.1=k:=fun z=>e (h1.trans z)
   have a:decide (p.1≠k)=true:=by simp[e]
   have b:decide (q.1≠k)=true:=by simp[j]
   rw[zx a,zx b];exact .cons ⟨h1,l⟩ f
theorem KV.keys{b:List (κ×V)}{c:List (κ×Value)}(r:KV b c):b.map (·.1)=c.map (·.1):=by
 unfold KV at r;induction r with
 | nil=>rfl
 | cons h t f=>rw[ji,ji,f,h.1]
theorem KV.length{kvs:List (κ×V)}{b:List (κ×Value)}(r:KV kvs b):kvs.length=b.length:=Xq r
end
theorem wn{P:Program}{w:World}{k:Key}{u:Value}(r:RelV (kV k) u):(zO P w).is k u=true:=by
 cases k with
 | inl i=>obtain⟨t,e⟩:=(show ∃t,u=Value.int i t from r);subst e;exact Vy P w i t
 | inr x=>obtain⟨t,e⟩:=(show ∃t,u=Value.str x t from r);subst e;exact Vx P w x t
theorem y4{P:Program}{w:World}:∀{b:List Key} {c:List Value},Vals (b.map kV) c->ItemsAre (zO P w) b c
 | [],_,r=>by rw[wF] at r;cases r;exact .nil
 | k::b,_,r=>by
  rw[ji] at r;cases r with
  | cons h t=>exact .cons (wn h) (y4 t)
abbrev KT(H:Hp):List (List Key×V)->List (List Key×Addr×Value)->Prop:=Paired fun p q=>p.1=q.1/\H q.2.1=some (.tup (p.1.map kV))/\RelV p.2 q.2.2
theorem KT.val{H:Hp}{c:List (List Key×V)}{j:List (List Key×Addr×Value)}(r:KT H c j)(k:List Key):RelO (qX c k) ((atKey j k).map (·.2)):=by
 induction r with
 | nil=>exact True.intro
 | @cons p q w g h t s=>
  obtain⟨h1,_,l⟩:=h;by_cases e:p.1=k
  ·have f:q.1=k:=h1.symm.trans e
   have b:atKey (q::g) k=some q.2:=by simp[atKey,wI,f]
   rw[jv e,b];exact l
  ·have f:¬q.1=k:=fun z=>e (h1.trans z)
   have b:atKey (q::g) k=atKey g k:=by simp[atKey,wI,f]
   rw[jw e,b];exact s
theorem KT.repl{H:Hp}{b:List (List Key×V)}{g:List (List Key×Addr×Value)}(r:KT H b g)(k:List Key){y:V}{u:Value}(s:RelV y u) :
  KT H (b.map fun c=>if c.1=k then(c.1,y) else c) (g.map (putAt k u)):=by
 induction r with
 | nil=>exact .nil
 | @cons p q w A h t l=>
  rw[ji,ji];refine .cons ?_ l
  obtain⟨h1,f,j⟩:=h;unfold putAt;by_cases e:p.1=k
  ·rw[zx e,zx (h1.symm.trans e)];exact⟨h1,f,s⟩
  ·rw[zr e,zr (fun z=>e (h1.trans z))];exact⟨h1,f,j⟩
theorem KT.put{H:Hp}{c:List (List Key×V)}{f:List (List Key×Addr×Value)}(r:KT H c f)(k:List Key){b:Addr}{y:V}{u:Value}(hb:H b=some (.tup (k.map kV)))(g:RelV y u) :
  KT H (jQ c k y) (storedH f k b u):=by
 have e:(c.any fun j=>decide (j.1=k))=(atKey f k).isSome:=by
  rw[wb,(r.val k).isSome_eq,W7]
 unfold jQ storedH;rw[e];by_cases q:(atKey f k).isSome=true
 ·rw[zx q,zx q];exact r.repl k g
 ·rw[zr q,zr q];exact Paired.snoc r ⟨rfl,hb,g⟩
theorem KT.keeps{H f:Hp}{c:List (List Key×V)}{g:List (List Key×Addr×Value)}(r:KT H c g)(l:∀b j,H b=some (.tup j)->f b=some (.tup j)):KT f c g:=
 Paired.mapP r fun _ _ z=>⟨z.1,l _ _ z.2.1,z.2.2⟩
section
variable{P:Program}{w:World}{H:Hp}{h:Heap}{a:Addr}
theorem zfi{u:HO}(ok:HOk P w H h)(e:Rd H a u):ObjOk P w H h a u:=e.ok ok
theorem wZ{b:List (Key×V)}(ok:HOk P w H h)(e:Rd H a (.dK b)):b.length<=sizeLine/\(a==sysModules)=false/\∃c,KV b c/\h.DictOf (zO P w) a c:=
 show ObjOk P w H h a (.dK b) from zfi ok e
theorem zdj{b:List (Key×V)}(ok:HOk P w H h)(e:H a=some (.dK b)):b.length<=sizeLine/\(a==sysModules)=false/\∃c,KV b c/\h.DictOf (zO P w) a c:=wZ ok (.inl e)
theorem y3{c:List Key}(ok:HOk P w H h)(e:H a=some (.tup (c.map kV))):(tupleKind (zO P w)).is h c a:=by
 obtain⟨_,b,r,⟨o,h1,f,n,g⟩,_⟩:=(show ObjOk P w H h a (.tup (c.map kV)) from ok a _ e)
 exact⟨o,b.toArray,n,h1,f,g,by simpa using y4 r⟩
theorem Qt{b:List (List Key×V)}(ok:HOk P w H h)(e:Rd H a (.dT b)):b.length<=sizeLine/\(a==sysModules)=false /\
  ∃c,KT H b c/\h.DictOfH (tupleKind (zO P w)) a c:=by
 obtain⟨z,y,c,r,o,g,f,h1,j,s,A,B⟩:=(show ObjOk P w H h a (.dT b) from zfi ok e)
 refine⟨z,y,c,r,o,g,f,h1,j,s,A,fun x hx=>?_,B⟩
 have all:∀{l:List (List Key×V)} {m:List (List Key×Addr×Value)},KT H l m->∀x∈m,(tupleKind (zO P w)).is h x.1 x.2.1:=by
  intro l m q;induction q with
  | nil=>intro x hx;exact nomatch hx
  | @cons p q E G hq t D=>
   intro x hx;rcases zR.mp hx with e | hx
   ·subst e
    exact y3 ok (by rw[<- hq.1];exact hq.2.1)
   ·exact D x hx
 exact all r x hx
theorem zio{b:List (List Key×V)}(ok:HOk P w H h)(e:H a=some (.dT b)):b.length<=sizeLine/\(a==sysModules)=false /\
  ∃c,KT H b c/\h.DictOfH (tupleKind (zO P w)) a c:=Qt ok (.inl e)
end
def DGet(H:Hp)(a:Addr)(y:V)(r:Option V):Prop:=
 (∃c k,Rd H a (.dK c)/\y=kV k/\r=qX c k)\/∃c k b,Rd H a (.dT c)/\y=.ref b/\H b=some (.tup (k.map kV))/\r=qX c k
def DPut(H:Hp)(a:Addr)(y v:V)(f:Hp):Prop:=
 (∃c k,H a=some (.dK c)/\y=kV k/\c.length<sizeLine/\f=upd H a (.dK (jQ c k v))) \/
 ∃c k b,H a=some (.dT c)/\y=.ref b/\H b=some (.tup (k.map kV))/\c.length<sizeLine/\f=upd H a (.dT (jQ c k v))
theorem DGet.k{H:Hp}{a:Addr}{b:List (Key×V)}{k:Key}(e:H a=some (.dK b)):DGet H a (kV k) (qX b k):=.inl ⟨b,k,.inl e,rfl,rfl⟩
theorem DGet.t{H:Hp}{a b:Addr}{c:List (List Key×V)}{k:List Key}(e:H a=some (.dT c))(f:H b=some (.tup (k.map kV))):DGet H a (.ref b) (qX c k):=.inr ⟨c,k,b,.inl e,rfl,f,rfl⟩
theorem DPut.k{H:Hp}{a:Addr}{b:List (Key×V)}{k:Key}{v:V}(e:H a=some (.dK b))(c:b.length<sizeLine):DPut H a (kV k) v (upd H a (.dK (jQ b k v))):=.inl ⟨b,k,e,rfl,c,rfl⟩
theorem DPut.t{H:Hp}{a b:Addr}{c:List (List Key×V)}{k:List Key}{v:V}(e:H a=some (.dT c))(f:H b=some (.tup (k.map kV)))(g:c.length<sizeLine) :
  DPut H a (.ref b) v (upd H a (.dT (jQ c k v))):=.inr ⟨c,k,b,e,rfl,f,g,rfl⟩
section
variable{X:Cx}{f:List (Addr×Obj)}{σ:St}{H:Hp}{s:Shared}{a:Addr}{y v:V}{u r:Value}{o:Option V}{A:Around}{E:Value->Shared->Prop}
theorem Inv.big(I:Inv X f σ H s):sysModules<s.heap.objs.size:=by
 have h:mainGlobals<s.heap.objs.size:=(I.mod.glob.keeps I.bk).lt;exact yn (by decide) h
theorem zbz{Q:Value->Shared->Prop}(hu:A.units+1<cLine)(I:Inv X f σ H s)(g:DGet H a y (some v))(M:RelV y u)(h:∀w N,Inv X f σ H N->RelV v w->Q w N) :
  wpAny (model X.prog X.w) A (getItem (.ref a) u) Q E s:=by
 rcases g with ⟨L,k,e,D,l⟩ | ⟨L,k,b,e,D,O,l⟩
 ·subst D
  obtain⟨z,hd,T,c,B⟩:=wZ I.hok e;obtain⟨w,J,j⟩:=RelO.some_of (v:=v) (o:=valueAt T k) (by rw[l];exact c.val k)
  exact wpAny_getItem_of (wn M) B.mapOf J (h w _ (I.tok _) j)
 ·subst D
  cases(show u=Value.ref b from M)
  obtain⟨z,hd,U,c,B⟩:=Qt I.hok e;obtain⟨w,J,j⟩:=RelO.some_of (v:=v) (o:=(atKey U k).map (·.2)) (by rw[l];exact c.val k)
  obtain⟨p,hp,G⟩:=qS.mp J;refine wpAny_getItem_heap (tupleKind_room_in1 hu) (y3 I.hok O) B hp ?_
  rw[G];exact h w _ (I.tok _) j
theorem ziY{Q:Value->Shared->Prop}(hu:A.units+1<cLine)(I:Inv X f σ H s)(g:DGet H a y o)(D:RelV y u)(h:∀G,Inv X f σ H G->Q (.bool o.isSome) G) :
  wpAny (model X.prog X.w) A (compareOp .In u (.ref a)) Q E s:=by
 rcases g with ⟨B,k,e,w,l⟩ | ⟨B,k,b,e,w,J,l⟩
 ·subst w
  obtain⟨z,hd,L,c,j⟩:=wZ I.hok e;refine wpAny_in_of (wn D) hd j.mapOf ?_
  rw[<- (c.val k).isSome_eq,<- l];exact h _ (I.tok _)
 ·subst w
  cases(show u=Value.ref b from D)
  obtain⟨z,hd,M,c,j⟩:=Qt I.hok e;refine wpAny_in_heap (tupleKind_room_in1 hu) (y3 I.hok J) hd j ?_
  have q:=(c.val k).isSome_eq;rw[W7] at q;rw[<- q,<- l];exact h _ (I.tok _)
theorem zeA{Q:Value->Shared->Prop}(hu:A.units+1<cLine)(I:Inv X f σ H s)(g:DGet H a y o)(D:RelV y u)(h:∀G,Inv X f σ H G->Q (.bool (!o.isSome)) G) :
  wpAny (model X.prog X.w) A (compareOp .NotIn u (.ref a)) Q E s:=by
 rcases g with ⟨B,k,e,w,l⟩ | ⟨B,k,b,e,w,J,l⟩
 ·subst w
  obtain⟨z,hd,L,c,j⟩:=wZ I.hok e;refine wpAny_notIn_of (wn D) hd j.mapOf ?_
  rw[<- (c.val k).isSome_eq,<- l];exact h _ (I.tok _)
 ·subst w
  cases(show u=Value.ref b from D)
  obtain⟨z,hd,M,c,j⟩:=Qt I.hok e;refine wpAny_notIn_heap (tupleKind_room_in1 hu) (y3 I.hok J) hd j ?_
  have q:=(c.val k).isSome_eq;rw[W7] at q;rw[<- q,<- l];exact h _ (I.tok _)
theorem ZU{c:Heap}{D:Nat}{j:HO}(I:Inv X f σ H s)(B:Mut (H a))(w:Heap.SameBut a s.heap c)(l:∃q,c.get? a=some q)(g:ObjOk X.prog X.w (upd H a j) c a j) :
  Inv X f σ (upd H a j) { s with heap:=c,toks:=D }:=
 I.write (x:=a) (e:=a) B (.inl rfl) (fun b q hb z=>(w.2 b hb).trans z) l g
theorem Xg{P:Program}{w:World}{l:Hp}{j:Heap}{b:List (Key×V)}{g:List (Key×Value)}(z:b.length<=sizeLine)(hd:(a==sysModules)=false)(c:KV b g)(B:j.DictOf (zO P w) a g) :
  ObjOk P w l j a (.dK b):=⟨z,hd,g,c,B⟩
theorem zby{O:Hp}{Q:Unit->Shared->Prop}(hu:A.units+1<cLine)(I:Inv X f σ H s)(g:DPut H a y v O)(ry:RelV y u)(rv:RelV v r)(h:∀s',Inv X f σ O s'->Q () s') :
  wpAny (model X.prog X.w) A (setItem (.ref a) u r) Q E s:=by
 rcases g with ⟨j,k,e,J,l,G⟩ | ⟨j,k,b,e,J,T,l,G⟩
 ·subst J G
  obtain⟨z,hd,vs,w,D⟩:=zdj I.hok e;have hz:vs.length<=sizeLine:=by rw[<- w.length];exact z
  have L:(jQ j k v).length<=sizeLine:=by have:=xD j k v;omega
  refine wpAny_setItem_pairs (hsz:=hz) (wn ry) D fun Y B M=>h _ ?_
  have he:∃q,Y.get? a=some q:=let ⟨q,_,_,hq,_⟩:=B;⟨q,hq⟩
  exact ZU I (by rw[e];exact True.intro) M he (Xg L hd (w.put k rv) B)
 ·subst J G
  cases(show u=Value.ref b from ry)
  obtain⟨z,hd,xs,w,D⟩:=zio I.hok e;have hz:xs.length<=sizeLine:=by rw[<- Xq w];exact z
  have L:(jQ j k v).length<=sizeLine:=by have:=xD j k v;omega
  refine wpAny_setItem_heap (hsz:=hz) (tupleKind_room_in1 hu) (y3 I.hok T) D fun Y B M=>h _ ?_
  obtain⟨q,es,ep,hq,h2,h3,h4,_,h5⟩:=B;refine ZU I (by rw[e];exact True.intro) M ⟨q,hq⟩ ⟨L,hd,_,(w.put k T rv).keeps fun c ys U=>?_,q,es,ep,hq,h2,h3,h4,h5⟩
  rw[zm (Vu U e (fun z=>nomatch z))]
  exact U
end
section
variable{X:Cx}{b:List (Addr×Obj)}{σ:St}{H:Hp}{s:Shared}{a:Addr}{c:List (Key×V)}{k:Key}{u:Value}{A:Around}{E:Value->Shared->Prop}
end
def ziv(i:Expr):Prop:=∀c b,subscripted i false c b=operate [c,b] (getItem c b)
theorem zdQ{b:Program}{w:World}{A:Around}{E:Value->Shared->Prop}{s:Shared}{g:Env}{f c:Expr}{D:Pos}{T id:String}{Q:Value->Shared->Prop}
  (J:typeLookup (.type T) "__getitem__" = pure (some (.builtin id))) (L:ziv c)
  (h:wpAny (model b w) A (eval f g) (fun o H=>wpAny (model b w) A (eval c g) (fun i l=>l.TypeIs o T/\wpAny (model b w) A (getItem o i) Q E l) E H) E s) :
  wpAny (model b w) A (eval (.Subscript f c D) g) Q E s:=by
 refine Subscript_ (qh h (fun o H M=>qh M (fun i l B=>?_) fun _ _ x=>x) fun _ _ x=>x)
 obtain⟨G,B⟩:=B;unfold subscriptTail;refine zf ?_
 rw[getitemInPython_of_ne G.not_modules];refine zf (wpAny_specialOf G J ?_)
 have j:wpAny (model b w) A (subscripted c false o i) (fun r I=>wpAny (model b w) A (letTemporaryGo f o r >>= fun _=>pure r) Q E I) E l:=by
  rw[L o i];exact wpAny_operating (qh B (fun r I N=>zf (wpAny_letTemporaryGo (zv N))) fun _ _ x=>x)
 first
  | exact zv (zf j)
  | exact zf (zv (zf j))
  | exact zf j
theorem V0{X:Cx}{c:List (Addr×Obj)}{σ:St}{H:Hp}{s:Shared}{a:Addr}{y:V}{o:Option V}(I:Inv X c σ H s)(g:DGet H a y o):s.TypeIs (.ref a) "dict" :=by
 rcases g with ⟨j,k,e,_,_⟩ | ⟨j,k,b,e,_,_,_⟩
 ·obtain⟨_,_,l,_,f⟩:=wZ I.hok e
  exact f.typeIs
 ·obtain⟨_,_,w,_,f⟩:=Qt I.hok e
  exact f.typeIs
def zg5(f ty:TE):TE:=fun σ H Q=>f σ H fun x c=>ty σ c fun y b=>∃a v,x=.ref a/\DGet b a y (some v)/\Q v b
def ziN(ty f:TE):TE:=fun σ H Q=>ty σ H fun y c=>f σ c fun x b=>∃a o,x=.ref a/\DGet b a y o/\Q (.bl o.isSome) b
def zdO(ty f:TE):TE:=fun σ H Q=>ty σ H fun y c=>f σ c fun x b=>∃a o,x=.ref a/\DGet b a y o/\Q (.bl (!o.isSome)) b
def zhA(j ty l:TE):TS:=fun D σ H=>l σ H fun v c=>j σ c fun x f=>ty σ f fun y g=>∃a b,x=.ref a/\DPut g a y v b/\D.nx σ b
section
variable{X:Cx}{o i e b:Expr}{j c l:Pos}{f ty w:TE}
theorem yC(hu:X.A.units+1<cLine)(O:PE X o f)(N:PE X i ty)(T:ziv i):PE X (.Subscript o i j) (zg5 f ty):=by
 intro A s σ H Q I h;refine zdQ PySem.F.slot_dict_getitem.lookup T (thn (O A s σ H _ I h) fun u s1 ⟨x,E,J,rx,U⟩=>thn (N A s1 σ E _ J U) fun iv s2 ⟨y,G,D,ry,a,v,M,g,Y⟩=>?_)
 subst M;obtain rfl:u=Value.ref a:=rx;exact⟨V0 D g,zbz hu D g ry fun w' s3 L B=>⟨v,G,L,B,Y⟩⟩
theorem zf4(hu:X.A.units+1<cLine)(M:PE X i ty)(N:PE X o f):PC X .In i o (ziN ty f):=by
 intro A s σ H Q I h;refine thn (M A s σ H _ I h) fun iv s1 ⟨y,B,E,ry,T⟩=>thn (N A s1 σ B _ E T) fun u s2 ⟨x,D,G,Y,a,O,L,g,U⟩=>?_
 subst L;obtain rfl:u=Value.ref a:=Y;exact ziY hu G g ry fun s3 J=>⟨.bl O.isSome,D,J,rfl,U⟩
theorem Jr(hu:X.A.units+1<cLine)(M:PE X i ty)(N:PE X o f):PC X .NotIn i o (zdO ty f):=by
 intro A s σ H Q I h;refine thn (M A s σ H _ I h) fun iv s1 ⟨y,B,E,ry,T⟩=>thn (N A s1 σ B _ E T) fun u s2 ⟨x,D,G,Y,a,O,L,g,U⟩=>?_
 subst L;obtain rfl:u=Value.ref a:=Y;exact zeA hu G g ry fun s3 J=>⟨.bl (!O.isSome),D,J,rfl,U⟩
theorem zad(hu:X.A.units+1<cLine)(T:PE X o f)(Q:PE X i ty)(hv:PE X b w)(U:swapsWith b (some (.Subscript o i c)) j.line X.env=pure false) :
  PS X (.Assign [.Subscript o i c] b j) (zhA f ty w):=by
 intro A s σ H D I h;refine wpAny_Assign_Subscript (thn (hv A s σ H _ I h) fun r s1 ⟨v,B,J,rv,Y⟩=>thn (T A s1 σ B _ J Y) fun u s2 ⟨x,E,L,rx,q2⟩=>thn (Q A s2 σ E _ L q2) fun iv s3 ⟨y,H3,M,ry,a,G,O,g,q3⟩=>?_) U
 subst O;obtain rfl:u=Value.ref a:=rx;exact zby hu M g ry rv fun s4 N=>⟨σ,G,N,q3⟩
end
theorem VZ{P:Program}{w:World}{H:Hp}(h:Heap)(hb:sysModules<h.objs.size):ObjOk P w H (h.push { cls:=.type "dict",data:=.dict #[] }) h.objs.size (.dK []):=
 ⟨qV _,beq_eq_false_iff_ne.mpr (zM (zU hb)),[],.nil,Heap.DictOf.new h⟩
def zfB:TE:=fun _ H Q=>∀p,H p=none->Q (.ref p) (upd H p (.dK []))
section
variable{X:Cx}{b:Pos}
theorem zcK:PE X (.Dict [] [] b) zfB:=fun c s σ H Q I h=>
 wpAny_Dict_empty ⟨.ref s.heap.objs.size,_,I.laid (a:=s.heap.objs.size) (o:=.dK []) (t':=s.toks) (fun _ _ q=>zV _ q) (zC _) (VZ s.heap I.big),rfl,h _ (I.hok.fresh (zC _))⟩
end
def Wm:List (TE×TE)->St->Hp->(List (V×V)->Hp->Prop)->Prop
 | [],_,H,Q=>Q [] H
 | (j,l)::r,σ,H,Q=>j σ H fun x b=>l σ b fun y c=>Wm r σ c fun g f=>Q ((x,y)::g) f
abbrev VV:List (V×V)->List (Value×Value)->Prop:=Paired fun p q=>RelV p.1 q.1/\RelV p.2 q.2
def PPs(X:Cx)(g:Pos)(f:List (Option Expr))(b:List Expr)(j:List (TE×TE)):Prop:=
 ∀(c:List (Addr×Obj)) (s:Shared) (σ:St) (H:Hp) (Q:List (V×V)->Hp->Prop),Inv X c σ H s->Wm j σ H Q ->
  wpAny (model X.prog X.w) X.A (evalPairs (pairTrees f b X.env g)) (fun B A=>∃w l,Inv X c σ l A/\VV w B/\Q w l) X.xe s
theorem zd0{X:Cx}{b:Pos}:PPs X b [] [] []:=fun c s σ H Q I h=>pairTrees_nil_walk ⟨[],H,I,.nil,h⟩
theorem zcB{X:Cx}{c:Pos}{k v:Expr}{j:List (Option Expr)}{A:List Expr}{l w:TE}{f:List (TE×TE)}(hk:PE X k l)(hv:PE X v w)(M:PPs X c j A f) :
  PPs X c (some k::j) (v::A) ((l,w)::f):=fun b s σ H Q I h=>
 pairTrees_cons_walk (thn (hk b s σ H _ I h) fun u s1 ⟨x,B,G,Y,O⟩=>thn (hv b s1 σ B _ G O) fun w2 s2 ⟨y,D,J,ry,T⟩=>
  thn (M b s2 σ D _ J T) fun ws s3 ⟨N,E,L,g,U⟩=>⟨(x,y)::N,E,L,.cons ⟨Y,ry⟩ g,U⟩)
def jM(c more:List (Key×V)):List (Key×V):=more.foldl (fun b f=>jQ b f.1 f.2) c
theorem KV.merge:∀{more:List (Key×V)} {f:List (Key×Value)} {b:List (Key×V)} {c:List (Key×Value)},KV more f->KV b c->KV (jM b more) (merged c f):=by
 intro more f b c r;unfold KV at r;induction r generalizing b c with
 | nil=>intro q;exact q
 | @cons p q l s h t g=>
  intro j;have e:KV (jQ b p.1 p.2) (stored c q.1 q.2):=by
   have:=j.put p.1 h.2;rw[<- h.1];exact this
  exact g e
theorem vq:∀(more b:List (Key×V)),(jM b more).length<=b.length+more.length
 | [],b=>by show b.length<=b.length+0;omega
 | p::r,b=>by
  have h1:=vq r (jQ b p.1 p.2);have c:=xD b p.1 p.2;show(jM (jQ b p.1 p.2) r).length<=_;rw[jV];omega
theorem Qv{P:Program}{w:World}:∀{f:List (Key×V)} {l:List (Value×Value)},VV (f.map fun j=>(kV j.1,j.2)) l->∃g,Carries (zO P w) l g/\KV f g
 | [],_,r=>by rw[wF] at r;cases r;exact⟨[],True.intro,.nil⟩
 | p::f,_,r=>by
  rw[ji] at r;cases r with
  | @cons a b s A h t=>
   obtain⟨g,c,q⟩:=Qv (P:=P) (w:=w) t;obtain⟨b1,b2⟩:=b;exact⟨(p.1,b2)::g,⟨wn h.1,rfl,c⟩,.cons ⟨rfl,h.2⟩ q⟩
def zg4(c:List (TE×TE)):TE:=fun σ H Q=>∀p,H p=none->Wm c σ (upd H p (.dK [])) fun j f=>f p=some (.dK [])/\∃b:List (Key×V),j=b.map (fun g=>(kV g.1,g.2))/\b.length<=15/\Q (.ref p) (upd f p (.dK (jM [] b)))
theorem zd5{X:Cx}{B:Pos}{b:List (Option Expr)}{f:List Expr}{D:List (TE×TE)}(h:PPs X B b f D)(j:b.all (·.isSome)=true)(Y:b.length=f.length)(T:b≠[])
  (E:b.length<=15):PE X (.Dict b f B) (zg4 D):=by
 intro A s σ H Q I q;have hn:=I.hok.fresh (zC s.heap.objs.size);have M:=I.laid (a:=s.heap.objs.size) (o:=.dK []) (h':=s.heap.push { cls:=.type "dict",data:=.dict #[] }) (t':=s.toks) (fun _ _ q=>zV _ q) (zC _) (VZ s.heap I.big)
 refine wpAny_Dict_walk (knd:=zO X.prog X.w) j Y T E (thn (h A _ σ _ _ M (q _ hn)) fun ws s2 ⟨ps,H2,J,G,e,l,O,lk,q2⟩=>?_)
 subst O;obtain⟨rs,c,rk⟩:=Qv (P:=X.prog) (w:=X.w) G;obtain⟨z,hd,aa,r0,N⟩:=zdj J.hok e;cases r0;refine⟨rs,c,N,fun L g hs=>⟨.ref s.heap.objs.size,_,?_,rfl,q2⟩⟩
 have hz:(jM [] l).length<=sizeLine:=by
  have h1:=vq l [];rw[QL] at h1;rw[sizeLine_eq];omega
 have U:∃q,L.get? s.heap.objs.size=some q:=let ⟨q,_,_,hq,_⟩:=g;⟨q,hq⟩
 exact ZU J (by rw[e];exact True.intro) hs U (Xg hz hd (rk.merge .nil) g)
structure M1(X:Cx)(o:Expr)(m:Str)(apos:Pos)(e:Expr)(cpos:Pos):Prop where
 base:attributeBase o m X.env (eval o X.env)=eval o X.env
 few:((backTo cpos (starEach [e] X.env)).all (fun x=>!x.1)&&(backToKw cpos (keywordEach [] X.env)).all (fun x=>x.1.isSome)
  && decide (([e]:List Expr).length+([]:List Keyword).length+(if([]:List Keyword).isEmpty then 0 else 1)<30))=true
 line:(apos.endLine==cpos.line)=true
 trees:backTo cpos (starEach [e] X.env)=[(false,eval e X.env)]
structure M2(X:Cx)(o:Expr)(m:Str)(apos:Pos)(e f:Expr)(cpos:Pos):Prop where
 base:attributeBase o m X.env (eval o X.env)=eval o X.env
 few:((backTo cpos (starEach [e,f] X.env)).all (fun x=>!x.1)&&(backToKw cpos (keywordEach [] X.env)).all (fun x=>x.1.isSome)
  && decide (([e,f]:List Expr).length+([]:List Keyword).length+(if([]:List Keyword).isEmpty then 0 else 1)<30))=true
 line:(apos.endLine==cpos.line)=true
 trees:backTo cpos (starEach [e,f] X.env)=[(false,eval e X.env),(false,eval f X.env)]
def IsD(H:Hp)(a:Addr):Prop:=(∃b,Rd H a (.dK b))\/∃b,Rd H a (.dT b)
theorem WK{X:Cx}{g:List (Addr×Obj)}{σ:St}{H:Hp}{s:Shared}{a:Addr}(I:Inv X g σ H s)(d:IsD H a) :
  s.TypeIs (.ref a) "dict" /\ (∀b,Value.ref a=.ref b->∃c,s.heap.get? b=some c/\c.dict=none)/\(a==sysModules)=false:=by
 rcases d with ⟨l,e⟩ | ⟨l,e⟩
 ·obtain⟨_,hd,w,_,f⟩:=wZ I.hok e
  refine⟨f.typeIs,fun b q=>?_,hd⟩
  cases q;obtain⟨c,_,_,h1,j,_⟩:=f;exact⟨c,h1,j.2.1⟩
 ·obtain⟨_,hd,A,_,f⟩:=Qt I.hok e
  refine⟨f.typeIs,fun b q=>?_,hd⟩
  cases q;obtain⟨c,_,_,h1,j,_⟩:=f;exact⟨c,h1,j.2.1⟩
section
variable{X:Cx}{c:List (Addr×Obj)}{σ:St}{H:Hp}{s:Shared}{a:Addr}{y d:V}{u r:Value}{o:Option V}{A:Around}{E:Value->Shared->Prop}
theorem zgJ{Q:Value->Shared->Prop}(hu:A.units+1<cLine)(I:Inv X c σ H s)(g:DGet H a y o)(G:RelV y u)(D:RelV d r)(h:∀L J,Inv X c σ H J->RelV (o.getD d) L->Q L J) :
  wpAny (model X.prog X.w) A (call (.builtin "dict.get") [.ref a,u,r]) Q E s:=by
 rcases g with ⟨B,k,e,w,l⟩ | ⟨B,k,b,e,w,M,l⟩
 ·subst w
  obtain⟨z,hd,O,f,j⟩:=wZ I.hok e;refine call_meetsIn Ym j.typeIs PySem.F.entry_dict_get (PySem.F.args_dict_get_3 _ _ _) (meets_dict_get_default (zO X.prog X.w) a (wn G) hd r) ⟨_,j.mapOf,h _ _ (I.tok _) ?_⟩
  rw[l];exact(f.val k).getD D
 ·subst w
  cases(show u=Value.ref b from G)
  obtain⟨z,hd,N,f,j⟩:=Qt I.hok e;refine call_meetsIn Ym j.typeIs PySem.F.entry_dict_get (PySem.F.args_dict_get_3 _ _ _) (meetsH_dict_get_default (tupleKind (zO X.prog X.w)) a b hd r) ⟨tupleKind_room_in1 hu,k,N,y3 I.hok M,j,h _ _ (I.tok _) ?_⟩
  rw[l];exact(f.val k).getD D
end
def zfC(g ty j:TE):TE:=fun σ H Q=>g σ H fun x b=>∃a,x=.ref a/\IsD b a/\ty σ b fun y f=>j σ f fun z c=>∃o,DGet c a y o/\Q (o.getD z) c
section
variable{X:Cx}{o e f:Expr}{b c:Pos}{j ty l:TE}
theorem Vn(hu:X.A.units+1<cLine)(U:PE X o j)(O:PE X e ty)(T:PE X f l)(m:M2 X o "get" b e f c):PE X (.Call (.Attribute o "get" b) [e,f] [] c) (zfC j ty l):=by
 intro w s σ H Q I h;refine wpAny_Call_method m.base m.few m.line Yt Ym PySem.F.type_dict_get (thn (U w s σ H _ I h) fun u s1 ⟨x,D,B,rx,a,N,d,Y⟩=>?_)
 subst N;obtain rfl:u=Value.ref a:=rx;obtain⟨t1,t2,_⟩:=WK B d;refine⟨t1,t2,?_⟩
 rw[m.trees];refine QS rfl (Yl (Zm (thn (O w s1 σ D _ B Y) fun iv s2 ⟨y,E,J,ry,q2⟩=>
  Zm (thn (T w s2 σ E _ J q2) fun fv s3 ⟨z,G,L,rz,ov,g,q3⟩=>XB ?_))))
 exact zgJ hu L g ry rz fun w' s4 M A=>⟨_,G,M,A,q3⟩
end
section
variable{X:Cx}{b:List (Addr×Obj)}{σ:St}{H:Hp}{s:Shared}{a:Addr}{c:List (Key×V)}{A:Around}{E:Value->Shared->Prop}
end
section
variable{X:Cx}{b:List (Addr×Obj)}{σ:St}{H:Hp}{s:Shared}{a:Addr}{y:V}{u:Value}{A:Around}{E:Value->Shared->Prop}
end
end L2
namespace PySem
open PySem PySem.W PySem.Calls PyProof.Rows PyProof.V PySem.Spec
end PySem
namespace L2
open PySem PySem.Spec PyProof.Rows
section
variable{X:Cx}
end
section
variable{X:Cx}{b:Expr}
end
section
variable{X:Cx}
end
section
variable{X:Cx}
variable{e st:Expr}{f:TE}{g:TO}{b c:Pos}
end
end L2
namespace PySem
def RawD(h:Heap)(d:Addr)(c:Array DictEntry)(b:Nat):Prop:=∃o,h.get? d=some o/\o.ExactDict/\o.data=.dict c b
theorem RawD.at{h g:Heap}{d:Addr}{f:Array DictEntry}{c:Nat}(x:RawD h d f c)(e:∀o,h.get? d=some o->g.get? d=some o):RawD g d f c:=let ⟨o,a,b⟩:=x;⟨o,e _ a,b⟩
section
variable{g:Program}{w:World}{A:Around}{E:Value->Shared->Prop}{s:Shared}{d f:Addr}{c:Array DictEntry}{j i:Nat}
theorem Vl{Q:Value->Shared->Prop}(hd:(d==sysModules)=false)(D:RawD s.heap d c j)
  (B:Q (.ref s.heap.objs.size) { s with heap:=s.heap.push { cls:=.type "dict_keyiterator",data:=.fields #[.ref d,.int 0 0,.int c.size 0,.int j 0] } }):wpAny (model g w) A (pyIter (.ref d)) Q E s:=by
 obtain⟨o,l,hc,b⟩:=D;have ty:s.TypeIs (.ref d) "dict" :=⟨o,l,hc.1⟩;refine wpAny_pyIter_slot ty F.slot_dict_iter (vY F.slot_dict_iter ty F.entry_dict_iter ?go (F.args_dict_iter_1 _))
 unfold Builtin.«dict.__iter__» Builtin.Dict.dictSlotNone;refine zf (zf (wpAny_notOrdered_dict ty ?go2));refine(zv ?go3:wpAny _ _ (pure (Value.ref d)) _ _ s)
 refine(?go7:wpAny _ _ (Builtin.Dict.showsAll d >>= _) _ _ s);unfold Builtin.Dict.showsAll
 rw[zr (by rw[hd];exact qO)];refine zf (zv ?go5)
 refine zf (wpAny_dictEntries l b (zf (wpAny_dictEpoch l b (zf (vf (zv ⟨_,rfl, "dict_keyiterator",_,⟨_,zT _ rfl,rfl⟩,Wc.lookup,?go6⟩))))))
 simpa [rawInt] using B
theorem zcw{e:DictEntry}{Q:Option Value->Shared->Prop}(B:s.heap.IsKeyIter f d i c.size j)(N:RawD s.heap d c j)(hx:c[i]? =some e)
  (L:∀G,G.IsKeyIter f d (i+1) c.size j->Heap.SameBut f s.heap G->Q (some e.key) { s with heap:=G }):wpAny (model g w) A (pyNext (.ref f)) Q E s:=by
 obtain⟨o,H,hc,hd⟩:=id B;obtain⟨T,D,M,l⟩:=N;have ty:=B.typeIs;obtain⟨O,J⟩:∃h:i<c.size,c[i]=e:=Wb.mp hx;unfold pyNext;refine zf (yp (yN (name:=Str.ofString "__next__") ty Wc (vY Wc ty zdF ?a (zdG _))))
 refine zf (zv ?a1);refine zf (zf ?a2)
 first| refine zf (wpAny_typeNameOfWhole_keyiter ty (zv ?a3)) | refine zf (wpAny_typeNameOf_keyiter ty (zv ?a3))
 refine zf (wpAny_fieldsOf H hd ?a4)
 simp only[show Builtin.Dict_items.ownsTuple "dict_keyiterator" = false by decide,jW,if_false]
 refine(?a5:wpAny _ _ (if(Value.ref d==Value.none)=true then _ else _) _ _ s)
 rw[zr (show ¬((Value.ref d==Value.none)=true) from qO)];refine zf (zv (zf (wpAny_dictEntries D l ?a6)))
 rw[zr (by simp)];refine zf (zv (zf (wpAny_dictEpoch D l ?a7)))
 rw[zr (by simp)];refine zv ?a8
 simp only[show ¬((i:Int)<0) from by omega,if_false,Zk,wE O];refine zf ?a9
 first| refine zf (wpAny_typeNameOfWhole_keyiter ty (zv ?b1)) | refine zf (wpAny_typeNameOf_keyiter ty (zv ?b1))
 refine zf (wpAny_isOneOf_keyiter ty ?b2);refine(?b3:wpAny _ _ (setField (.ref f) 1 (rawInt ((i:Int)+1)) >>= _) _ _ s)
 have b:(s.heap.update f (Obj.mapFields (·.setIfInBounds 1 (rawInt ((i:Int)+1))))).IsKeyIter f d (i+1) c.size j:=
  ⟨_,yb _ H (Yn (QO hd _)),(W8 ..).trans hc,(by rw[QO hd];simp[rawInt])⟩
 refine zf (wpAny_setField H hd (by simp) (zf (x8 (zf (wpAny_isOneOf_keyiter (s:={ s with heap:=s.heap.update f (Obj.mapFields (·.setIfInBounds 1 (rawInt ((i:Int)+1)))) }) b.typeIs ?b4)))))
 refine(?b5:wpAny _ _ (pure c[i].key) _ _ _)
 rw[J];exact zv (zv ⟨_,rfl,zv (L _ b (QB ..))⟩)
theorem zdW{Q:Option Value->Shared->Prop}(M:A.handled=none)(B:s.heap.IsKeyIter f d i c.size j)(N:RawD s.heap d c j)(hx:c.size<=i)
  (J:∀G,Heap.ExtBut f s.heap G->Q none { s with heap:=G }):wpAny (model g w) A (pyNext (.ref f)) Q E s:=by
 obtain⟨o,H,hc,hd⟩:=id B;obtain⟨O,D,L,l⟩:=N;have ty:=B.typeIs;unfold pyNext;refine zf (yp (yN (name:=Str.ofString "__next__") ty Wc (vY Wc ty zdF ?a (zdG _))))
 refine zf (zv ?a1);refine zf (zf ?a2)
 first| refine zf (wpAny_typeNameOfWhole_keyiter ty (zv ?a3)) | refine zf (wpAny_typeNameOf_keyiter ty (zv ?a3))
 refine zf (wpAny_fieldsOf H hd ?a4)
 simp only[show Builtin.Dict_items.ownsTuple "dict_keyiterator" = false by decide,jW,if_false]
 refine(?a5:wpAny _ _ (if(Value.ref d==Value.none)=true then _ else _) _ _ s)
 rw[zr (show ¬((Value.ref d==Value.none)=true) from qO)];refine zf (zv (zf (wpAny_dictEntries D l ?a6)))
 rw[zr (by simp)];refine zf (zv (zf (wpAny_dictEpoch D l ?a7)))
 rw[zr (by simp)];refine zv ?a8
 simp only[show ¬((i:Int)<0) from by omega,if_false,Zk,XI hx];refine zf ?a9
 first| refine zf (wpAny_typeNameOfWhole_keyiter ty (zv ?b1)) | refine zf (wpAny_typeNameOf_keyiter ty (zv ?b1))
 refine(?b3:wpAny _ _ (setField (.ref f) 0 .none >>= _) _ _ s);refine zf (wpAny_setField H hd (by simp) ?b4)
 refine(?b5:wpAny _ _ (newExc (.type "StopIteration") [] >>= _) _ _ _);refine zf ?b6
 simp only[newExc,newTuple];refine zf (vf ?b7 (by size_fits))
 refine zf (m:=firstArgMember _ _) (yj (a:=Value.none) (by first| rfl | (simp only[firstArgMember];rfl)) (vf ?b8 (by size_fits)))
 simp only[raiseNew];refine zf (wpAny_handled ?b9)
 rw[show A.in1.handled=none from M];refine zf (zv (wpAny_throw ?c1))
 exact zf (yL (T:= "StopIteration") (b:=true) ⟨_,zT _ rfl,rfl⟩ isSubtype_stop (zv (J _ (((QB ..).extBut.push _).push _))))
end
end PySem
namespace L2
open PySem PySem.Spec PyProof.Rows
section
variable{X:Cx}{b:Expr}
end
section
variable{b:Program}{w:World}{A:Around}{R:Result->Shared->Prop}{s:Shared}
end
def DPutT(H:Hp)(D:Addr)(y v:V)(f:Hp):Prop:=∃c k b,H D=some (.dT c)/\y=.ref b/\H b=some (.tup (k.map kV))/\c.length<sizeLine/\f=upd H D (.dT (jQ c k v))
theorem DPutT.t{H:Hp}{a b:Addr}{c:List (List Key×V)}{k:List Key}{v:V}(e:H a=some (.dT c))(f:H b=some (.tup (k.map kV)))(g:c.length<sizeLine):DPutT H a (.ref b) v (upd H a (.dT (jQ c k v))):=⟨c,k,b,e,rfl,f,g,rfl⟩
section
variable{X:Cx}{O vx L w:Expr}{A:List Expr}{T D:Expr}{E:List Expr}{f:Scope}{G:Pos}{wi M:TI}{g N:TG}{Q J:TT}{U Y:TE}
theorem WT{aa:List (Addr×Obj)}{σ:St}{H:Hp}{s:Shared}{fp:List Addr}(own fr:List Str)(js:List Nat)(I:Inv X aa σ H s)(B:zdK f.names X.env.scope.names X.N fr js)(hk:f.kind=.function)
  (f2:∀b∈fp,xh X aa H b) (fl:∀b∈fp,b<s.heap.objs.size) {C:Addr} (hC:C=s.heap.objs.size) {h1:Heap} {m:Str->Option Value} (ag:h1.Ns C m) (k4:∀b o,s.heap.get? b=some o->h1.get? b=some o) {t4:Nat} :
  Inv (zD X (own++fr) f C s H fp) [] (upS own.length js σ) H { s with heap:=h1,toks:=t4 }:=by
 have a0:∀y∈f.names,y.2=NameKind.free->∃c,X.env.cells.lookup y.1=some c:=fun y hy e=>I.ok.has y.1 (B.free y hy e)
 refine⟨⟨I.ok.mod,hk,I.ok.glob,I.ok.blt,yo hC.symm,fun x y c e1 e2=>?_,fun x hx=>?_,fun x c hf=>(nomatch hf),fun hc=>I.ok.hd hc,I.ok.frames,.inl rfl,fun b hb=>?_,I.bs,qL I.ok.bsz I.sz,fun b o e hb=>?_,fun b hb hf=>?_,I.stack,I.stkFree⟩,
  rfl,I.bare,Un.kept k4,⟨m,ag,fun i x v e1 e2 ah=>?_⟩,fun x c e=>?_,?_,fun x c e=>?_,fun p hp=>absurd (show p∈([]:List (Addr×Obj)) from hp) (by simp),I.hok.kept k4,?_⟩
 ·exact I.ok.inj x y c (qG e1 a0) (qG e2 a0)
 ·obtain⟨k,e,z⟩:∃k,f.names.lookup x=some k/\(k=.free):=by
   rcases hx with hx | hx
   ·obtain⟨k,e,z⟩:=wf hx
    rcases z with z | z
    ·subst z;exact absurd rfl (B.cell _ (w9 e))
    ·exact⟨k,e,z.1⟩
   ·obtain⟨k,e,z⟩:=wf hx
    rcases z with z | z
    ·subst z;exact⟨_,e,rfl⟩
    ·exact⟨k,e,z.1⟩
  subst z;exact⟨_,wU e⟩
 ·refine⟨by rw[hC];exact zU (fl b hb),fun x c e=>?_⟩
  exact(f2 b hb).2.2.2.2.1 x c (qG e a0)
 ·rcases(f2 b hb).2.2.2.1 with z | z
  ·exact I.ok.noex b o e z
  ·exact absurd (jP (zF (I.ok.bs b o e).1) z) (vM _)
 ·rcases zR.mp (I.stkSub b hf) with y | y
  ·exact(f2 b hb).2.1 y
  ·exact(f2 b hb).2.2.1 y
 ·obtain⟨hn,_,j,ej,es⟩:=yu e2
  have ex:fr[i-own.length]? =some x:=by rw[xR hn] at e1;exact e1
  obtain⟨ab,j',ac,eN⟩:=B.fr _ x ex;have:j'=j:=by rw[ej] at ac;exact(jt ac).symm
  subst this;have ae:=B.free _ (w9 ab) rfl;obtain⟨m0,_,hl⟩:=I.loc;obtain⟨u,r,l⟩:=hl j' x v eN es (by rcases ae with z | z;exact .inr (.inl z);exact .inr (.inr z))
  refine⟨u,r,.inr ?_⟩
  rcases l with ⟨kl,_⟩ | ⟨_,c,ec,o,eo,ed⟩
  ·have af:X.env.scope.names.lookup x=some .local:=kl
   rcases ae with z | z
   ·exact absurd (z.symm.trans af) (by decide)
   ·exact absurd (z.symm.trans af) (by decide)
  ·obtain⟨k',e',z⟩:=ye (env:=X.env) ab
   have eq:(jN X.env.cells f.names []).lookup x=some c:=by rw[wU ab,ec];rfl
   refine⟨?_,c,eq,o,k4 c o eo,ed⟩
   rcases z with z | z
   ·subst z;exact .inl e'
   ·subst z;exact .inr e'
 ·obtain⟨v,o,eo,ed⟩:=I.cell x c (qG e a0)
  exact⟨v,o,k4 c o eo,ed⟩
 ·exact I.hok.fresh (yo hC.symm)
 ·exact I.freeC x c (qG e a0)
 ·rw[YC,<- B.len]
  show _=(own++fr).length;rw[zS]
end
structure BlkOkC(sn on:List (Str×NameKind))(N:List Str)(x:Str)(fr:List Str)(js:List Nat):Prop where
 one:(sn.filter fun y=>y.2==.cell)=[(x,.cell)]
 lk:sn.lookup x=some .cell
 nd:([x]++fr).Nodup
 loc:∀y∈sn,y.2=NameKind.local->sn.lookup y.1=some .local
 free:∀y∈sn,y.2=NameKind.free->on.lookup y.1=some .cell\/on.lookup y.1=some .free
 len:fr.length=js.length
 fr:∀(k:Nat) (x:Str),fr[k]? =some x->sn.lookup x=some .free/\∃j:Nat,js[k]? =some j/\N[j]? =some x
theorem BlkOkC.is{sn on:List (Str×NameKind)}{N:List Str}{x:Str}{b:List Str}{c:List Nat}(B:BlkOkC sn on N x b c){y:Str×NameKind}(h:y∈sn)(e:y.2=.cell):y.1=x:=by
 have:y∈sn.filter fun y=>y.2==.cell:=jD.mpr ⟨h,by rw[e];rfl⟩
 rw[B.one,qg] at this;rw[this]
section
variable{X:Cx}{f A c:Expr}{j:List Expr}{b:Scope}{l:Pos}{B:TI}{g:TG}{w:TT}{s:TE}{x:Str}
end
end L2
namespace L2
end L2
namespace L2
open PySem PySem.W PySem.Spec PyProof.Rows
abbrev bmV:List Value:=[.type "ValueError",.type "Exception",.type "BaseException",.type "object"]
def ziB(K:Frag)(C:Addr)(c:Option Value):Bool:=match K.lookup C with
 | some ⟨.type "type",_,.cls b,j⟩=>(match b.mro with
  | .ref f::g=>(match j.toList with
   | [_,_,_,_,some (.builtin n),_]=>f==C&&(n == "ValueError.__new__" && (!b.hasDel&&(tailIn K bmV g&&(nsOkIn K b.ns&&nsIn K b.ns "__init__" == some c))))
   | _=>false)
  | _=>false)
 | _=>false
structure Xc(h:Heap)(C:Addr)(ini:Option Value):Prop where
 is:∃(bm:List Value) (N:Addr) (nm qn:Str) (bs:List Value) (hd:Bool) (sn:List Str) (sub:List Value) (ab:Bool) (col:Option Bool) (dd:Option Addr) (k0 k1 k2 k3 k5:Option Value) (mN:Str->Option Value),
  h.get? C=some (excClassObj nm qn C N bs bm hd sn sub ab col dd k0 k1 k2 k3 k5 "ValueError.__new__")/\h.Ns N mN/\mN "__init__" = ini/\OwnTail h bmV bm
end L2
namespace L2
open PySem PySem.W PySem.Spec PyProof.Rows
section
variable{P:Program}{w:World}{H:Hp}{h b:Heap}{a:Addr}{o:HO}
theorem ObjOk.has(x:ObjOk P w H h a o):∃u,h.get? a=some u:=by
 cases o with
 | lst g=>obtain⟨_,_,_,_,e⟩:=x;exact⟨_,e⟩
 | tup g=>obtain⟨_,_,_,⟨u,e,_⟩,_⟩:=x;exact⟨u,e⟩
 | dK c=>obtain⟨_,_,_,_,u,_,_,e,_⟩:=x;exact⟨u,e⟩
 | dT c=>obtain⟨_,_,_,_,u,_,_,e,_⟩:=x;exact⟨u,e⟩
 | set S n=>obtain⟨u,_,_,_,e,_⟩:=x;exact⟨u,e⟩
 | ins C j fs=>obtain⟨_,_,_,e,_⟩:=x;exact⟨_,e⟩
 | own y=>obtain⟨u,e⟩:=x;exact⟨u,e⟩
 | xd fs=>obtain⟨_,⟨u,_,_,e,_⟩,_⟩:=x;exact⟨u,e⟩
 | rng lo l=>obtain⟨_,_,_,e⟩:=x;exact⟨_,e⟩
 | frz s u=>obtain⟨e,_⟩:=x;exact⟨_,e⟩
 | tbl A=>exact⟨_,show h.get? a=some _ from x⟩
 | met f y=>exact⟨_,show h.get? a=some _ from x⟩
 | ext φ=>obtain⟨_,⟨u,e⟩,_⟩:=x;exact⟨u,e⟩
end
section
variable{X:Cx}{b:List (Addr×Obj)}{σ:St}{H:Hp}{s:Shared}{c:Heap}
end
section
variable{b:Program}{w:World}{A:Around}{E:Value->Shared->Prop}{h:Heap}{g:Array GenState}{d:Drawn}{t:Nat}{os:OsState}{C:Addr}
end
section
variable{c:Program}{w:World}{A:Around}{E:Value->Shared->Prop}{h:Heap}{g:Array GenState}{d:Drawn}{t:Nat}{os:OsState}
variable{L q:Str}{C N:Addr}{s l:List Value}{b:Bool}{sn:List Str}{sub:List Value}{j:Bool}{f:Option Bool}{B:Option Addr}{D G H I J:Option Value}
end
end L2
namespace L2
open PySem PySem.W PySem.Spec PyProof.Rows
structure XK2(K:Frag)(C:Addr)(ini:Option Value):Prop where
 cls:ziB K C ini=true
 sa:findIn K (.ref C) "__setattr__" = some (some (.builtin "object.__setattr__"))
 ga:findIn K (.ref C) "__getattribute__" = some (some (.builtin "BaseException.__getattribute__"))
 gh:findIn K (.ref C) "__getattr__" = some none
 ob:mroIn K C (.type "object")=some true
 be:mroIn K C (.type "BaseException")=some true
 hd:hasDictIn K C=true
section
variable{b:Program}{w:World}{A:Around}{E:Value->Shared->Prop}{h:Heap}{g:Array GenState}{d:Drawn}{t:Nat}{os:OsState}{K:Frag}{C e j:Addr}{c:Option Value}{f:Str}{v:Value}
end
end L2
namespace L2
open PySem PySem.W PySem.Spec PyProof.Rows
section
variable{b:Program}{w:World}{A:Around}{E:Value->Shared->Prop}{h:Heap}{g:Array GenState}{d:Drawn}{t:Nat}{os:OsState}{K:Frag}{C e B j:Addr}{s:Option Addr}{c:Option Value}{f:Str}{v:Value}{l:Str->Option Value}
end
end L2
namespace L2
open PySem PySem.W PySem.Spec PyProof.Rows
structure XKc(K:Frag)(C:Addr):Prop where
 lk:findIn K (.ref C) "__class__" = some (some (.builtin "object.__class__"))
 gt:specialIn K (.builtin "object.__class__") "__get__" = some (some (.builtin "getset_descriptor.__get__"))
 tk:takesIn K (.builtin "object.__class__")=some true
section
variable{b:Program}{w:World}{A:Around}{E:Value->Shared->Prop}{h:Heap}{g:Array GenState}{d:Drawn}{t:Nat}{os:OsState}{K:Frag}{C f e s:Addr}{j:Option Addr}{c:Option Value}{l:Option Obj}
end
end L2
namespace L2
open PySem PySem.W PySem.Spec PyProof.Rows
structure XOk(K:Frag)(C:Addr)(ini:Option Value):Prop where
 k:XK2 K C ini
 c:XKc K C
 kp:keepIn K (.ref C)=true
 ty:typeIn K (.ref C)=some (.type "type")
 cd:∃cd,clsIn K C=some cd
 ve:mroIn K C (.type "ValueError")=some true
section
variable{X:Cx}{s:CXT}{k:Nat}{f C:Addr}{B:FuncData}{D:List Str}{w:List Value}{g:List V}{G:Sp}{E:XK}{x m:Str}{p l c:Pos}{e o b:Expr}{A:List Expr}{t:TA}{H I:TE}{j:Option Value}
end
end L2
namespace L2
open PySem PySem.W PySem.Spec PyProof.Rows
section
variable{X:Cx}
end
structure Xs(K:Frag)(mg:Str->Option Value)(x:Str)(C:Addr)(ini:Option Value):Prop where
 ok:XOk K C ini
 gl:mg x=some (.ref C)
structure XsI(P:Program)(w:World)(K:Frag)(mg:Str->Option Value)(base:Heap)(x:Str)(C f:Addr)(k:Nat)(ps:List Str)(sp:Sp):Prop extends Xs K mg x C (some (.ref f)) where
 ex:∃fd oF,FnOk P w K mg base CX0 k f fd ps sp/\K.lookup f=some oF/\oF.cls=.type "function" /\ Binds K fd ps []
section
variable{X:Cx}{x:Str}{k:Nat}{C f:Addr}{g:List Str}{j:Sp}{p b:Pos}{e:Expr}{c:List Expr}{t:TA}
end
end L2
namespace L2
open PySem PySem.Spec PyProof.Rows
theorem XU:∀{c:List Value} {b:List Int},IntsAre c b->Vals (b.map V.int) c
 | _,_,.nil=>.nil
 | _,_,.cons n t r=>.cons ⟨t,rfl⟩ (XU r)
section
variable{X:Cx}
inductive wK(K:W.Frag)(f:List V)(H:Hp)(Q:VK):Prop
 | mk (a:Addr) (c:List Int) (_:f=[.ref a]) (_:SqL K H a (c.map V.int)) (_:c.length<64) (_:∀(p:Addr) (b:List Int),H p=none->b.Perm c->b.Pairwise (·<= ·)->Q (.ref p) (upd H p (.lst (b.map V.int)))):wK K f H Q
theorem vT:CallR X (.builtin "sorted") (wK X.K):=by
 intro j s σ H M L Q I r h;obtain⟨a,G,rfl,hx,E,q⟩:=h;obtain⟨u,rfl,D⟩:=Vals.one r;cases(show u=Value.ref a from D)
 obtain⟨c,l,B,hz⟩:=I.list hx;have f:=l.length;rw[zn] at f;refine sorted_ints B.isList (WL l) (by omega) fun b g a1 a2 a3=>?_
 obtain⟨e,w⟩:=sortedAll_at s.heap c b;have A:H (s.heap.objs.size+1)=none:=I.hok.fresh (Xm _);refine⟨.ref (s.heap.objs.size+1),_,I.laid (a:=s.heap.objs.size+1) (o:=.lst (g.map V.int)) (t':=s.toks) (fun _ _=>sortedAll_old) (Xm _) ⟨?_,b.toList,e,XU a1,?_⟩,rfl,q _ g A a2 a3⟩
 ·rw[zn,a2.length_eq,sizeLine_eq];omega
 ·rw[w]
end
section
variable{f:Program}{w:World}{κ:Type}[DecidableEq κ]{c:PySem.KeyKind f w κ}{A:Around}{E:Value->Shared->Prop}{s:Shared}
theorem zcj{d:Addr}{g:List (κ×Value)}{k:κ}{O dflt:Value}{Q:Value->Shared->Prop}(j:c.is k O=true)(hm:s.heap.DictOf c d g)(ag:g.length<=sizeLine)
  (H:∀v,valueAt g k=some v->Q v { s with toks:=s.toks+1 })
  (M:valueAt g k=none->∀h',h'.DictOf c d (stored g k dflt)->Heap.SameBut d s.heap h'->Q dflt { s with heap:=h',toks:=s.toks+1 }) :
  wpAny (model f w) A (dictSetDefault d O dflt) Q E s:=by
 obtain⟨o,B,ep,N,hc,hd,hk,hp,hn⟩:=id hm;obtain⟨o',ae,ac,G,-,J,-,hf⟩:=hm.mapOf;rw[N] at G;injection G with G;subst G;rw[hd] at J;injection J with aa af;subst aa;have ab:B.size<=sizeLine:=by
  have e1:=hp.length;have e2:B.toList.length=B.size:=by simp
  omega
 have U:(B.findIdx? fun Y=>c.is k Y.key)=g.findIdx? fun p=>decide (p.1=k):=by
  obtain⟨l⟩:=B;rw[<- hp.findIdx k];simp
 unfold dictSetDefault;refine x8 (zf (c.pyHash j (zf (wpAny_dictFind_of (s:={ s with toks:=s.toks+1 }) j N hd hk ?_))))
 cases T:B.findIdx? fun Y=>c.is k Y.key with
 | some i=>
  have L:i<B.size:=(Array.findIdx?_eq_some_iff_findIdx_eq.mp T).1
  have D:valueAt g k=(B[i]?).map (·.val):=by rw[<- hf k,findBy_of_findIdx?,T]
  rw[wE L] at D;refine zf (wpAny_dictEntries (s:={ s with toks:=s.toks+1 }) N hd ?_)
  rw[wE L];exact zf (x6 (zv (H _ D)))
 | none=>
  have fresh:k∉g.map (·.1):=not_mem_of_findIdx_none (U▸T)
  have I:¬(g.any fun kv=>decide (kv.1=k))=true:=fun z=>by
   obtain⟨kv,h1,h2⟩:=yM.mp z;exact fresh (zP.mpr ⟨kv,h1,ju h2⟩)
  have D:valueAt g k=none:=by rw[<- hf k,findBy_of_findIdx?,T]
  have a0:stored g k dflt=g++[(k,dflt)]:=by rw[stored,zr I]
  refine zf (x6 (zf (wpAny_updateDictKeys (s:={ s with toks:=s.toks+1 }) (hz:=ab) N hd (zv (M D _ ?_ (QB ..))))))
  rw[a0];refine⟨_,_,ep+1,yb _ N (Obj.isFreed_of_dict (Obj.data_mapDictKeys hd _)),hc.mapDictKeys _,Obj.data_mapDictKeys hd _,hk.push j _,?_,?_⟩
  ·have z:=hp.append j (c.hash k) dflt
   obtain⟨l⟩:=B;simpa using z
  ·rw[zQ,QM]
   refine⟨hn,by simp,fun a ha b hb z=>fresh ?_⟩
   rw[show List.map (·.1) [(k,dflt)]=[k] from rfl,qg] at hb
   rw[<- hb,<- z];exact ha
end
section
variable{b:Program}{w:World}{κ:Type}[DecidableEq κ]{knd:PySem.KeyKind b w κ}
theorem zc3{d:Addr}{k:κ}{f x:Value}(j:knd.is k f=true)(I:(d==sysModules)=false) :
  MeetsIn b w (Builtin.«dict.setdefault» ⟨[.ref d,f,x],[]⟩) (fun _ R s=>∃c,s.heap.DictOf knd d c/\c.length<=sizeLine/\(∀v,valueAt c k=some v->R (.ok (.ret v)) { s with toks:=s.toks+1 }) /\
   (valueAt c k=none->∀g,g.DictOf knd d (stored c k x)->Heap.SameBut d s.heap g->R (.ok (.ret x)) { s with heap:=g,toks:=s.toks+1 })):=
 .of_wp fun A R s ⟨c,E,hz,h1,G⟩=>by
  delta Builtin.«dict.setdefault» Builtin.Dict.keyAndDefault;refine zf (zf (wpAny_notOrdered_dict E.typeIs (zv (a:=(d,f,some x)) ?_)))
  have D:¬(d==sysModules)=true:=by rw[I];exact qO
  refine(show wpAny _ _ (if(d==sysModules)=true then _ else(dictSetDefault d f x >>= _)) _ _ _ from ?_)
  rw[zr D];exact zf (zcj j E hz (fun v hv=>zv ⟨v,rfl,h1 v hv⟩) fun H g l B=>zv ⟨x,rfl,G H g l B⟩)
end
section
variable{X:Cx}{g ty j:TE}{o e f:Expr}{b c:Pos}
def ziM(g ty j:TE):TE:=fun σ H Q=>g σ H fun x w=>∃a,x=.ref a/\IsD w a/\ty σ w fun y A=>j σ A fun z s=>∃l k,s a=some (.dK l)/\y=kV k/\l.length<sizeLine /\
 (∀v,qX l k=some v->Q v s)/\(qX l k=none->Q z (upd s a (.dK (jQ l k z))))
theorem zf2(ho:PE X o g)(he:PE X e ty)(hf:PE X f j)(m:M2 X o "setdefault" b e f c):PE X (.Call (.Attribute o "setdefault" b) [e,f] [] c) (ziM g ty j):=by
 intro A s σ H Q I h;refine wpAny_Call_method m.base m.few m.line Yt zdD PySem.F.type_dict_setdefault (thn (ho A s σ H _ I h) fun u s1 ⟨x,Y,M,rx,a,ex,d,q1⟩=>?_)
 subst ex;obtain rfl:u=Value.ref a:=rx;obtain⟨t1,t2,_⟩:=WK M d;refine⟨t1,t2,?_⟩
 rw[m.trees];refine QS rfl (Yl (Zm (thn (he A s1 σ Y _ M q1) fun iv s2 ⟨y,H2,I2,ry,q2⟩=>
  Zm (thn (hf A s2 σ H2 _ I2 q2) fun fv s3 ⟨z,H3,J,T,w,k,O,ey,l,g1,g2⟩=>XB ?_))))
 subst ey;obtain⟨zz,hd,U,B,N⟩:=zdj J.hok O;have hz:U.length<=sizeLine:=by rw[<- B.length];exact zz
 refine call_meetsIn zdD N.typeIs PySem.F.entry_dict_setdefault (PySem.F.args_dict_setdefault_3 _ _ _) (zc3 (knd:=zO X.prog X.w) (wn ry) hd) ⟨U,N,hz,fun v hv=>?_,fun hn h' G hs=>?_⟩
 ·have D:=B.val k
  rw[hv] at D;cases E:qX w k with
  | none=>rw[E] at D;exact D.elim
  | some L=>
   rw[E] at D;exact⟨L,H3,J.tok _,D,g1 L E⟩
 ·have D:=B.val k
  rw[hn] at D;have E:qX w k=none:=by
   cases E:qX w k with
   | none=>rfl
   | some L=>rw[E] at D;exact D.elim
  have hl:(jQ w k z).length<=sizeLine:=by have:=xD w k z;omega
  have ee:∃q,h'.get? a=some q:=let ⟨q,_,_,hq,_⟩:=G;⟨q,hq⟩
  exact⟨z,_,ZU J (by rw[O];exact True.intro) hs ee (Xg hl hd (B.put k T) G),T,g2 E⟩
end
theorem zfs{P:Program}{w:World}{k:Key}{u:Value}(h:(zO P w).is k u=true):RelV (kV k) u:=by
 rw[WF] at h;rcases qU h with ⟨i,t,rfl,rfl⟩ | ⟨x,t,rfl,rfl⟩
 ·exact⟨t,rfl⟩
 ·exact⟨t,rfl⟩
theorem KV.get:∀{b:List (Key×V)} {c:List (Key×Value)} {j:Nat} {q:Key×Value},KV b c->c[j]? =some q->∃p,b[j]? =some p/\p.1=q.1/\RelV p.2 q.2
 | _,_,j,_,.nil,e=>by simp at e
 | _,_,0,_,.cons h _,e=>by simp at e;subst e;exact⟨_,rfl,h⟩
 | _,_,j+1,_,.cons _ t,e=>by
  obtain⟨p,e1,r⟩:=KV.get (j:=j) t (by simpa using e)
  exact⟨p,by simpa using e1,r⟩
theorem YB:∀{c:List V} {b:List Value},c.length=b.length->(∀(j:Nat) u,b[j]? =some u->∃x,c[j]? =some x/\RelV x u)->Vals c b
 | [],[],_,_=>.nil
 | [],_::_,h,_=>by simp at h
 | _::_,[],h,_=>by simp at h
 | x::c,u::b,h,f=>by
  refine .cons ?_ (YB (by simpa using h) fun j v e=>?_)
  ·obtain⟨y,e1,r⟩:=f 0 u rfl
   cases e1;exact r
  ·obtain⟨y,e1,r⟩:=f (j+1) v (by simpa using e)
   exact⟨y,by simpa using e1,r⟩
section
variable{X:Cx}
end
section
variable{X:Cx}{f ty:TE}{o e:Expr}{b c:Pos}
end
section
variable{X:Cx}
end
def zbK(d:Addr)(o:Obj)(b:List (Key×V)):It:=
 ⟨fun i H=>H d=some (.frz o (.dK b))/\i<b.length,fun i H x c=>c=H/\∃k v,b[i]? =some (k,v)/\x=kV k,fun i H=>H d=some (.frz o (.dK b))/\b.length<=i⟩
theorem Js{P:Program}{w:World}:∀{c:List DictEntry} {f:List (Key×Value)},Pairs (zO P w) c f->∀{i:Nat} {q:Key×Value},f[i]? =some q->∃b,c[i]? =some b/\(zO P w).is q.1 b.key=true
 | _,_,.nil,_,_,h=>by simp at h
 | _,_,.cons h1 _ t,0,_,h=>by simp at h;subst h;exact⟨_,rfl,h1⟩
 | _,_,.cons _ _ t,i+1,_,h=>by
  obtain⟨b,e,r⟩:=Js t (i:=i) (by simpa using h)
  exact⟨b,by simpa using e,r⟩
theorem KV.back:∀{b:List (Key×V)} {c:List (Key×Value)} {j:Nat} {p:Key×V},KV b c->b[j]? =some p->∃q,c[j]? =some q/\p.1=q.1
 | _,_,j,_,.nil,e=>by simp at e
 | _,_,0,_,.cons h _,e=>by simp at e;subst e;exact⟨_,rfl,h.1⟩
 | _,_,j+1,_,.cons _ t,e=>by
  obtain⟨q,e1,r⟩:=KV.back (j:=j) t (by simpa using e)
  exact⟨q,by simpa using e1,r⟩
theorem VU{P:Program}{w:World}{H:Hp}{h:Heap}{d:Addr}{o:Obj}{b:List (Key×V)}{c:Array DictEntry}{j:Nat}(ok:HOk P w H h)(e:H d=some (.frz o (.dK b)))(A:o.data=.dict c j):RawD h d c j/\c.size=b.length /\
  ∀(i:Nat) (k:Key) (v:V),b[i]? =some (k,v)->∃f:DictEntry,c[i]? =some f/\RelV (kV k) f.key:=by
 obtain⟨e1,z,y,T,r,Q,G,E,h1,I,l,J,s,L⟩:=(show ObjOk P w H h d (.frz o (.dK b)) from ok d _ e)
 rw[e1] at h1;cases h1;rw[A] at l;cases l;have M:=s.length;have N:=r.length;have O:c.toList.length=c.size:=jE;refine⟨⟨o,e1,I,A⟩,by omega,fun i k v hk=>?_⟩
 obtain⟨q,e2,g⟩:=KV.back r hk;obtain⟨f,B,D⟩:=Js s e2;have g:k=q.1:=g;exact⟨f,by rw[<- ya];exact B,by rw[g];exact zfs D⟩
theorem ZY{P:Program}{w:World}{K:W.Frag}{tg:Expr}(d g:Addr)(o:Obj)(j:List (Key×V))(es:Array DictEntry)(Y:Nat)(he:o.data=.dict es Y):wX P w K tg (zbK d o j) [g] g (fun i h=>h.IsKeyIter g d i es.size Y) where
 mem:=by simp
 obj:=fun i h st b hb=>by
  have e:b=g:=by simpa using hb
  subst e;obtain⟨o,e,c,d⟩:=st;exact⟨o,e,fun v z=>by rw[d] at z;cases z⟩
 keep:=fun i h A st k=>st.at fun o e=>k g (by simp) o e
 item:=by
  intro X O T N hc i f s σ H E I B st hg;subst O T N;obtain⟨hd,hi⟩:=hg;obtain⟨U,sz,all⟩:=VU I.hok hd he;obtain⟨⟨k,v⟩,hx⟩:∃p,j[i]? =some p:=⟨j[i],by simp[hi]⟩
  obtain⟨en,Q,ek⟩:=all i k v hx;obtain⟨D,G,f2,J,L,M⟩:=B g (by simp)
  refine zcw st U Q fun A l sb=>?_
  have I1:Inv X f σ H { s with heap:=A }:=I.turned (t':=s.toks) (fun b o hb e=>(sb.2 b hb).trans e) D G J L M
  obtain⟨o',e',c',d'⟩:=id l;exact⟨_,rfl,Jx (s:={ s with heap:=A }) e' c' d' (by decide) ⟨kV k,H,I1,ek,⟨rfl,k,v,hx,rfl⟩,l,fun b hb=>(B b hb).1⟩⟩
 done:=by
  intro X O T N hc i f s σ H E I B st hg;subst O T N;obtain⟨hd,hi⟩:=hg;obtain⟨U,sz,_⟩:=VU I.hok hd he;obtain⟨D,G,f2,J,L,M⟩:=B g (by simp)
  exact zdW (I.ok.hd hc) st U (by omega) fun A eb=>⟨rfl,I.turned (t':=s.toks) (fun b o hb e=>eb b o hb e) D G J L M⟩
 self:=fun _ _ _ _ _ st h=>wpAny_pyIter_keyiter st h
section
variable{X:Cx}{c:Expr}
def zgB(g:TE):TI:=fun σ H R=>g σ H fun x f=>∃d b,x=.ref d/\f d=some (.dK b)/\∀o,R (zbK d o b) (upd f d (.frz o (.dK b)))
theorem zcG{l:Expr}{G:TE}(O:PE X l G):PI X c l (zgB G):=by
 intro f s σ H R I h;refine thn (O f s σ H _ I h) fun v s1 ⟨x,D,j,T,Q⟩=>?_
 obtain⟨d,g,e,hd,q⟩:=Q;subst e;cases T;obtain⟨z,y,U,r,o,A,w,h1,E,B,L,M,N⟩:=(show ObjOk X.prog X.w D s1.heap d (.dK g) from j.hok d _ hd)
 refine Vl y ⟨o,h1,E,B⟩ ?_
 have J:Inv X f σ (upd D d (.frz o (.dK g))) { s1 with heap:=s1.heap.push { cls:=.type "dict_keyiterator",data:=.fields #[.ref d,.int 0 0,.int A.size 0,.int w 0] },toks:=s1.toks }:=by
  refine j.write (x:=d) (e:=d) (by rw[hd];exact True.intro) (.inl rfl) (fun b u _ e=>zV _ e) ⟨o,zV _ h1⟩ ?_
  exact⟨zV _ h1,z,y,U,r,o,A,w,zV _ h1,E,B,L,M,N⟩
 refine⟨s1.heap.objs.size,[s1.heap.objs.size],_,_,_,rfl,J,ZY d _ o g A w B,⟨_,zT _ rfl,rfl,rfl⟩,fun b hb=>?_,q o⟩
 have e:b=s1.heap.objs.size:=by simpa using hb
 subst e;refine j.fpOk (zC _) ?_
 rw[zm (zM (zj hd (j.hok.fresh (zC _))))];exact j.hok.fresh (zC _)
end
theorem VI{d:Addr}{o:Obj}{kvs:List (Key×V)}{n:Nat}{g:TG}{J:TT}{I:TE}{w:St}{R:List V->Hp->Prop}{H:Hp}(Pv:Nat->List V->Hp->Prop)(L:Pv 0 [] H)
  (h1:∀i c H,Pv i c H->H d=some (.frz o (.dK kvs)))
  (N:∀i k v c H,kvs[i]? =some (k,v)->Pv i c H->g (kV k) w H fun j D=>j.drop n=w.drop n/\J j D fun b l=>if b=true then I j l fun v E=>c.length<sizeLine/\Pv (i+1) (c++[v]) E else Pv (i+1) c l)
  (hd:∀c H,Pv kvs.length c H->c.length<=sizeLine/\R c H) :
  ∃W:Nat->Nat->List V->Hp->Prop,(∃m,W 0 m [] H)/\∀i m c f,W i m c f ->
   ((zbK d o kvs).stop i f/\c.length<=sizeLine/\R c f) \/
   ((zbK d o kvs).go i f/\∃M:List V->Hp->Prop,(∀c A,M c A->∃G,G<m/\W (i+1) G c A)/\∀x B,(zbK d o kvs).yld i f x B->g x w B fun j D=>j.drop n=w.drop n/\J j D fun b l=>
    if b=true then I j l fun y E=>c.length<sizeLine/\M (c++[y]) E else M c l):=by
 refine⟨fun i m c f=>m=kvs.length-i/\i<=kvs.length/\Pv i c f,⟨_,rfl,qV _,L⟩,?_⟩
 rintro i m c f ⟨rfl,Y,p⟩;by_cases s:i<kvs.length
 ·refine .inr ⟨⟨h1 i c f p,s⟩,Pv (i+1),fun U A O=>⟨_,by omega,rfl,s,O⟩,fun x B y=>?_⟩
  obtain⟨e,k,v,hk,rfl⟩:=y;subst e;exact N i k v c _ hk p
 ·have e:i=kvs.length:=by omega
  subst e;obtain⟨Q,T⟩:=hd c f p;exact .inl ⟨⟨h1 _ c f p,zC _⟩,Q,T⟩
section
variable{X:Cx}{c:Expr}
def ziV(K:W.Frag)(g:TE):TI:=fun σ H R=>g σ H fun x b=>∃a,x=.ref a/\(((∃f,SqL K b a f)/\R (Itl K a) b)\/((∃f,SqT K b a f)/\R (Itt K a) b))
theorem zcE{l:Expr}{B:TE}(D:PE X l B):PI X c l (ziV X.K B):=by
 intro j s σ H R I h;refine thn (D j s σ H _ I h) fun v s1 ⟨x,w,f,G,E⟩=>?_
 obtain⟨a,e,q⟩:=E;subst e;cases G;have A:∀b∈[s1.heap.objs.size],_:=fun b hb=>by
  have e:b=s1.heap.objs.size:=by simpa using hb
  subst e;exact f.fpOk (zC _) (f.hok.fresh (zC _))
 rcases q with ⟨⟨M,hq⟩,q⟩ | ⟨⟨M,hq⟩,q⟩
 ·obtain⟨g,J,p,hz⟩:=f.list hq
  refine wpAny_pyIter_list p.isList ⟨s1.heap.objs.size,[s1.heap.objs.size],_,_,w,rfl,f.kept (t':=s1.toks) fun b o e=>zV _ e,Jd a _,⟨_,zT _ rfl,rfl,rfl⟩,?_,q⟩
  exact A
 ·obtain⟨g,J,p,hz⟩:=f.tuple hq
  refine wpAny_pyIter_tuple (show s1.heap.IsTuple a g.toArray from p) ⟨s1.heap.objs.size,[s1.heap.objs.size],_,_,w,rfl,f.kept (t':=s1.toks) fun b o e=>zV _ e,ZX a _,⟨_,zT _ rfl,rfl,rfl⟩,?_,q⟩
  exact A
end
open Sem (wp)
theorem J6:typeLookup (.type "list") "keys" = pure none:=by rw[typeLookup_type,builtinLookup_eq_fast];kernel_rfl
theorem J7:typeLookup (.type "list") "__getattr__" = pure none:=by rw[typeLookup_type,builtinLookup_eq_fast];kernel_rfl
theorem yS:isSubtype (.type "AttributeError") (.type "AttributeError")=pure true:=by rw[isSubtype_type];kernel_rfl
section
variable{c:Program}{w:World}{A:Around}{E:Value->Shared->Prop}{s:Shared}
theorem Wu{α:Type}{M:Model}{o:Value}{g f:Str}{Q:α->Shared->Prop}(B:A.handled=none)(D:f.length<=sizeLine)
  (hq:∀j G e,(∀b p,s.heap.get? b=some p->j.get? b=some p)->(∃l,j.get? e=some l/\l.cls=.type "AttributeError")->E (.ref e) { s with heap:=j,toks:=G }) :
  wpAny M A (raiseAttrError o g f:Sem α) Q E s:=by
 unfold raiseAttrError newExc newTuple;refine zf (wpAny_mkStr (zf (zf (vf (zf (m:=firstArgMember _ _) (yj (a:=Value.none) (by simp only[firstArgMember];rfl) (vf ?_)))))) D)
 refine zf (wpAny_mkText (zf (show wpAny _ _ (noteAttr _ _ _) _ _ _ from ?_)))
 unfold noteAttr;dsimp only;unfold lacksNameAndObj;refine zf (zf (yL (T:= "AttributeError") ⟨_,zT _ rfl,rfl⟩ yS ?_))
 refine zf (wpAny_load (zT _ rfl) ?_)
 refine zv ?_
 refine zf (x6 (zf (wpAny_typeOf (T:= "AttributeError") ⟨_,zT _ rfl,rfl⟩ ?_)))
 refine wpAny_layMembers (zT _ rfl) rfl ?_
 unfold raiseNew;refine zf (wpAny_handled ?_);rw[B];refine zf (zv (wpAny_throw ?_))
 refine hq _ _ _ (fun b p e=>?_) ⟨_,yb _ (zT _ rfl) (Yn (QO rfl _)),W8 _ _⟩
 rw[QD _ _ (vW (jP (zF e) (by simp)))]
 exact zV _ (zV _ e)
end
section
variable{c:Program}{w:World}{A:Around}{E:Value->Shared->Prop}{h:Heap}{g:Array GenState}{d:Drawn}{t:Nat}{os:OsState}{a:Addr}{n:Nat}{f:Array Value}
theorem ZJ{D:Tok}{Q:Fin->Shared->Prop}(s:A.handled=none)(hx:h.get? a=some { cls:=.type "list",data:=.seq f n })
  (hq:∀j B e,(∀b p,h.get? b=some p->j.get? b=some p)->(∃l,j.get? e=some l/\l.cls=.type "AttributeError")->E (.ref e) ⟨j,g,d,B,os⟩) :
  wpAny (model c w) A (Builtin.«object.__getattribute__» ⟨[.ref a,.str "keys" D],[]⟩) Q E ⟨h,g,d,t,os⟩:=by
 have H:(⟨h,g,d,t,os⟩:Shared).TypeIs (.ref a) "list" :=⟨_,hx,rfl⟩;have G:=J6;repeat(any_goals (first| assumption | wp_step))
 refine Wu s ?_ hq
 rw[sizeLine_eq];decide +kernel
theorem Qp{D:Tok}{R:Result->Shared->Prop}(s:A.handled=none)(hx:h.get? a=some { cls:=.type "list",data:=.seq f n })
  (hq:∀j B e,(∀b p,h.get? b=some p->j.get? b=some p)->(∃l,j.get? e=some l/\l.cls=.type "AttributeError")->R (.error (.ref e)) ⟨j,g,d,B,os⟩) :
  codeAny (model c w) A (.call (.builtin "list.__getattribute__") ⟨[.ref a,.str "keys" D],[]⟩) R ⟨h,g,d,t,os⟩:=
 codeAny_call_builtin XM.plain F.entry_list_ga (XM.check _ _ _ _ _ _ _ _ (show(⟨h,g,d,t,os⟩:Shared).TypeIs (.ref a) "list" from ⟨_,hx,rfl⟩) (F.args_list_getattribute_2 _ _) (ZJ s hx hq))
theorem J9{G:Tok}{Q:Value->Shared->Prop}(D:A.handled=none)(hx:h.get? a=some { cls:=.type "list",data:=.seq f n })
  (hq:∀j s e,(∀b p,h.get? b=some p->j.get? b=some p)->(∃l,j.get? e=some l/\l.cls=.type "AttributeError")->E (.ref e) ⟨j,g,d,s,os⟩):wpAny (model c w) A (getAttrBy (.ref a) (.str "keys" G) false) Q E ⟨h,g,d,t,os⟩:=by
 have J:(⟨h,g,d,t,os⟩:Shared).TypeIs (.ref a) "list" :=⟨_,hx,rfl⟩;have H:=XM.lookup;have I:=XM.bind (.ref a);repeat(any_goals (first| assumption | wp_step))
 refine Qp D hx fun j s e k ⟨l,B,hc⟩=>?_
 dsimp only;unfold getattributeRaised;refine zf (yL (T:= "AttributeError") ⟨_,B,hc⟩ yS ?_)
 rw[zx rfl];unfold hookBehind;refine zf ?_
 rw[zr (by decide)]
 refine yj J7 ?_
 unfold hookOrError attributeErrorLeaves;dsimp only;rw[zx (show(!false)=true from rfl)]
 first
  | exact wpAny_throw (hq j s e k ⟨l,B,hc⟩)
  | exact zf (wpAny_throw (hq j s e k ⟨l,B,hc⟩))
theorem Qq{Q:Option Value->Shared->Prop}(s:A.handled=none)(hx:h.get? a=some { cls:=.type "list",data:=.seq f n })
  (hq:∀j l,(∀b p,h.get? b=some p->j.get? b=some p)->Q none ⟨j,g,d,l,os⟩):wpAny (model c w) A (getAttr? (.ref a) "keys") Q E ⟨h,g,d,t,os⟩:=by
 unfold getAttr? getAttrBy?;refine zf (wpAny_mkText (zf (yp (J9 s hx fun j l e k ⟨D,B,hc⟩=>?_))))
 dsimp only;refine zf (yL (T:= "AttributeError") ⟨_,B,hc⟩ yS ?_)
 rw[zx rfl];exact zv (hq j l k)
end
end L2
namespace L2
open PySem PySem.Spec PyProof.Rows
theorem wY:entryFor table "dict.update.loop" = some Builtin.«dict.update.loop»:=entryFor_of_tree (by kernel_rfl)
theorem xC:plainId "dict.update.loop" = true:=by decide +kernel
theorem Vz{K:Type}[DecidableEq K](b more:List (K×Value))(i:Nat)(c:K×Value)(h:more[i]? =some c):merged (stored b c.1 c.2) (more.drop (i+1))=merged b (more.drop i):=by
 obtain⟨h1,f⟩:=zK.mp h;rw[List.drop_eq_getElem_cons h1,f];rfl
section
variable{c:Program}{w:World}{K:Type}[DecidableEq K]{knd:KeyKind c w K}{A:Around}{R:Result->Shared->Prop}{it l D:Addr}{items:Array Value}{pairs:List (K×Value)}{res:Value}
theorem zex(hh:A.handled=none)(O:l≠it)(Q:l≠D)(G:it≠D)(a0:pairs.length=items.size) :
  ∀(m:Nat) (s:Shared) (i:Nat) (f:List (K×Value)),items.size-i=m->i<=items.size->s.heap.IsListIter it l i->s.heap.IsList l items->s.heap.DictOf knd D f->f.length+m<=sizeLine ->
   (∀(j:Nat) (u:Value),items[j]? =some u->∃(T:Addr) (k:K) (g v:Value),u=.ref T/\T≠it/\T≠D/\IsTup s.heap T #[g,v]/\knd.is k g=true/\pairs[j]? =some (k,v)) ->
   (∀E tk,E.DictOf knd D (merged f (pairs.drop i))->(∀b o,b≠it->b≠D->s.heap.get? b=some o->E.get? b=some o)->R (.ok (.ret res)) { s with heap:=E,toks:=tk }) ->
   codeAny (model c w) A (.builtin "dict.update.loop" ⟨[.ref D,.ref it,.int i 0,res],[]⟩) R s:=by
 intro m;induction m with
 | zero=>
  intro s i f hm hi Y L M hz U q;have H:items[i]? =none:=by simp;omega
  refine codeAny_builtin wY ?_
  rw[Zo xC _];show wpAny _ A.in1 (pyNext (.ref it) >>= _) _ _ s;refine zf (wpAny_pyNext_list_end hh Y L H fun E hx=>?_)
  show wpAny _ _ (Builtin.Dict.addKeywords D [] >>= _) _ _ _;refine zf (zv (zv ?_))
  have e0:merged f (pairs.drop i)=f:=by rw[List.drop_eq_nil_of_le (by omega)];rfl
  have:=q E s.toks (by rw[e0];exact M.extBut hx (zM G)) (fun b o hb _ e=>?_)
  ·exact this
  ·exact hx b o hb e
 | succ m ih=>
  intro s i f hm hi Y L M hz U q;have I:i<items.size:=by omega
  obtain⟨u,hu⟩:∃u,items[i]? =some u:=⟨_,wE I⟩;obtain⟨T,k,g,v,rfl,nT,nD,tT,kk,ep⟩:=U i u hu;refine codeAny_builtin wY ?_
  rw[Zo xC _];show wpAny _ A.in1 (pyNext (.ref it) >>= _) _ _ s;refine zf (wpAny_pyNext_list_item Y L hu fun h1 i1 s1=>?_)
  dsimp only;refine zf (x8 (zf ?_))
  obtain⟨oT,eT,cT,nn,dT⟩:=tT;have k1:∀b o,b≠it->s.heap.get? b=some o->h1.get? b=some o:=fun b o hb e=>(s1.2 b hb).trans e
  have N:({ s with heap:=h1 }:Shared).TypeIs (.ref T) "tuple" :=⟨_,k1 _ _ nT eT,cT⟩;show wpAny _ _ (tryCatch (Builtin.Dict.pairItems (.ref T)) _) _ _ _;refine wG ?_
  unfold Builtin.Dict.pairItems;refine zf (wpAny_typeOf N ?_)
  rw[zx (show(Value.type "tuple" == Value.type "list" || Value.type "tuple" == Value.type "tuple")=true by decide)]
  refine zf (x9 (k1 _ _ nT eT) dT (zv ?_))
  show wpAny _ _ (holding [g,v] (dictSet D g v)) _ _ _;refine x8 (wpAny_dictSet_pairs kk (M.sameBut s1 (zM G)) (hsz:=by omega) fun h2 d2 s2=>?_)
  refine zv ⟨plainId_quiet xC _,?_⟩
  have k2:∀b o,b≠it->b≠D->s.heap.get? b=some o->h2.get? b=some o:=fun b o hb B e=>(s2.2 b B).trans (k1 b o hb e)
  have lst:(stored f k v).length<=f.length+1:=stored_length_le f k v;have:=ih { s with heap:=h2,toks:=s.toks+1 } (i+1) (stored f k v) (by omega) I (i1.at fun o e=>(s2.2 it G).trans e) (L.at fun o e=>k2 l o O Q e) d2 (by omega)
   (fun j u hj=>by
    obtain⟨T',k',J,v',z1,z2,z3,z4,z5,z6⟩:=U j u hj;obtain⟨o',e',r'⟩:=z4;exact⟨T',k',J,v',z1,z2,z3,⟨o',k2 _ _ z2 z3 e',r'⟩,z5,z6⟩)
   (fun E tk d' kp=>q E tk (by rw[<- Vz f pairs i (k,v) ep];exact d') fun b o hb B e=>kp b o hb B (k2 b o hb B e))
  exact this
end
def zgI:Obj:={ cls:=.type "dict",data:=.dict #[] }
theorem Q4:(Value.type "list" != Value.type "dict")=true:=by decide
section
variable{c:Program}{w:World}{K:Type}[DecidableEq K]{knd:KeyKind c w K}{A:Around}{E:Value->Shared->Prop}{s:Shared}
theorem ZL{l:Addr}{items:Array Value}{n:Nat}{pairs:List (K×Value)}{Q:Value->Shared->Prop}(hh:A.handled=none)(I:s.heap.get? l=some { cls:=.type "list",data:=.seq items n })(H:pairs.length=items.size)(M:items.size<=sizeLine)
  (ht:∀(j:Nat) (u:Value),items[j]? =some u->∃(T:Addr) (k:K) (f v:Value),u=.ref T/\IsTup s.heap T #[f,v]/\knd.is k f=true/\pairs[j]? =some (k,v))
  (h:∀G Y,G.DictOf knd s.heap.objs.size (merged [] pairs)->(∀b o,s.heap.get? b=some o->G.get? b=some o)->Q (.ref s.heap.objs.size) { s with heap:=G,toks:=Y }) :
  wpAny (model c w) A (call (.type "dict") [.ref l]) Q E s:=by
 have L:(s.heap.push zgI).DictOf knd s.heap.objs.size []:=.new s.heap;have g:=zV zgI I;refine callType_codes (Q₁:=fun u s1=>u=.ref s.heap.objs.size/\s1={ s with heap:=s.heap.push zgI }) F.kt_called_dict (F.kt_typeCall_dict_1 _) F.entry_dict_init (kt_code_dict_new _ ⟨rfl,rfl⟩) fun u s1 e=>?_
 obtain⟨eu,es⟩:=e;subst eu es;refine⟨L.typeIs,F.args_dict_init_2 _ _,?_⟩
 show wpAny _ _ (Builtin.Dict.selfAndRest _ _ >>= fun x=>Builtin.Dict.updateCommon _ _ x.1 x.2 _) _ _ _
 refine zf (zf (wpAny_notOrdered_dict L.typeIs ?_))
 refine zv (show wpAny _ _ (Builtin.Dict.updateFrom "dict.__init__" s.heap.objs.size (.ref l) [] .none) _ _ _ from ?_)
 refine zf (wpAny_typeOf (T:= "list") ⟨_,g,rfl⟩ ?_)
 rw[zx Q4];refine zf (Qq hh g fun h1 t1 J=>?_)
 rw[zx (show(none:Option Value).isNone=true from rfl)]
 refine zf (x6 (zf (wpAny_pyIter_list ⟨_,J _ _ g,rfl,n,rfl⟩ ?_)))
 have dD:=L.keep J;have U:=zF I;obtain⟨oD,_,_,eD,_⟩:=id dD;have O:=zF eD;have N:∀b o,s.heap.get? b=some o->(h1.push { cls:=.type "list_iterator",data:=.fields #[.ref l,.int 0 0] }).get? b=some o:=fun b o e=>zV _ (J _ _ (zV _ e))
 have B:∀b o,s.heap.get? b=some o->b<h1.objs.size:=fun b o e=>zF (J _ _ (zV _ e))
 refine zv ⟨plainId_quiet xC _,?_⟩
 refine zex (knd:=knd) (s:=⟨h1.push { cls:=.type "list_iterator",data:=.fields #[.ref l,.int 0 0] },s.gens,s.drawn,t1,s.os⟩) (l:=l) (it:=h1.objs.size) (D:=s.heap.objs.size) (items:=items) (pairs:=pairs) (A:=A.in1) (res:=.none) hh (zU (B _ _ I)) (zU U) (vW O) H items.size 0 [] rfl (qV _) ⟨_,zT _ rfl,rfl,rfl⟩ ⟨_,N _ _ I,rfl,n,rfl⟩ (dD.push _) (by simpa using M) (fun j u hj=>?_) (fun G Y d' kp=>?_)
 ·obtain⟨T,k,f,v,rfl,⟨o,e,r⟩,z,y⟩:=ht j u hj
  exact⟨T,k,f,v,rfl,zU (B _ _ e),zU (zF e),⟨o,N _ _ e,r⟩,z,y⟩
 ·exact⟨rfl,h G Y (by simpa using d') fun b o e=>kp b o (zU (B _ _ e)) (zU (zF e)) (N _ _ e)⟩
end
def PrsL(H:Hp)(c:List V)(b:List (Key×V)):Prop:=c.length=b.length/\∀(j:Nat) (x:V),c[j]? =some x->∃(T:Addr) (k:Key) (v:V),x=.ref T/\H T=some (.tup [kV k,v])/\b[j]? =some (k,v)
theorem PrsL.nil{H:Hp}:PrsL H [] []:=⟨rfl,fun j x e=>by simp at e⟩
theorem PrsL.same{H g:Hp}{l:List V}{f:List (Key×V)}(h:PrsL H l f)(s:Same H g):PrsL g l f:=⟨h.1,fun j x e=>let ⟨T,k,v,a,b,c⟩:=h.2 j x e;⟨T,k,v,a,s _ _ b,c⟩⟩
theorem PrsL.snoc{H:Hp}{s:List V}{g:List (Key×V)}{T:Addr}{k:Key}{v:V}(h:PrsL H s g)(e:H T=some (.tup [kV k,v])):PrsL H (s++[.ref T]) (g++[(k,v)]):=by
 refine⟨by rw[zS,zS,h.1];rfl,fun j x f=>?_⟩
 have l:=h.1;by_cases A:j<s.length
 ·rw[xQ A] at f
  obtain⟨w,B,D,a,b,c⟩:=h.2 j x f;exact⟨w,B,D,a,b,by rw[xQ (by omega)];exact c⟩
 ·rw[xR (by omega)] at f
  have:j=s.length:=by
   have:=(zK.mp f).1;simp at this;omega
  subst this;simp at f;subst f;exact⟨T,k,v,rfl,e,by rw[l,xR (zC _)];simp⟩
theorem zfr:∀{b:List (Key×V)} {c:List (Key×Value)},b.length=c.length->(∀(j:Nat) p,c[j]? =some p->∃q,b[j]? =some q/\q.1=p.1/\RelV q.2 p.2)->KV b c
 | [],[],_,_=>.nil
 | [],_::_,h,_=>by simp at h
 | _::_,[],h,_=>by simp at h
 | x::l,u::g,h,f=>by
  refine .cons ?_ (zfr (by simpa using h) fun j v e=>?_)
  ·obtain⟨y,e1,r⟩:=f 0 u rfl
   cases e1;exact r
  ·obtain⟨y,e1,r⟩:=f (j+1) v (by simpa using e)
   exact⟨y,by simpa using e1,r⟩
theorem Zv{α β:Type}:∀(P:Nat->α->β->Prop) (l:List α),(∀j u,l[j]? =some u->∃b,P j u b)->∃g:List β,g.length=l.length/\∀j u,l[j]? =some u->∃b,g[j]? =some b/\P j u b
 | _,[],_=>⟨[],rfl,fun j u e=>by simp at e⟩
 | P,x::l,f=>by
  obtain⟨b,hb⟩:=f 0 x rfl;obtain⟨g,h1,s⟩:=Zv (fun j=>P (j+1)) l fun j u e=>f (j+1) u (by simpa using e)
  refine⟨b::g,by simp[h1],fun j u e=>?_⟩
  cases j with
  | zero=>simp at e;subst e;exact⟨b,rfl,hb⟩
  | succ j=>
   obtain⟨c,w,A⟩:=s j u (by simpa using e)
   exact⟨c,by simpa using w,A⟩
theorem Vals.at:∀{b:List V} {c:List Value} {i:Nat} {u:Value},Vals b c->c[i]? =some u->∃x,b[i]? =some x/\RelV x u:=fun {b c i u} r e=>by
 have l:=Vals.length r;have h:=(zK.mp e).1;obtain⟨v,e1,f⟩:=r.get (i:=i) (x:=b[i]'(by omega)) (qP _)
 rw[e] at e1;cases e1;exact⟨_,qP _,f⟩
section
variable{X:Cx}
inductive yR(c:List V)(H:Hp)(Q:VK):Prop
 | mk (a:Addr) (f:List V) (b:List (Key×V)) (_:c=[.ref a]) (_:H a=some (.lst f)) (_:PrsL H f b) (_:∀p,H p=none->Q (.ref p) (upd H p (.dK (jM [] b)))):yR c H Q
theorem WR(hh:X.A.handled=none):CallR X (.type "dict") (yR):=by
 intro L s σ H xs us Q I r h;obtain⟨a,ys,l,rfl,hx,M,q⟩:=h;obtain⟨u,rfl,ru⟩:=Vals.one r;cases(show u=Value.ref a from ru)
 obtain⟨zz,w,n,A,hl⟩:=(show ObjOk X.prog X.w H s.heap a (.lst ys) from I.hok a _ hx)
 have ln:=A.length;have kn:=M.1;have B:∀(j:Nat) (u:Value),w[j]? =some u->∃(T:Addr) (k:Key) (g v:Value) (y:V),u=.ref T/\IsTup s.heap T #[g,v]/\(zO X.prog X.w).is k g=true/\l[j]? =some (k,y)/\RelV y v:=fun j u J=>by
  obtain⟨x,ex,rx⟩:=Vals.at A J;obtain⟨T,k,v,rfl,U,Y⟩:=M.2 j x ex;cases(show u=Value.ref T from rx)
  obtain⟨_,ts,rt,it,_⟩:=(show ObjOk X.prog X.w H s.heap T (.tup [kV k,v]) from I.hok T _ U)
  obtain⟨u1,u2,rfl,r1,G⟩:=Vals.two rt;exact⟨T,k,u1,u2,v,rfl,it,wn r1,Y,G⟩
 obtain⟨N,lp,hp⟩:=Zv (fun j u (p:Key×Value)=>∃(T:Addr) (g:Value) (y:V),u=.ref T/\IsTup s.heap T #[g,p.2]/\(zO X.prog X.w).is p.1 g=true/\l[j]? =some (p.1,y)/\RelV y p.2) w fun j u e=>by
  obtain⟨T,k,g,v,y,a,b,c,d,f⟩:=B j u e;exact⟨(k,v),T,g,y,a,b,c,d,f⟩
 have kv:KV l N:=zfr (by omega) fun j p e=>by
  have J:=(zK.mp e).1;obtain⟨b,e1,T,g,y,_,_,_,e2,G⟩:=hp j _ (qP (by omega))
  rw[e] at e1;cases e1;exact⟨_,e2,rfl,G⟩
 have mg:(jM [] l).length<=sizeLine:=by
  have:=vq l [];rw[QL] at this;omega
 have hn:H s.heap.objs.size=none:=I.hok.fresh (zC _);refine ZL (knd:=zO X.prog X.w) (pairs:=N) (items:=w.toArray) hh hl (by simp[lp]) (by simp;omega) (fun j u e=>?_) fun h' tk O kp=>?_
 ·rw[List.getElem?_toArray] at e
  obtain⟨p,e1,T,g,y,a,b,c,d,f⟩:=hp j u e;exact⟨T,p.1,g,p.2,a,b,c,e1⟩
 ·have ns:(s.heap.objs.size==sysModules)=false:=beq_eq_false_iff_ne.mpr (vW I.big)
  exact⟨.ref s.heap.objs.size,_,I.laid (a:=s.heap.objs.size) (o:=.dK (jM [] l)) (t':=tk) kp (zC _) (Xg mg ns (KV.merge kv .nil) O),rfl,q _ hn⟩
end
section
variable{X:Cx}{f E c:Expr}{j:List Expr}{b:Scope}{l:Pos}{H:TI}{g:TG}{D:TT}{B:TE}{x:Str}
variable{y:Str}{w A G:Pos}{s:Nat}
end
def Up(b:Array Nat):Prop:=b.toList.Pairwise (·< ·)
theorem Up.lt{f:Array Nat}(h:Up f){i j:Nat}{a b:Nat}(l:f[i]? =some a)(s:f[j]? =some b)(c:i<j):a<b:=by
 have h1:=Wb.mp l;have g:=Wb.mp s;obtain⟨w,e1⟩:=h1;obtain⟨A,e2⟩:=g;have:=List.pairwise_iff_getElem.mp h i j (by simpa using w) (by simpa using A) c
 simpa [e1,e2] using this
theorem Qw(f:Array Nat)(j:Nat):∀(fuel lo b:Nat),b-lo<=fuel->lo<=b->b<=f.size->Up f->(∀i a,i<lo->f[i]? =some a->a<j)->(∀i a,b<=i->f[i]? =some a->j<=a) ->
  SetTable.below.go f j fuel lo b<=f.size/\(∀i a,i<SetTable.below.go f j fuel lo b->f[i]? =some a->a<j)/\∀i a,SetTable.below.go f j fuel lo b<=i->f[i]? =some a->j<=a
 | 0,lo,b,h1,B,l,u,a1,a2=>by
  have e:b=lo:=by omega
  subst e;exact⟨l,a1,a2⟩
 | fuel+1,lo,b,h1,B,l,u,a1,a2=>by
  unfold SetTable.below.go;by_cases c:lo<b
  ·rw[zx c]
   dsimp only;have s:(lo+b)/2<f.size:=by omega
   have g:f[(lo+b)/2]? =some (f[(lo+b)/2]'s):=wE s;have A:f.getD ((lo+b)/2) j=f[(lo+b)/2]'s:=by rw[Yv,g];rfl
   rw[A];by_cases d:f[(lo+b)/2]'s<j
   ·rw[zx d]
    refine Qw f j fuel _ b (by omega) (by omega) l u (fun i a w e=>?_) a2
    by_cases q:i=(lo+b)/2
    ·subst q;rw[g] at e;cases e;exact d
    ·have:=u.lt e g (by omega)
     omega
   ·rw[zr d]
    refine Qw f j fuel lo _ (by omega) (by omega) (by omega) u a1 fun i a w e=>?_
    by_cases q:i=(lo+b)/2
    ·subst q;rw[g] at e;cases e;omega
    ·have:=u.lt g e (by omega)
     omega
  ·rw[zr c]
   have e:b=lo:=by omega
   subst e;exact⟨l,a1,a2⟩
theorem zds{b:Array Nat}(u:Up b)(j:Nat):SetTable.below b j<=b.size/\(∀i a,i<SetTable.below b j->b[i]? =some a->a<j)/\∀i a,SetTable.below b j<=i->b[i]? =some a->j<=a:=by
 unfold SetTable.below;exact Qw b j b.size 0 b.size (by omega) (qV _) (zC _) u (fun i a h=>absurd h (Xt _)) fun i a h e=>absurd (Wb.mp e).1 (by omega)
theorem za0{c:Array Nat}(u:Up c){j:Nat}(E:c[SetTable.below c j]?≠some j):Up (SetTable.insertAt c (SetTable.below c j) j):=by
 obtain⟨b1,b2,b3⟩:=zds u j;unfold Up SetTable.insertAt;generalize SetTable.below c j=p at *
 have B:((c.extract 0 p).push j++c.extract p c.size).toList=c.toList.take p++(j::c.toList.drop p):=by
  simp[Array.toList_extract,List.extract_eq_drop_take];exact QR (by simp)
 rw[B,List.pairwise_append];have A:c.toList.Pairwise (·< ·):=u
 refine⟨A.sublist (Yb _ _),Yh.mpr ⟨fun a l=>?_,A.sublist (List.drop_sublist _ _)⟩,fun a l b hb=>?_⟩
 ·obtain⟨k,hk,e⟩:=zdx.mp l
  have f:c[k+p]? =some a:=by rw[<- ya,zK];exact⟨by omega,by rw[<- e];congr 1;omega⟩
  have:=b3 (k+p) a (by omega) f
  by_cases q:k=0
  ·subst q
   rw[Zc] at f;exact Nat.lt_of_le_of_ne this fun z=>E (by rw[f,z])
  ·have hp:p<c.size:=by rw[jE] at hk;omega
   have:=b3 p _ (zC _) (wE hp);have:=u.lt (wE hp) f (by omega)
   omega
 ·obtain⟨k,hk,e⟩:=zdw.mp l
  have f:c[k]? =some a:=by rw[<- ya,zK];exact⟨by omega,e⟩
  have s:=b2 k a (by omega) f
  rcases zR.mp hb with z | z
  ·rw[z];exact s
  ·obtain⟨w,D,e2⟩:=zdx.mp z
   have g:c[w+p]? =some b:=by rw[<- ya,zK];exact⟨by omega,by rw[<- e2];congr 1;omega⟩
   have:=b3 (w+p) b (by omega) g
   omega
structure TabOk(b:Bool)(t:SetTable):Prop where
 up:Up t.place
 no:t.dummies=#[]
 led:t.led=b
theorem VS(j:Nat):SetTable.has #[] j=false:=by
 unfold SetTable.has;rw[show(#[]:Array Nat)[SetTable.below #[] j]? =none from XI (by simp)]
 rfl
theorem Jp{t:SetTable}(h:t.dummies=#[])(j:Nat):(t.slot j=.empty/\t.place[SetTable.below t.place j]?≠some j)\/∃i,t.slot j=.live i:=by
 unfold SetTable.slot;rw[h,VS];dsimp only;by_cases c:(t.place[SetTable.below t.place j]? ==some j)=true
 ·rw[zx c]
  exact .inr ⟨_,rfl⟩
 ·rw[zr c,zr qO]
  exact .inl ⟨rfl,fun z=>c (by rw[z];simp)⟩
theorem zbO(n:Nat):Up (Array.range n):=by
 unfold Up;rw[Array.toList_range];exact Yq
theorem TabOk.stand{b:Bool}{t:SetTable}(h:TabOk b t)(n:Nat):TabOk b (t.standIn n):=⟨zbO n,rfl,h.led⟩
theorem TabOk.plain{b p:Bool}{t:SetTable}(h:TabOk b t):TabOk b { t with plain:=p }:=⟨h.up,h.no,h.led⟩
theorem TabOk.or{b:Bool}{t:SetTable}(h:TabOk b t)(n:Nat):TabOk b (t.orStandIn n):=by
 unfold SetTable.orStandIn;split
 ·exact h
 ·exact h.stand n
theorem zdL{α:Type}(m:Nat)(f:Nat->Option α):(((List.range m).filterMap fun j=>(f j).map (j,·)).map (·.1)).Pairwise (·< ·):=by
 have c:∀l:List Nat,((l.filterMap fun j=>(f j).map (j,·)).map (·.1)).Sublist l:=fun l=>by
  induction l with
  | nil=>exact .slnil
  | cons x l b=>
   rw[XD];cases f x with
   | none=>exact b.cons _
   | some y=>exact b.cons₂ _
 exact List.Pairwise.sublist (c _) Yq
theorem TabOk.fresh(b:Bool):TabOk b (.fresh 0 0 b):=⟨List.Pairwise.nil,rfl,rfl⟩
theorem Vp{α β:Type}{R:α->β->Prop}{s f:List β}(p:f.Perm s):∀{c:List α},Paired R c s->∃b,b.Perm c/\Paired R b f:=by
 induction p with
 | nil=>intro c h;exact⟨c,.refl _,h⟩
 | cons y _ B=>
  intro c h;cases h with
  | cons r t=>
   obtain⟨b,D,w⟩:=B t;exact⟨_::b,D.cons _,.cons r w⟩
 | swap y z l=>
  intro c h;cases h with
  | cons r t=>
   cases t with
   | cons H I=>exact⟨_,.swap _ _ _,.cons H (.cons r I)⟩
 | trans _ _ g j=>
  intro c h;obtain⟨L,E,h1⟩:=j h;obtain⟨J,G,A⟩:=g h1;exact⟨J,G.trans E,A⟩
theorem Qf{α β:Type}{R:α->β->Prop}{x:α}{y:β}(r:R x y):∀{b:List α} {c:List β},Paired R b c->Paired R (b++[x]) (c++[y])
 | _,_,.nil=>.cons r .nil
 | _,_,.cons h t=>.cons h (Qf r t)
theorem Qe{α β:Type}{R:α->β->Prop}:∀{c:List α} {f:List β},Paired R c f->(∀x∈c,∃y∈f,R x y)/\∀y∈f,∃x∈c,R x y
 | _,_,.nil=>⟨fun x h=>(nomatch h),fun y h=>(nomatch h)⟩
 | _,_,.cons h t=>by
  obtain⟨a,b⟩:=Qe t;refine⟨fun x hx=>?_,fun y hy=>?_⟩
  ·rcases zR.mp hx with z | z
   ·rw[z];exact⟨_,jb,h⟩
   ·obtain⟨y,hy,r⟩:=a x z
    exact⟨y,jc _ hy,r⟩
  ·rcases zR.mp hy with z | z
   ·rw[z];exact⟨_,jb,h⟩
   ·obtain⟨x,hx,r⟩:=b y z
    exact⟨x,jc _ hx,r⟩
section
variable{f:Program}{w:World}{K:Type}[DecidableEq K](c:KeyKind f w K)
def ElX(g:List (Int×Value))(j:List K):Prop:=ElemsOf c g/\∃b,b.Perm j/\Paired (fun k (e:Int×Value)=>c.is k e.2=true) b g
def ObX(b:Bool)(o:Obj)(j:List K):Prop:=∃g l t,o.ExactSet/\o.data=.set g l t/\ElX c g.toList j/\j.Nodup/\g.size<scanBound/\t.fits g.size=true/\TabOk b t
def SetX(b:Bool)(h:Heap)(a:Addr)(g:List K):Prop:=∃o,h.get? a=some o/\ObX c b o g
variable{c}
theorem ElX.perm{j b:List (Int×Value)}{l:List K}(h:ElX c j l)(p:b.Perm j):ElX c b l:=by
 obtain⟨h1,B,D,H⟩:=h;obtain⟨g,G,pr2⟩:=Vp p H;exact⟨h1.perm p,g,G.trans D,pr2⟩
theorem ElX.len{b:List (Int×Value)}{g:List K}(h:ElX c b g):b.length=g.length:=by
 obtain⟨_,j,l,B⟩:=h;rw[<- l.length_eq];exact(Xq B).symm
theorem ElX.mem{g:List (Int×Value)}{j:List K}(h:ElX c g j)(k:K):k∈j↔∃e∈g,c.is k e.2=true:=by
 obtain⟨_,B,D,G⟩:=h;obtain⟨a,b⟩:=Qe G;rw[<- D.mem_iff];refine⟨a k,fun ⟨e,l,r⟩=>?_⟩
 obtain⟨I,hk,H⟩:=b e l;rwa[c.inj _ _ _ r H]
theorem ElX.snoc{g:List (Int×Value)}{j:List K}(h:ElX c g j){k:K}{x:Value}(hk:c.is k x=true)(hx:x.scannable=true):ElX c (g++[(c.hash k,x)]) (j++[k]):=by
 obtain⟨h1,b,l,B⟩:=h;exact⟨h1.push hk hx,b++[k],l.append_right _,Qf (R:=fun k (e:Int×Value)=>c.is k e.2=true) hk B⟩
theorem SetX.at{b:Bool}{h g:Heap}{a:Addr}{j:List K}(x:SetX c b h a j)(k:∀o,h.get? a=some o->g.get? a=some o):SetX c b g a j:=let ⟨o,e,r⟩:=x;⟨o,k o e,r⟩
variable{A:Around}{E:Value->Shared->Prop}{s:Shared}
end
def ziR(w:World):Bool:=!w.params.followText "set-order"
def zch(w:World):Obj:={ cls:=.type "set",dict:=none,data:=.set #[] 0 (.fresh 0 0 (ziR w)) }
section
variable{K:Type}[DecidableEq K]
variable{c:Program}{w:World}{j:KeyKind c w K}{A:Around}{R:Result->Shared->Prop}{s l S:Addr}{f:Array Value}{g:List K}{b:Bool}
end
section
variable{b:Program}{w:World}{A:Around}{E:Value->Shared->Prop}{s:Shared}
end
section
variable{b:Program}{w:World}{K:Type}[DecidableEq K]{c:KeyKind b w K}{A:Around}{E:Value->Shared->Prop}{s:Shared}
end
section
variable{M:Model}{A:Around}{E:Value->Shared->Prop}{s:Shared}
end
section
variable{b:Program}{w:World}{A:Around}{E:Value->Shared->Prop}{h:Heap}{g:Array GenState}{d:Drawn}{l:Nat}{os:OsState}{j a:Addr}{o:Obj}{f:Array (Int×Value)}{c:Nat}{t:SetTable}{i:Nat}
end
section
variable{b:Program}{w:World}{A:Around}{E:Value->Shared->Prop}{s:Shared}{a:Addr}{o:Obj}{f:Array (Int×Value)}{c:Nat}{t:SetTable}{i g:Nat}
end
section
variable{b:Program}{w:World}{A:Around}{E:Value->Shared->Prop}{h:Heap}{g:Array GenState}{d:Drawn}{D:Nat}{os:OsState}{l a T:Addr}{o s:Obj}{j:Array (Int×Value)}{f:Nat}{t:SetTable}{i n c:Nat}{B:Array Value}
end
section
variable{b:Program}{w:World}{A:Around}{E:Value->Shared->Prop}{s:Shared}{c:Addr}{f:Obj}
end
section
variable{b:Program}{w:World}{A:Around}
variable{j a T:Addr}{o l:Obj}{g:Array (Int×Value)}{f c:Nat}{t:SetTable}
end
section
variable{b:Program}{w:World}{A:Around}{E:Value->Shared->Prop}{s:Shared}{a:Addr}{o:Obj}{f:Array (Int×Value)}{c:Nat}{t:SetTable}
end
section
variable{X:Cx}
end
theorem Inv.drawn{X:Cx}{c:List (Addr×Obj)}{σ:St}{H:Hp}{s:Shared}(I:Inv X c σ H s)(d:Drawn):Inv X c σ H { s with drawn:=d }:=
 I.call' (s':={ s with drawn:=d }) (ch:=[]) rfl Un.refl I.hok I.bare fun b hb=>(nomatch hb)
section
variable{X:Cx}
end
section
variable{X:Cx}{D l A:Expr}{w E:List Expr}{s:Scope}{H:Pos}{wi L:TI}{tf I:TT}{Y:TE}{x y z u:Str}{O Q U N tp J:Pos}{M G:Nat}
variable{j e:Expr}{c:List Expr}{to:TE}{B:TA}{f:Str}{g b:Pos}{T id:String}{r:V->List V->Hp->VK->Prop}
theorem zf3{K:W.Frag}(hK:X.K=K)(pa:PlainAttrs T)(ae:Slot T f id)(af:typeOf (.builtin id)=pure (.type "method_descriptor"))(hm:MtR X id r)(ho:PE X j to)(ha:PA X (e::c) B)
  (aa:attributeBase j f X.env (eval j X.env)=eval j X.env:=by rfl)
  (ac:((backTo b (starEach (e::c) X.env)).all (fun x=>!x.1)&&(backToKw b (keywordEach [] X.env)).all (fun x=>x.1.isSome)&&decide ((e::c).length+([]:List Keyword).length+(if([]:List Keyword).isEmpty then 0 else 1)<30))=true:=by rfl)
  (ab:(g.endLine==b.line)=true:=by rfl) (hs:starEach (e::c) X.env=(false,eval e X.env)::starEach c X.env:=by rfl) (a0:(backTo b (starEach c X.env)).any (·.1)=false:=by rfl) :
  PE X (.Call (.Attribute j f g) (e::c) [] b) (tBM K T r to B):=by
 subst hK;exact xo pa ae af hm ho ha aa ac ab hs a0
end
end L2
namespace L2
open PySem PySem.Spec PyProof.Rows PySem.W
def KRun{α:Type}(b:Nat->Nat->Bool)(n:Nat):KasT α->(α->Prop)->Prop
 | .ret a,Q=>Q a
 | .ask i j k,Q=>i<n/\j<n/\KRun b n (k (b i j)) Q
theorem KRun.mono{α:Type}{g:Nat->Nat->Bool}{n:Nat}{Q f:α->Prop}(h:∀a,Q a->f a):∀{t:KasT α},KRun g n t Q->KRun g n t f
 | .ret a,x=>h a x
 | .ask i j k,⟨a,b,c⟩=>⟨a,b,KRun.mono h c⟩
theorem KRun.bind{α β:Type}{g:Nat->Nat->Bool}{n:Nat}{f:α->KasT β}{Q:β->Prop}:∀{t:KasT α},KRun g n t (fun a=>KRun g n (f a) Q)->KRun g n (t.bind f) Q
 | .ret a,x=>x
 | .ask i j k,⟨a,b,c⟩=>⟨a,b,KRun.bind c⟩
theorem KRun.wp{α:Type}{l:Nat->Nat->Bool}{n:Nat}{ask:Nat->Nat->(Bool->Shared->Prop)->Shared->Prop}{J:Shared->Prop}{Q:α->Prop}{G:α->Shared->Prop}
  (w:∀i j,i<n->j<n->∀(C:Bool->Shared->Prop) s,J s->(∀g,J g->C (l i j) g)->ask i j C s) (hg:∀a s,Q a->J s->G a s):∀{t:KasT α} {s:Shared},KRun l n t Q->J s->t.kasWp ask G s
 | .ret a,s,x,j=>hg a s x j
 | .ask i j k,s,⟨a,b,c⟩,A=>w i j a b _ s A fun g f=>KRun.wp w hg c f
section
variable{n:Nat}{r:Nat->Nat}
def vA(r:Nat->Nat)(p:Array Nat)(k:Nat):Nat:=r (p.getD k 0)
structure Gd(n:Nat)(p:Array Nat):Prop where
 pm:p.toList.Perm (List.range n)
theorem Gd.sz{p:Array Nat}(g:Gd n p):p.size=n:=by have:=g.pm.length_eq;rwa[jE,vd] at this
theorem Gd.at{p:Array Nat}(g:Gd n p){k:Nat}(h:k<n):p[k]? =some (p.getD k 0):=by
 rw[Yv,wE (by rw[g.sz];exact h)]
 rfl
theorem Gd.lt{p:Array Nat}(g:Gd n p)(f:0<n)(k:Nat):p.getD k 0<n:=by
 by_cases h:k<n
 ·have:=g.at h
  rw[<- ya] at this;exact jJ.mp (g.pm.mem_iff.mp (zY this))
 ·rw[Yv,XI (by rw[g.sz];omega)]
  exact f
theorem Gd.inj{p:Array Nat}(g:Gd n p)(b:∀i j,i<n->j<n->r i=r j->i=j){i j:Nat}(s:i<n)(w:j<n)(e:vA r p i=vA r p j):i=j:=by
 have f:0<n:=by omega
 have h1:=b _ _ (g.lt f i) (g.lt f j) e;have A:p.toList.Nodup:=g.pm.nodup_iff.mpr Zg;have a1:=g.at s;have a2:=g.at w;rw[<- ya] at a1 a2;obtain⟨b1,c1⟩:=zK.mp a1;obtain⟨b2,l⟩:=zK.mp a2;exact(W3 A).mp (by rw[c1,l,h1])
def AscA(r:Nat->Nat)(p:Array Nat)(m:Nat):Prop:=∀i j,i<j->j<m->vA r p i<vA r p j
def DscA(r:Nat->Nat)(p:Array Nat)(m:Nat):Prop:=∀i j,i<j->j<m->vA r p j<vA r p i
theorem AscA.step{p:Array Nat}{m:Nat}(h:AscA r p m)(h1:1<=m)(g:vA r p (m-1)<vA r p m):AscA r p (m+1):=fun i j f l=>by
 by_cases e:j=m
 ·subst e
  by_cases e2:i=j-1
  ·subst e2;exact g
  ·have:=h i (j-1) (by omega) (by omega)
   omega
 ·exact h i j f (by omega)
theorem DscA.step{p:Array Nat}{m:Nat}(h:DscA r p m)(h1:1<=m)(g:vA r p m<vA r p (m-1)):DscA r p (m+1):=fun i j f l=>by
 by_cases e:j=m
 ·subst e
  by_cases e2:i=j-1
  ·subst e2;exact g
  ·have:=h i (j-1) (by omega) (by omega)
   omega
 ·exact h i j f (by omega)
variable{c:Nat->Nat->Bool}(b:∀i j,i<n->j<n->r i=r j->i=j)(hb:∀i j,i<n->j<n->c i j=decide (r i<r j))
include b hb
end
end L2
namespace L2
open PySem PySem.Spec PyProof.Rows PySem.W
section
variable{b:Program}{w:World}{A:Around}{E:Value->Shared->Prop}{s:Shared}
end
end L2
namespace L2
open PySem PySem.Spec PyProof.Rows PySem.W
section
variable{X:Cx}{b:List (Addr×Obj)}{σ:St}{s:Shared}
end
end L2
namespace L2
open PySem PySem.Spec PyProof.Rows PySem.W
section
variable{X:Cx}
def Yz(p d:Addr):HO:=.ext fun h=>h.IsItemsView p d
end
end L2
namespace L2
open PySem PySem.Spec PyProof.Rows
section
variable{X:Cx}
variable{f c:Expr}{g:List Expr}{b:Scope}{j:Pos}{G:TI}{D:TT}{B:TE}{x y z:Str}{s w A E:Pos}{l:Nat}
end
section
variable{X:Cx}
end
section
variable{X:Cx}{f A c:Expr}{j:List Expr}{b:Scope}{l:Pos}{B:TI}{g:TG}{w:TT}{s:TE}{x:Str}
end
end L2
namespace L2
open PySem PySem.Spec PyProof.Rows PySem.W
section
variable{b:Program}{w:World}{A:Around}{E:Value->Shared->Prop}{s:Shared}
end
end L2
namespace L2
open PySem PySem.Spec PyProof.Rows PySem.W
def ltP(a b:Int×Int):Bool:=decide (a.1<b.1\/a.1=b.1/\a.2<b.2)
theorem zaj(a:Int×Int):ltP a a=false:=qZ (by omega)
def PrR(H:Hp)(c:List V)(b:List (Int×Int)):Prop:=c.length=b.length/\∀(j:Nat) q,b[j]? =some q->∃T,c[j]? =some (.ref T)/\H T=some (.tup [.int q.1,.int q.2])
theorem PrR.nil{H:Hp}:PrR H [] []:=⟨rfl,fun j q e=>by simp at e⟩
theorem PrR.same{H c:Hp}{g:List V}{f:List (Int×Int)}(h:PrR H g f)(s:Same H c):PrR c g f:=⟨h.1,fun j k e=>let ⟨T,a,b⟩:=h.2 j k e;⟨T,a,s _ _ b⟩⟩
theorem PrR.snoc{H:Hp}{l:List V}{c:List (Int×Int)}{q:Int×Int}{T:Addr}(h:PrR H l c)(e:H T=some (.tup [.int q.1,.int q.2])):PrR H (l++[.ref T]) (c++[q]):=by
 refine⟨by rw[zS,zS,h.1];rfl,fun j r b=>?_⟩
 by_cases f:j<c.length
 ·rw[xQ f] at b
  obtain⟨U,e1,e2⟩:=h.2 j r b;exact⟨U,by rw[xQ (by rw[h.1];exact f)];exact e1,e2⟩
 ·have g:=(zK.mp b).1
  rw[zS] at g;have s:j=c.length:=by simp at g;omega
  subst s;rw[xR (zC _),ym] at b;have:q=r:=by simpa using b
  subst this;exact⟨T,by rw[<- h.1,xR (zC _),ym];rfl,e⟩
section
variable{X:Cx}
def zdJ(X:Cx)(f:Value)(j:List (Str×Value))(r:List V->Hp->VK->Prop):Prop:=
 ∀(b:List (Addr×Obj)) (s:Shared) (σ:St) (H:Hp) (g:List V) (c:List Value) (Q:VK),Inv X b σ H s->Vals g c->r g H Q->wpAny (model X.prog X.w) X.A (call f c j) (EP X b σ Q) X.xe s
end
end L2
namespace L2
open PySem PySem.Spec PyProof.Rows
section
variable{X:Cx}
theorem zdT{K:W.Frag}(h:X.K=K):SlR X (zfM K):=by rw[<- h];exact Wr
theorem WS{K:W.Frag}(h:X.K=K)(hc:X.calm=true):CallR X (.builtin "any") (wN K):=by subst h;exact JG hc
end
def AtQ(K:W.Frag)(H:Hp)(t:Bool)(a:Addr)(b:List V):Prop:=if t=true then SqT K H a b else H a=some (.lst b)
def SqQ(K:W.Frag)(H:Hp)(t:Bool)(a:Addr)(b:List V):Prop:=if t=true then SqT K H a b else SqL K H a b
theorem AtQ.sq{K:W.Frag}{H:Hp}{t:Bool}{a:Addr}{b:List V}(h:AtQ K H t a b):SqQ K H t a b:=by
 cases t with
 | true=>exact h
 | false=>exact u4 h
theorem AtQ.same{K:W.Frag}{H b:Hp}{t:Bool}{a:Addr}{c:List V}(h:AtQ K H t a c)(s:Same H b):AtQ K b t a c:=by
 cases t with
 | true=>exact s.sqT h
 | false=>exact s _ _ h
def oQ(t:Bool)(b:List V):HO:=if t=true then .tup b else .lst b
def Tkn(H:Hp)(b:List Addr):Prop:=∀e∈b,∃o,H e=some o
theorem Tkn.out{H:Hp}{b:List Addr}{p:Addr}(h:Tkn H b)(hp:H p=none):p∉b:=fun z=>by
 obtain⟨o,e⟩:=h p z;rw[hp] at e;cases e
theorem AtQ.new{K:W.Frag}{H:Hp}{c:List Addr}{p:Addr}(T:Tkn H c)(hp:H p=none)(t:Bool)(b:List V):AtQ K (WX c (upd H p (oQ t b))) t p b:=by
 have:=WX.at (T.out hp) (zc (H:=H) (a:=p) (o:=oQ t b));cases t with
 | true=>exact u5 this
 | false=>exact this
section
variable{X:Cx}
end
end L2
namespace PySem
section
variable{b:Program}{w:World}{A:Around}{d:Addr}{f:Array DictEntry}{c:Nat}
end
end PySem
namespace L2
open PySem PySem.Spec PyProof.Rows
section
variable{X:Cx}
end
section
variable{X:Cx}
variable{o e:Expr}{g:List Expr}{to:TE}{t:TA}{f:Str}{b c:Pos}{id:String}{r:V->List V->Hp->VK->Prop}
end
end L2
namespace L2
open PySem PySem.Spec PyProof.Rows PySem.W
section
variable{X:Cx}
def ziK(f:TE):TE:=fun σ H R=>f σ H fun x c=>∃d b,x=.ref d/\c d=some (.dK b)/\∀o,R x (upd c d (.frz o (.dK b)))
theorem zf1{e:Expr}{j:TE}(D:PE X e j):PE X e (ziK j):=by
 intro f s σ H R I h;refine thn (D f s σ H _ I h) fun v s1 ⟨x,l,g,G,E⟩=>?_
 obtain⟨d,c,e,hd,q⟩:=E;subst e;obtain⟨z,y,J,r,o,A,w,h1,B⟩:=(show ObjOk X.prog X.w l s1.heap d (.dK c) from g.hok d _ hd)
 refine⟨.ref d,_,g.write (s:=s1) (t':=s1.toks) (h':=s1.heap) (x:=d) (e:=d) (o:=.frz o (.dK c)) (by rw[hd];exact True.intro) (.inl rfl) (fun b u _ e=>e) ⟨o,h1⟩ ?_,G,q o⟩
 exact⟨h1,z,y,J,r,o,A,w,h1,B⟩
inductive Y7(x:V)(c:List V)(H:Hp)(Q:VK):Prop
 | mk (d o b:_) (_:x=.ref d) (_:c=[]) (_:H d=some (.frz o (.dK b))) (_:∀p,H p=none->Q (.ref p) (upd H p (Yz p d))):Y7  x c H Q
theorem zbj:MtM X "dict.items" Y7:=by
 intro f s σ H x g v J Q I D B h;obtain⟨d,o,w,rfl,rfl,hd,q⟩:=h;cases D;cases B;obtain⟨L,lo,g,A,c⟩:=wZ I.hok (.inr ⟨o,hd⟩);have j:H s.heap.objs.size=none:=I.hok.fresh (zC _);refine call_meetsIn PySem.F.slot_dict_items c.typeIs PySem.F.entry_dict_items (PySem.F.args_dict_items_1 _) (meets_dict_items (zO X.prog X.w) d lo) ⟨⟨g,c⟩,?_⟩
 exact⟨.ref s.heap.objs.size,_,I.laid (a:=s.heap.objs.size) (o:=Yz s.heap.objs.size d) (t':=s.toks) (fun b u e=>zV _ e) (zC _) ⟨⟨_,zT _ rfl,rfl,rfl⟩,⟨_,zT _ rfl⟩,fun h1 E x e=>let ⟨o,l,r⟩:=x;⟨o,e o l,r⟩⟩,rfl,q _ j⟩
end
def ItV(d:Addr)(o:Obj)(b:List (Key×V)):It:=
 ⟨fun i H=>H d=some (.frz o (.dK b))/\i<b.length,fun i H x c=>∃T k v,x=.ref T/\H T=none/\c=upd H T (.tup [kV k,v])/\b[i]? =some (k,v),fun i H=>H d=some (.frz o (.dK b))/\b.length<=i⟩
theorem zdf{P:Program}{w:World}{H:Hp}{h:Heap}{d:Addr}{o:Obj}{b:List (Key×V)}{g:Array DictEntry}{f:Nat}(ok:HOk P w H h)(e:H d=some (.frz o (.dK b)))(l:o.data=.dict g f) :
  (d==sysModules)=false/\∃c,KV b c/\h.DictAt (zO P w) d c f:=by
 obtain⟨e1,z,y,c,r,I,A,s,h1,B,j,D,E,G⟩:=(show ObjOk P w H h d (.frz o (.dK b)) from ok d _ e)
 rw[e1] at h1;cases h1;rw[l] at j;cases j;exact⟨y,c,r,o,g,e1,B,l,D,E,G⟩
theorem za2{P:Program}{w:World}{K:W.Frag}{j:List Expr}{kk:Nat}{a0:Pos}(d c:Addr)(o:Obj)(f:List (Key×V))(es:Array DictEntry)(ep:Nat)(he:o.data=.dict es ep) :
  wX P w K (.Tuple j kk a0) (ItV d o f) [c] c (fun i h=>∃ok ov,IsItemIter h c d i f.length ep ok ov) where
 mem:=by simp
 obj:=fun i h st b hb=>by
  have e:b=c:=by simpa using hb
  subst e;obtain⟨_,_,st⟩:=st;exact⟨_,st,fun v z=>nomatch z⟩
 keep:=fun i h M st k=>let ⟨a,b,st⟩:=st;⟨a,b,k c (by simp) _ st⟩
 item:=by
  intro X O U N hc i B s σ H E I D st hg;subst O U N;obtain⟨hd,hi⟩:=hg;obtain⟨ok,ov,st⟩:=st;obtain⟨lo,vs,r,G⟩:=zdf I.hok hd he;have ln:=r.length;obtain⟨⟨k,v⟩,hx⟩:∃p,f[i]? =some p:=⟨f[i],by simp[hi]⟩
  obtain⟨⟨k',u⟩,hy⟩:∃p,vs[i]? =some p:=⟨vs[i]'(by omega),by simp⟩
  obtain⟨p',e6,J,L⟩:=KV.get r hy;rw[hx] at e6;cases e6;have J:k=k':=J;subst J;have L:RelV v u:=L;rw[ln] at st;refine wpAny_pyNext_items_item st G hy fun Y M hk l hT aa g=>?_
  refine⟨_,rfl,wpAny_letOwnedTupleGo_items l fun h2 T A=>?_⟩
  have eT:s.heap.objs.size≠c:=vW (zF st);have k2:∀b o,b∉[c]->s.heap.get? b=some o->h2.get? b=some o:=fun b o hb q=>by
   have n1:b≠c:=fun z=>hb (by simp[z])
   exact(A.2 b n1).trans (g b o n1 q)
  refine⟨.ref s.heap.objs.size,upd H s.heap.objs.size (.tup [kV k,v]),?_,rfl,⟨_,k,v,rfl,I.hok.fresh (zC _),rfl,hx⟩,⟨_,_,by rw[ln];exact T⟩,fun b hb=>?_⟩
  ·exact ZP (s:=s) (h':=h2) (t':=s.toks) (its:=[Y,u]) I D (zC _) k2 (by rw[sizeLine_eq];exact(by decide:2<=16777216)) (.cons (zfs hk) (.cons L .nil)) (TupX.by ((A.2 _ eT).trans hT))
  ·have Q:b<s.heap.objs.size:=by
    rw[qg.mp hb];exact zF st
   rw[zm (zU Q)];exact(D b hb).1
 done:=by
  intro X O U N hc i B s σ H E I D st hg;subst O U N;obtain⟨hd,hi⟩:=hg;obtain⟨ok,ov,st⟩:=st;obtain⟨lo,vs,r,G⟩:=zdf I.hok hd he;have ln:=r.length;obtain⟨f0,f1,f2,f3,f4,f5⟩:=D c (by simp)
  rw[ln] at st;exact wpAny_pyNext_items_end (I.ok.hd hc) st G (by simp;omega) fun M eb=>⟨rfl,I.turned (t':=s.toks) (fun b o hb e=>eb b o hb e) f0 f1 f3 f4 f5⟩
 self:=fun _ _ _ _ _ st h=>let ⟨_,_,st⟩:=st;kcp_self st h
section
variable{X:Cx}
def zif(f:TE):TI:=fun σ H R=>f σ H fun x c=>∃p d o b,x=.ref p/\c p=some (Yz p d)/\c d=some (.frz o (.dK b))/\R (ItV d o b) c
theorem zd2{l:Expr}{E:TE}{g:List Expr}{O:Nat}{Y:Pos}(N:PE X l E):PI X (.Tuple g O Y) l (zif E):=by
 intro j s σ H R I h;refine thn (N j s σ H _ I h) fun v s1 ⟨x,w,f,U,T⟩=>?_
 obtain⟨p,d,o,c,e,hp,hd,q⟩:=T;subst e;cases U;obtain⟨hv,_,_⟩:=(show ObjOk X.prog X.w w s1.heap p (Yz p d) from f.hok p _ hp)
 obtain⟨e1,z,y,vs,r,o',B,A,h1,G,D,J,L,M⟩:=(show ObjOk X.prog X.w w s1.heap d (.frz o (.dK c)) from f.hok d _ hd)
 rw[e1] at h1;cases h1;have ln:=r.length;refine wpAny_pyIter_items (knd:=zO X.prog X.w) (kvs:=vs) (ep:=A) hv ⟨o,B,e1,G,D,J,L,M⟩ ?_
 refine⟨s1.heap.objs.size,[s1.heap.objs.size],_,_,w,rfl,f.kept (t':=s1.toks) (fun b o e=>zV _ e),za2 d _ o c B A D,⟨.none,.none,by rw[ln];exact zT _ rfl⟩,fun b hb=>?_,q⟩
 have e:b=s1.heap.objs.size:=by simpa using hb
 subst e;exact f.fpOk (zC _) (f.hok.fresh (zC _))
end
theorem zeo{d:Addr}{o:Obj}{kvs:List (Key×V)}{n:Nat}{g:TG}{J:TT}{I:TE}{w:St}{R:List V->Hp->Prop}{H:Hp}(Pv:Nat->List V->Hp->Prop)(L:Pv 0 [] H)
  (h1:∀i c H,Pv i c H->H d=some (.frz o (.dK kvs)))
  (O:∀i k v c H T,kvs[i]? =some (k,v)->Pv i c H->H T=none->g (.ref T) w (upd H T (.tup [kV k,v])) fun j D=>j.drop n=w.drop n/\J j D fun b l=>if b=true then I j l fun v E=>c.length<sizeLine/\Pv (i+1) (c++[v]) E else Pv (i+1) c l)
  (hd:∀c H,Pv kvs.length c H->c.length<=sizeLine/\R c H) :
  ∃W:Nat->Nat->List V->Hp->Prop,(∃m,W 0 m [] H)/\∀i m c f,W i m c f ->
   ((ItV d o kvs).stop i f/\c.length<=sizeLine/\R c f) \/
   ((ItV d o kvs).go i f/\∃M:List V->Hp->Prop,(∀c A,M c A->∃G,G<m/\W (i+1) G c A)/\∀x B,(ItV d o kvs).yld i f x B->g x w B fun j D=>j.drop n=w.drop n/\J j D fun b l=>
    if b=true then I j l fun y E=>c.length<sizeLine/\M (c++[y]) E else M c l):=by
 refine⟨fun i m c f=>m=kvs.length-i/\i<=kvs.length/\Pv i c f,⟨_,rfl,qV _,L⟩,?_⟩
 rintro i m c f ⟨rfl,hi,p⟩;by_cases s:i<kvs.length
 ·refine .inr ⟨⟨h1 i c f p,s⟩,Pv (i+1),fun a0 A Q=>⟨_,by omega,rfl,s,Q⟩,fun x B y=>?_⟩
  obtain⟨T,k,v,e1,N,e2,y⟩:=y;subst e1 e2;exact O i k v c f T y p N
 ·have e:i=kvs.length:=by omega
  subst e;obtain⟨U,Y⟩:=hd c f p;exact .inl ⟨⟨h1 _ c f p,zC _⟩,U,Y⟩
end L2
namespace L2
open PySem PySem.Spec PyProof.Rows PySem.W
section
variable{X:Cx}
end
end L2
namespace L2
open PySem PySem.Spec PyProof.Rows PySem.W
section
variable{X:Cx}
def ZV(p d:Addr):HO:=.ext fun h=>h.IsValuesView p d
inductive zfj(x:V)(c:List V)(H:Hp)(Q:VK):Prop
 | mk (d b:_) (_:x=.ref d) (_:c=[]) (_:Rd H d (.dK b)) (_:∀p,H p=none->Q (.ref p) (upd H p (ZV p d))):zfj  x c H Q
theorem zbi:MtM X "dict.values" zfj:=by
 intro f s σ H x g v J Q I D B h;obtain⟨d,w,rfl,rfl,hd,q⟩:=h;cases D;cases B;obtain⟨L,lo,g,A,c⟩:=wZ I.hok hd;have j:H s.heap.objs.size=none:=I.hok.fresh (zC _);refine call_meetsIn PySem.F.slot_dict_values c.typeIs PySem.F.entry_dict_values (PySem.F.args_dict_values_1 _) (meets_dict_values (zO X.prog X.w) d lo) ⟨⟨g,c⟩,?_⟩
 exact⟨.ref s.heap.objs.size,_,I.laid (a:=s.heap.objs.size) (o:=ZV s.heap.objs.size d) (t':=s.toks) (fun b u e=>zV _ e) (zC _) ⟨⟨_,zT _ rfl,rfl,rfl⟩,⟨_,zT _ rfl⟩,fun h1 E x e=>let ⟨o,l,r⟩:=x;⟨o,e o l,r⟩⟩,rfl,q _ j⟩
inductive yQ(c:List V)(H:Hp)(Q:VK):Prop
 | mk (a d:Addr) (b:List (Key×V)) (_:c=[.ref a]) (_:H a=some (ZV a d)) (_:Rd H d (.dK b)) (_:∀p,H p=none->Q (.ref p) (upd H p (.lst (b.map (·.2))))):yQ c H Q
theorem WQ(T:X.A.handled=none):CallR X (.type "list") (yQ):=by
 intro E s σ H xs us Q I r h;obtain⟨a,d,l,rfl,O,hx,q⟩:=h;obtain⟨u,rfl,ru⟩:=Vals.one r;cases(show u=Value.ref a from ru)
 obtain⟨hv,_,_⟩:=(show ObjOk X.prog X.w H s.heap a (ZV a d) from I.hok a _ O)
 obtain⟨zz,hd,vs,A,L⟩:=wZ I.hok hx;obtain⟨D,J⟩:=L.dictAt;have ln:=A.length;refine PySem.W.kdl_call (PySem.W.kdl_values (prog:=X.prog) (w:=X.w) (knd:=zO X.prog X.w) (r:=a) (d:=d) (kvs:=vs) (ep:=D)) T ⟨hv,J⟩ (by omega) fun h' tk b c g B f=>?_
 have U:H s.heap.objs.size=none:=I.hok.fresh (zC _);refine⟨.ref s.heap.objs.size,_,I.laid (a:=s.heap.objs.size) (o:=.lst (l.map (·.2))) (t':=tk) g (zC _) ⟨by rw[zn];exact zz,b.toList,c,YB ?_ ?_,by rw[B]⟩,rfl,q _ U⟩
 ·have z:=f.1
  have y:b.toList.length=b.size:=jE;rw[zn];omega
 ·intro j u e
  rw[ya] at e;obtain⟨k,e1⟩:=f.2 j u e;obtain⟨p,M,_,N⟩:=KV.get A e1;exact⟨p.2,by rw[qm,M];rfl,N⟩
end
end L2
namespace L2
open PySem PySem.Spec PyProof.Rows PySem.W
section
variable{c:Program}{w:World}{A:Around}{E:Value->Shared->Prop}{s:Shared}
inductive Q0(c:Program)(w:World)(A:Around)(s:Shared):List Value->List Value->Bool->Prop
 | nil:Q0 c w A s [] [] false
 | nl {y j}:Q0 c w A s [] (y::j) true
 | ln {x f}:Q0 c w A s (x::f) [] false
 | eq {x y f j b} (h:∀(Q:Bool->Shared->Prop) E,Q true s->wpAny (model c w) A (eqBool x y) Q E s) (t:Q0 c w A s f j b):Q0 c w A s (x::f) (y::j) b
 | ne {x y f j b} (h:∀(Q:Bool->Shared->Prop) E,Q false s->wpAny (model c w) A (eqBool x y) Q E s) (g:∀(Q:Value->Shared->Prop) E,Q (.bool b) s->wpAny (model c w) A (richCompare .Lt x y) Q E s):Q0 c w A s (x::f) (y::j) b
theorem Q1{x y:Addr}{J G:Obj}{f j:Array Value}{n k:Nat}{b:Bool}{P:PySem.Fin->Shared->Prop}(hx:s.heap.get? x=some J)(M:J.data=.seq f n)(hy:s.heap.get? y=some G)(L:G.cls=.type "tuple")(N:G.data=.seq j k)
  (T:Q0 c w A s f.toList j.toList b) (h:P (.done (.ret (.bool b))) s):wpAny (model c w) A (Builtin.«tuple.__lt__» ⟨[.ref x,.ref y],[]⟩) P E s:=by
 show wpAny _ _ (isInstance (.ref y) (.type "tuple") >>= _) _ _ s;refine zf (yL (T:= "tuple") ⟨G,hy,L⟩ isSubtype_tuple_tuple ?_)
 simp only[Zd,jW,if_false];refine zf (wpAny_tupleItemsOf hx M (zf (wpAny_tupleItemsOf hy N (zf ?_))))
 refine wpAny_forIn_list _ (fun rest r H=>r.1=none/\H=s/\∃B D,rest=List.zip B D/\Q0 c w A s B D b/\B.length+j.size=D.length+f.size) _ ?_ ?_ _ _ ⟨rfl,rfl,f.toList,j.toList,rfl,T,by simp[Nat.add_comm]⟩
 ·rintro⟨u,v⟩ rest r H ⟨I,rfl,B,D,hz,t,l⟩
  cases t with
  | nil=>simp at hz
  | nl=>simp at hz
  | ln=>simp at hz
  | eq e t=>
   simp only[List.zip_cons_cons,List.cons.injEq,Xo] at hz;obtain⟨⟨rfl,rfl⟩,rfl⟩:=hz;refine zf (e _ _ ?_)
   simp only[Zd,jW,if_false];exact zv ⟨rfl,rfl,_,_,rfl,t,by simp only[jV] at l;omega⟩
  | ne e g=>
   simp only[List.zip_cons_cons,List.cons.injEq,Xo] at hz;obtain⟨⟨rfl,rfl⟩,rfl⟩:=hz;refine zf (e _ _ ?_)
   simp only[WV,if_true];refine zf (x6 (zf (g _ _ ?_)))
   exact zf (zv (zv (zv h)))
 ·rintro⟨O,Q⟩ H ⟨I,rfl,B,D,hz,t,l⟩
  simp only at I;subst I;refine zv ?_
  have hb:decide (f.size<j.size)=b:=by
   cases t with
   | nil=>exact qZ (by simp at l;omega)
   | nl=>exact zX (by simp at l;omega)
   | ln=>exact qZ (by simp at l;omega)
   | eq e t=>simp at hz
   | ne e g=>simp at hz
  show P (.done (.ret (.bool (decide (f.size<j.size))))) H;rw[hb];exact h
theorem zbT{x y:Addr}{f g:Obj}{B D:Array Value}{n k:Nat}{b:Bool}{Q:Value->Shared->Prop}(hu:A.units<cLine)(hx:s.heap.get? x=some f)(j:f.cls=.type "tuple")(G:f.data=.seq B n)(hy:s.heap.get? y=some g)(l:g.cls=.type "tuple")(H:g.data=.seq D k)
  (T:Q0 c w A.in1 s B.toList D.toList b) (h:Q (.bool b) s):wpAny (model c w) A (richCompare .Lt (.ref x) (.ref y)) Q E s:=
 wpAny_richCompare_same_room (op:=.Lt) (T:= "tuple") ⟨f,hx,j⟩ ⟨g,hy,l⟩ F.slot_tuple_lt
  (vY F.slot_tuple_lt ⟨f,hx,j⟩ F.entry_tuple_lt (Q1 hx G hy l H T ⟨_,rfl,(fun e=>nomatch e),h⟩) (F.args_tuple_lt_2 _ _)) hu
def ltN:List Int->List Int->Bool
 | [],[]=>false
 | [],_::_=>true
 | _::_,[]=>false
 | a::f,b::g=>if a=b then ltN f g else decide (a<b)
theorem eq_int(x y:Int)(t u:Tok){Q:Bool->Shared->Prop}(h:Q (decide (x=y)) s):wpAny (model c w) A (eqBool (.int x t) (.int y u)) Q E s:=by
 refine(zO c w).eqBool (a:=Sum.inl x) (b:=Sum.inl y) (wn ⟨t,rfl⟩) (wn ⟨u,rfl⟩) ?_
 rw[show decide ((Sum.inl x:Key)=Sum.inl y)=decide (x=y) from decide_eq_decide.mpr ⟨fun z=>vK z,fun z=>by rw[z]⟩]
 exact h
theorem zai(x y:Int)(t u:Tok){Q:Value->Shared->Prop}(h:Q (.bool (decide (x<y))) s):wpAny (model c w) A (richCompare .Lt (.int x t) (.int y u)) Q E s:=
 richCompare_gives (op:=.Lt) (typeIs_int s _ t) (typeIs_int s _ u) F.slot_int_lt F.entry_int_lt (F.args_int_lt_2 _ _) (gives_int_lt _ _ t u) (fun x=>nomatch x) h
theorem VE:∀{as bs:List Int} {f g:List Value},Vals (as.map V.int) f->Vals (bs.map V.int) g->Q0 c w A s f g (ltN as bs)
 | [],[],_,_,.nil,.nil=>.nil
 | [],_::_,_,_,.nil,.cons _ _=>.nl
 | _::_,[],_,_,.cons _ _,.nil=>.ln
 | a::as,b::bs,_,_,.cons ⟨t,e1⟩ j,.cons ⟨u,e2⟩ l=>by
  subst e1 e2;by_cases h:a=b
  ·have e:ltN (a::as) (b::bs)=ltN as bs:=zx h
   rw[e];exact .eq (fun Q E q=>eq_int a b t u (by rw[zX h];exact q)) (VE j l)
  ·have e:ltN (a::as) (b::bs)=decide (a<b):=zr h
   rw[e];exact .ne (fun Q E q=>eq_int a b t u (by rw[qZ h];exact q)) fun Q E q=>zai a b t u q
end
section
variable{b:Program}{w:World}{A:Around}{R:Result->Shared->Prop}{I S:Addr}{c f:List Addr}{n:Nat}{P:Nat->Value->Prop}{St:Nat->Heap->Prop}
end
end L2
namespace L2
open PySem PySem.Spec PyProof.Rows PySem.W
def WkR(H:Hp)(c:List V)(b:List (Int×List Int)):Prop:=c.length=b.length/\∀(j:Nat) q,b[j]? =some q->∃T U,c[j]? =some (.ref T)/\H T=some (.tup [.int q.1,.ref U])/\H U=some (.tup (q.2.map V.int))
theorem WkR.nil{H:Hp}:WkR H [] []:=⟨rfl,fun j q e=>by simp at e⟩
theorem WkR.same{H f:Hp}{l:List V}{g:List (Int×List Int)}(h:WkR H l g)(s:Same H f):WkR f l g:=⟨h.1,fun j k e=>let ⟨T,U,a,b,c⟩:=h.2 j k e;⟨T,U,a,s _ _ b,s _ _ c⟩⟩
theorem WkR.snoc{H:Hp}{l:List V}{c:List (Int×List Int)}{q:Int×List Int}{T U:Addr}(h:WkR H l c)(e:H T=some (.tup [.int q.1,.ref U]))(A:H U=some (.tup (q.2.map V.int))):WkR H (l++[.ref T]) (c++[q]):=by
 refine⟨by rw[zS,zS,h.1];rfl,fun j r b=>?_⟩
 by_cases f:j<c.length
 ·rw[xQ f] at b
  obtain⟨s,w,e1,e2,B⟩:=h.2 j r b;exact⟨s,w,by rw[xQ (by rw[h.1];exact f)];exact e1,e2,B⟩
 ·have g:=(zK.mp b).1
  rw[zS] at g;have D:j=c.length:=by simp at g;omega
  subst D;rw[xR (zC _),ym] at b;have:q=r:=by simpa using b
  subst this;exact⟨T,U,by rw[<- h.1,xR (zC _),ym];rfl,e,A⟩
theorem WkR.set{H:Hp}{l:List V}{g:List (Int×List Int)}{q:Int×List Int}{T U:Addr}{i:Nat}(h:WkR H l g)(e:H T=some (.tup [.int q.1,.ref U]))(A:H U=some (.tup (q.2.map V.int))):WkR H (l.set i (.ref T)) (g.set i q):=by
 refine⟨by rw[Zf,Zf,h.1],fun j r b=>?_⟩
 by_cases c:i=j
 ·subst c
  have f:=(zK.mp b).1;rw[Zf] at f;rw[XJ f] at b;cases b;exact⟨T,U,XJ (by rw[h.1];exact f),e,A⟩
 ·rw[XE c] at b
  obtain⟨s,w,e1,e2,B⟩:=h.2 j r b;exact⟨s,w,by rw[XE c];exact e1,e2,B⟩
section
variable{X:Cx}
end
end L2
namespace L2
open PySem PySem.Spec PyProof.Rows PySem.W
section
variable{X:Cx}
def ziP(r:V->List V->Hp->VK->Prop)(to:TE):TE:=fun σ H Q=>to σ H fun x b=>∃d,x=.ref d/\IsD b d/\r x [] b Q
theorem zcM{o:Expr}{to:TE}{b:Str}{c f:Pos}{id:String}{r:V->List V->Hp->VK->Prop}(w:Slot "dict" b id)(A:typeOf (.builtin id)=pure (.type "method_descriptor"))(G:MtM X id r)(J:PE X o to)
  (j:attributeBase o b X.env (eval o X.env)=eval o X.env:=by rfl) (l:(c.endLine==f.line)=true:=by rfl):PE X (.Call (.Attribute o b c) [] [] f) (ziP r to):=by
 intro g s σ H Q I h;refine wpAny_Call_method0_late j l (thn (J g s σ H _ I h) fun v s1 ⟨x,D,B,M,d,e,hd,L⟩=>?_)
 subst e;cases M;obtain⟨h1,E⟩:=WK B hd;exact⟨"dict",id,Yt,w,A,h1,E.1,QS rfl (PySem.evalArgs_none (G g s1 σ D (.ref d) [] _ [] Q B rfl .nil L))⟩
end
end L2
namespace L2
open PySem PySem.Spec PyProof.Rows
section
variable{X:Cx}
end
section
variable{b:Program}{w:World}{K:Type}[DecidableEq K]{c:KeyKind b w K}{A:Around}{E:Value->Shared->Prop}{s:Shared}
end
section
variable{X:Cx}
end
end L2
namespace L2
open PySem PySem.Spec PyProof.Rows PySem.W
theorem JL(a:Value):argsOk "min" ⟨[a],[(Str.ofString "default",.none)]⟩:=by unfold argsOk;kernel_rfl
theorem zh5(p q:Int×Int):ltP p q=ltN [p.1,p.2] [q.1,q.2]:=by
 show _=if p.1=q.1 then(if p.2=q.2 then false else decide (p.2<q.2)) else decide (p.1<q.1)
 unfold ltP;by_cases e1:p.1=q.1
 ·rw[zx e1]
  by_cases e2:p.2=q.2
  ·rw[zx e2];exact qZ (by omega)
  ·rw[zr e2];exact decide_eq_decide.mpr (by omega)
 ·rw[zr e1];exact decide_eq_decide.mpr (by omega)
def WG(b:List (Int×Int)):Nat:=argBest (fun i j=>ltP (b.getD i (0,0)) (b.getD j (0,0))) (b.length-1)
theorem zaD(f:Nat->Int×Int):∀n,argBest (fun i j=>ltP (f i) (f j)) n<=n/\∀j,j<=n->ltP (f j) (f (argBest (fun i j=>ltP (f i) (f j)) n))=false
 | 0=>⟨zC _,fun j g=>by rw[show j=0 by omega];exact zaj _⟩
 | n+1=>by
  obtain⟨h1,c⟩:=zaD f n;cases hb:ltP (f (n+1)) (f (argBest (fun i j=>ltP (f i) (f j)) n)) with
  | true=>
   have e:argBest (fun i j=>ltP (f i) (f j)) (n+1)=n+1:=by simp only[argBest,hb,if_true]
   rw[e];refine⟨zC _,fun j g=>?_⟩
   rcases Xn j (n+1) with z | z
   ·have a:=of_decide_eq_false (c j (by omega))
    have b:=ju hb;exact qZ (by omega)
   ·rw[show j=n+1 by omega];exact zaj _
  | false=>
   have e:argBest (fun i j=>ltP (f i) (f j)) (n+1)=argBest (fun i j=>ltP (f i) (f j)) n:=by simp only[argBest,hb,jW,if_false]
   rw[e];refine⟨by omega,fun j g=>?_⟩
   rcases Xn j (n+1) with z | z
   ·exact c j (by omega)
   ·rw[show j=n+1 by omega];exact hb
theorem zel{b:List (Int×Int)}(h:b≠[]):WG b<b.length:=by
 have:=(zaD (fun i=>b.getD i (0,0)) (b.length-1)).1
 have:=Zn.mpr h;unfold WG;omega
section
variable{f:Program}{w:World}{A:Around}{R:Result->Shared->Prop}{I S:Addr}{l g:List Addr}{n:Nat}{P:Nat->Value->Prop}{St:Nat->Heap->Prop}
theorem Qm(W:Walks f w A.in1 I l g n P St)(N:Nat->Nat->Bool)(J:Heap->Prop)(hJ:∀h B,J h->(∀b o,b∉g->b≠S->h.get? b=some o->B.get? b=some o)->J B)
  (hc:∀i j vi vj (s:Shared) (Q:Value->Shared->Prop) (E:Value->Shared->Prop),J s.heap->P i vi->P j vj->Q (.bool (N i j)) s->wpAny (model f w) A.in1 (richCompare .Lt vi vj) Q E s) (T:S∉l) :
  ∀(k j:Nat) (s:Shared) (D:Value) (c:Nat),n=j+1+k->St (j+1) s.heap->J s.heap->P (argBest N j) D->s.heap.get? S=some (seqObj "list" #[D,D] c) ->
   (∀v B Y,P (argBest N (n-1)) v->(∀b o,b∉g->b≠S->s.heap.get? b=some o->B.get? b=some o)->R (.ok (.ret v)) { s with heap:=B,toks:=Y }) ->
   codeAny (model f w) A (.builtin "min.loop" ⟨[.ref I,.none,.ref S],[("default",.none)]⟩) R s:=by
 have nw:S∉g:=fun h=>T (W.sub _ h)
 have nm:(toString "min" ++ toString ".loop" : String) = "min.loop" :=by decide
 intro k;induction k with
 | zero=>
  intro j s D c hn st j0 pb O hR;refine codeAny_builtin Xx ?_
  rw[Zo w8 _];show wpAny _ A.in1 (seqItems? (.ref S) >>= _) _ _ s;refine zf (x9 O rfl ?_)
  show wpAny _ A.in1 (tryCatch (pyNext (.ref I)) _ >>= _) _ _ s;have a0:St n s.heap:=by rw[hn];exact st
  refine zf (wG (W.done s _ _ a0 fun B Y H=>?_))
  show wpAny _ A.in1 (updateSeq S (fun _=>#[]) >>= _) _ _ _
  refine zf (wpAny_updateSeq (H S _ nw O) rfl (zf (yi (zv ?_))))
  exact hR D _ Y (by rw[hn];exact pb) fun b o b1 b2 e=>(QD _ _ (zM b2)).trans (H b o b1 e)
 | succ k ih=>
  intro j s D c hn st j0 pb O hR;refine codeAny_builtin Xx ?_
  rw[Zo w8 _];show wpAny _ A.in1 (seqItems? (.ref S) >>= _) _ _ s;refine zf (x9 O rfl ?_)
  show wpAny _ A.in1 (tryCatch (pyNext (.ref I)) _ >>= _) _ _ s;refine zf (wG (W.item (j+1) s _ _ (by omega) st fun v B Y pv U H=>?_))
  have G:=H S _ nw O;have j2:J B:=hJ _ _ j0 fun b o b1 _ e=>H b o b1 e
  show wpAny _ A.in1 (tryCatch (holding [v,v] (richCompare .Lt v D >>= _)) _ >>= _) _ _ _;refine zf (wG (x8 (zf (hc (j+1) (argBest N j) v D { s with heap:=B,toks:=Y } _ _ j2 pv pb ?_))))
  refine zf (x8 (vZ (zf (yi (zv ?_)))))
  cases hb:N (j+1) (argBest N j) with
  | true=>
   simp only[if_true];refine zf (wpAny_updateSeq G rfl (zf (yi ?_)))
   rw[nm];have L:∀b o,b≠S->B.get? b=some o->(B.update S (Obj.mapSeq fun _=>#[v,v])).get? b=some o:=fun b o b2 e=>(QD _ _ (zM b2)).trans e
   refine zv ⟨plainId_quiet w8 _,ih (j+1) _ v _ (by omega) (W.frame _ _ _ U fun b bf o e=>L b o (fun z=>T (by rw[<- z];exact bf)) e) (hJ _ _ j2 fun b o _ b2 e=>L b o b2 e) (by simp only[argBest,hb,if_true];exact pv) (yb _ G rfl) fun v' h2 M p2 k2=>?_⟩
   exact hR v' h2 M p2 fun b o b1 b2 e=>k2 b o b1 b2 (L b o b2 (H b o b1 e))
  | false=>
   simp only[jW,if_false];refine zf (yi ?_)
   rw[nm];refine zv ⟨plainId_quiet w8 _,ih (j+1) _ D c (by omega) U j2 (by simp only[argBest,hb,jW,if_false];exact pb) G fun v' h2 M p2 k2=>?_⟩
   exact hR v' h2 M p2 fun b o b1 b2 e=>k2 b o b1 b2 (H b o b1 e)
end
section
variable{X:Cx}
theorem Qc{id:String}{r:List V->Hp->VK->Prop}{x:Str}{p c O:Pos}{e w:Expr}{g:List Expr}{t:TA}(hc:zdJ X (.builtin id) [(Str.ofString "default",.none)] r)(hg:Gl X x)(M:X.mg x=none)(hv:bootBuiltins x=some (.builtin id))(J:PA X (e::g) t)(hk:PE X w (tC .non))
  (N:x ≠ "__name__" :=by decide) (l:(x==("__debug__":Str))=false:=by decide)
  (L:backTo c (starEach (e::g) X.env)=(false,eval e X.env)::backTo c (starEach g X.env):=by rfl)
  (f:(backTo c (starEach (e::g) X.env)).any (·.1)=false:=by rfl) :
  PE X (.Call (.Name x p) (e::g) [⟨some (Str.ofString "default"),w,O⟩] c) (tCB r t):=by
 intro b s σ H Q I h;refine wpAny_Call_Name_kw (vt I hg M hv ?_ N l)
 refine callWith_kw (thn (J c b s σ H _ I h) fun us s1 ⟨A,B,D,Y,T⟩=>kws_cons (thn (hk b s1 σ B (fun u j=>u=.non/\r A j Q) D ⟨rfl,T⟩) fun v s2 ⟨u,j,E,ru,G,U⟩=>kws_nil ?_)) L f rfl rfl
 subst G;cases(show v=Value.none from ru)
 exact hc b s2 σ j A us Q E Y U
inductive ZD(K:W.Frag)(f:List V)(H:Hp)(Q:VK):Prop
 | mk (p:Addr) (c:List V) (b:List (Int×Int)) (_:f=[.ref p]) (_:SqL K H p c) (_:PrR H c b) (_:(b=[]->Q .non H)) (_:∀v,b≠[]->c[WG b]? =some v->Q v H):ZD K f H Q
theorem zbE(hc:X.calm=true)(hu:X.A.units+64<cLine):zdJ X (.builtin "min") [(Str.ofString "default",.none)] (ZD X.K):=by
 intro af s σ H xs us Q I r h;obtain⟨p,zs,g,rfl,hq,wk,qn,q⟩:=h;obtain⟨u,rfl,ru⟩:=xW r;cases(show u=_ from ru)
 obtain⟨f,rv,pl,hz⟩:=I.list hq;have hl:=pl.isList;have ai:=rv.length;have wl:=wk.1;have B:p<s.heap.objs.size:=let ⟨_,e,_⟩:=hl;zF e
 have nm:(toString "min" ++ toString ".loop" : String) = "min.loop" :=by decide
 have ah:X.A.in1.in1.units<cLine:=wD (QP (by decide:2<=64) _) hu
 have ab:X.A.in1.units<cLine:=wD (QP (by decide:1<=64) _) hu
 have tup:∀(j:Nat) v,f[j]? =some v->∃T q,v=Value.ref T/\g[j]? =some q/\∃o n t u,s.heap.get? T=some o/\o.cls=.type "tuple" /\ o.data=.seq #[.int q.1 t,.int q.2 u] n:=fun j v hj=>by
  have ag:=(zK.mp hj).1;have ek:g[j]? =some (g[j]'(by omega)):=qP _
  generalize g[j]'(by omega)=k at ek
  obtain⟨T,e1,e2⟩:=wk.2 j k ek;obtain⟨v',L,e5⟩:=rv.get e1;rw[hj] at L;cases L;cases(show v=Value.ref T from e5)
  obtain⟨_,ts,rt,⟨o,ho,a0,n,aa⟩,_⟩:=(show ObjOk X.prog X.w H s.heap T (.tup [.int k.1,.int k.2]) from I.hok T _ e2)
  cases rt with
  | cons r1 rt=>
   cases rt with
   | cons r2 rt=>
    cases rt;obtain⟨t1,rfl⟩:=r1;obtain⟨t2,rfl⟩:=r2;exact⟨T,k,rfl,ek,o,n,t1,t2,ho,a0,aa⟩
 refine kmk_tree F.kind_min F.plain_min F.entry_min (JL _) ?_
 show wpAny _ X.A.in1 (Builtin.Builtins.bindParams "min" ["key","default"] 0 ⟨[],[(Str.ofString "default",.none)]⟩ >>= _) _ _ s;refine zf (yj (show Builtin.Builtins.bindParams "min" ["key","default"] 0 ⟨[],[(Str.ofString "default",.none)]⟩=pure [none,some .none] from rfl) (zf (zv (zf (wpAny_pyIter_list hl ?_)))))
 refine zf (vf ?_)
 rw[nm];have hI:s.heap.objs.size<(s.heap.push { cls:=.type "list_iterator",data:=.fields #[.ref p,.int 0 0] }).objs.size:=by rw[xr];exact Zy _
 have J:(s.heap.push { cls:=.type "list_iterator",data:=.fields #[.ref p,.int 0 0] }).IsListIter s.heap.objs.size p 0:=⟨_,zT _ rfl,rfl,rfl⟩;have G:(s.heap.push { cls:=.type "list_iterator",data:=.fields #[.ref p,.int 0 0] }).IsList p f.toArray:=hl.push _;have k1:∀b o,s.heap.get? b=some o->(s.heap.push { cls:=.type "list_iterator",data:=.fields #[.ref p,.int 0 0] }).get? b=some o:=fun b o e=>zV _ e
 generalize s.heap.push { cls:=.type "list_iterator",data:=.fields #[.ref p,.int 0 0] }=h1 at hI J G k1;have W:=yh (prog:=X.prog) (w:=X.w) (A:=X.A.in1.in1) (I.ok.hd hc) s.heap.objs.size p (zU B) f.toArray;have W':=yh (prog:=X.prog) (w:=X.w) (A:=X.A.in1) (I.ok.hd hc) s.heap.objs.size p (zU B) f.toArray;have E:h1.objs.size∉[s.heap.objs.size,p]:=by
  intro z;rcases zR.mp z with z | z
  ·omega
  ·exact vM _ (yn B (qg.mp z▸hI))
 have hS:(h1.push { cls:=.type "list",data:=.seq ([]:List Value).toArray }).get? h1.objs.size=some (seqObj "list" #[] 0):=zT _ rfl;refine zv ⟨plainId_quiet w8 _,codeAny_builtin Xx ?_⟩
 rw[Zo w8 _];show wpAny _ _ (seqItems? (.ref h1.objs.size) >>= _) _ _ _;refine zf (x9 hS rfl ?_)
 show wpAny _ _ (tryCatch (pyNext (.ref s.heap.objs.size)) _ >>= _) _ _ _;by_cases l:g=[]
 ·have il:f.length=0:=by have z:=wl;rw[l,QL] at z;omega
  have e0:f.toArray.size=0:=by rw[zN];exact il
  refine zf (wG (W'.done { s with heap:=h1.push { cls:=.type "list",data:=.seq ([]:List Value).toArray } } _ _ (by rw[e0];exact⟨J.at fun o e=>zV _ e,G.push _⟩) fun D tk kk=>?_))
  show wpAny _ _ (rule _ >>= _) _ _ _;refine zf (x6 ?_)
  refine zv ?_
  exact⟨.non,H,I.kept (h':=D) (t':=tk) (fun b o e=>kk b o (fun z=>zU (zF e) (qg.mp z)) (zV _ (k1 b o e))),rfl,qn l⟩
 ·have h0:0<g.length:=Zn.mpr l
  refine zf (wG (W'.item 0 { s with heap:=h1.push { cls:=.type "list",data:=.seq ([]:List Value).toArray } } _ _ (by rw[zN];omega) ⟨J.at fun o e=>zV _ e,G.push _⟩ fun v D tk pv ac kk=>?_))
  have nw:h1.objs.size∉[s.heap.objs.size]:=fun z=>E (by simp at z;omega)
  have M:=kk _ _ nw hS;show wpAny _ _ (updateSeq h1.objs.size (fun _=>#[v,v]) >>= _) _ _ _
  refine zf (wpAny_updateSeq M rfl ?_)
  rw[nm];have O:∀b o,b≠h1.objs.size->D.get? b=some o->(D.update h1.objs.size (Obj.mapSeq fun _=>#[v,v])).get? b=some o:=fun b o b2 e=>(QD _ _ (zM b2)).trans e
  have all:∀b o,s.heap.get? b=some o->b≠s.heap.objs.size/\b≠h1.objs.size:=fun b o e=>⟨zU (zF e),zU (yn (zF e) hI)⟩
  have j0:∀b o,s.heap.get? b=some o->(D.update h1.objs.size (Obj.mapSeq fun _=>#[v,v])).get? b=some o:=fun b o e=>
   O b o (all b o e).2 (kk b o (fun z=>(all b o e).1 (qg.mp z)) (zV _ (k1 b o e)))
  refine zv ⟨plainId_quiet w8 _,Qm (S:=h1.objs.size) W' (fun i j=>ltP (g.getD i (0,0)) (g.getD j (0,0))) (fun h=>∀b o,s.heap.get? b=some o->h.get? b=some o) (fun h h2 a b c o e=>b c o (fun z=>(all c o e).1 (qg.mp z)) (all c o e).2 (a c o e)) ?_ E (f.length-1) 0 _ v _ (by rw[zN];omega) (W'.frame _ _ _ ac fun b bf o e=>O b o (fun z=>E (by rw[<- z];exact bf)) e) j0 pv (yb _ M rfl) fun v' h2 ae p2 k2=>?_⟩
  ·intro i j vi vj s2 Q2 E2 jj hi hj N
   have ei:f[i]? =some vi:=by simpa using hi
   have ej:f[j]? =some vj:=by simpa using hj
   obtain⟨T,Y,rfl,fi,oi,ni,ti,ui,a1,a2,a3⟩:=tup i vi ei;obtain⟨T',qj,rfl,fj,oj,nj,tj,uj,b1,b2,b3⟩:=tup j vj ej;rw[ZA,fi,ZA,fj] at N;refine zbT ab (jj _ _ a1) a2 a3 (jj _ _ b1) b2 b3 ?_ N
   show Q0 X.prog X.w X.A.in1.in1 s2 [.int Y.1 ti,.int Y.2 ui] [.int qj.1 tj,.int qj.2 uj] (ltP Y qj);rw[zh5];exact VE (as:=[Y.1,Y.2]) (bs:=[qj.1,qj.2]) (.cons ⟨_,rfl⟩ (.cons ⟨_,rfl⟩ .nil)) (.cons ⟨_,rfl⟩ (.cons ⟨_,rfl⟩ .nil))
  ·rw[zN] at p2
   have e2:f[WG g]? =some v':=by
    have:f.length=g.length:=by omega
    unfold WG;rw[<- this];simpa using p2
   have hm:=zel l;have e3:zs[WG g]? =some (zs[WG g]'(by omega)):=qP _
   obtain⟨v2,L,e5⟩:=rv.get e3;rw[e2] at L;cases L;refine⟨_,H,I.kept (h':=h2) (t':=ae) (fun b o e=>k2 b o (fun z=>(all b o e).1 (qg.mp z)) (all b o e).2 (j0 b o e)),e5,q _ l e3⟩
end
end L2
namespace L2
open PySem PySem.Spec PyProof.Rows
section
variable{X:Cx}
end
end L2
namespace L2
open PySem PySem.Spec PyProof.Rows PySem.W
theorem zaE(f:Nat->Int):∀n,argBest (fun i j=>decide (f i<f j)) n<=n/\∀j,j<=n->f (argBest (fun i j=>decide (f i<f j)) n)<=f j
 | 0=>⟨zC _,fun j g=>by rw[show j=0 by omega];exact Zb _⟩
 | n+1=>by
  obtain⟨h1,c⟩:=zaE f n;cases hb:decide (f (n+1)<f (argBest (fun i j=>decide (f i<f j)) n)) with
  | true=>
   have e:argBest (fun i j=>decide (f i<f j)) (n+1)=n+1:=by simp only[argBest,hb,if_true]
   rw[e];refine⟨zC _,fun j g=>?_⟩
   have b:=ju hb;rcases Xn j (n+1) with z | z
   ·have a:=c j (by omega)
    omega
   ·rw[show j=n+1 by omega];exact Zb _
  | false=>
   have e:argBest (fun i j=>decide (f i<f j)) (n+1)=argBest (fun i j=>decide (f i<f j)) n:=by simp only[argBest,hb,jW,if_false]
   rw[e];refine⟨by omega,fun j g=>?_⟩
   have b:=of_decide_eq_false hb;rcases Xn j (n+1) with z | z
   ·exact c j (by omega)
   ·rw[show j=n+1 by omega];omega
section
variable{X:Cx}
inductive yP(K:W.Frag)(c:List V)(H:Hp)(Q:VK):Prop
 | mk (p:Addr) (b:List Int) (_:c=[.ref p]) (_:SqL K H p (b.map V.int)) (_:(b=[]->Q .non H)) (_:∀m,m∈b->(∀k∈b,m<=k)->Q (.int m) H):yP K c H Q
theorem WP(hc:X.calm=true)(hu:X.A.units+64<cLine):zdJ X (.builtin "min") [(Str.ofString "default",.none)] (yP X.K):=by
 intro af s σ H xs us Q I r h;obtain⟨p,g,rfl,hq,qn,q⟩:=h;obtain⟨u,rfl,ru⟩:=xW r;cases(show u=_ from ru)
 obtain⟨f,rv,pl,hz⟩:=I.list hq;have hl:=pl.isList;have O:=rv.length;have wl:(g.map V.int).length=g.length:=zn ..;have ab:f.length=g.length:=by rw[<- wl];first| exact O | exact O.symm
 have l:p<s.heap.objs.size:=let ⟨_,e,_⟩:=hl;zF e
 have nm:(toString "min" ++ toString ".loop" : String) = "min.loop" :=by decide
 have ah:X.A.in1.in1.units<cLine:=wD (QP (by decide:2<=64) _) hu
 have ai:X.A.in1.units<cLine:=wD (QP (by decide:1<=64) _) hu
 have tup:∀(j:Nat) v,f[j]? =some v->∃q t,v=Value.int q t/\g[j]? =some q:=fun j v L=>by
  have ag:=(zK.mp L).1;have ek:g[j]? =some (g[j]'(by omega)):=qP _
  generalize g[j]'(by omega)=k at ek
  obtain⟨v',e4,e5⟩:=rv.get (show(g.map V.int)[j]? =some (.int k) by rw[qm,ek];rfl)
  rw[L] at e4;cases e4;obtain⟨t,rfl⟩:=e5;exact⟨k,t,rfl,ek⟩
 refine kmk_tree F.kind_min F.plain_min F.entry_min (JL _) ?_
 show wpAny _ X.A.in1 (Builtin.Builtins.bindParams "min" ["key","default"] 0 ⟨[],[(Str.ofString "default",.none)]⟩ >>= _) _ _ s;refine zf (yj (show Builtin.Builtins.bindParams "min" ["key","default"] 0 ⟨[],[(Str.ofString "default",.none)]⟩=pure [none,some .none] from rfl) (zf (zv (zf (wpAny_pyIter_list hl ?_)))))
 refine zf (vf ?_)
 rw[nm];have hI:s.heap.objs.size<(s.heap.push { cls:=.type "list_iterator",data:=.fields #[.ref p,.int 0 0] }).objs.size:=by rw[xr];exact Zy _
 have J:(s.heap.push { cls:=.type "list_iterator",data:=.fields #[.ref p,.int 0 0] }).IsListIter s.heap.objs.size p 0:=⟨_,zT _ rfl,rfl,rfl⟩;have E:(s.heap.push { cls:=.type "list_iterator",data:=.fields #[.ref p,.int 0 0] }).IsList p f.toArray:=hl.push _;have k1:∀b o,s.heap.get? b=some o->(s.heap.push { cls:=.type "list_iterator",data:=.fields #[.ref p,.int 0 0] }).get? b=some o:=fun b o e=>zV _ e
 generalize s.heap.push { cls:=.type "list_iterator",data:=.fields #[.ref p,.int 0 0] }=h1 at hI J E k1;have W:=yh (prog:=X.prog) (w:=X.w) (A:=X.A.in1.in1) (I.ok.hd hc) s.heap.objs.size p (zU l) f.toArray;have Y:=yh (prog:=X.prog) (w:=X.w) (A:=X.A.in1) (I.ok.hd hc) s.heap.objs.size p (zU l) f.toArray;have D:h1.objs.size∉[s.heap.objs.size,p]:=by
  intro z;rcases zR.mp z with z | z
  ·omega
  ·exact vM _ (yn l (qg.mp z▸hI))
 have hS:(h1.push { cls:=.type "list",data:=.seq ([]:List Value).toArray }).get? h1.objs.size=some (seqObj "list" #[] 0):=zT _ rfl;refine zv ⟨plainId_quiet w8 _,codeAny_builtin Xx ?_⟩
 rw[Zo w8 _];show wpAny _ _ (seqItems? (.ref h1.objs.size) >>= _) _ _ _;refine zf (x9 hS rfl ?_)
 show wpAny _ _ (tryCatch (pyNext (.ref s.heap.objs.size)) _ >>= _) _ _ _;by_cases G:g=[]
 ·have il:f.length=0:=by rw[ab,G];rfl
  have e0:f.toArray.size=0:=by rw[zN];exact il
  refine zf (wG (Y.done { s with heap:=h1.push { cls:=.type "list",data:=.seq ([]:List Value).toArray } } _ _ (by rw[e0];exact⟨J.at fun o e=>zV _ e,E.push _⟩) fun B tk kk=>?_))
  show wpAny _ _ (rule _ >>= _) _ _ _;refine zf (x6 ?_)
  refine zv ?_
  exact⟨.non,H,I.kept (h':=B) (t':=tk) (fun b o e=>kk b o (fun z=>zU (zF e) (qg.mp z)) (zV _ (k1 b o e))),rfl,qn G⟩
 ·have h0:0<g.length:=Zn.mpr G
  refine zf (wG (Y.item 0 { s with heap:=h1.push { cls:=.type "list",data:=.seq ([]:List Value).toArray } } _ _ (by rw[zN];omega) ⟨J.at fun o e=>zV _ e,E.push _⟩ fun v B tk pv ac kk=>?_))
  have nw:h1.objs.size∉[s.heap.objs.size]:=fun z=>D (by simp at z;omega)
  have M:=kk _ _ nw hS;show wpAny _ _ (updateSeq h1.objs.size (fun _=>#[v,v]) >>= _) _ _ _
  refine zf (wpAny_updateSeq M rfl ?_)
  rw[nm];have T:∀b o,b≠h1.objs.size->B.get? b=some o->(B.update h1.objs.size (Obj.mapSeq fun _=>#[v,v])).get? b=some o:=fun b o b2 e=>(QD _ _ (zM b2)).trans e
  have all:∀b o,s.heap.get? b=some o->b≠s.heap.objs.size/\b≠h1.objs.size:=fun b o e=>⟨zU (zF e),zU (yn (zF e) hI)⟩
  have j0:∀b o,s.heap.get? b=some o->(B.update h1.objs.size (Obj.mapSeq fun _=>#[v,v])).get? b=some o:=fun b o e=>
   T b o (all b o e).2 (kk b o (fun z=>(all b o e).1 (qg.mp z)) (zV _ (k1 b o e)))
  refine zv ⟨plainId_quiet w8 _,Qm (S:=h1.objs.size) Y (fun i j=>decide (g.getD i 0<g.getD j 0)) (fun h=>∀b o,s.heap.get? b=some o->h.get? b=some o) (fun h h2 a b c o e=>b c o (fun z=>(all c o e).1 (qg.mp z)) (all c o e).2 (a c o e)) ?_ D (f.length-1) 0 _ v _ (by rw[zN];omega) (Y.frame _ _ _ ac fun b bf o e=>T b o (fun z=>D (by rw[<- z];exact bf)) e) j0 pv (yb _ M rfl) fun v' h2 ae p2 k2=>?_⟩
  ·intro i j vi vj s2 Q2 E2 jj hi L N
   have ei:f[i]? =some vi:=by simpa using hi
   have ej:f[j]? =some vj:=by simpa using L
   obtain⟨qi,ti,rfl,fi⟩:=tup i vi ei;obtain⟨qj,tj,rfl,fj⟩:=tup j vj ej;rw[ZA,fi,ZA,fj] at N;exact zai _ _ _ _ N
  ·rw[zN] at p2
   have a0:f.length=g.length:=by omega
   have e2:f[argBest (fun i j=>decide (g.getD i 0<g.getD j 0)) (g.length-1)]? =some v':=by
    rw[<- a0];simpa using p2
   obtain⟨hm,aa⟩:=zaE (fun i=>g.getD i 0) (g.length-1)
   obtain⟨m,t,rfl,em⟩:=tup _ _ e2;have eg:g.getD (argBest (fun i j=>decide (g.getD i 0<g.getD j 0)) (g.length-1)) 0=m:=by rw[ZA,em];rfl
   refine⟨.int m,H,I.kept (h':=h2) (t':=ae) (fun b o e=>k2 b o (fun z=>(all b o e).1 (qg.mp z)) (all b o e).2 (j0 b o e)),⟨t,rfl⟩,q m (zY em) fun k hk=>?_⟩
   obtain⟨j,L,ej⟩:=Yj hk;have:=aa j (by omega)
   rw[eg,ZA,qP L,ej] at this;exact this
end
end L2
namespace L2
open PySem PySem.Spec PyProof.Rows
section
variable{X:Cx}
theorem zcS{K:W.Frag}(h:X.K=K):OpR X (binaryOp .Add) (zcz K):=by rw[<- h];exact J4
end
section
variable{b:Program}{w:World}{A:Around}{E:Value->Shared->Prop}{s:Shared}
end
section
variable{X:Cx}
end
theorem zbS(j B f:Expr)(s:List Expr)(g:Scope)(w:Pos)(A l:Value)(b:Env) :
  compTurn (.SetComp j [⟨B,f,s,0⟩] g w) 0 A l b=(do
   standAt f.pos
   match<-pyNext A with
   | none=>pure (.done .next)
   | some v=>
    letOwnedTupleGo B A v
    assign B b v
    let mut ok:=true
    for c in s do
     if ok then ok<-isTrue c b (eval c b)
    if ok then
     (do let v<-eval j b;standAt j.pos;let _<-call (.builtin "set.add") [l,v])
    again (.compLoop (.SetComp j [⟨B,f,s,0⟩] g w) 0 A l b)):=by rfl
section
variable{b:Program}{w:World}{A:Around}{E:Value->Shared->Prop}{R:Result->Shared->Prop}{s:Shared}
theorem za5{B I g D rest f G H l j}
  (M:codeAny (model b w) A (.compLoop (.SetComp B (⟨I,g,D,0⟩::rest) f G) 0 H l j) R s)
  (h:wpAny (model b w) A (pyIter H) (fun J L=>codeAny (model b w) A (.compLoop (.SetComp B (⟨I,g,D,0⟩::rest) f G) 0 J l j) R L) (notedBy (model b w) A j fun x L=>R (.error x) L) s) :
  codeAny (model b w) A (.compStart (.SetComp B (⟨I,g,D,0⟩::rest) f G) 0 H l j) R s:=by
 refine codeAny_of_tree (show wpAny _ A ((compStart (.SetComp B (⟨I,g,D,0⟩::rest) f G) 0 H l j).onRaise (fun x=>do noteFrame x j;standAt theWindowsPlace)) _ _ s from wpAny_notedAt ?_)
 unfold compStart;refine(show wpAny _ A (ask >>= _) _ _ s from zf (wpAny_askSetting (wpAny_ite ?_)))
 split
 ·first
   | exact zv ⟨rfl,M⟩
   | exact zf (zv (zv ⟨rfl,M⟩))
 ·first
   | exact zf (x6 (zf (vL (zf (qh h (fun _ _ q=>zv ⟨rfl,q⟩) fun _ _ x=>x)))))
   | (refine zf (x6 ?_)
      exact(show wpAny _ _ (standAt g.pos >>= _) _ _ s from zf (vL (zf (qh h (fun _ _ q=>zv ⟨rfl,q⟩) fun _ _ x=>x)))))
theorem za8{l T B:Expr}{D:List Expr}{g:Scope}{H:Pos}{L j:Value}{f:Env}(J:Nat->Shared->Prop)
  (I:∀n s,J n s->wpAny (model b w) A (pyNext L) (fun r s1=>match r with
   | none=>R (.ok .next) s1
   | some v=>wpAny (model b w) A (letOwnedTupleGo T L v) (fun _ s2=>wpAny (model b w) A (assign T f v) (fun _ s3=>
     wpAny (model b w) A (xS D f) (fun ok M=>
      if ok=true then wpAny (model b w) A (eval l f) (fun x N=>
       wpAny (model b w) A (call (.builtin "set.add") [j,x]) (fun _ O=>∃m,m<n/\J m O) (fun _ _=>False) N) (fun _ _=>False) M
      else ∃m,m<n/\J m M) (fun _ _=>False) s3) (fun _ _=>False) s2) (fun _ _=>False) s1) (fun _ _=>False) s)
  (n:Nat) (h:J n s):codeAny (model b w) A (.compLoop (.SetComp l [⟨T,B,D,0⟩] g H) 0 L j f) R s:=by
 have G:∀{α:Type} {t:Sem α} {Q:α->Shared->Prop} {E:Value->Shared->Prop} {s:Shared},wpAny (model b w) A t Q (fun _ _=>False) s->wpAny (model b w) A t Q E s:=fun x=>qh x (fun _ _ q=>q) fun _ _ q=>q.elim
 refine codeAny_loop rfl J (fun k u hJ=>?_) n h
 refine(show wpAny _ A ((compTurn (.SetComp l [⟨T,B,D,0⟩] g H) 0 L j f).onRaise (fun x=>do noteFrame x f;theTreesLotGoes x)) _ _ u from wpAny_noted ?_)
 rw[zbS];refine zf (vL (zf (G (qh (I k u hJ) (fun r s1 h1=>?_) fun _ _ q=>q))))
 cases r with
 | none=>exact zv h1
 | some v=>
  refine zf (G (qh h1 (fun _ s2 h2=>zf (G (qh h2 (fun _ s3 h3=>zf (G (qh h3 (fun ok M Y=>?_) fun _ _ q=>q))) fun _ _ q=>q))) fun _ _ q=>q))
  cases ok with
  | false=>exact zv ⟨rfl,Y⟩
  | true=>
   have U:wpAny (model b w) A (eval l f) (fun x N=>wpAny (model b w) A (call (.builtin "set.add") [j,x]) (fun _ O=>∃m,m<k/\J m O) (fun _ _=>False) N) (fun _ _=>False) M:=Y
   refine zf (zf (G (qh U (fun x N h5=>zf (vL (zf (G (qh h5 (fun _ O h6=>zv (zv ⟨rfl,h6⟩)) fun _ _ q=>q))))) fun _ _ q=>q)))
variable{K:Type}[DecidableEq K]{c:KeyKind b w K}
theorem zej{Q:Value->Shared->Prop}(h:Q (.ref s.heap.objs.size) { s with heap:=s.heap.push (zch w) }):wpAny (model b w) A (newSet (.type "set")) Q E s:=by
 unfold newSet setsByText;refine zf (zf (wpAny_askSetting (zv ?_)))
 dsimp only;simp only[newObj];exact zf (wpAny_alloc (zv h))
end
section
variable{X:Cx}{f A c:Expr}{j:List Expr}{b:Scope}{l:Pos}{B:TI}{g:TG}{w:TT}{s:TE}
end
section
variable{X:Cx}{x y:Str}{s w D:Pos}{l:Nat}{f c:Expr}{g:List Expr}{b:Scope}{j:Pos}{E:TI}{B:TT}{A:TE}
end
section
variable{X:Cx}
end
open Sem (wp)
section
variable{X:Cx}
end
end L2
namespace L2
open PySem PySem.Spec PyProof.Rows
section
variable{X:Cx}{b:Pos}
end
end L2
namespace L2
open PySem PySem.Spec PyProof.Rows PySem.W
def wW:Option Int->V
 | some i=>.int i
 | none=>.non
theorem zav{k:Int}{t:Tok}:∀{f:List (Option Int)} {b:List Value},Vals (f.map wW) b->∀y∈b,MeetsSeq.EqGives y (.int k t) (isInt k y)
 | [],b,h=>by cases h;intro y hy;cases hy
 | n::f,b,h=>by
  cases h with
  | cons r q=>
   intro y hy;rcases zR.mp hy with z | z
   ·subst z
    cases n with
    | some i=>
     obtain⟨u,rfl⟩:=r;exact MeetsSeq.EqGives.int i k u t
    | none=>
     cases r;exact fun c w A E s Q h=>PySem.SeqAt.EqAt.none_int (A:=A) (s:=s) k t c w E Q h
   ·exact zav q y z
theorem Qu{k:Int}:∀{c:List (Option Int)} {b:List Value},Vals (c.map wW) b->b.countP (isInt k)=c.count (some k)
 | [],b,h=>by cases h;rfl
 | n::c,b,h=>by
  cases h with
  | cons r q=>
   rw[List.countP_cons,QJ,Qu q];cases n with
   | some i=>
    obtain⟨u,rfl⟩:=r;rfl
   | none=>
    cases r;rfl
section
variable{X:Cx}
inductive Y9(x:V)(f:List V)(H:Hp)(Q:VK):Prop
 | mk (l:Addr) (b:List (Option Int)) (k:Int) (_:x=.ref l) (_:f=[.int k]) (_:H l=some (.lst (b.map wW))) (_:Q (.int (b.count (some k))) H):Y9  x f H Q
theorem zbl:MtM X "list.count" Y9:=by
 intro f s σ H x G v E Q I B A h;obtain⟨l,j,k,rfl,rfl,g,q⟩:=h;cases B;obtain⟨u,rfl,w⟩:=A.one;obtain⟨t,rfl⟩:=w;obtain⟨z,b,n,r,D,e⟩:=I.lstM g;refine call_meets F.slot_list_count ⟨_,e,rfl⟩ F.entry_list_count (F.args_list_count_2 _ _) (MeetsSeq.list_count l b.toArray n (.int k t) (isInt k) (fun y hy=>zav r y (by simpa using hy))) ⟨e,?_⟩
 refine⟨.int (j.count (some k)),H,I.tok _,⟨s.toks,?_⟩,q⟩
 show Value.int ((b.toArray.toList.countP (isInt k):Nat):Int) s.toks=_;rw[show b.toArray.toList=b by simp,Qu r]
inductive zfl(K:W.Frag)(o:V)(i:V)(H:Hp)(Q:VK):Prop
 | mk (p:Addr) (b:List V) (j:Nat) (z:V) (_:o=.ref p) (_:i=.int (j:Int)) (_:SqL K H p b) (_:b[j]? =some z) (_:Q z H):zfl K o i H Q
theorem zde:zis X (zfl X.K):=by
 intro g s σ H o i N M Q I E D h;obtain⟨p,O,j,z,rfl,rfl,hq,f,q⟩:=h;cases E;obtain⟨t,rfl⟩:=D;obtain⟨A,r,B,hz⟩:=I.list hq;obtain⟨w,l,b⟩:=r.get f;have J:=r.length;have L:=yf;have G:=(zK.mp f).1;exact wpAny_getItem_list B.isList (by omega) (by omega) (by simpa using l) ⟨z,H,I,b,q⟩
def tTT(K:W.Frag)(t:TE):TT:=fun σ H Q=>t σ H fun x b=>∃a f,x=.ref a/\SqT K b a f/\Q (!f.isEmpty) b
theorem zfQ{e:Expr}{t:TE}(h:PE X e t)(B:∀b,isTrue e X.env b=(do let v<-b;standAt e.pos;holding [v] (truthy v)):=by intro _;rfl):PT X e (tTT X.K t):=by
 intro f s σ H Q I E;refine isTrue_plain (thn (h f s σ H _ I E) fun v s1 ⟨x,A,w,L,J⟩=>?_) (B _)
 obtain⟨a,l,rfl,hq,q⟩:=J;cases(show v=_ from L)
 obtain⟨g,j,G,hz⟩:=w.tuple hq;have D:=j.length;refine truthy_tuple G (by rw[zN,<- D];rw[sizeLine_eq] at hz;omega) ?_
 have e:(!l.isEmpty)=(!g.toArray.isEmpty):=by
  cases l with
  | nil=>cases j;rfl
  | cons x l=>cases j with | cons r q=>rfl
 exact⟨A,w.tok _,by rw[<- e];exact q⟩
theorem zdX{K:W.Frag}(f:X.K=K){e:Expr}{t:TE}(h:PE X e t)(g:∀b,isTrue e X.env b=(do let v<-b;standAt e.pos;holding [v] (truthy v)):=by intro _;rfl):PT X e (tTT K t):=by
 subst f;exact zfQ h g
variable{c:Expr}
def zgC(g:TE):TI:=fun σ H R=>g σ H fun x f=>∃d o b,x=.ref d/\f d=some (.frz o (.dK b))/\R (zbK d o b) f
theorem zcH{l:Expr}{A:TE}(J:PE X l A):PI X c l (zgC A):=by
 intro g s σ H R I h;refine thn (J g s σ H _ I h) fun v s1 ⟨x,B,j,M,L⟩=>?_
 obtain⟨d,o,f,e,hd,q⟩:=L;subst e;cases M;obtain⟨e1,z,y,Y,r,T,E,D,h1,G,w,N,O,Q⟩:=(show ObjOk X.prog X.w B s1.heap d (.frz o (.dK f)) from j.hok d _ hd)
 rw[e1] at h1;cases h1;refine Vl y ⟨o,e1,G,w⟩ ?_
 refine⟨s1.heap.objs.size,[s1.heap.objs.size],_,_,_,rfl,j.kept (t':=s1.toks) fun b u e=>zV _ e,ZY d _ o f E D w,⟨_,zT _ rfl,rfl,rfl⟩,fun b hb=>?_,q⟩
 have e:b=s1.heap.objs.size:=by simpa using hb
 subst e;exact j.fpOk (zC _) (j.hok.fresh (zC _))
end
end L2
namespace L2
open PySem PySem.Spec PyProof.Rows
section
variable{g:Program}{w:World}{K:Type}[DecidableEq K](f:KeyKind g w K)
def IsPK(h:Heap)(k:List K×List K)(a:Addr):Prop:=∃o n B C,h.get? a=some o/\o.cls=.type "tuple" /\ o.data=.seq #[.ref B,.ref C] n/\IsTupleKey f h k.1 B/\IsTupleKey f h k.2 C
variable{f}
theorem IsPK.ty{s:Shared}{k:List K×List K}{a:Addr}(x:IsPK f s.heap k a):s.TypeIs (.ref a) "tuple" :=let ⟨o,_,_,_,p,q,_⟩:=x;⟨o,p,q⟩
theorem IsPK.inj{h:Heap}{a:Addr}{x y:List K×List K}(p:IsPK f h x a)(q:IsPK f h y a):x=y:=by
 obtain⟨o,n,B,C,e,_,d,b,c⟩:=p;obtain⟨L,J,H,I,l,_,j,D,G⟩:=q;rw[e] at l;cases l;rw[d] at j;cases j;exact Prod.ext (b.inj D) (c.inj G)
theorem IsPK.keeps{h D:Heap}{k:List K×List K}{a d:Addr}{o:Obj}{H G}(x:IsPK f h k a)(j:h.get? d=some o)(hd:o.data=.dict H G)(l:Heap.SameBut d h D):IsPK f D k a:=by
 obtain⟨p,n,B,C,e,t,q,b,c⟩:=x;refine⟨p,n,B,C,(l.2 a fun z=>?_).trans e,t,q,b.keeps j hd l,c.keeps j hd l⟩
 subst z;rw[e] at j;cases j;rw[hd] at q;exact nomatch q
variable{A:Around}{E:Value->Shared->Prop}{s:Shared}
end
end L2
namespace PySem
section
variable{b:Program}{w:World}{A:Around}{E:Value->Shared->Prop}{s:Shared}{d g:Addr}{f:Array DictEntry}{c i:Nat}
end
end PySem
namespace L2
open PySem PySem.Spec PyProof.Rows PySem.W
section
variable{X:Cx}{b:List (Addr×Obj)}{σ:St}{H:Hp}{s:Shared}
end
end L2
namespace L2
open PySem PySem.Spec PyProof.Rows PySem.W
section
variable{X:Cx}
end
end L2
namespace L2
open PySem PySem.Spec PyProof.Rows
abbrev zgP:=Addr->V->V->Hp->(Hp->Prop)->Prop
section
variable{X:Cx}{l D w c:Expr}{f:List Expr}{b:Scope}{j:Pos}{E:TI}{g:TG}{s:TT}{A B:TE}{mk:Addr->HO}{t:zgP}
end
end L2
namespace L2
open PySem PySem.Spec PyProof.Rows PySem.W
section
variable{X:Cx}{f D Q c:Expr}{g:List Expr}{b:Scope}{s:Pos}{T:TI}{L:TT}{J M O:TE}{mk:Addr->HO}{t:zgP}{x y z u:Str}{G H I E N w A:Pos}{B j l:Nat}
end
def zir(K:W.Frag)(H:Hp)(a:Addr)(p:Int×List Int):Prop:=∃U,SqT K H a [.int p.1,.ref U]/\SqT K H U (p.2.map V.int)
def WkO(h:Heap)(a:Addr)(p:Int×List Int):Prop:=∃o n t U,h.get? a=some o/\o.cls=.type "tuple" /\ o.data=.seq #[.int p.1 t,.ref U] n/\∃b f c,h.get? U=some b/\b.cls=.type "tuple" /\ b.data=.seq c f/\Vals (p.2.map V.int) c.toList
theorem WkO.keep{h c:Heap}{a:Addr}{p:Int×List Int}(x:WkO h a p)(k:∀b o,h.get? b=some o->c.get? b=some o):WkO c a p:=
 let ⟨o,n,t,U,a1,a2,a3,g,f,j,b1,b2,b3,b4⟩:=x;⟨o,n,t,U,k _ _ a1,a2,a3,g,f,j,k _ _ b1,b2,b3,b4⟩
end L2
namespace L2
open PySem PySem.Spec PyProof.Rows
section
variable{X:Cx}{l D w c:Expr}{f:List Expr}{b:Scope}{j:Pos}{E:TI}{g:TG}{s:TT}{A B:TE}{mk:Addr->HO}{t:zgP}
end
end L2
namespace L2
open PySem PySem.Spec PyProof.Rows PySem.W
def WkS(K:W.Frag)(H:Hp)(c:List V)(b:List (Int×List Int)):Prop:=c.length=b.length/\∀(j:Nat) q,b[j]? =some q->∃T,c[j]? =some (.ref T)/\zir K H T q
theorem WkS.nil{K:W.Frag}{H:Hp}:WkS K H [] []:=⟨rfl,fun j q e=>by simp at e⟩
theorem WkS.snoc{K:W.Frag}{H:Hp}{l:List V}{c:List (Int×List Int)}{q:Int×List Int}{T:Addr}(h:WkS K H l c)(e:zir K H T q):WkS K H (l++[.ref T]) (c++[q]):=by
 refine⟨by rw[zS,zS,h.1];rfl,fun j r b=>?_⟩
 by_cases f:j<c.length
 ·rw[xQ f] at b
  obtain⟨s,e1,e2⟩:=h.2 j r b;exact⟨s,by rw[xQ (by rw[h.1];exact f)];exact e1,e2⟩
 ·have g:=(zK.mp b).1
  rw[zS] at g;have w:j=c.length:=by simp at g;omega
  subst w;rw[xR (zC _),ym] at b;cases(show some q=some r from b)
  exact⟨T,by rw[<- h.1,xR (zC _),ym];rfl,e⟩
end L2
namespace L2
open PySem PySem.W PySem.Spec PyProof.Rows
theorem ZT{d:Dat}:∀{b:List Dat},d∈b->d.py.depth<=PyData.depthAll (Dat.pys b)
 | e::b,h=>by
  show _<=max (PyData.depth e.py) (PyData.depthAll (Dat.pys b));rcases zR.mp h with rfl | h
  ·exact Nat.le_max_left _ _
  ·exact qL (ZT h) (Nat.le_max_right _ _)
section
variable{X:Cx}
theorem zdv(n:Nat):((List.range n).all fun _=>true)=true:=vX.mpr fun _ _=>rfl
def zik:Dat->Bool
 | .lst _=>false
 | .tup _=>false
 | _=>true
theorem VY{H:Hp}{A:Around}{s:Shared}{d:Dat}(h:zik d=true){b f:V}{B D:Value}(l:Rep X.K H d b)(w:Rep X.K H d f)(g:RelV b B)(j:RelV f D):SeqAt.EqAt A s B D true:=by
 cases d with
 | lst G=>cases h
 | tup G=>cases h
 | non=>
  cases(show b=_ from l);cases(show f=_ from w)
  cases(show B=_ from g);cases(show D=_ from j)
  exact Ze _
 | bl c=>
  cases(show b=_ from l);cases(show f=_ from w)
  cases(show B=_ from g);cases(show D=_ from j)
  exact Ze _
 | int i=>
  cases(show b=_ from l);cases(show f=_ from w)
  obtain⟨t,rfl⟩:=g;obtain⟨E,rfl⟩:=j;have:=SeqAt.EqAt.int_int (A:=A) (s:=s) i t i E;rwa[beq_self_eq_true] at this
 | str x=>
  cases(show b=_ from l);cases(show f=_ from w)
  obtain⟨t,rfl⟩:=g;obtain⟨E,rfl⟩:=j;have:=SeqAt.EqAt.str_str (A:=A) (s:=s) x t x E;rwa[beq_self_eq_true] at this
theorem zgF{E:List (Addr×Obj)}{σ:St}{H:Hp}{s:Shared}(I:Inv X E σ H s):∀(n:Nat) {A:Around},A.units+n<cLine->∀{d:Dat},d.py.depth<=n->∀{v1 v2:V} {U Y:Value},Rep X.K H d v1->Rep X.K H d v2->RelV v1 U->RelV v2 Y->SeqAt.EqAt A s U Y true:=by
 intro n;induction n with
 | zero=>
  intro A hu d hd v1 v2 U Y c f G J;cases d with
  | lst g=>exact absurd hd (Nat.not_succ_le_zero _)
  | tup g=>exact absurd hd (Nat.not_succ_le_zero _)
  | _=>exact VY (by rfl) c f G J
 | succ n ih=>
  intro A hu d hd v1 v2 U Y c f G J;have B:A.units<cLine:=by omega
  have D:A.in1.units+n<cLine:=by rw[Around.in1_units];omega
  cases d with
  | lst g=>
   have hd:PyData.depthAll (Dat.pys g)+1<=n+1:=hd;obtain⟨a,N,rfl,hx,L⟩:=c;obtain⟨b,O,rfl,hy,M⟩:=f;cases G;cases J;by_cases e:a=b
   ·subst e
    exact Ze _
   ·obtain⟨Q,c,p1,z1⟩:=I.list hx
    obtain⟨T,f,p2,z2⟩:=I.list hy;have l1:=c.length;have l2:=f.length;have lx:=L.len;have ly:=M.len;have w:=SeqAt.RcAt.lists (A:=A) (s:=s) (e:=fun _=>true) p1.isList p2.isList (by rw[zN,zN];omega) B (fun j h1 h2=>by
     rw[zN] at h1 h2;obtain⟨c1,e1,g1⟩:=c.get (i:=j) (x:=N[j]'(by omega)) (by simp)
     obtain⟨c2,e2,g2⟩:=f.get (i:=j) (x:=O[j]'(by omega)) (by simp)
     obtain⟨d1,l,k1⟩:=L.get (i:=j) (x:=N[j]'(by omega)) (by simp)
     obtain⟨d2,f2,k2⟩:=M.get (i:=j) (x:=O[j]'(by omega)) (by simp)
     have de:d1=d2:=jt (l.symm.trans f2);subst de;have o1:Q.toArray[j]=c1:=by simpa using (zK.mp e1).2
     have o2:T.toArray[j]=c2:=by simpa using (zK.mp e2).2
     rw[o1,o2];exact ih D (qL (ZT (zY l)) (by omega)) k1 k2 g1 g2)
    rw[zdv] at w;exact Yg e w
  | tup g=>
   have hd:PyData.depthAll (Dat.pys g)+1<=n+1:=hd;obtain⟨a,N,rfl,hx,L⟩:=c;obtain⟨b,O,rfl,hy,M⟩:=f;cases G;cases J;by_cases e:a=b
   ·subst e
    exact Ze _
   ·obtain⟨Q,c,p1,z1⟩:=I.tuple hx
    obtain⟨T,f,p2,z2⟩:=I.tuple hy;have l1:=c.length;have l2:=f.length;have lx:=L.len;have ly:=M.len;have w:=SeqAt.RcAt.tuples (A:=A) (s:=s) (e:=fun _=>true) p1 p2 B (fun j h1 h2=>by
     rw[zN] at h1 h2;obtain⟨c1,e1,g1⟩:=c.get (i:=j) (x:=N[j]'(by omega)) (by simp)
     obtain⟨c2,e2,g2⟩:=f.get (i:=j) (x:=O[j]'(by omega)) (by simp)
     obtain⟨d1,l,k1⟩:=L.get (i:=j) (x:=N[j]'(by omega)) (by simp)
     obtain⟨d2,f2,k2⟩:=M.get (i:=j) (x:=O[j]'(by omega)) (by simp)
     have de:d1=d2:=jt (l.symm.trans f2);subst de;have o1:Q.toArray[j]=c1:=by simpa using (zK.mp e1).2
     have o2:T.toArray[j]=c2:=by simpa using (zK.mp e2).2
     rw[o1,o2];exact ih D (qL (ZT (zY l)) (by omega)) k1 k2 g1 g2)
    rw[zdv,Bool.true_and,show(Q.toArray.size==T.toArray.size)=true from jT.mpr (by rw[zN,zN];omega)] at w
    exact Yg e w
  | _=>exact VY (by rfl) c f G J
inductive Wd(K:W.Frag)(x:V)(y:V)(H:Hp)(Q:VK):Prop
 | mk (a b:Addr) (c:List Dat) (_:x=.ref a) (_:y=.ref b) (_:Rep K H (.lst c) x) (_:Rep K H (.lst c) y) (_:PyData.depthAll (Dat.pys c)<=50) (_:Q (.bl false) H):Wd K x y H Q
theorem zcQ(hu:X.A.units+64<cLine):OpR X (compareOp .NotEq) (Wd X.K):=by
 intro l s σ H x y v u Q I c f h;obtain⟨a,b,ds,rfl,rfl,hx,hy,hd,q⟩:=h;cases c;cases f;obtain⟨a',B,e1,qx,c⟩:=hx;obtain⟨b',D,e2,qy,f⟩:=hy;cases e1;cases e2;obtain⟨U,w,p1,z1⟩:=I.list qx;obtain⟨Y,A,p2,z2⟩:=I.list qy;have l1:=w.length;have l2:=A.length;have lx:=c.len;have ly:=f.len;refine SeqAt.RcNeAt.lists (e:=fun _=>true) p1.isList p2.isList (by rw[zN,zN];omega) (by omega) (fun j h1 T=>?_) _ _ _ _ ⟨.bl _,H,I,rfl,?_⟩
 ·rw[zN] at h1 T
  obtain⟨c1,e1,N⟩:=w.get (i:=j) (x:=B[j]'(by omega)) (by simp)
  obtain⟨E,e2,O⟩:=A.get (i:=j) (x:=D[j]'(by omega)) (by simp)
  obtain⟨G,g,k1⟩:=c.get (i:=j) (x:=B[j]'(by omega)) (by simp)
  obtain⟨J,M,k2⟩:=f.get (i:=j) (x:=D[j]'(by omega)) (by simp)
  have L:G=J:=jt (g.symm.trans M);subst L;have o1:U.toArray[j]=c1:=by simpa using (zK.mp e1).2
  have o2:Y.toArray[j]=E:=by simpa using (zK.mp e2).2
  rw[o1,o2];exact zgF I 50 (by rw[Around.in1_units];omega) (qL (ZT (zY g)) hd) k1 k2 N O
 ·rw[zdv]
  exact q
end
end L2
namespace L2
open PySem PySem.Spec PyProof.Rows
def pr2(q:Int×Int):List V:=[.int q.1,.int q.2]
theorem JX{p q:Int×Int}(h:pr2 p=pr2 q):p=q:=by
 unfold pr2 at h;have h1:=V.int.inj (List.cons.inj h).1;have b:=V.int.inj (List.cons.inj (List.cons.inj h).2).1;exact Prod.ext h1 b
theorem zfT(p q:Int×Int):zbw (pr2 p) (pr2 q)=decide (p=q):=by
 have e:∀a b:Int,eqV (.int a) (.int b)=decide (a=b):=fun a b=>by
  show(a==b)=_;rw[va,jT,vN]
 show(eqV (.int p.1) (.int q.1)&&(eqV (.int p.2) (.int q.2)&&true))=_;rw[e,e,Bool.and_true,va,jO,vN,vN,vN,Prod.ext_iff]
section
variable{X:Cx}{b:List (Addr×Obj)}{σ:St}{H:Hp}{s:Shared}
theorem zgE(I:Inv X b σ H s){A:Around}(hu:A.units<cLine){a c:Addr}{p q:Int×Int}(hc:SqT X.K H c (pr2 q))(D:SqT X.K H a (pr2 p)):SeqAt.EqAt A s (.ref c) (.ref a) (decide (q=p)):=by
 by_cases e:c=a
 ·subst e
  rw[zX (JX (I.tuple_inj hc D))];exact Ze _
 ·obtain⟨f,E,Q,z1⟩:=I.tuple hc
  obtain⟨g,G,T,z2⟩:=I.tuple D;have N:=E.length;have O:=G.length;have h:=Yg e (SeqAt.RcAt.tuples (A:=A) (s:=s) (e:=fun j=>eqV ((pr2 q).getD j .non) ((pr2 p).getD j .non)) Q T hu (fun j h1 M=>?_))
  ·rw[zN,zN,<- N,<- O,Qs,zfT] at h
   exact h
  ·have l:j<(pr2 q).length:=by rw[zN] at h1;omega
   have w:j<(pr2 p).length:=by rw[zN] at M;omega
   obtain⟨w1,e1,U⟩:=E.get (i:=j) (x:=(pr2 q)[j]) (qP l);obtain⟨w2,e2,Y⟩:=G.get (i:=j) (x:=(pr2 p)[j]) (qP w);have J:f.toArray[j]=w1:=by simpa using (zK.mp e1).2
   have L:g.toArray[j]=w2:=by simpa using (zK.mp e2).2
   have B:∀(o:Int×Int) (v:V),v∈pr2 o->xO v=true:=fun o v hv=>by
    rcases zR.mp hv with rfl | hv
    ·rfl
    ·cases qg.mp hv;rfl
   rw[J,L,ZA,ZA,qP l,qP w];exact zdi U Y (B _ _ (wA l)) (B _ _ (wA w))
def zgQ(K:W.Frag)(H:Hp)(g:List V)(f:List (Int×Int)):Prop:=g.length=f.length/\∀(i:Nat) (r:Int×Int),f[i]? =some r->∃c,g[i]? =some (.ref c)/\SqT K H c [.int r.1,.int r.2]
open Classical in
theorem zeK(I:Inv X b σ H s){a:Addr}{q:Int×Int}(N:SqT X.K H a (pr2 q)){J:List V}{f:List Value}{D:List (Int×Int)}(hx:zgQ X.K H J D)(G:Vals J f){A:Around}(hu:A.units<cLine) :
  (∀y,y∈f.toArray->SeqAt.EqAt A s y (.ref a) (decide (∃c,y=Value.ref c/\SqT X.K H c (pr2 q))))/\f.toArray.any (fun y=>decide (∃c,y=Value.ref c/\SqT X.K H c (pr2 q)))=decide (q∈D):=by
 have j:∀y∈f,∃(c:Addr) (r:Int×Int),y=.ref c/\SqT X.K H c (pr2 r)/\r∈D:=fun y hy=>by
  obtain⟨i,w⟩:=XF.mp hy;have Q:=(zK.mp w).1;have T:=G.length;obtain⟨r,B⟩:∃r,D[i]? =some r:=⟨_,qP (by have:=hx.1;omega)⟩
  obtain⟨c,e1,e2⟩:=hx.2 i r B;obtain⟨w1,l,g⟩:=G.get e1;rw[w] at l;cases l;exact⟨c,r,g,e2,zY B⟩
 constructor
 ·intro y hy
  obtain⟨c,r,rfl,hc,_⟩:=j y (by simpa using hy)
  have h:=zgE I hu hc N;by_cases e:r=q
  ·subst e
   rw[zX rfl] at h;rw[zX ⟨c,rfl,hc⟩];exact h
  ·rw[qZ e] at h
   rw[qZ]
   ·exact h
   ·rintro⟨L,M,E⟩
    cases M;exact e (JX (I.tuple_inj hc E))
 ·rw[va,vN,List.any_toArray,yM]
  constructor
  ·rintro⟨y,hy,O⟩
   obtain⟨L,rfl,E⟩:=ju O;obtain⟨c,r,e,hc,B⟩:=j _ hy;cases e;rw[<- JX (I.tuple_inj hc E)];exact B
  ·intro hq
   obtain⟨i,w⟩:=XF.mp hq;obtain⟨c,e1,e2⟩:=hx.2 i q w;obtain⟨w1,l,g⟩:=G.get e1;exact⟨w1,zY l,zX ⟨c,g,e2⟩⟩
end
inductive zhE(K:W.Frag)(b:Bool)(x:V)(y:V)(H:Hp)(Q:VK):Prop
 | mk (a p:Addr) (q:Int×Int) (f:List V) (c:List (Int×Int)) (_:x=.ref a) (_:y=.ref p) (_:SqT K H a [.int q.1,.int q.2]) (_:SqL K H p f) (_:zgQ K H f c) (_:Q (.bl (if b then !decide (q∈c) else decide (q∈c))) H):zhE K b x y H Q
section
variable{X:Cx}
theorem zf8{K:W.Frag}(hk:X.K=K)(hu:X.A.units+64<cLine):OpR X (compareOp .In) (zhE K false):=by
 subst hk;intro b s σ H x y v u Q I l w h;obtain⟨a,p,q,D,B,rfl,rfl,f,hp,hx,k⟩:=h;cases l;cases w;obtain⟨g,r,j,hz⟩:=I.list hp;obtain⟨h1,c⟩:=zeK I f hx r (A:=X.A.in1) (by show X.A.units+1<cLine;omega)
 refine SeqAt.in_listAt _ j.isList h1 ⟨.bl _,H,I,rfl,?_⟩
 rw[c];exact k
end
end L2
namespace L2
open PySem PySem.Spec PyProof.Rows
section
variable{X:Cx}
end
def lpN(m:Nat):Nat->Nat->Nat->Nat×Nat
 | 0,i,q=>(i,q)
 | n+1,i,q=>lpN m n (SetTable.leap m i q).1 (SetTable.leap m i q).2
def fN(m:Nat):Nat->Nat->Nat
 | 0,i=>i
 | n+1,i=>fN m n ((i*5+1) % (m+1))
theorem Xf(m:Nat):∀a b i:Nat,fN m (a+b) i=fN m b (fN m a i)
 | 0,b,i=>by rw[Zc];rfl
 | a+1,b,i=>by rw[Nat.succ_add];exact Xf m a b _
theorem zak(m:Nat):∀a b i q:Nat,lpN m (a+b) i q=lpN m b (lpN m a i q).1 (lpN m a i q).2
 | 0,b,i,q=>by rw[Zc];rfl
 | a+1,b,i,q=>by rw[Nat.succ_add];exact zak m a b _ _
theorem zfp(m:Nat):∀n i q:Nat,(lpN m n i q).2=q/32^n
 | 0,i,q=>by rw[Nat.pow_zero,Nat.div_one];rfl
 | n+1,i,q=>by
  rw[Nat.pow_succ,Nat.mul_comm,<- Nat.div_div_eq_div_mul];exact zfp m n _ _
theorem zfq(m:Nat):∀n i q:Nat,q<32->(lpN m n i q).1=fN m n i
 | 0,i,q,_=>rfl
 | n+1,i,q,h=>by
  have e:q/32=0:=Nat.div_eq_of_lt h;show(lpN m n ((i*5+1+q/32) % (m+1)) (q/32)).1=fN m n ((i*5+1) % (m+1));rw[e];exact zfq m n _ 0 (by decide)
theorem zc4(m:Nat):∀n i q:Nat,i<=m->(lpN m n i q).1<=m
 | 0,_,_,h=>h
 | n+1,i,q,h=>zc4 m n _ _ (Zz (yg _ (yk m)))
def Msk(m:Nat):Prop:=m=7\/m=31\/m=127
def orb(m:Nat):Nat->Nat->List Nat
 | 0,_=>[]
 | n+1,i=>i::orb m n ((i*5+1) % (m+1))
theorem zcP(m:Nat):∀{n i j:Nat},j∈orb m n i->∃k,k<n/\fN m k i=j
 | n+1,i,j,h=>by
  rcases zR.mp h with e | h
  ·exact⟨0,yk n,e.symm⟩
  ·obtain⟨k,h1,b⟩:=zcP m h
   exact⟨k+1,Nat.succ_lt_succ h1,b⟩
def ziq(m:Nat):Bool:=(List.range (m+1)).all (fun j=>(orb m (m+1) 0).contains j)&&fN m (m+1) 0==0
theorem zeE{m:Nat}(h:Msk m):ziq m=true:=by
 rcases h with rfl | rfl | rfl<;>kernel_rfl
theorem Msk.hit{m i j:Nat}(h:Msk m)(w:i<=m)(g:j<=m):∃n,n<=m/\fN m n i=j:=by
 have c:=zeE h;unfold ziq at c;rw[jO,vX,jT] at c;have f:∀j,j<=m->∃k,k<m+1/\fN m k 0=j:=fun j g=>zcP m (List.contains_iff_mem.mp (c.1 j (jJ.mpr (Nat.lt_succ_of_le g))))
 obtain⟨a,A,l⟩:=f i w;obtain⟨b,hb,s⟩:=f j g;by_cases B:a<=b
 ·refine⟨b-a,by omega,?_⟩
  rw[<- l,<- Xf,show a+(b-a)=b by omega,s]
 ·refine⟨m+1+b-a,by omega,?_⟩
  rw[<- l,<- Xf,show a+(m+1+b-a)=m+1+b by omega,Xf,c.2,s]
theorem Msk.leaps{m i j q:Nat}(h:Msk m)(b:i<=m)(c:j<=m)(hq:q<2^64):∃n,n<=m+12/\(lpN m n i q).1=j:=by
 obtain⟨n,f,e⟩:=h.hit (zc4 m 12 i q b) c;refine⟨12+n,by omega,?_⟩
 rw[zak,zfq m n _ _ (by rw[zfp];exact Nat.div_lt_of_lt_mul (jP hq (by decide))),e]
inductive Far(t:SetTable):Nat->SetTable.Probe->Prop
 | here {k:Nat} {p:SetTable.Probe}:t.slot p.j=.empty->Far t k p
 | step {k:Nat} {p:SetTable.Probe}:Far t k (t.advance p)->Far t (k+1) p
theorem Far.mono{t:SetTable}{k b:Nat}{p:SetTable.Probe}(h:Far t k p)(g:k<=b):Far t b p:=by
 induction h generalizing b with
 | here e=>exact .here e
 | step _ f=>obtain⟨c,rfl⟩:∃c,b=c+1:=⟨b-1,by omega⟩;exact .step (f (by omega))
def zic(t:SetTable)(p:SetTable.Probe):SetTable.Probe:=t.advance { p with more:=0 }
theorem Far.more{t:SetTable}{k:Nat}:∀{m:Nat} {p:SetTable.Probe},p.more=m->Far t k (zic t p)->Far t (k+m+1) p
 | 0,⟨j,_,i,q,d⟩,rfl,h=>.step h
 | m+1,⟨j,_,i,q,d⟩,rfl,h=>.step (Far.more (m:=m) (p:=⟨j+1,m,i,q,d⟩) rfl h)
theorem yU{m i:Nat}(h:i<=m):SetTable.runEnd m i<=m/\i<=SetTable.runEnd m i/\SetTable.runEnd m i<=i+9:=by
 unfold SetTable.runEnd;split<;>omega
theorem Far.leaps{t:SetTable}:∀{n i q:Nat} {d:Option Nat},i<=t.mask->t.slot (lpN t.mask n i q).1=.empty->Far t (10*n) ⟨i,SetTable.runEnd t.mask i-i,i,q,d⟩
 | 0,i,q,d,_,h=>.here h
 | n+1,i,q,d,b,h=>by
  have r:=yU b;have:=Far.leaps (n:=n) (i:=(SetTable.leap t.mask i q).1) (q:=(SetTable.leap t.mask i q).2) (d:=d) (Zz (yg _ (yk _))) h;exact(Far.more (m:=SetTable.runEnd t.mask i-i) (p:=⟨i,SetTable.runEnd t.mask i-i,i,q,d⟩) rfl this).mono (by omega)
structure Prb(t:SetTable)(p:SetTable.Probe):Prop where
 le:p.j+p.more<=t.mask
 no:p.dummy=none
theorem Prb.of{t:SetTable}{i q:Nat}(h:i<=t.mask):Prb t ⟨i,SetTable.runEnd t.mask i-i,i,q,none⟩:=⟨by have:=yU h;show i+(SetTable.runEnd t.mask i-i)<=_;omega,rfl⟩
theorem Prb.next{t:SetTable}{p:SetTable.Probe}(h:Prb t p):Prb t (t.advance p):=by
 obtain⟨j,m,i,q,d⟩:=p;cases(show d=none from h.no)
 have l:j+m<=t.mask:=h.le;cases m with
 | zero=>exact Prb.of (Zz (yg _ (yk _)))
 | succ m=>exact⟨show j+1+m<=t.mask by omega,rfl⟩
theorem Jq{t:SetTable}{j i:Nat}(h:t.slot j=.live i):t.place[i]? =some j:=by
 unfold SetTable.slot at h;dsimp only at h;split at h
 ·rename_i c
  cases h;exact eq_of_beq c
 ·split at h<;>cases h
theorem Far.go{t:SetTable}{f:Nat->Int}{h:Int}(A:t.dummies=#[]):∀{fuel k:Nat} {p:SetTable.Probe},Far t k p->Prb t p->k<fuel ->
  (∃j,SetTable.probe.go t f h fuel p=some (.empty j none)/\t.place[SetTable.below t.place j]?≠some j/\j<=t.mask) \/
  ∃j i q g,SetTable.probe.go t f h fuel p=some (.candidate j i q)/\t.slot j=.live i/\f i=h/\Prb t q/\Far t g q/\g<k
 | 0,k,p,_,_,l=>absurd l (Xt k)
 | fuel+1,k,p,D,s,l=>by
  have M:=s.le;rcases Jp A p.j with ⟨c1,B⟩ | ⟨i,c⟩
  ·refine .inl ⟨p.j,?_,B,by omega⟩
   unfold SetTable.probe.go;rw[c1];show some (SetTable.Met.empty p.j p.dummy)=_;rw[s.no]
  ·cases D with
   | here e=>rw[c] at e;cases e
   | @step g _ b=>
    by_cases e:f i=h
    ·refine .inr ⟨p.j,i,t.advance p,g,?_,c,e,s.next,b,Zy _⟩
     unfold SetTable.probe.go;rw[c];dsimp only;rw[zx (jT.mpr e)]
    ·have e2:SetTable.probe.go t f h (fuel+1) p=SetTable.probe.go t f h fuel (t.advance p):=by
      rw[SetTable.probe.go];rw[c];dsimp only;rw[zr fun z=>e (jT.mp z)]
     rw[e2];rcases Far.go (f:=f) (h:=h) A b s.next (by omega:g<fuel) with w | ⟨j,E,q,G,w1,H,I,J,L,N⟩
     ·exact .inl w
     ·exact .inr ⟨j,E,q,G,w1,H,I,J,L,by omega⟩
structure TabT(t:SetTable)(n:Nat):Prop where
 up:Up t.place
 no:t.dummies=#[]
 le:∀j∈t.place.toList,j<=t.mask
 sz:t.place.size=n
 ms:(t.mask=7/\n<=4)\/(t.mask=31/\n<=18)\/(t.mask=127/\n<=76)
theorem TabT.msk{t:SetTable}{n:Nat}(h:TabT t n):Msk t.mask:=h.ms.imp (·.1) (·.imp (·.1) (·.1))
theorem TabT.lt{t:SetTable}{n:Nat}(h:TabT t n):n<t.mask:=by rcases h.ms with ⟨e,_⟩ | ⟨e,_⟩ | ⟨e,_⟩<;>omega
theorem TabT.fits{t:SetTable}{n:Nat}(h:TabT t n):t.fits n=true:=by
 have:=h.lt;have z:t.place.size=n:=h.sz;have:t.fill=n:=by unfold SetTable.fill;rw[h.no,z];rfl
 unfold SetTable.fits;rw[jO,jT,vN];omega
theorem TabT.fresh(b:Bool):TabT (.fresh 0 0 b) 0:=⟨List.Pairwise.nil,rfl,fun j h=>(nomatch h),rfl,.inl ⟨rfl,by decide⟩⟩
theorem zfU{m:Nat}{l:List Nat}(h:l.length<=m):∃j,j<=m/\j∉l:=by
 refine XN fun B=>?_
 have all:∀j∈List.range (m+1),j∈l:=fun j c=>XN fun z=>B ⟨j,Zz (jJ.mp c),z⟩
 have sub:∀{a b:List Nat},a.Nodup->(∀x∈a,x∈b)->a.length<=b.length:=fun {a}=>by
  induction a with
  | nil=>exact fun _ _=>qV _
  | cons x a f=>
   intro b A s;obtain⟨g,w⟩:=Zx.mp A;have hx:=s x (by simp)
   have:=f (b:=b.erase x) w fun y hy=>(Yk (fun e:y=x=>g (e▸hy))).mpr (s y (jc _ hy))
   rw[XL hx] at this;have:=XH hx;rw[jV];omega
 have:=sub Zg all;rw[vd] at this;omega
theorem Wq{t:SetTable}(b:t.dummies=#[]){j:Nat}(h:j∉t.place.toList):t.slot j=.empty:=by
 rcases Jp b j with ⟨c,_⟩ | ⟨i,c⟩
 ·exact c
 ·have:=Jq c
  rw[<- ya] at this;exact absurd (zY this) h
theorem TabT.far{t:SetTable}{n:Nat}(h:TabT t n)(x:Int):Far t (10*(t.mask+12)) (t.probeStart x)/\Prb t (t.probeStart x):=by
 have b:SetTable.bits x % (t.mask+1)<=t.mask:=Zz (yg _ (yk _));have hb:SetTable.bits x<2^64:=by
  unfold SetTable.bits;have:=wC x (by decide:(0:Int)<2^64)
  have:=wz x (by decide:(2^64:Int)≠0)
  omega
 obtain⟨j,c,f⟩:=zfU (m:=t.mask) (l:=t.place.toList) (by have:=h.lt;rw[jE,h.sz];omega)
 obtain⟨s,g,e⟩:=h.msk.leaps b c hb;exact⟨(Far.leaps (d:=none) b (by rw[e];exact Wq h.no f)).mono (by omega),Prb.of b⟩
theorem zat{m:Nat}{owner:Array (Option Nat)}:∀{fuel n i q:Nat},i<=m->n<fuel->(owner.getD (lpN m n i q).1 (some 0)).isNone=true ->
  ∃j,j<=m/\SetTable.layClean.free m owner fuel i q=some j/\(owner.getD j (some 0)).isNone=true
 | 0,n,i,q,_,l,_=>absurd l (Xt n)
 | fuel+1,n,i,q,b,l,h=>by
  have r:=yU b;unfold SetTable.layClean.free;cases c:(List.range (SetTable.runEnd m i+1-i)).find? fun k=>(owner.getD (i+k) (some 0)).isNone with
  | some k=>
   have h1:=WZ c;have f:=jJ.mp (Yu c);exact⟨i+k,by omega,rfl,h1⟩
  | none=>
   cases n with
   | zero=>
    have:=Ye.mp c 0 (jJ.mpr (by omega))
    exact absurd h this
   | succ n=>exact zat (Zz (yg _ (yk m))) (Nat.lt_of_succ_lt_succ l) h
theorem zev{l:List (Option Nat)}{k:Nat}:∀{j:Nat},l[j]? =some none->((l.set j (some k)).filterMap id).Perm (k::l.filterMap id):=by
 induction l with
 | nil=>intro j h;simp at h
 | cons x l b=>
  intro j h;cases j with
  | zero=>
   cases(show x=none by simpa using h)
   exact .refl _
  | succ j=>
   have:=b (j:=j) (by simpa using h)
   cases x with
   | none=>exact this
   | some y=>exact(this.cons y).trans (.swap _ _ _)
structure Own(m k:Nat)(o:Array (Option Nat)):Prop where
 sz:o.size=m+1
 pm:(o.toList.filterMap id).Perm (List.range k)
theorem Own.free{m k:Nat}{o:Array (Option Nat)}(h:Own m k o)(w:k<=m):∃j,j<=m/\(o.getD j (some 0)).isNone=true:=by
 refine XN fun g=>?_
 have all:∀x∈o.toList,x.isSome=true:=fun x hx=>by
  obtain⟨j,b,e⟩:=JM.mp hx;rw[jE,h.sz] at b;cases x with
  | some y=>rfl
  | none=>
   refine absurd ⟨j,by omega,?_⟩ g
   have e2:o[j]? =some none:=by rw[<- ya,<- e];exact qP _
   unfold Array.getD;rw[dif_pos (by rw[h.sz];exact b)]
   have:o[j]'(by rw[h.sz];exact b)=none:=jt ((wE _).symm.trans e2)
   show(o[j]'_).isNone=true;rw[this];rfl
 have c:∀{l:List (Option Nat)},(∀x∈l,x.isSome=true)->(l.filterMap id).length=l.length:=fun {l}=>by
  induction l with
  | nil=>exact fun _=>rfl
  | cons x l f=>
   intro a;have hx:=a x (by simp)
   cases x with
   | none=>cases hx
   | some y=>show(l.filterMap id).length+1=_;rw[f fun z hz=>a z (jc _ hz)];rfl
 have e1:=c all;have e2:=h.pm.length_eq;rw[vd] at e2;have s:o.toList.length=m+1:=by rw[jE,h.sz]
 omega
theorem VJ{m:Nat}(A:Msk m):∀{hs:List Int} {k:Nat} {o:Array (Option Nat)},Own m k o->k+hs.length<=m->∃f,hs.foldl (fun g h=>(do
   let (b,k)<-g
   let j<-SetTable.layClean.free m b (SetTable.turns m) (SetTable.bits h % (m+1)) (SetTable.bits h)
   pure (b.setIfInBounds j (some k),k+1):Option (Array (Option Nat)×Nat))) (some (o,k))=some (f,k+hs.length)/\Own m (k+hs.length) f
 | [],k,o,w,_=>⟨o,rfl,w⟩
 | h::hs,k,o,w,E=>by
  rw[jV] at E;obtain⟨L,D,G⟩:=w.free (by omega)
  have hb:SetTable.bits h<2^64:=by
   unfold SetTable.bits;have:=wC h (by decide:(0:Int)<2^64)
   have:=wz h (by decide:(2^64:Int)≠0)
   omega
  have s:SetTable.bits h % (m+1)<=m:=Zz (yg _ (yk _));obtain⟨n,J,e⟩:=A.leaps s D hb;obtain⟨j,M,B,l⟩:=zat (owner:=o) (fuel:=SetTable.turns m) (n:=n) s (by unfold SetTable.turns;omega) (by rw[e];exact G)
  have c:j<o.size:=by rw[w.sz];omega
  have H:o[j]? =some none:=by
   unfold Array.getD at l;rw[dif_pos c] at l;rw[wE c];exact congrArg some (Option.isNone_iff_eq_none.mp l)
  have I:Own m (k+1) (o.setIfInBounds j (some k)):=⟨by rw[Array.size_setIfInBounds];exact w.sz,by
   rw[Array.toList_setIfInBounds,QI];exact((zev (by rw[ya];exact H)).trans (w.pm.cons k)).trans (zdy k (List.range k)).symm⟩
  obtain⟨f,e1,e2⟩:=VJ A (hs:=hs) I (by omega)
  refine⟨f,?_,by rw[jV,show k+(hs.length+1)=k+1+hs.length by omega];exact e2⟩
  rw[W0,jV,show k+(hs.length+1)=k+1+hs.length by omega,<- e1]
  congr 1
  show((SetTable.layClean.free m o (SetTable.turns m) (SetTable.bits h % (m+1)) (SetTable.bits h)).bind fun j=>pure (o.setIfInBounds j (some k),k+1))=_
  rw[B];rfl
theorem zbn{m:Nat}(c:Msk m){b:Array Int}(j:b.size<=m):∃o,SetTable.layClean m b=some o/\Own m b.size o:=by
 have g:Own m 0 (Array.replicate (m+1) none):=⟨Array.size_replicate ..,by
  rw[Array.toList_replicate];have:∀n,(List.replicate n (none:Option Nat)).filterMap id=[]:=fun n=>by
   induction n with
   | zero=>rfl
   | succ n f=>exact f
  rw[this];exact .refl _⟩
 obtain⟨o,e1,e2⟩:=VJ c (hs:=b.toList) g (by rw[jE];omega)
 rw[Zc,jE] at e1 e2;refine⟨o,?_,e2⟩
 unfold SetTable.layClean;rw[<- Array.foldl_toList];exact congrArg (Option.map (·.1)) e1
theorem zep{m f v:Nat}{b p:Bool}(E:Msk m){c:Array Int}(G:c.size<=m)(H:(m=7/\c.size<=4)\/(m=31/\c.size<=18)\/(m=127/\c.size<=76)) :
  ∃s g,SetTable.laid m f v b p c=some (s,g)/\g.toList.Perm (List.range c.size)/\TabT s c.size:=by
 obtain⟨o,e,w⟩:=zbn E G;have e2:((List.range (m+1)).filterMap fun j=>(o.getD j none).map (j,·)).map (·.2)=o.toList.filterMap id:=by
  rw[List.map_filterMap];have A:o.toList=(List.range (m+1)).map fun j=>o.getD j none:=by
   refine List.ext_getElem (by rw[jE,w.sz,zn,vd]) fun i h1 I=>?_
   rw[List.getElem_map,List.getElem_range];unfold Array.getD;rw[dif_pos (by rwa[jE] at h1)]
   rfl
  rw[A,List.filterMap_map];refine congrArg (fun f=>List.filterMap f _) (funext fun j=>?_)
  show((o.getD j none).map (j,·)).map (·.2)=id (o.getD j none)
  cases o.getD j none<;>rfl
 have l:(((List.range (m+1)).filterMap fun j=>(o.getD j none).map (j,·)).map (·.2)).Perm (List.range c.size):=by rw[e2];exact w.pm
 have ln:=l.length_eq;rw[zn,vd] at ln;refine⟨⟨m,(((List.range (m+1)).filterMap fun j=>(o.getD j none).map (j,·)).map fun x=>x.1).toArray,#[],f,b,v,p⟩,_,by unfold SetTable.laid;rw[e];rfl,l,?_,rfl,fun j D=>?_,?_,H⟩
 ·exact zdL (m+1) fun j=>o.getD j none
 ·obtain⟨x,hx,rfl⟩:=zP.mp D
  obtain⟨y,hy,B⟩:=Yi.mp hx;obtain⟨z,_,rfl⟩:=qS.mp B;exact Zz (jJ.mp hy)
 ·show(((List.range (m+1)).filterMap fun j=>(o.getD j none).map (j,·)).map (·.1)).toArray.size=_
  rw[zN,zn,ln]
theorem TabT.putAt{t:SetTable}{n j:Nat}(h:TabT t n)(f:t.place[SetTable.below t.place j]?≠some j)(g:j<=t.mask) :
  Up (t.put j).1.place/\(t.put j).1.dummies=#[]/\(∀i∈(t.put j).1.place.toList,i<=t.mask)/\(t.put j).1.place.size=n+1:=by
 have b:=Yp t.place (SetTable.below t.place j) j;rw[W5] at b;refine⟨za0 h.up f,?_,fun i c=>?_,?_⟩
 ·show(if SetTable.has t.dummies j=true then _ else t.dummies)=#[]
  rw[h.no,VS];rfl
 ·rcases qM.mp (b.mem_iff.mp c) with z | z
  ·exact h.le i z
  ·rw[qg.mp z];exact g
 ·have:=b.length_eq
  rw[jE,zS,jE,h.sz] at this;exact this
theorem TabT.more{t:SetTable}{n j:Nat}(h:TabT t n)(J:n<76)(E:t.place[SetTable.below t.place j]?≠some j)(H:j<=t.mask)(p:Bool) :
  (({ (t.put j).1 with plain:=p }:SetTable).tooFull=false/\TabT { (t.put j).1 with plain:=p } (n+1)) \/
  ({ (t.put j).1 with plain:=p }:SetTable).tooFull=true/\({ (t.put j).1 with plain:=p }:SetTable).fits (n+1)=true/\SetTable.sizeAbove (SetTable.grown (n+1))<=128/\∀f:Array Int,f.size=n+1 ->
   ∃s g,({ (t.put j).1 with plain:=p }:SetTable).relaid f (SetTable.grown (n+1))=some (s,g)/\g.toList.Perm (List.range f.size)/\TabT s f.size:=by
 obtain⟨a,b,c,d⟩:=h.putAt E H;have D:({ (t.put j).1 with plain:=p }:SetTable).fill=n+1:=by
  show(t.put j).1.place.size+(t.put j).1.dummies.size=n+1;rw[b,d];rfl
 have I:({ (t.put j).1 with plain:=p }:SetTable).tooFull=decide ((n+1)*5≥t.mask*3):=by
  unfold SetTable.tooFull;rw[D];rfl
 have ok:∀m,m=t.mask->((m=7/\n+1<=4)\/(m=31/\n+1<=18)\/(m=127/\n+1<=76))->TabT { (t.put j).1 with plain:=p } (n+1):=fun m e w=>⟨a,b,c,d,by subst e;exact w⟩
 have A:∀w m,SetTable.sizeAbove w=m+1->Msk m->∀f:Array Int,f.size<=m->((m=7/\f.size<=4)\/(m=31/\f.size<=18)\/(m=127/\f.size<=76)) ->
   ∃s g,({ (t.put j).1 with plain:=p }:SetTable).relaid f w=some (s,g)/\g.toList.Perm (List.range f.size)/\TabT s f.size:=fun w m e G f l k=>by
  unfold SetTable.relaid;rw[show SetTable.sizeAbove w-1=m by omega]
  exact zep G l k
 have B:({ (t.put j).1 with plain:=p }:SetTable).fits (n+1)=true:=by
  have:=h.lt;unfold SetTable.fits;rw[jO,jT,vN,D];exact⟨d,this⟩
 rw[I];rcases h.ms with ⟨e,l⟩ | ⟨e,l⟩ | ⟨e,l⟩
 ·by_cases z:n+1<=4
  ·exact .inl ⟨qZ (by omega),ok _ rfl (.inl ⟨e,z⟩)⟩
  ·have z:n=4:=by omega
   subst z;exact .inr ⟨zX (by omega),B,by decide +kernel,fun f hz=>A _ 31 (by decide +kernel) (.inr (.inl rfl)) f (by omega) (.inr (.inl ⟨rfl,by omega⟩))⟩
 ·by_cases z:n+1<=18
  ·exact .inl ⟨qZ (by omega),ok _ rfl (.inr (.inl ⟨e,z⟩))⟩
  ·have z:n=18:=by omega
   subst z;exact .inr ⟨zX (by omega),B,by decide +kernel,fun f hz=>A _ 127 (by decide +kernel) (.inr (.inr rfl)) f (by omega) (.inr (.inr ⟨rfl,by omega⟩))⟩
 ·exact .inl ⟨qZ (by omega),ok _ rfl (.inr (.inr ⟨e,by omega⟩))⟩
section
variable{l:Program}{w:World}{A:Around}{E:Value->Shared->Prop}{s:Shared}
def TK(l:Program)(w:World):HeapKind l w (List Key):=tupleKind (zO l w)
theorem zbB{n:Nat}{v:Value}(h:carriedByValue v=true):ofAClassStatement n v=pure false:=by
 cases v with
 | ref a=>simp[carriedByValue] at h
 | _=>first| rfl | (unfold ofAClassStatement;rfl)
theorem JC{b:Addr}{k:List Key}{Q:Bool->Shared->Prop}(hk:(TK l w).is s.heap k b)(h:Q false s):wpAny (model l w) A (ofAClassStatement 8 (.ref b)) Q E s:=by
 have D:s.TypeIs (.ref b) "tuple" :=IsTupleKey.typeIs hk;obtain⟨o,f,n,H,_,hd,G⟩:=hk;unfold ofAClassStatement;refine zf (wpAny_typeOf D ?_)
 dsimp only;refine zf (zv ?_)
 simp only[Zd,jW,if_false];refine zf (x9 H hd ?_)
 dsimp only;refine zf ?_
 show wpAny _ _ (forIn f _ _) _ _ s;rw[<- Array.forIn_toList];refine wpAny_forIn_list _ (fun rest r B=>r.1=none/\B=s/\∀v∈rest,carriedByValue v=true) _ ?_ ?_ _ _ ⟨rfl,rfl,G.byValue⟩
 ·rintro v rest r B ⟨g,rfl,c⟩
  rw[zbB (c v jb)];refine zf (zv ?_)
  simp only[jW,if_false];exact zv ⟨rfl,rfl,fun u j=>c u (jc _ j)⟩
 ·rintro⟨I,J⟩ B ⟨g,rfl,_⟩
  simp only at g;subst g;exact zv h
theorem zdc(n:Nat){v:Value}(h:carriedByValue v=true):∃b,hashByValue n v=pure b:=by
 cases v with
 | ref a=>simp[carriedByValue] at h
 | _=>first| exact⟨_,by unfold hashByValue;rfl⟩ | exact⟨_,by simp[hashByValue];rfl⟩
theorem zdd{b:Addr}{k:List Key}{Q:Bool->Shared->Prop}(hk:(TK l w).is s.heap k b)(h:∀c,Q c s):wpAny (model l w) A (hashByValue 8 (.ref b)) Q E s:=by
 have D:s.TypeIs (.ref b) "tuple" :=IsTupleKey.typeIs hk;obtain⟨o,g,n,H,_,hd,G⟩:=hk;unfold hashByValue;refine zf (wpAny_specialOf D F.slot_tuple_hash.lookup ?_)
 dsimp only;refine zf (x9 H hd ?_)
 refine zf ?_
 show wpAny _ _ (forIn g _ _) _ _ s;rw[<- Array.forIn_toList];refine wpAny_forIn_list _ (fun rest r B=>B=s/\∀v∈rest,carriedByValue v=true) _ ?_ ?_ _ _ ⟨rfl,G.byValue⟩
 ·rintro v rest r B ⟨rfl,f⟩
  obtain⟨c,e⟩:=zdc 7 (f v jb);rw[e];refine zf (zv ?_)
  cases c
  ·exact zv (zv (h _))
  ·exact zv ⟨rfl,fun u j=>f u (jc _ j)⟩
 ·rintro⟨I,J⟩ B ⟨rfl,_⟩
  cases I
  ·exact zv (h _)
  ·exact zv (h _)
theorem zci{b:Addr}{k:List Key}{g:List Value}{Q:Bool->Shared->Prop}(hk:(TK l w).is s.heap k b)(hy:∀y∈g,∃G j,y=.ref j/\(TK l w).is s.heap G j)(h:Q false s) :
  wpAny (model l w) A (searchCouldBeSeen (.ref b) g) Q E s:=by
 unfold searchCouldBeSeen;refine zf ?_
 refine wpAny_forIn_list _ (fun rest r D=>r.1=none/\D=s/\∀v∈rest,v∈g) _ ?_ ?_ _ _ ⟨rfl,rfl,fun v hv=>hv⟩
 ·rintro y rest r D ⟨B,rfl,c⟩
  obtain⟨G,j,rfl,f⟩:=hy y (c y jb);have next:∀v∈rest,v∈g:=fun v hv=>c v (jc _ hv)
  dsimp only;split
  ·exact zv ⟨rfl,rfl,next⟩
  ·refine zf ((TK l w).quiet hk ?_)
   simp only[Zd,jW,if_false];refine zf ((TK l w).quiet f ?_)
   simp only[Zd,jW,if_false];refine zf (JC hk ?_)
   simp only[jW,if_false];refine zf (JC f ?_)
   simp only[jW,if_false];exact zv ⟨rfl,rfl,next⟩
 ·rintro⟨H,I⟩ D ⟨B,rfl,_⟩
  simp only at B;subst B;exact zv h
theorem Wt{a b:Addr}{k:List Key}{o:Obj}{g:Array (Int×Value)}{M:Nat}{t:SetTable}{Q:SetFound->Shared->Prop}(hu:A.units<cLine)(hk:(TK l w).is s.heap k b)(N:s.heap.get? a=some o)(hd:o.data=.set g M t)(D:TabT t g.size)
  (el:∀e∈g.toList,∃O J,e.2=.ref J/\(TK l w).is s.heap O J/\O≠k) (q:∀j,t.place[SetTable.below t.place j]?≠some j->j<=t.mask->Q (.free j false) s) :
  ∀{n fuel:Nat} {p:SetTable.Probe} {st:Option SetTable.Probe},Far t n p->Prb t p->n<fuel->n<10*SetTable.turns t.mask->st.getD (t.probeStart ((TK l w).hash k))=p ->
   wpAny (model l w) A (setSearchFrom a (.ref b) ((TK l w).hash k) true fuel st) Q E s:=by
 have gw:t.gaveWay=false:=by
  unfold SetTable.gaveWay;rcases D.msk with e | e | e<;>rw[e]<;>rfl
 intro n;induction n using Nat.strongRecOn with
 | _ n ih=>
 intro fuel p st fa pr l1 l2 hp;obtain⟨fuel,rfl⟩:∃c,fuel=c+1:=⟨fuel-1,by omega⟩
 unfold setSearchFrom;refine zf (Zi N hd D.fits ?_)
 dsimp only;rw[gw,hp];simp only[jW,if_false];generalize B:SetTable.probe t _ _ _=r;have G:∃f,SetTable.probe.go t f ((TK l w).hash k) (10*SetTable.turns t.mask) p=r:=⟨_,B⟩;clear B;obtain⟨f,B⟩:=G;rcases Far.go (f:=f) (h:=(TK l w).hash k) D.no fa pr l2 with ⟨j,e,e2,T⟩ | ⟨j,i,p',n',e,e2,T,U,Y,e6⟩
 ·rw[e] at B
  subst B;exact zv (q j e2 T)
 ·rw[e] at B
  subst B;dsimp only;have M:=Jq e2;have il:i<g.size:=by
   have:=(Wb.mp M).1;rwa[D.sz] at this
  have H:g[i]? =some g[i]:=wE il;obtain⟨O,J,L,I,ne⟩:=el g[i] (Array.getElem_mem_toList il);generalize g[i]=x at H L;obtain⟨hx,y⟩:=x;dsimp only at L;subst L;have sm:t.sameMemory t.moves t.mask=some true:=by
   unfold SetTable.sameMemory;rw[zx (beq_self_eq_true _)]
  cases t.led
  ·simp only[WV,if_true]
   refine zf (zci hk (fun y hy=>?_) ?_)
   ·obtain⟨x,hx,rfl⟩:=zP.mp hy
    obtain⟨k2,b2,e9,h9,_⟩:=el x (by rw[Array.toList_filter] at hx;exact(jD.mp hx).1)
    exact⟨k2,b2,e9,h9⟩
   simp only[jW,if_false];rw[H];refine zf (x8 ((TK l w).eqBool hu I hk ?_))
   rw[qZ ne];refine zf (Zi N hd D.fits ?_)
   simp only[Xr,jW,if_false];rw[sm];simp only[if_true];rw[e2];dsimp only;rw[H];refine zf (wpAny_isSame_ref_self ?_)
   exact zf (zv (ih n' e6 Y U (by omega) (by omega) rfl))
  ·simp only[Zd,jW,if_false]
   rw[H];refine zf (x8 ((TK l w).eqBool hu I hk ?_))
   rw[qZ ne];refine zf (Zi N hd D.fits ?_)
   simp only[Xr,jW,if_false];rw[sm];simp only[if_true];rw[e2];dsimp only;rw[H];refine zf (wpAny_isSame_ref_self ?_)
   exact zf (zv (ih n' e6 Y U (by omega) (by omega) rfl))
def zin(l:Program)(w:World)(p:List Key×Addr):Int×Value:=((TK l w).hash p.1,.ref p.2)
def SetT(l:Program)(w:World)(h:Heap)(a:Addr)(f:List (List Key×Addr)):Prop:=
 ∃o b c t,h.get? a=some o/\o.ExactSet/\o.data=.set b c t/\b.toList.Perm (f.map (zin l w))/\TabT t b.size
theorem SetT.at{h b:Heap}{a:Addr}{c:List (List Key×Addr)}(x:SetT l w h a c)(k:∀o,h.get? a=some o->b.get? a=some o):SetT l w b a c:=let ⟨o,g,f,t,e,r⟩:=x;⟨o,g,f,t,k o e,r⟩
theorem SetT.new(h:Heap):SetT l w (h.push (zch w)) h.objs.size []:=
 ⟨zch w,#[],0,_,zT _ rfl,⟨rfl,rfl,rfl⟩,rfl,.refl _,TabT.fresh _⟩
theorem zfJ{a:Addr}{o:Obj}{b:Array (Int×Value)}{N c:Nat}{t j:SetTable}{g:Array Nat}{R:Unit->Shared->Prop}(H:s.heap.get? a=some o)(G:o.ExactSet)(hd:o.data=.set b N t)(O:t.fits b.size=true)(T:SetTable.sizeAbove c<=128)
  (e:t.relaid (b.map (·.1)) c=some (j,g)) (p:g.toList.Perm (List.range b.size)) (U:TabT j b.size) (Q:b.size<=sizeLine)
  (h:∀D I f B,Heap.SameBut a s.heap D->D.get? a=some I->I.ExactSet->I.data=.set f B j->f.toList.Perm b.toList->R () { s with heap:=D }):wpAny (model l w) A (setRelay a c) R E s:=by
 have L:(g.filterMap (b[·]?)).toList.Perm b.toList:=by
  rw[Array.toList_filterMap];exact(p.filterMap _).trans (by rw[filterMap_getElem?_range])
 have M:(g.filterMap (b[·]?)).size=b.size:=by
  have:=L.length_eq;rwa[jE,jE] at this
 unfold setRelay;refine zf (Zi H hd O ?_)
 dsimp only;rw[zr (by rw[sizeLine_eq];omega),e]
 refine zf (show wpAny _ _ (ite _ _ _) _ _ _ from wpAny_ite ?_)
 rw[zr (by rw[M];simp)]
 refine zv ?_
 have J:=yb (Obj.putSet (g.filterMap (b[·]?)) j) H (by rw[putSet_of _ _ hd];rfl)
 rw[putSet_of _ _ hd] at J;exact wpAny_storeSet_of H hd (h _ _ _ _ (QB s.heap a _) J G rfl L) (by rw[M];exact Q)
theorem zhz{a b:Addr}{k:List Key}{H:List (List Key×Addr)}{Q:Value->Shared->Prop}(hu:A.units+1<cLine)(hk:(TK l w).is s.heap k b)(a0:∀p∈H,(TK l w).is s.heap p.1 p.2)(nk:k∉H.map (·.1))(hS:SetT l w s.heap a H)(aa:H.length<76)
  (h:∀L M,Heap.SameBut a s.heap L->SetT l w L a (H++[(k,b)])->Q .none { s with heap:=L,toks:=M }):wpAny (model l w) A (call (.builtin "set.add") [.ref a,.ref b]) Q E s:=by
 obtain⟨o,f,ep,t,G,D,hd,pm,I⟩:=hS;have ln:=pm.length_eq;rw[jE,zn] at ln;have ty:s.TypeIs (.ref a) "set" :=⟨o,G,D.1⟩;refine vY F.slot_set_add ty F.entry_set_add ?_ (F.args_set_add_2 _ _)
 unfold Builtin.«set.add»;generalize Y:setAdd=SA;obtain⟨hp,g,d,M,os⟩:=s;wp_walk
 subst Y;refine(show wpAny _ _ (setAdd a (.ref b)) _ _ _ from x8 (zf ((TK l w).pyHash (tupleKind_room_in1 hu) hk ?_)))
 refine x8 ?_
 show wpAny _ _ (setAddHashedIn a (.ref b) _ 100000) _ _ _;unfold setAddHashedIn;refine zf (Zi G hd I.fits ?_)
 dsimp only;rw[show byScan (.ref b) f=false from rfl]
 simp only[jW,if_false];obtain⟨fa,pr⟩:=I.far ((TK l w).hash k);have mb:t.mask<=127:=by rcases I.msk with e | e | e<;>omega
 unfold setSearch;refine zf (Wt (s:=⟨hp,g,d,M+(TK l w).draws k,os⟩) (A:=A.in1) hu hk G hd I (fun e he=>?_) (fun j nj jl=>?_) fa pr (wD (Nat.mul_le_mul_left 10 (Nat.add_le_add_right mb 12)) (show 10*(127+12)<100000 by decide)) (by unfold SetTable.turns;omega) rfl)
 ·obtain⟨p,hp,e⟩:=zP.mp (pm.mem_iff.mp he)
  exact⟨p.1,p.2,by rw[<- e];rfl,a0 p hp,fun z=>nk (z▸List.mem_map_of_mem hp)⟩
 dsimp only;refine zf (Zi G hd I.fits ?_)
 have hz:(SetTable.insertAt f (SetTable.below t.place j) ((TK l w).hash k,Value.ref b)).size=f.size+1:=by
  have:=(Yp f (SetTable.below t.place j) ((TK l w).hash k,Value.ref b)).length_eq;rwa[jE,W5,zS,jE] at this
 have J:(SetTable.insertAt f (SetTable.below t.place j) ((TK l w).hash k,Value.ref b)).toList.Perm ((H++[(k,b)]).map (zin l w)):=by
  refine(Yp f (SetTable.below t.place j) ((TK l w).hash k,Value.ref b)).trans ?_
  rw[W5,zQ];exact pm.append_right _
 have sl:∀n,n<=77->n<=sizeLine:=fun n h=>qL h (by rw[sizeLine_eq];decide)
 have B:∀c:Bool,wpAny (model l w) A.in1 (do
   storeSet a (SetTable.insertAt f (SetTable.below t.place j) ((TK l w).hash k,Value.ref b)) { (t.put j).1 with plain:=c }
   if(!false&&({ (t.put j).1 with plain:=c }:SetTable).tooFull)=true then do
    setRelay a (SetTable.grown (f.size+1))
    pure true
   else pure true) (fun a s'=>wpAny (model l w) A.in1 (ret Value.none) (fun T s'=>∃v,T=Fin.done (Flow.ret v)/\Q v s') E s') E { heap:=hp,gens:=g,drawn:=d,toks:=M+(TK l w).draws k,os:=os }:=fun c=>by
  have sb:=QB hp a (Obj.putSet (SetTable.insertAt f (SetTable.below t.place j) ((TK l w).hash k,Value.ref b)) { (t.put j).1 with plain:=c });have U:=yb (Obj.putSet (SetTable.insertAt f (SetTable.below t.place j) ((TK l w).hash k,Value.ref b)) { (t.put j).1 with plain:=c }) G (by rw[putSet_of _ _ hd];rfl)
  rw[putSet_of _ _ hd] at U;refine zf (wpAny_storeSet_of G hd ?_ (sl _ (by omega)))
  rcases I.more (by omega) nj jl c with ⟨O,ac⟩ | ⟨O,f2,f3,f4⟩
  ·rw[O]
   simp only[Xr,jW,if_false];exact zv (zv ⟨_,rfl,h _ _ sb ⟨_,_,_,_,U,D,rfl,J,by rw[hz];exact ac⟩⟩)
  ·rw[O]
   simp only[WV,Bool.and_self,if_true];obtain⟨t',od,e1,e2,N⟩:=f4 ((SetTable.insertAt f (SetTable.below t.place j) ((TK l w).hash k,Value.ref b)).map (·.1)) (by rw[Array.size_map,hz])
   rw[Array.size_map] at e2 N;refine zf (zfJ U D rfl (by rw[hz];exact f2) f3 e1 e2 N (sl _ (by omega)) fun L o' af ae ab g2 x2 d2 p2=>?_)
   have z2:=p2.length_eq;rw[jE,jE] at z2;exact zv (zv ⟨_,rfl,h _ _ (sb.trans ab) ⟨_,_,_,_,g2,x2,d2,p2.trans J,by rw[z2];exact N⟩⟩)
 split
 ·refine zf (zdd hk fun c=>?_)
  cases c
  ·exact B false
  ·exact B _
 ·exact zf (zv (B _))
end
def zdU(P:Program)(w:World)(p:Addr)(n:Nat):HO:=.ext fun h=>∃b,SetT P w h p b/\b.length=n
def tST(P:Program)(w:World)(K:W.Frag)(U:TI)(n:Nat)(E:List Nat)(g:TG)(T:TT)(O:TE):TE:=fun σ H Q=>U σ H fun J L=>
 ∃W:Nat->Nat->List (List Key×Addr)->Hp->Prop,(∃m,W 0 m [] L)/\∀i m f c,W i m f c->(∀p∈f,SqT K c p.2 (p.1.map kV)) /\
  ((J.stop i c/\∀D,c D=none->Q (.ref D) (upd c D (zdU P w D f.length))) \/
  (J.go i c/\∃N:List (List Key×Addr)->Hp->Prop,(∀I l,N I l->∃G,G<m/\W (i+1) G I l)/\∀x s,J.yld i c x s->g x (upS n E σ) s fun j M=>j.drop n=(upS n E σ).drop n/\T j M fun b A=>
   if b=true then O j A fun y B=>∃(k:List Key) (b:Addr),y=.ref b/\SqT K B b (k.map kV)/\k∉f.map (·.1)/\f.length<76/\N (f++[(k,b)]) B else N f A))
section
variable{X:Cx}{w G j:Expr}{A:List Expr}{f:Scope}{E:Pos}{O:TI}{g:TG}{M:TT}{L:TE}
theorem Inv.keyT{l:List (Addr×Obj)}{σ:St}{H:Hp}{s:Shared}{b:Addr}{k:List Key}(I:Inv X l σ H s)(h:SqT X.K H b (k.map kV)):(TK X.prog X.w).is s.heap k b:=by
 obtain⟨B,r,⟨o,e,c,n,d⟩,_⟩:=I.tuple h;exact⟨o,B.toArray,n,e,c,d,by simpa using y4 r⟩
theorem zhI(hu:X.A.units+1<cLine)(own fr:List Str)(js:List Nat)(hc:X.calm=true)(hk:f.kind=.function)(hb:yJ f.names X.env.scope.names X.N fr js=true)(hi:PI X G j O)
  (hg:∀C s H ex,PG (zD X (own++fr) f C s H ex) G g) (hf:∀C s H ex,PF (zD X (own++fr) f C s H ex) A M) (he:∀C s H ex,PE (zD X (own++fr) f C s H ex) w L)
  (hs:∀x,foldedSetIterable j X.env x=pure x:=by intro _;rfl):PE X (.SetComp w [⟨G,j,A,0⟩] f E) (tST X.prog X.w X.K O own.length js g M L):=by
 intro aa s σ H Q I h;have B:=Wa hb;have af:∀y∈f.names,y.2=NameKind.free->∃c,X.env.cells.lookup y.1=some c:=fun y hy e=>I.ok.has y.1 (B.free y hy e)
 rw[arm_eval_SetComp];refine wpAny_comprehension_free (use:=none) rfl hs (zaA af) hk (fun y hy e=>B.loc y hy e) (thn (hi aa s σ H _ I h) fun v s1 h1=>thn h1 fun c2 s2 h2=>?_)
 obtain⟨it,U,tn,J,H2,e,I2,T,au,f2,W,⟨m0,w0⟩,aj⟩:=h2;subst e;have fl:∀b∈U,b<s2.heap.objs.size:=fun b hb=>let ⟨o,e,_⟩:=T.obj _ _ au b hb;zF e
 refine zej (wpAny_newFunctionEnv B.cell (by intro y hy;simp at hy) (fun h1 aq ar=>?_) hk)
 dsimp only at aq ar ⊢;have bf:SetT X.prog X.w (s2.heap.push (zch X.w)) s2.heap.objs.size []:=SetT.new s2.heap;have sD:=I2.fpOk (zC s2.heap.objs.size) (I2.hok.fresh (zC s2.heap.objs.size));generalize e3:s2.heap.push (zch X.w)=h3 at aq ar bf ⊢;have k3:∀b o,s2.heap.get? b=some o->h3.get? b=some o:=fun b o e=>by rw[<- e3];exact zV _ e
 have k4:∀b o,h3.get? b=some o->h1.get? b=some o:=fun b o e=>ar.extBut b o (zU (zF e)) (zV _ e)
 have I3:Inv X aa σ H2 { s2 with heap:=h3 }:=I2.kept (t':=s2.toks) k3;have hz:h3.objs.size=s2.heap.objs.size+1:=by rw[<- e3,xr]
 have ap:s2.heap.objs.size≠h3.objs.size:=by rw[hz];exact zU (Zy _)
 generalize eD:s2.heap.objs.size=D at *
 have fD:∀b∈U,D≠b:=fun b hb=>vW (fl b hb)
 have f3:∀b∈D::U,xh X aa H2 b:=fun b hb=>(zR.mp hb).elim (fun z=>z▸sD) (f2 b)
 have I4:Inv (zD X (own++fr) f h3.objs.size { s2 with heap:=h3,toks:=s2.toks } H2 (D::U)) [] (upS own.length js σ) H2 { s2 with heap:=h1,toks:=s2.toks+([]:List (Str×Value)).length }:=
  WT own fr js I3 B hk f3 (fun b hb=>by
   show b<h3.objs.size;rw[hz];exact(zR.mp hb).elim (fun z=>z▸Zy _) fun z=>W9 (fl b z)) rfl aq k4
 generalize eC:h3.objs.size=C at *
 have hx:∀b∈D::U,∀x c,(jN X.env.cells f.names []).lookup x=some c->c≠b:=fun b hb x c e=>(f3 b hb).2.2.2.2.1 x c (qG e af)
 have bt:∀b∈D::U,b∉frs X.stack:=I4.ok.exfs;have ax:∀{a0:List (Addr×Obj)} {Y:Hp} {b:Addr},b∈D::U->Y b=none->(∀p∈a0,p.1≠b)->xh (zD X (own++fr) f C { s2 with heap:=h3,toks:=s2.toks } H2 (D::U)) a0 Y b:=fun {a0 Y b} hb hn hp=>
  ⟨hn,(I4.ok.exf b hb).1,bt b hb,.inl hb,fun x c e=>hx b hb x c e,fun p h=>hp p (by simpa using h)⟩
 have ah:∀s4:Shared,s4={ s2 with heap:=h1,toks:=s2.toks+([]:List (Str×Value)).length } ->
   codeAny (model X.prog X.w) X.A (.compLoop (.SetComp w [⟨G,j,A,0⟩] f E) 0 (.ref it) (.ref D) (compEnvC f (jN X.env.cells f.names []) C X.env))
    (compPost (model X.prog X.w) X.A X.xe none (EP X aa σ Q) (.ref D) C) s4:=by
  intro s4 e4;refine za8 (fun n s'=>∃i ks Y,Inv (zD X (own++fr) f C { s2 with heap:=h3,toks:=s2.toks } H2 (D::U)) [] (upS own.length js σ) Y s'/\tn i s'.heap/\(∀b∈U,Y b=none)/\Y D=none/\SetT X.prog X.w s'.heap D ks/\W i n ks Y) ?_ m0 ?_
  ·rintro n s5 ⟨i,ks,H5,I5,be,ay,bn,bw,w5⟩
   obtain⟨o5,an,am,t5,ba,ac⟩:=id bw;have nc:∀v,o5.data≠.cell v:=fun v q=>by
    rw[ac.2.1] at q;cases q
   have av:=I5.pinned (fp:=[D]) (fun b hb=>by rw[qg.mp hb];exact ax jb bn (fun p hp=>absurd hp (by simp))) (fun b hb=>by
    rw[qg.mp hb];exact⟨_,ba,nc⟩)
   have pD:∀p∈[]++qz [D] s5.heap,p.1=D:=fun p hp=>by
    rw[QK] at hp;exact qg.mp (vH hp).1
   have mD:(D,o5)∈[]++qz [D] s5.heap:=by
    rw[QK];exact jk (qg.mpr rfl) ba
   have ao:∀{Y:Hp},(∀b∈U,Y b=none)->∀b∈U,xh (zD X (own++fr) f C { s2 with heap:=h3,toks:=s2.toks } H2 (D::U)) ([]++qz [D] s5.heap) Y b:=fun hn b hb=>ax (jc _ hb) (hn b hb) fun p hp=>by
    rw[pD p hp];exact fD b hb
   rcases(aj i n ks H5 w5).2 with ⟨stop,q⟩ | ⟨go,N,hN,step⟩
   ·refine thn (T.done (zD X (own++fr) f C { s2 with heap:=h3,toks:=s2.toks } H2 (D::U)) rfl rfl rfl hc i _ s5 _ H5 _ av (ao ay) be stop) fun r s6 ⟨hr,I6⟩=>?_
    subst hr;obtain⟨m6,bq,_⟩:=I6.loc;refine⟨m6,bq,fun h7 br=>?_⟩
    obtain⟨o6,bc,_⟩:=I6.pin (D,_) (qD _ mD);have k7:∀b o,b≠C->s6.heap.get? b=some o->h7.get? b=some o:=fun b o hb e=>br.extBut b o hb e
    have bx:SetT X.prog X.w h7 D ks:=⟨o5,an,am,t5,k7 D _ ap o6,ac⟩;refine⟨.ref D,upd H5 D (zdU X.prog X.w D ks.length),?_,rfl,q D bc⟩
    refine I3.call' (s':={ s6 with heap:=h7 }) (ch:=D::U) I6.os (XX (zbP I6.base (yo eC) k7) jb sD.1) (Jw (zas I6.hok I6.free k7) bc ⟨⟨ks,bx,rfl⟩,?_,fun h1 h2 ⟨ks,x,l⟩ e=>⟨ks,x.at e,l⟩⟩) I6.bare fun b hb=>?_
    ·exact⟨o5,k7 D _ ap o6⟩
    ·obtain⟨_,g1,_,g3,g4,g5⟩:=f3 b hb
     exact⟨g3,g1,g4,g5⟩
   ·refine thn (T.item (zD X (own++fr) f C { s2 with heap:=h3,toks:=s2.toks } H2 (D::U)) rfl rfl rfl hc i _ s5 _ H5 _ av (ao ay) be go) fun r s6 ⟨u,hr,h6⟩=>?_
    subst hr;refine thn h6 fun _ s7 ⟨x,H7,I7,r7,y7,ae,bm⟩=>?_
    have bj:=I7.pinned (ao bm) (T.obj _ _ ae);refine thn (hg _ _ _ _ _ s7 _ H7 x u _ bj r7 (step x H7 y7)) fun _ s8 ⟨σ8,H8,I8,bo,q8⟩=>?_
    refine thn (hf _ _ _ _ _ s8 σ8 H8 _ I8 q8) fun ok s9 ⟨H9,I9,q9⟩=>?_
    have ak:∀{Y:Hp} {s':Shared},Inv (zD X (own++fr) f C { s2 with heap:=h3,toks:=s2.toks } H2 (D::U)) (([]++qz [D] s5.heap)++qz U s7.heap) σ8 Y s' ->
      Inv (zD X (own++fr) f C { s2 with heap:=h3,toks:=s2.toks } H2 (D::U)) [] (upS own.length js σ) Y s':=fun {Y s'} J=>by
     refine(J.unpinned).unpinned.weak (I5.len.trans J.len.symm) fun k v e=>?_
     obtain⟨hn,e1,_⟩:=yu e;rw[<- bo,List.getElem?_drop] at e1
     rw[<- e1];congr 1
     omega
    have mF:∀b∈U,∀o,s7.heap.get? b=some o->(b,o)∈([]++qz [D] s5.heap)++qz U s7.heap:=fun b hb o e=>qD _ (jk hb e)
    have bb:=j3 (qz U s7.heap) mD;have az:∀{Y:Hp} {s':Shared},Inv (zD X (own++fr) f C { s2 with heap:=h3,toks:=s2.toks } H2 (D::U)) (([]++qz [D] s5.heap)++qz U s7.heap) σ8 Y s'->∀b∈U,Y b=none:=fun {Y s'} J b hb=>by
     obtain⟨o,e,_⟩:=T.obj _ _ ae b hb;exact(J.pin (b,o) (qD _ (mF b hb o e))).2.1
    cases ok with
    | false=>
     have as:N ks H9:=by simpa using q9
     obtain⟨m',hm,w'⟩:=hN _ _ as;obtain⟨o9,bs,_⟩:=I9.pin (D,_) (qD _ bb);exact⟨m',hm,i+1,ks,H9,ak I9,T.keep _ _ _ ae fun b hb o e=>(I9.pin (b,o) (qD _ (mF b hb o e))).1,az I9,bs,⟨o5,an,am,t5,o9,ac⟩,w'⟩
    | true=>
     have as:L σ8 H9 fun y H6=>∃(k:List Key) (b:Addr),y=.ref b/\SqT X.K H6 b (k.map kV)/\k∉ks.map (·.1)/\ks.length<76/\N (ks++[(k,b)]) H6:=by simpa using q9
     refine thn (he _ _ _ _ _ s9 σ8 H9 _ I9 as) fun yv c3 ⟨y,bi,ab,bv,ky,aw,ey,b0,bd,bp,bz⟩=>?_
     subst ey;cases(show yv=Value.ref aw from bv)
     obtain⟨m',hm,w'⟩:=hN _ _ bz;obtain⟨bu,ai,_⟩:=ab.pin (D,_) (qD _ bb);have al:=(aj _ _ _ _ w').1;refine zhz hu (ab.keyT b0) (fun p hp=>ab.keyT (al p (j3 _ hp))) bd ⟨o5,an,am,t5,bu,ac⟩ bp fun c0 bh ag bg=>?_
     refine⟨m',hm,i+1,ks++[(ky,aw)],bi,?_,T.keep _ _ _ ae fun b hb o e=>ag.extBut b o (zM (fD b hb)) (ab.pin (b,o) (qD _ (mF b hb o e))).1,az ab,ai,bg,w'⟩
     exact(ak ab).turned (t':=bh) (it:=D) (fun b o hb e=>ag.extBut b o hb e) ai ap (.inl jb) (fun x c e=>hx D jb x c e) fun p hp=>absurd (show p∈([]:List (Addr×Obj)) from hp) (by simp)
  ·subst e4
   exact⟨0,[],H2,I4,T.keep _ _ _ au fun b hb o e=>k4 b o (k3 b o e),fun b hb=>(f2 b hb).1,sD.1,bf.at fun o e=>k4 _ _ e,w0⟩
 exact za5 (ah _ rfl) (T.self X.A 0 _ _ _ (T.keep _ _ _ au fun b hb o e=>k4 b o (k3 b o e)) (ah _ rfl))
end
section
variable{X:Cx}{x:Str}{A:Pos}{g f:Expr}{j:List Expr}{c:Scope}{l:Pos}{E:TI}{D:TT}{B:TE}
theorem zfY(hu:X.A.units+1<cLine)(w:List Str)(G:List Nat)(hc:X.calm=true)(hk:c.kind=.function)(hb:vz c.names X.env.scope.names X.N [x] w G=true)(N:PI X (.Name x A) f E)
  (M:∀C s H b,PF (zD X ([x]++w) c C s H b) j D) (L:∀C s H b,PE (zD X ([x]++w) c C s H b) g B)
  (O:∀x,foldedSetIterable f X.env x=pure x:=by intro _;rfl):PE X (.SetComp g [⟨.Name x A,f,j,0⟩] c l) (tST X.prog X.w X.K E 1 G (xa 0) D B):=by
 obtain⟨h1,I,J⟩:=xf hb;exact zhI hu [x] w G hc hk h1 N (fun C s H b=>jL (I x (by simp)) J rfl) M L O
inductive ZF(P:Program)(w:World)(b:List V)(H:Hp)(Q:VK):Prop
 | mk (a:Addr) (n:Nat) (_:b=[.ref a]) (_:H a=some (zdU P w a n)) (_:Q (.int n) H):ZF P w b H Q
theorem zbF:CallR X (.builtin "len") (ZF X.prog X.w):=by
 intro J s σ H xs us Q I r h;obtain⟨a,n,rfl,hx,q⟩:=h;obtain⟨u,rfl,O⟩:=Vals.one r;cases(show u=Value.ref a from O)
 obtain⟨⟨Y,⟨o,U,T,t,M,w,hd,N,G⟩,L⟩,_,_⟩:=(show ObjOk X.prog X.w H s.heap a (zdU X.prog X.w a n) from I.hok a _ hx)
 have ln:=N.length_eq;rw[jE,zn,L] at ln;have:=G.lt;have:t.mask<=127:=by rcases G.msk with e | e | e<;>omega
 refine call_len_set M w hd G.fits (by have sb:scanBound=4096:=rfl;omega) ⟨.int n,H,I.kept (fun b o e=>e),⟨_,by rw[ln]⟩,q⟩
end
theorem zfD{K:W.Frag}{a:Addr}{xs:List V}{g:TG}{J:TT}{I:TE}{A:St}{n:Nat}{R:List (List Key×Addr)->Hp->Prop}{H:Hp}(Pv:Nat->List (List Key×Addr)->Hp->Prop)(L:Pv 0 [] H)
  (h1:∀i c H,Pv i c H->SqT K H a xs/\∀p∈c,SqT K H p.2 (p.1.map kV))
  (M:∀i x c H,xs[i]? =some x->Pv i c H->g x A H fun j E=>j.drop n=A.drop n/\J j E fun b l=>
   if b=true then I j l fun v s=>∃(k:List Key) (b:Addr),v=.ref b/\SqT K s b (k.map kV)/\k∉c.map (·.1)/\c.length<76/\Pv (i+1) (c++[(k,b)]) s else Pv (i+1) c l)
  (hd:∀c H,Pv xs.length c H->R c H) :
  ∃W:Nat->Nat->List (List Key×Addr)->Hp->Prop,(∃m,W 0 m [] H)/\∀i m c f,W i m c f->(∀p∈c,SqT K f p.2 (p.1.map kV)) /\
   (((Itt K a).stop i f/\R c f) \/
   ((Itt K a).go i f/\∃N:List (List Key×Addr)->Hp->Prop,(∀c B,N c B->∃G,G<m/\W (i+1) G c B)/\∀x D,(Itt K a).yld i f x D->g x A D fun j E=>j.drop n=A.drop n/\J j E fun b l=>
    if b=true then I j l fun y s=>∃(k:List Key) (b:Addr),y=.ref b/\SqT K s b (k.map kV)/\k∉c.map (·.1)/\c.length<76/\N (c++[(k,b)]) s else N c l)):=by
 refine⟨fun i m c f=>m=xs.length-i/\i<=xs.length/\Pv i c f,⟨_,rfl,qV _,L⟩,?_⟩
 rintro i m c f ⟨rfl,T,p⟩;obtain⟨q,all⟩:=h1 i c f p;refine⟨all,?_⟩
 by_cases w:i<xs.length
 ·refine .inr ⟨⟨xs,xs[i],q,by simp[w]⟩,Pv (i+1),fun Q B O=>⟨_,by omega,rfl,w,O⟩,fun x D y=>?_⟩
  obtain⟨e,y⟩:=y;subst e;exact M i x c _ (y xs q) p
 ·have e:i=xs.length:=by omega
  subst e;exact .inl ⟨⟨xs,q,zC _⟩,hd c f p⟩
def BoxAt(H:Hp)(b:Addr)(n:Int):Prop:=∃c b1 b2:Int,H b=some (.lst [.int c,.int b1,.int b2])/\0<=c/\0<=b1/\b1<2147483648/\0<=b2/\b2<=n
def SameB(b:Addr)(H f:Hp):Prop:=∀c o,H c=some o->c≠b->f c=some o
theorem Zu{i j:Int}(h1:0<=i)(b:i<18446744073709551616):CMul i j:=by
 have e1:(-(2^64):Int)= -18446744073709551616:=by decide
 have e2:((2^64):Int)=18446744073709551616:=by decide
 refine .inl ⟨?_,?_⟩
 ·rw[e1];omega
 ·rw[e2];exact b
theorem zfw{a m j:Int}(h:0<m)(b:m<18446744073709551616):CMul (a % m) j:=Zu (wz _ (by omega)) (Int.lt_trans (wC _ h) b)
section
variable{P:Program}{w:World}{K:W.Frag}{I:Str->Option Value}{G:Heap}
inductive X2(g:List V)(H:Hp)(Q:VK):Prop
 | mk (b:Addr) (c n:Int) (_:g=[.ref b,.int c]) (_:BoxAt H b n) (_:n<1099511627776) (_:0<c) (_:c<1073741824) (_:∀(r:Int) f,0<=r->r<c->BoxAt f b (n+1)->SameB b H f->Q (.int r) f):X2  g H Q
def xI:Sp:=fun b H Q _=>X2  b H Q
theorem u3{N P:List Str}{S:Scope}(a:S.kind=.function:=by rfl)(b:S.isCoroutine=false:=by rfl)(c:S.isGenerator=false:=by rfl)(d:N.Nodup:=by decide +kernel)(e:N.take P.length=P:=by rfl)(f:∀x∈P,S.names.lookup x=some .local∨S.names.lookup x=some .cell:=by decide +kernel)(g:∀y∈S.names,y.2≠.free:=by decide +kernel):zy N P S:=⟨a,b,c,d,e,f,g⟩
theorem zcl:zy ["_law_box_here","_law_size","_law_found","_law_step","_law_once","_law_twice"] ["_law_box_here","_law_size"] (zq (topL 42)):=u3
theorem zea{f:Addr}{T:FuncData}(F:Fun K "_law_take" "_law_take" (topL 42) f T)(B:Blt I):FnOk P w K I G CX0 1 f T ["_law_box_here","_law_size"] xI:=by
 have J:=zcl.nd;refine F.ok zcl (fun vs H Q E h=>?_) (fun a0 A O s H vs Q E hr h=>?_)
 ·obtain⟨b,D,n,rfl,_⟩:=h
  rfl
 ·obtain⟨b,D,n,rfl,⟨L,b1,b2,hb,U,Y,l,p2,aa⟩,hn,j,N,k⟩:=h
  refine⟨_,(ze (jn (zI zaf (zL z9 (pv 0) zi (fun _ _=>rfl)) zi (zH _))
   (ze (xi (zo V3 rfl B.divmod V7 (za (zL z9 (pv 0) zi (fun _ _=>rfl)) (za (pv 1) zb))) (jd rfl (zt (JY (pv 0) zi we) (zt (zu (i:=2) J rfl (Or.inl rfl)) qA))))
    (zk (zw (pv 2))))
   zZ)
   (ze (xi (zJ qR (zL z9 (pv 0) zi (fun _ _=>rfl)) zi) (JY (pv 0) zi we))
   (ze (zA (i:=3) J rfl (Or.inl rfl) (zJ qR zi (zJ xY (zL z9 (pv 0) zi (fun _ _=>rfl)) (zL z9 (pv 0) zi (fun _ _=>rfl)))))
   (ze (zA (i:=4) J rfl (Or.inl rfl) (zJ xL (zJ xY (zJ qR (zL z9 (pv 0) zi (fun _ _=>rfl)) (zJ xY zi (zL z9 (pv 0) zi (fun _ _=>rfl)))) (pv 3)) zi))
   (ze (zA (i:=5) J rfl (Or.inl rfl) (zJ xL (zJ qR (zJ xY (pv 4) (zJ qR (zJ xL (pv 4) zi) zi)) (zL z9 (pv 0) zi (fun _ _=>rfl))) zi))
   (zk (zw (zJ xL (zJ zag (zJ xL (zJ xY (pv 5) (zJ qR (zJ xL (pv 5) zi) zi)) zi) zi) (pv 1))))))))),?_⟩
  refine⟨_,rfl,b,_,_,_,rfl,rfl,u4 hb,rfl,_,_,rfl,rfl,_,rfl,?_⟩
  refine xg (fun c=>?_) (fun c=>?_)
  ·refine⟨_,rfl,b,_,_,_,rfl,rfl,u4 hb,rfl,_,rfl,_,_,rfl,⟨j,N⟩,fun p hp=>?_⟩
   have M:b≠p:=zj hb hp;refine⟨p,_,rfl,u5 zc,rfl,_,_,rfl,_,rfl,b,_,_,_,rfl,rfl,(by rw[zm M];exact hb),rfl,_,_,rfl,rfl,_,rfl,?_⟩
   refine k _ _ (wz _ (by omega)) (wC _ j) ⟨_,b1,b2,zc,Int.ediv_nonneg U (by omega),Y,l,p2,by omega⟩ fun d o e hd=>?_
   rw[zm hd,zm (zj e hp)];exact e
  ·refine⟨_,rfl,b,_,_,_,rfl,rfl,u4 hb,rfl,_,_,rfl,rfl,_,rfl,b,_,_,_,rfl,rfl,hb,rfl,?_⟩
   have g:upd H b (.lst [.int L,.int b1,.int (b2+1)]) b=some (.lst [.int L,.int b1,.int (b2+1)]):=zc;refine⟨_,rfl,b,_,_,_,rfl,rfl,u4 g,rfl,_,rfl,b,_,_,_,rfl,rfl,u4 g,rfl,_,_,rfl,rfl,Zu (by omega) (by omega),_,_,rfl,rfl,?_⟩
   refine⟨_,rfl,b,_,_,_,rfl,rfl,u4 g,rfl,_,rfl,b,_,_,_,rfl,rfl,u4 g,rfl,_,_,rfl,rfl,Zu (by omega) (by omega),_,_,rfl,rfl,_,rfl,_,_,rfl,rfl,Zu (by omega) (by omega),_,_,rfl,rfl,(by show(0:Int)<_;decide),?_⟩
   refine⟨_,rfl,_,rfl,_,_,rfl,rfl,(by show(0:Int)<_;decide),_,_,rfl,rfl,_,_,rfl,rfl,zfw (by decide) (by decide),_,rfl,b,_,_,_,rfl,rfl,u4 g,rfl,_,_,rfl,rfl,_,_,rfl,rfl,(by show(0:Int)<_;decide),?_⟩
   refine⟨_,rfl,_,rfl,_,_,rfl,rfl,(by show(0:Int)<_;decide),_,_,rfl,rfl,_,_,rfl,rfl,zfw (by decide) (by decide),_,_,rfl,rfl,(by show(0:Int)<_;decide),_,_,rfl,rfl,⟨by decide,by decide⟩,_,rfl,_,_,rfl,rfl,j,?_⟩
   refine k _ _ (wz _ (by omega)) (wC _ j) ⟨L,b1,b2+1,g,U,Y,l,by omega,by omega⟩ fun d o e hd=>?_
   rw[zm hd];exact e
inductive YV(K:W.Frag)(b:List V)(H:Hp)(Q:VK):Prop
 | mk (a:Addr) (c:List Int) (j:Nat) (_:b=[.ref a,.int j]) (_:SqL K H a (c.map V.int)) (_:j<=100) (_:∀p o,H p=none->BoxAt (upd H p o) p 0->Q (.ref p) (upd H p o)):YV K b H Q
def ze1(K:W.Frag):Sp:=fun b H Q _=>YV K b H Q
theorem zff:zy ["_law_script","_law_k","_law_cell"] ["_law_script","_law_k"] (zq (topL 41)):=u3
theorem zaC{c:Int}{j:Nat}(b:j<=100):CMul (zbJ c) (if decide (10^18<=zbJ c)=true then 1 else 0):=by
 refine .inr ?_
 split
 ·exact⟨by decide,by decide⟩
 ·exact⟨by decide,by decide⟩
theorem zdq{c:Int}:0<=zbJ c*(if decide (10^18<=zbJ c)=true then 1 else 0):=by
 have h:0<=zbJ c:=by unfold zbJ;split<;>omega
 split
 ·rw[Int.mul_one];exact h
 ·rw[Int.mul_zero];exact Zb 0
theorem zgj{f:Addr}{l:FuncData}(F:Fun K "_law_box" "_law_box" (topL 41) f l)(B:Blt I):FnOk P w K I G CX0 1 f l ["_law_script","_law_k"] (ze1 K):=by
 have N:=zff.nd;refine F.ok zff (fun O H Q E h=>?_) (fun L A g s H O Q E T h=>?_)
 ·obtain⟨a,b,j,rfl,_⟩:=h
  rfl
 ·obtain⟨a,b,j,rfl,D,J,k⟩:=h
  refine⟨_,(ze (zA (i:=2) N rfl (Or.inl rfl) (vG (zI Vr (pv 1) (zo zE rfl B.len boot_len (za (pv 0) zb)) (zH _)) (zL z9 (pv 0) (pv 1) (fun _ _=>rfl)) zi))
   (zk (zw (z7 (za (zJ xY (zo V4 rfl B.abs V9 (za (pv 2) zb)) (zW y9 rfl B.int ww (za (qB zhL (zo V4 rfl B.abs V9 (za (pv 2) zb)) (zJ zf6 zi zi) (zH _)) zb))) (za (zJ xL (zJ xY (zJ qR (zJ qR (zJ xL (pv 2) zi) (zJ xY zi (pv 1))) zi) zi) zi) (za zi zb))))))),?_⟩
  refine⟨_,rfl,_,rfl,a,_,rfl,.inl D,_,_,rfl,rfl,_,rfl,?_⟩
  refine xg (fun c=>?_) (fun c=>?_)
  ·have M:j<b.length:=by
    have:=ju c;rw[zn] at this;omega
   refine⟨_,rfl,_,rfl,a,_,_,.int b[j],rfl,rfl,D,jh (by simp[M]),?_⟩
   generalize b[j]=z;refine⟨_,rfl,_,rfl,_,rfl,_,rfl,_,_,rfl,rfl,⟨by decide,by decide,by decide⟩,_,_,rfl,rfl,.inr ⟨_,rfl,_,_,rfl,rfl,zaC J,_,rfl,_,_,rfl,rfl,(by show(0:Int)<_;decide),_,rfl,_,_,rfl,rfl,Zu (by decide) (by decide),_,_,rfl,rfl,_,_,rfl,rfl,_,_,rfl,rfl,?_,_,_,rfl,rfl,(by show(0:Int)<_;decide),(by rw[sizeLine_eq];exact(by decide:3<=16777216)),fun p hp=>k p _ hp ⟨_,_,_,zc,?_,?_,?_,by decide,by decide⟩⟩⟩
   ·refine Zu ?_ ?_
    ·have:=wz z (show(2147483629:Int)≠0 by decide)
     omega
    ·have:=wC z (show(0:Int)<2147483629 by decide)
     omega
   ·exact zdq
   ·exact wz _ (by decide)
   ·exact Int.lt_trans (wC _ (by decide)) (by decide)
  ·refine⟨_,rfl,_,rfl,_,rfl,_,rfl,_,_,rfl,rfl,⟨by decide,by decide,by decide⟩,_,_,rfl,rfl,.inr ⟨_,rfl,_,_,rfl,rfl,zaC J,_,rfl,_,_,rfl,rfl,(by show(0:Int)<_;decide),_,rfl,_,_,rfl,rfl,Zu (by decide) (by decide),_,_,rfl,rfl,_,_,rfl,rfl,_,_,rfl,rfl,?_,_,_,rfl,rfl,(by show(0:Int)<_;decide),(by rw[sizeLine_eq];exact(by decide:3<=16777216)),fun p hp=>k p _ hp ⟨_,_,_,zc,?_,?_,?_,by decide,by decide⟩⟩⟩
   ·refine Zu ?_ ?_
    ·have:=wz 0 (show(2147483629:Int)≠0 by decide)
     omega
    ·have:=wC 0 (show(0:Int)<2147483629 by decide)
     omega
   ·exact zdq
   ·exact wz _ (by decide)
   ·exact Int.lt_trans (wC _ (by decide)) (by decide)
theorem zdl{b:List V}{lo c:Option Int}{x:V}(h:x∈jY b lo c):x∈b:=List.mem_of_mem_drop (List.mem_of_mem_take h)
theorem Xa{n j:Nat}(h:j<n):ixN n (j:Int)=some j:=by
 unfold ixN;rw[zx (by omega),zx (by omega)];simp
theorem zdm(b:List Int)(lo c:Option Int):∃f:List Int,jY (b.map V.int) lo c=f.map V.int:=by
 refine⟨(b.drop (HT.sIx b.length 0 lo)).take (HT.sIx b.length b.length c-HT.sIx b.length 0 lo),?_⟩
 unfold jY;rw[zn,List.map_take,List.map_drop]
theorem zeB(b:List Int)(z:Nat):(jY (b.map V.int) none (some (z:Int))).length=min z b.length:=by
 unfold jY;rw[HT.sIx_nat,HT.sIx_none,qC,Zh,zn];omega
theorem zeC(b:List Int)(z:Nat)(c:Option Int):(jY (b.map V.int) (some (z:Int)) c).length<=b.length-min z b.length:=by
 unfold jY;rw[HT.sIx_nat,qC,Zh,zn];omega
inductive Vd(K:W.Frag)(g:List V)(H:Hp)(Q:VK):Prop
 | mk (a:Addr) (f:List Int) (z:Nat) (_:g=[.ref a,.int z]) (_:SqL K H a (f.map V.int)) (_:f.length<=63) (_:1<=z) (_:z<=63) (_:∀(p:Addr) (c:List Int) b,Same H b->SqL K b p (c.map V.int)->c.length<=z->Q (.ref p) b):Vd K g H Q
def zcb(K:W.Frag):Sp:=fun b H Q _=>Vd K b H Q
theorem zcs:zy ["_law_script","_law_size","_law_cells","_law_k","_law_cell"] ["_law_script","_law_size"] (zq (topL 43)):=u3
def zaT(a:_)(z:Nat)(p:_)(H:_)(q:_)(f:List Int):=fun(i:Nat) (σ:St) (b:Hp)=>(Ex3 fun(c:List Int) (g j:Option V)=>An5 (σ=[some (.ref a),some (.int z),some (.ref p),g,j]) (Same H b) (b p=some (.lst (c.map V.int))) (b q=some (.lst (jY (f.map V.int) (some (z:Int)) (some 63)))) (c.length=min z f.length):Prop)
theorem zeg{f:Addr}{fd:FuncData}(F:Fun K "_law_folded" "_law_folded" (topL 43) f fd)(B:Blt I):FnOk P w K I G CX0 1 f fd ["_law_script","_law_size"] (zcb K):=by
 have nd:=zcs.nd;refine F.ok zcs (fun vs H Q E h=>?_) (fun ag A ae s H vs Q E hr h=>?_)
 ·obtain⟨a,b,z,rfl,_⟩:=h
  rfl
 ·obtain⟨a,b,z,rfl,hS,af,ai,aj,k⟩:=h
  refine⟨_,(ze (zA (i:=2) nd rfl (Or.inl rfl) (zW xT rfl B.list jy (za (vF JT (pv 0) yz (vO (pv 1))) zb)))
   (ze (jA jU rfl (zd3 rfl B.enumerate (za (vF JT (pv 0) (vO (pv 1)) (vO zi)) zb)) (jd rfl (zt (zu (i:=3) nd rfl (Or.inl rfl)) (zt (zu (i:=4) nd rfl (Or.inl rfl)) qA)))
   (zk (xi (zJ qR (zL z9 (pv 2) (zJ xL (pv 3) (pv 1)) (fun _ _=>rfl)) (zJ xY (pv 4) (zJ qR (pv 3) zi))) (JY (pv 2) (zJ xL (pv 3) (pv 1)) we))))
   (zk (zw (pv 2))))),?_⟩
  refine⟨_,rfl,_,rfl,_,rfl,a,_,rfl,hS,fun l hl=>⟨l,_,rfl,.inl (u4 zc),fun p hp=>?_⟩⟩
  have s1:Same H (upd (upd H l (.lst (jY (b.map V.int) none (some (z:Int))))) p (.lst (jY (b.map V.int) none (some (z:Int))))):=(zd hl).trans (zd hp);generalize a0:upd (upd H l (.lst (jY (b.map V.int) none (some (z:Int))))) p (.lst (jY (b.map V.int) none (some (z:Int))))=H1 at s1;have M:H1 p=some (.lst (jY (b.map V.int) none (some (z:Int)))):=by rw[<- a0];exact zc
  have np:H p=none:=(zd hl).free hp;refine⟨_,rfl,_,rfl,_,rfl,_,rfl,a,_,rfl,s1.seq hS,fun q hq=>⟨q,rfl,⟨_,u4 zc⟩,?_⟩⟩
  have U:p≠q:=zj M hq;obtain⟨aa,j⟩:=zdm b none (some (z:Int));have lo:=zeB b z;have hi:=zeC b z (some 63);refine zdg (K:=K) (a:=q) (xs:=jY (b.map V.int) (some (z:Int)) (some 63)) (zaT a z p H q b)
   ⟨aa,none,none,rfl,s1.trans (zd hq),by rw[zm U,M,j],zc,by rw[<- lo,j,zn]⟩ (fun i σ Y _ ⟨_,_,_,_,_,_,h,_⟩=>u4 h) ?_ ?_
  ·rintro i x σ Y T hx ⟨J,v3,v4,rfl,sm,g,D,L⟩ hT
   have ah:i<(jY (b.map V.int) (some (z:Int)) (some 63)).length:=(zK.mp hx).1;obtain⟨c,rfl⟩:∃c,x=V.int c:=by
    have:=zdl (zY hx);obtain⟨c,_,e⟩:=zP.mp this;exact⟨c,e.symm⟩
   have hj:i % z<J.length:=by
    have:=yg i (show 0<z by omega)
    omega
   have ab:p≠T:=zj g hT;have ac:q≠T:=zj D hT;have N:upd Y T (.tup [.int i,.int c]) p=some (.lst (J.map V.int)):=by rw[zm ab];exact g
   have em:((i % z:Nat):Int)=(i:Int) % (z:Int):=Int.natCast_emod i z;have O:(0:Int)<(z:Int):=by omega
   refine⟨T,_,rfl,u5 zc,rfl,_,_,rfl,_,_,rfl,rfl,?_⟩
   refine⟨_,rfl,_,rfl,_,rfl,_,_,rfl,rfl,O,p,_,_,.int J[i % z],rfl,rfl,u4 N,(by rw[<- em];exact jh (by simp[hj])),?_⟩
   refine⟨_,rfl,_,rfl,_,_,rfl,rfl,_,_,rfl,rfl,.inr ⟨?_,?_⟩,_,_,rfl,rfl,?_⟩
   ·have e1:(-(2^64):Int)= -18446744073709551616:=by decide
    rw[e1];omega
   ·have e2:((2^64):Int)=18446744073709551616:=by decide
    rw[e2];omega
   refine⟨_,rfl,_,rfl,_,rfl,_,_,rfl,rfl,O,p,_,_,i % z,rfl,rfl,N,(by rw[<- em,zn];exact Xa hj),?_⟩
   refine⟨J.set (i % z) (J[i % z]+c*((i:Int)+2)),_,_,rfl,fun d o e=>?_,by rw[zc,List.map_set],?_,by rw[Zf];exact L⟩
   ·rw[zm (zj e np),zm (zj (sm d o e) hT)]
    exact sm d o e
   ·rw[zm (zM U),zm ac]
    exact D
  ·rintro σ Y ⟨J,v3,v4,rfl,sm,g,D,L⟩
   exact⟨_,rfl,k p J Y sm (u4 g) (by omega)⟩
theorem Wi:[V.ty "list",V.ty "tuple"].length<=sizeLine:=by rw[sizeLine_eq];exact(by decide:2<=16777216)
def spS(K:W.Frag):Nat->Sp
 | 0=>fun _ _ _ _=>False
 | n+1=>fun c H Q _=>∃d f v,c=[f,v]/\Rep K H d f/\Rep K H d v/\Dat.ok n d/\∀b,Same H b->Q (.bl true) b
theorem zcn:zy ["_law_found","_law_due"] ["_law_found","_law_due"] (zq (topL 44)):=u3
theorem zah{f:Addr}{fd:FuncData}(F:Fun K "_law_same" "_law_same" (topL 44) f fd)(B:Blt I)(hm:I "_law_same" = some (.ref f))(hb:Binds K fd ["_law_found","_law_due"] []) :
  ∀n:Nat,FnOk P w K I G CX0 n f fd ["_law_found","_law_due"] (spS K n)
 | 0=>⟨fun _ _ _ _ h=>h.elim,fun _ _ _ _ _ _ _ _ _ _ _ _ _ h=>h.elim⟩
 | n+1=>by
  have aa:Dfn P w K I G "_law_same" n ["_law_found","_law_due"] (spS K n):=⟨f,fd,zah F B hm hb n,hm,F.kp,hb⟩;have nd:=zcn.nd;refine F.ok zcn (fun vs H Q E h=>?_) (fun af A ae s H vs Q E hr h=>?_)
  ·obtain⟨d,g,v,rfl,_⟩:=h
   rfl
  ·obtain⟨d,g,v,rfl,rg,rv,ok,k⟩:=h
   refine⟨_,(ze (jn (qY (zo JF rfl B.isinstance boot_isinstance (za (pv 1) (za (qJ (za (ja (v:=.ty "list") rfl B.list jy rfl) (za (ja (v:=.ty "tuple") rfl B.tuple qv rfl) zb))) zb))))
   (ze (jn (u8 (vE (jG (qY (zo JF rfl B.isinstance boot_isinstance (za (pv 0) (za (qJ (za (ja (v:=.ty "list") rfl B.list jy rfl) (za (ja (v:=.ty "tuple") rfl B.tuple qv rfl) zb))) zb))))) (xJ (zI Qh (zo jg rfl B.isinstance boot_isinstance (za (pv 0) (za (ja (v:=.ty "list") rfl B.list jy rfl) zb))) (zo jg rfl B.isinstance boot_isinstance (za (pv 1) (za (ja (v:=.ty "list") rfl B.list jy rfl) zb))) (zH _)))))
    (zk (zw xM))
    zZ)
    (zk (zw (j6 (qB j9 (zo zE rfl B.len boot_len (za (pv 0) zb)) (zo zE rfl B.len boot_len (za (pv 1) zb)) (zH _)) (xj (zo (xB rfl) rfl B.all boot_all (za (vP [] [] rfl rfl (by kernel_rfl) (WA rfl B.zip (za (pv 0) (za (pv 1) zb))) (fun _ _ _ _=>qQ) (fun _ _ _ _=>(zg aa (hr.mono (by omega)) rfl (za (pv 0) (za (pv 1) zb))))) zb)))))))
   zZ)
   (ze (jn (u8 (vE (zI yX (pv 1) xK (zH _)) (xJ (qY (zo jg rfl B.isinstance boot_isinstance (za (pv 1) (za (ja (v:=.ty "str") rfl B.str vJ rfl) zb)))))))
   (zk (zw (j6 (qB j9 (pv 0) (pv 1) (zH _)) (xj (qB j9 (zo jg rfl B.isinstance boot_isinstance (za (pv 0) (za (ja (v:=.ty "str") rfl B.str vJ rfl) zb))) (zo jg rfl B.isinstance boot_isinstance (za (pv 1) (za (ja (v:=.ty "str") rfl B.str vJ rfl) zb))) (zH _))))))
   zZ)
   (zk (zw (j6 (zo jg rfl B.isinstance boot_isinstance (za (pv 0) (za (ja (v:=.ty "int") rfl B.int ww rfl) zb))) (j6 (qB j9 (zo jg rfl B.isinstance boot_isinstance (za (pv 0) (za (ja (v:=.ty "bool") rfl B.bool Za rfl) zb))) (zo jg rfl B.isinstance boot_isinstance (za (pv 1) (za (ja (v:=.ty "bool") rfl B.bool Za rfl) zb))) (zH _)) (xj (qB j9 (pv 0) (pv 1) (zH _))))))))),?_⟩
   refine⟨_,rfl,Wi,fun p hp=>⟨v,d.tyN,p,["list","tuple"],rfl,(rv.same (zd hp)).ty,zc,(by decide),_,rfl,?_⟩⟩
   have s1:Same H (upd H p (.tup [V.ty "list",V.ty "tuple"])):=zd hp;have J:=rg.same s1;have l:=rv.same s1;generalize upd H p (.tup [V.ty "list",V.ty "tuple"])=H1 at s1 J l;cases d with
   | non=>
    cases(show g=_ from rg);cases(show v=_ from rv)
    refine ifF rfl ⟨_,rfl,rfl,_,rfl,ifT (by simp) (ifT rfl ?_)⟩
    refine⟨_,rfl,_,rfl,rfl,_,rfl,ifT (by simp) ⟨_,rfl,_, "NoneType", "str",rfl,J.ty,(by decide),_,rfl,_, "NoneType", "str",rfl,l.ty,(by decide),rfl,?_⟩⟩
    have:=k H1 s1;simpa using this
   | str x=>
    cases(show g=_ from rg);cases(show v=_ from rv)
    refine ifF rfl ⟨_,rfl,rfl,_,rfl,ifF (by simp) ⟨_,rfl,_, "str", "str",rfl,l.ty,(by decide),_,rfl,ifT (by decide) ?_⟩⟩
    refine⟨_,rfl,_,rfl,rfl,_,rfl,ifT (by simp) ⟨_,rfl,_, "str", "str",rfl,J.ty,(by decide),_,rfl,_, "str", "str",rfl,l.ty,(by decide),rfl,?_⟩⟩
    have:=k H1 s1;simpa using this
   | bl b=>
    cases(show g=_ from rg);cases(show v=_ from rv)
    refine ifF rfl ⟨_,rfl,rfl,_,rfl,ifF (by simp) ⟨_,rfl,_, "bool", "str",rfl,l.ty,(by decide),_,rfl,ifF (by decide) ?_⟩⟩
    refine⟨_,rfl,_, "bool", "int",rfl,J.ty,(by decide),_,rfl,ifT (by decide) ⟨_,rfl,_, "bool", "bool",rfl,J.ty,(by decide),_,rfl,_, "bool", "bool",rfl,l.ty,(by decide),rfl,_,rfl,ifT (by simp) ⟨_,rfl,_,rfl,rfl,?_⟩⟩⟩
    have:=k H1 s1;simpa using this
   | int b=>
    cases(show g=_ from rg);cases(show v=_ from rv)
    refine ifF rfl ⟨_,rfl,rfl,_,rfl,ifF (by simp) ⟨_,rfl,_, "int", "str",rfl,l.ty,(by decide),_,rfl,ifF (by decide) ?_⟩⟩
    refine⟨_,rfl,_, "int", "int",rfl,J.ty,(by decide),_,rfl,ifT (by decide) ⟨_,rfl,_, "int", "bool",rfl,J.ty,(by decide),_,rfl,_, "int", "bool",rfl,l.ty,(by decide),rfl,_,rfl,ifT (by simp) ⟨_,rfl,_,rfl,rfl,?_⟩⟩⟩
    have:=k H1 s1;simpa using this
   | lst ds=>
    obtain⟨a,L,rfl,hx,rx⟩:=J;obtain⟨b,M,rfl,hy,ry⟩:=l;cases n with
    | zero=>exact(show False from ok).elim
    | succ n=>
     obtain⟨ac,O⟩:ds.length<=1000000/\∀d∈ds,Dat.ok n d:=ok;have lx:=rx.len;have ly:=ry.len;have ab:=bG1000000;refine ifT rfl ?_
     refine⟨_,rfl,Wi,fun p2 U=>⟨.ref a, "list",p2,["list","tuple"],rfl,(.inl ⟨rfl,L,(zd U).seq hx⟩),zc,(by decide),_,rfl,ifF rfl ?_⟩⟩
     have s2:Same H1 (upd H1 p2 (.tup [V.ty "list",V.ty "tuple"])):=zd U;have c:=s2.seq hx;have j:=s2.seq hy;have Y:=rx.same s2;have a0:=ry.same s2;have s3:=s1.trans s2;generalize upd H1 p2 (.tup [V.ty "list",V.ty "tuple"])=H2 at s2 s3 c j Y a0;refine⟨_,rfl,.ref a, "list", "list",rfl,(.inl ⟨rfl,L,c⟩),(by decide),_,rfl,.ref b, "list", "list",rfl,(.inl ⟨rfl,M,j⟩),(by decide),rfl,_,rfl,ifF (by decide) ?_⟩
     refine⟨_,rfl,a,L,rfl,(.inl c),_,rfl,b,M,rfl,(.inl j),rfl,_,rfl,ifT (by simp[lx,ly]) ?_⟩
     refine⟨_,rfl,_,rfl,true,true,a,b,rfl,⟨L,c⟩,⟨M,j⟩,?_⟩
     refine J8 (K:=K) (k1:=true) (k2:=true) (xs:=L) (ys:=M) (fun i zs H3=>zs=List.replicate i (V.bl true)/\Same H2 H3) ⟨rfl,u6 _⟩ (fun i zs H3 ⟨_,N⟩=>⟨N.seq c,N.seq j⟩) ?_ ?_
     ·rintro i x y zs H3 T e1 e2 ⟨rfl,N⟩ hT
      have hi:i<ds.length:=by have:=(zK.mp e1).1;omega
      obtain⟨d1,q1,r1⟩:=Y.get e1;obtain⟨d2,q2,r2⟩:=a0.get e2;rw[q1] at q2;cases q2
      have s4:=N.trans (zd (o:=.tup [x,y]) hT);refine⟨T,_,rfl,u5 zc,rfl,_,_,rfl,_,_,rfl,rfl,rfl,?_⟩
      refine⟨_,rfl,_,rfl,d1,x,y,rfl,r1.same s4,r2.same s4,O d1 (zY q1),fun H5 s5=>⟨?_,?_,s4.trans s5⟩⟩
      ·rw[xP];omega
      ·rw[QC]
     ·rintro zs H3 ⟨rfl,N⟩
      refine⟨by rw[xP];omega,fun D hD=>⟨D,List.replicate (min L.length M.length) true,rfl,?_,?_⟩⟩
      ·refine u4 ?_
       rw[zc,Yd]
      ·have:=k _ (s3.trans (N.trans (zd (o:=.lst (List.replicate (min L.length M.length) (V.bl true))) hD)))
       simpa using this
   | tup ds=>
    obtain⟨a,L,rfl,hx,rx⟩:=J;obtain⟨b,M,rfl,hy,ry⟩:=l;cases n with
    | zero=>exact(show False from ok).elim
    | succ n=>
     obtain⟨ac,O⟩:ds.length<=1000000/\∀d∈ds,Dat.ok n d:=ok;have lx:=rx.len;have ly:=ry.len;have ab:=bG1000000;refine ifT rfl ?_
     refine⟨_,rfl,Wi,fun p2 U=>⟨.ref a, "tuple",p2,["list","tuple"],rfl,(.inr ⟨rfl,L,(zd U).sqT hx⟩),zc,(by decide),_,rfl,ifF rfl ?_⟩⟩
     have s2:Same H1 (upd H1 p2 (.tup [V.ty "list",V.ty "tuple"])):=zd U;have c:=s2.sqT hx;have j:=s2.sqT hy;have Y:=rx.same s2;have a0:=ry.same s2;have s3:=s1.trans s2;generalize upd H1 p2 (.tup [V.ty "list",V.ty "tuple"])=H2 at s2 s3 c j Y a0;refine⟨_,rfl,.ref a, "tuple", "list",rfl,(.inr ⟨rfl,L,c⟩),(by decide),_,rfl,.ref b, "tuple", "list",rfl,(.inr ⟨rfl,M,j⟩),(by decide),rfl,_,rfl,ifF (by decide) ?_⟩
     refine⟨_,rfl,a,L,rfl,(.inr c),_,rfl,b,M,rfl,(.inr j),rfl,_,rfl,ifT (by simp[lx,ly]) ?_⟩
     refine⟨_,rfl,_,rfl,false,false,a,b,rfl,⟨L,c⟩,⟨M,j⟩,?_⟩
     refine J8 (K:=K) (k1:=false) (k2:=false) (xs:=L) (ys:=M) (fun i zs H3=>zs=List.replicate i (V.bl true)/\Same H2 H3) ⟨rfl,u6 _⟩ (fun i zs H3 ⟨_,N⟩=>⟨N.sqT c,N.sqT j⟩) ?_ ?_
     ·rintro i x y zs H3 T e1 e2 ⟨rfl,N⟩ hT
      have hi:i<ds.length:=by have:=(zK.mp e1).1;omega
      obtain⟨d1,q1,r1⟩:=Y.get e1;obtain⟨d2,q2,r2⟩:=a0.get e2;rw[q1] at q2;cases q2
      have s4:=N.trans (zd (o:=.tup [x,y]) hT);refine⟨T,_,rfl,u5 zc,rfl,_,_,rfl,_,_,rfl,rfl,rfl,?_⟩
      refine⟨_,rfl,_,rfl,d1,x,y,rfl,r1.same s4,r2.same s4,O d1 (zY q1),fun H5 s5=>⟨?_,?_,s4.trans s5⟩⟩
      ·rw[xP];omega
      ·rw[QC]
     ·rintro zs H3 ⟨rfl,N⟩
      refine⟨by rw[xP];omega,fun D hD=>⟨D,List.replicate (min L.length M.length) true,rfl,?_,?_⟩⟩
      ·refine u4 ?_
       rw[zc,Yd]
      ·have:=k _ (s3.trans (N.trans (zd (o:=.lst (List.replicate (min L.length M.length) (V.bl true))) hD)))
       simpa using this
theorem le0:([]:List V).length<=sizeLine:=qV _
theorem le2{x y:V}:[x,y].length<=sizeLine:=by rw[sizeLine_eq];exact(by decide:2<=16777216)
theorem SameB.refl(b:Addr)(H:Hp):SameB b H H:=fun _ _ e _=>e
def u9:=@SameB.refl
theorem SameB.trans{b:Addr}{H f g:Hp}(a:SameB b H f)(c:SameB b f g):SameB b H g:=fun d o e hd=>c d o (a d o e hd) hd
theorem SameB.of{b:Addr}{H c:Hp}(a:Same H c):SameB b H c:=fun d o e _=>a d o e
def ua:=@SameB.of
theorem SameB.new{b p:Addr}{o:HO}{H c:Hp}(a:SameB b H c)(h:c p=none):SameB b H (upd c p o):=a.trans (.of (zd h))
theorem BoxAt.new{b p:Addr}{o:HO}{H:Hp}{n:Int}(a:BoxAt H b n)(h:H p=none):BoxAt (upd H p o) b n:=by
 obtain⟨c,b1,b2,e,r⟩:=a;exact⟨c,b1,b2,by rw[zm (zj e h)];exact e,r⟩
theorem BoxAt.same{b:Addr}{H c:Hp}{n:Int}(a:BoxAt H b n)(s:Same H c):BoxAt c b n:=by
 obtain⟨f,b1,b2,e,r⟩:=a;exact⟨f,b1,b2,s _ _ e,r⟩
theorem BoxAt.ne{b t:Addr}{H:Hp}{n:Int}{o:HO}(a:BoxAt H b n)(h:H t=some o)(c:∀x y z,o≠.lst [x,y,z]):t≠b:=by
 obtain⟨f,b1,b2,e,r⟩:=a;exact Vu h e (c _ _ _)
theorem BoxAt.some{b:Addr}{H:Hp}{n:Int}(a:BoxAt H b n):∃o,H b=.some o:=let ⟨_,_,_,e,_⟩:=a;⟨_,e⟩
theorem BoxAt.mono{b:Addr}{H:Hp}{n m:Int}(a:BoxAt H b n)(h:n<=m):BoxAt H b m:=by
 obtain⟨c,b1,b2,e,f,g,j,l,s⟩:=a;exact⟨c,b1,b2,e,f,g,j,l,by omega⟩
theorem le1{x:V}:[x].length<=sizeLine:=by rw[sizeLine_eq];exact(by decide:1<=16777216)
theorem le3{x y z:V}:[x,y,z].length<=sizeLine:=by rw[sizeLine_eq];exact(by decide:3<=16777216)
theorem le4{x y z u:V}:[x,y,z,u].length<=sizeLine:=by rw[sizeLine_eq];exact(by decide:4<=16777216)
theorem leN{b:List V}(h:b.length<=1000):b.length<=sizeLine:=by rw[sizeLine_eq];omega
theorem Qy{α:Type}{xs:List α}{i:Int}(h:0<=i)(c:i<xs.length):∃v,atI xs i=some v/\xs[i.toNat]? =some v:=by
 have b:i.toNat<xs.length:=by omega
 refine⟨xs[i.toNat],?_,by simp[b]⟩
 have:=jh (xs:=xs) (j:=i.toNat) (v:=xs[i.toNat]) (by simp[b])
 rwa[show((i.toNat:Nat):Int)=i by omega] at this
theorem fm{α:V->Prop}{x:V}{b:List V}(h:α x)(c:∀y∈b,α y):∀y∈x::b,α y:=fun y hy=>(zR.mp hy).elim (fun e=>e▸h) (c y)
theorem SameB.put{b m:Addr}{H f:Hp}{o:HO}(s:SameB b H f)(h:H m=none):SameB b H (upd f m o):=fun c u e hc=>by
 rw[zm (zj e h)];exact s c u e hc
theorem SameB.none{b m:Addr}{H c:Hp}(s:SameB b H c)(h:c m=none)(f:m≠b):H m=none:=by
 cases q:H m with
 | none=>rfl
 | some o=>have:=s m o q f;rw[h] at this;cases this
def vp(x:Str):Prop:=(x.cps.toList.map ZI).all id=true
theorem zgp{r:Int}(f:0<=r)(h1:r<26):∃c,atI za9.cps.toList r=some c/\ZI c=true:=by
 rw[VF];obtain⟨c,e,b⟩:=Qy (xs:=List.range' 97 26) f (by rw[List.length_range'];omega)
 have g:=List.mem_range'_1.mp (zY b);refine⟨c,e,?_⟩
 unfold ZI;rw[zX (by omega),zX (by omega)]
 rfl
theorem zc5{c:Nat}{y:Str}(h:ZI c=true)(hy:vp y):vp ((⟨#[c]⟩:Str)++y):=by
 unfold vp at hy ⊢;show((#[c]++y.cps).toList.map ZI).all id=true;rw[Array.toList_append,zQ,List.all_append,hy,Bool.and_true];show(ZI c&&true)=true;rw[h];rfl
theorem zc7{c:Nat}{y:Str}:((⟨#[c]⟩:Str)++y).length=y.length+1:=by
 show(#[c]++y.cps).size=y.cps.size+1;rw[Array.size_append];show 1+_=_;omega
theorem BoxAt.nne{b p:Addr}{H:Hp}{n:Int}(a:BoxAt H b n)(h:H p=none):p≠b:=by
 obtain⟨o,e⟩:=a.some;exact(zj e h).symm
theorem BoxAt.other{b l:Addr}{H:Hp}{n:Int}{o:HO}(a:BoxAt H b n)(h:l≠b):BoxAt (upd H l o) b n:=by
 obtain⟨c,b1,b2,e,r⟩:=a;exact⟨c,b1,b2,by rw[zm (zM h)];exact e,r⟩
def Nm(x:Str):Prop:=x.length<=8/\(∀c∈x.cps.toList,c<1000000)/\1<=x.length/\vp x
theorem zh3{x:Str}(b:1<=x.length)(h:x.length<=8)(l:vp x):Nm x:=by
 refine⟨h,fun c hc=>?_,b,l⟩
 unfold vp at l;have:=vX.mp l (ZI c) (zP.mpr ⟨c,hc,rfl⟩);unfold ZI at this;simp at this;omega
theorem Jg:∀(b:List Str),(b.map V.str).all xO=true
 | []=>rfl
 | n::b=>by
  show(true&&(b.map V.str).all xO)=true;rw[Jg b];rfl
inductive Jj(f:List V)(H:Hp)(Q:VK):Prop
 | mk (c b:Int) (_:f=[.int c,.int b]) (_:0<=c) (_:1<=b) (_:b<=8) (_:∀y:Str,(y.length:Int)=b->vp y->Q (.str y) H):Jj  f H Q
def YH:Sp:=fun b H Q _=>Jj  b H Q
theorem Y1:zy ["_law_number","_law_size","_law_word","_law_k"] ["_law_number","_law_size"] (zq (topL 45)):=u3
def zaS(c:_)(H:_):=fun(i:Nat) (σ:St) (f:Hp)=>(Ex3 fun(b:Int) (y:Str) (g:Option V)=>An5 (σ=[some (.int b),some (.int c),some (.str y),g]) (0<=b) (y.length=i) (vp y) (f=H):Prop)
theorem zcV{f:Addr}{M:FuncData}(F:Fun K "_law_spelled" "_law_spelled" (topL 45) f M)(B:Blt I):FnOk P w K I G CX0 1 f M ["_law_number","_law_size"] YH:=by
 have D:=Y1.nd;refine F.ok Y1 (fun vs H Q E h=>?_) (fun Y A L s H vs Q E hr h=>?_)
 ·obtain⟨l,g,rfl,_⟩:=h
  rfl
 ·obtain⟨l,g,rfl,n0,s0,s1,k⟩:=h
  have N:=bG100000;have j:=bGe;refine⟨_,(ze (zA (i:=2) D rfl (Or.inl rfl) zcJ)
   (ze (jA jU rfl (jx rfl B.range (za (pv 1) zb)) (zu (i:=3) D rfl (Or.inl rfl))
   (ze (zA (i:=2) D rfl (Or.inl rfl) (zJ WC (zL zgw zcJ (zJ xL (pv 0) zi) (fun _ _=>rfl)) (pv 2)))
    (zk (zA (i:=0) D rfl (Or.inl rfl) (zJ zag (pv 0) zi)))))
   (zk (zw (pv 2))))),?_⟩
  refine⟨_,rfl,_,rfl,(by rw[j];omega),(by rw[j];omega),?_⟩
  refine jR (zaS g H) ⟨l,_,_,rfl,n0,rfl,rfl,rfl⟩ ?_ ?_
  ·rintro i σ U hi ⟨b,y,v3,rfl,T,O,J,rfl⟩
   obtain⟨c,hc,lc⟩:=zgp (r:=b % 26) (wz _ (by decide)) (wC _ (by decide))
   refine⟨_,rfl,_,_,rfl,rfl,(by show(0:Int)<26;decide),_,_,c,rfl,rfl,(by rw[sizeLine_eq];decide),hc,_,rfl,_,_,rfl,rfl,?_,?_⟩
   ·show 1+y.length<=sizeLine
    omega
   ·exact⟨_,rfl,_,_,rfl,rfl,⟨by decide,by decide⟩,_,_,_,rfl,Int.ediv_nonneg T (by decide),by rw[zc7,O],zc5 lc J,rfl⟩
  ·rintro σ U ⟨b,y,v3,rfl,T,O,J,rfl⟩
   exact⟨_,rfl,k y (by omega) J⟩
inductive YO(g:List V)(H:Hp)(Q:VK):Prop
 | mk (b t:Addr) (n:Int) (f:List Str) (_:g=[.ref b,.ref t]) (_:BoxAt H b n) (_:n<1099511000000) (_:t≠b) (_:H t=some (.lst (f.map V.str))) (_:f.length<=1000) (_:∀(y:Str) c,SameB b H c->BoxAt c b (n+12)->1<=y.length->y.length<=8->vp y->Q (.str y) c):YO  g H Q
def zeW:Sp:=fun b H Q _=>YO  b H Q
theorem ze9:zy ["_law_box_here","_law_taken","_law_size","_law_number","_law_k","_law_word","_law_turn"] ["_law_box_here","_law_taken"] (zq (topL 46)):=u3
theorem zfV{r:Int}(b:0<=r)(h1:r<4):∃z:Int,atI [V.int 3,V.int 3,V.int 3,V.int 8] r=some (.int z)/\3<=z/\z<=8:=by
 have hc:r=0\/r=1\/r=2\/r=3:=by omega
 rcases hc with rfl | rfl | rfl | rfl
 ·exact⟨3,rfl,by decide,by decide⟩
 ·exact⟨3,rfl,by decide,by decide⟩
 ·exact⟨3,rfl,by decide,by decide⟩
 ·exact⟨8,rfl,by decide,by decide⟩
def zaR(b:_)(t:_)(g:_)(H:_)(n:_):=fun(i:Nat) (σ:St) (f:Hp)=>(Ex2 fun(c:Int) (j:Option V)=>An4 (σ=[some (.ref b),some (.ref t),some (.int (1+g)),some (.int c),j,none,none]) (0<=c) (SameB b H f) (BoxAt f b (n+2+i)):Prop)
def zaQ(b:_)(t:_)(j:_)(c:_)(f:_):=fun(i:Nat) (σ:St) (g:Hp)=>(Ex3 fun(l s:Option V) (y:Str)=>An5 (σ=[some (.ref b),some (.ref t),some (.int (1+j)),some (.int c),l,some (.str y),s]) (1<=y.length) (y.length<=8) (vp y) (g=f):Prop)
theorem zgc{f:Addr}{fd:FuncData}(F:Fun K "_law_name" "_law_name" (topL 46) f fd)(B:Blt I)(j:Dfn P w K I G "_law_take" 1 ["_law_box_here","_law_size"] xI)(g:Dfn P w K I G "_law_spelled" 1 ["_law_number","_law_size"] YH):FnOk P w K I G CX0 2 f fd ["_law_box_here","_law_taken"] zeW:=by
 have J:=ze9.nd;refine F.ok ze9 (fun vs H Q E h=>?_) (fun ag A af s H vs Q E N h=>?_)
 ·obtain⟨b,t,n,U,rfl,_⟩:=h
  rfl
 ·obtain⟨b,t,n,U,rfl,B0,hn,ae,ht,ah,k⟩:=h
  have D:=bGe;refine⟨_,(ze (zA (i:=2) J rfl (Or.inl rfl) (zJ qR zi (zg j N.m rfl (za (pv 0) (za (zL z9 (z7 (za zi (za zi (za zi (za zi zb))))) (zg j N.m rfl (za (pv 0) (za zi zb))) (fun _ _=>rfl)) zb)))))
   (ze (zA (i:=3) J rfl (Or.inl rfl) zi)
   (ze (jA jU rfl (jx rfl B.range (za (pv 2) zb)) (zu (i:=4) J rfl (Or.inl rfl))
   (zk (zA (i:=3) J rfl (Or.inl rfl) (zJ qR (zJ xY (pv 3) zi) (zg j N.m rfl (za (pv 0) (za zi zb)))))))
   (ze (zA (i:=5) J rfl (Or.inl rfl) (zg g N.m rfl (za (pv 3) (za (pv 2) zb))))
   (ze (jA jU rfl (jx rfl B.range (za (zJ qR (zo zE rfl B.len boot_len (za (pv 1) zb)) zi) zb)) (zu (i:=6) J rfl (Or.inl rfl))
   (zk (jn (zI yY (pv 5) (pv 1) (by with_unfolding_all rfl))
    (zk (zA (i:=5) J rfl (Or.inl rfl) (zg g N.m rfl (za (zJ qR (pv 3) (pv 6)) (za zi zb)))))
    zZ)))
   (zk (zw (pv 5)))))))),?_⟩
  refine⟨_,rfl,le4,fun l hl=>⟨_,rfl,b,4,n,rfl,B0.new hl,by omega,by decide,by decide,fun r H1 r0 r1 B1 S1=>?_⟩⟩
  have L1:=S1 l _ (zc (H:=H)) ((B0.new hl).ne (zc (H:=H) (o:=.lst [.int 3,.int 3,.int 3,.int 8])) (by intro x y z e;cases e))
  have aa:=((u9 b H).new (o:=.lst [.int 3,.int 3,.int 3,.int 8]) hl).trans S1;obtain⟨z,ez,z0,z1⟩:=zfV r0 r1;refine⟨l,_,_,_,rfl,rfl,u4 L1,ez,b,z,n+1,rfl,B1,by omega,by omega,by omega,fun r2 H2 a0 a1 B2 S2=>⟨_,_,rfl,rfl,?_⟩⟩
  have ab:=aa.trans S2;refine⟨_,rfl,_,rfl,(by rw[D];omega),(by rw[D];omega),?_⟩
  refine jR (zaR b t r2 H n) ⟨0,_,rfl,by decide,ab,B2.mono (by omega)⟩ ?_ ?_
  ·rintro i σ H4 hi ⟨L,v4,rfl,m0,T,Y⟩
   refine⟨_,rfl,_,_,rfl,rfl,.inr ⟨by decide,by decide⟩,_,rfl,b,26,_,rfl,Y,by omega,by decide,by decide,fun r3 H5 c0 c1 B5 S5=>⟨_,_,rfl,rfl,_,_,rfl,?_,T.trans S5,B5.mono (by omega)⟩⟩
   omega
  ·rintro σ H4 ⟨L,v4,rfl,m0,T,Y⟩
   refine⟨_,rfl,_,rfl,L,1+r2,rfl,m0,by omega,by omega,fun y ly M=>?_⟩
   have O:=T t _ ht ae;have el:(U.map V.str).length=U.length:=zn ..;refine⟨_,rfl,t,_,rfl,.inl (u4 O),_,_,rfl,rfl,_,rfl,(by rw[D,el];omega),(by rw[D,el];omega),?_⟩
   refine jR (zaQ b t r2 L H4) ⟨_,_,y,rfl,by omega,by omega,M,rfl⟩ ?_ ?_
   ·rintro i σ H5 hi ⟨v4,v6,y,rfl,y0,y1,M,rfl⟩
    refine⟨_,rfl,_,rfl,t,_,rfl,.inl (u4 O),rfl,Jg U,_,rfl,xg (fun c=>?_) (fun c=>⟨_,_,y,rfl,y0,y1,M,rfl⟩)⟩
    exact⟨_,rfl,_,rfl,_,_,rfl,rfl,_,8,rfl,by omega,by decide,by decide,fun y' ai ac=>⟨_,_,y',rfl,by omega,by omega,ac,rfl⟩⟩
   ·rintro σ H5 ⟨v4,v6,y,rfl,y0,y1,M,rfl⟩
    exact⟨_,rfl,k y _ T (Y.mono (by omega)) y0 y1 M⟩
def Row(H:Hp)(l:Addr)(b:List Str):Prop:=H l=some (.lst (b.map V.str))/\∀x∈b,Nm x
theorem Row.same{H b:Hp}{l:Addr}{c:List Str}(r:Row H l c)(s:Same H b):Row b l c:=⟨s _ _ r.1,r.2⟩
theorem Row.draw{H c:Hp}{b l:Addr}{f:List Str}(r:Row H l f)(s:SameB b H c)(h:l≠b):Row c l f:=⟨s _ _ r.1 h,r.2⟩
inductive Jn(g:List V)(H:Hp)(Q:VK):Prop
 | mk (b:Addr) (m n:Int) (_:g=[.ref b,.int m]) (_:BoxAt H b n) (_:n<1000000) (_:0<=m) (_:m<=12) (_:∀(l:Addr) (f:List Str) c,SameB b H c->BoxAt c b (n+150)->l≠b->H l=none->Row c l f->(f.length:Int)=m->Q (.ref l) c):Jn  g H Q
def YN:Sp:=fun b H Q _=>Jn  b H Q
theorem Y5:zy ["_law_box_here","_law_many","_law_found","_law_k"] ["_law_box_here","_law_many"] (zq (topL 47)):=u3
def zaP(b:_)(m:_)(l:_)(H:_)(n:_):=fun(i:Nat) (σ:St) (c:Hp)=>(Ex2 fun(f:List Str) (g:Option V)=>An5 (σ=[some (.ref b),some (.int m),some (.ref l),g]) (SameB b H c) (BoxAt c b (n+12*i)) (Row c l f) (f.length=i):Prop)
theorem zcY{f:Addr}{fd:FuncData}(F:Fun K "_law_names" "_law_names" (topL 47) f fd)(B:Blt I)(c:Dfn P w K I G "_law_name" 2 ["_law_box_here","_law_taken"] zeW):FnOk P w K I G CX0 3 f fd ["_law_box_here","_law_many"] YN:=by
 have nd:=Y5.nd;refine F.ok Y5 (fun vs H Q E h=>?_) (fun aa A O s H vs Q E hr h=>?_)
 ·obtain⟨b,m,n,rfl,_⟩:=h
  rfl
 ·obtain⟨b,m,n,rfl,T,hn,m0,m1,k⟩:=h
  have a0:=bG100000;have D:=bGe;refine⟨_,(ze (zA (i:=2) nd rfl (Or.inl rfl) (z7 zb))
   (ze (jA jU rfl (jx rfl B.range (za (pv 1) zb)) (zu (i:=3) nd rfl (Or.inl rfl))
   (zk (qN (xo j4 vh vg qE (pv 2) (za (zg c hr.m rfl (za (pv 0) (za (pv 2) zb))) zb)))))
   (zk (zw (pv 2))))),?_⟩
  refine⟨le0,fun l J=>?_⟩
  have nl:=T.nne J;refine⟨_,rfl,_,rfl,(by rw[D];omega),(by rw[D];omega),?_⟩
  refine jR (zaP b m l H n) ⟨[],_,rfl,(u9 b H).new J,(T.new J).mono (by omega),⟨zc,fun x h=>nomatch h⟩,rfl⟩ ?_ ?_
  ·rintro i σ U hi ⟨L,v3,rfl,N,M,j,g⟩
   refine⟨_,rfl,.inl ⟨rfl,_,u4 j.1⟩,_,rfl,_,rfl,b,l,_,L,rfl,M,by omega,nl,j.1,by omega,fun y H5 Y B5 y0 y1 al=>⟨l,_,_,rfl,rfl,(j.draw Y nl).1,by rw[zn,g];omega,?_⟩⟩
   refine⟨L++[y],_,rfl,(N.trans Y).put J,(B5.other nl).mono (by omega),⟨by rw[zc,zQ];rfl,fun x hx=>?_⟩,by rw[zS,g];rfl⟩
   rcases qM.mp hx with q | q
   ·exact j.2 x q
   ·rw[qg.mp q];exact zh3 y0 y1 al
  ·rintro σ U ⟨L,v3,rfl,N,M,j,g⟩
   exact⟨_,rfl,k l L U N (M.mono (by omega)) nl J j (by omega)⟩
def PlA(H:Hp)(a:Addr):Prop:=∃x y:Int,H a=some (.tup [.int x,.int y])/\0<=x/\x<=1000/\0<=y/\y<=1000
theorem PlA.imp{H b:Hp}{a:Addr}(h:PlA H a)(f:∀o,H a=some o->b a=some o):PlA b a:=let ⟨x,y,e,r⟩:=h;⟨x,y,f _ e,r⟩
theorem PlA.draw{H c:Hp}{a b:Addr}{n:Int}(h:PlA H a)(B:BoxAt H b n)(s:SameB b H c):PlA c a:=by
 obtain⟨x,y,e,r⟩:=h;obtain⟨g,b1,b2,f,_⟩:=B;exact⟨x,y,s a _ e (Vu e f (by intro z;cases z)),r⟩
def LieAt(H:Hp)(b:List Addr)(c:List (Int×Int)):Prop:=b.length=c.length/\∀(i:Nat) (q:Int×Int),c[i]? =some q->∃a,b[i]? =some a/\H a=some (.tup [.int q.1,.int q.2])
theorem LieAt.imp{H j:Hp}{g:List Addr}{l:List (Int×Int)}(h:LieAt H g l)(f:∀a o,a∈g->H a=some o->j a=some o):LieAt j g l:=⟨h.1,fun i q e=>let ⟨a,b,c⟩:=h.2 i q e;⟨a,b,f _ _ (zY b) c⟩⟩
theorem LieAt.prs{K:W.Frag}{H:Hp}{f:List Addr}{g:List (Int×Int)}(h:LieAt H f g):zgQ K H (f.map V.ref) g:=⟨by rw[zn];exact h.1,fun i q e=>let ⟨a,b,c⟩:=h.2 i q e;⟨a,by rw[qm,b];rfl,u5 c⟩⟩
theorem zfo{α:Type}[DecidableEq α]:∀{b ys:List α},b.Nodup->(∀x∈b,x∈ys)->b.length<=ys.length
 | [],_,_,_=>qV _
 | x::b,ys,g,h=>by
  obtain⟨c,f⟩:=Zx.mp g;have hx:=h x jb;have:=zfo f (ys:=ys.erase x) fun z hz=>(Yk fun e=>c (by rw[<- e];exact hz)).mpr (h z (jc _ hz))
  rw[XL hx] at this;have:=XH hx;rw[jV];omega
theorem zc6{H:Hp}:∀{c:List Addr},(∀a∈c,PlA H a)->∃g,LieAt H c g
 | [],_=>⟨[],rfl,fun i q e=>by cases e⟩
 | a::c,h=>by
  obtain⟨g,l,f⟩:=zc6 fun b hb=>h b (jc _ hb)
  obtain⟨x,y,e,_⟩:=h a jb;refine⟨(x,y)::g,by rw[jV,jV,l],fun i q j=>?_⟩
  cases i with
  | zero=>cases j;exact⟨a,rfl,e⟩
  | succ i=>exact f i q j
theorem LieAt.mem{H:Hp}{f:List Addr}{c:List (Int×Int)}(h:LieAt H f c){a:Addr}(j:a∈f):∃q∈c,H a=some (.tup [.int q.1,.int q.2]):=by
 obtain⟨i,g,e⟩:=Yj j;have hp:i<c.length:=by rw[<- h.1];exact g
 obtain⟨b,e1,e2⟩:=h.2 i _ (qP hp);rw[qP g,e] at e1;cases e1;exact⟨_,wA hp,e2⟩
theorem ziW{ps:List (Int×Int)}{x0 y:Int}(g:ps.length<=1000):¬∀j:Nat,j<ps.length+1->((x0+j) % 1001,y)∈ps:=fun h=>by
 have f:((List.range (ps.length+1)).map fun(j:Nat)=>((x0+j) % 1001,y)).Nodup:=by
  rw[List.Nodup,List.pairwise_map];refine(Zg (n:=ps.length+1)).imp_of_mem fun {i j} c b ne z=>ne ?_
  have c:=jJ.mp c;have b:=jJ.mp b;have z:=(Prod.mk.inj z).1;omega
 have:=zfo f (ys:=ps) fun z hz=>by
  obtain⟨j,b,rfl⟩:=zP.mp hz;exact h j (jJ.mp b)
 rw[zn,vd] at this;omega
inductive Jl(K:W.Frag)(g:List V)(H:Hp)(Q:VK):Prop
 | mk (b t:Addr) (n:Int) (f:List Addr) (_:g=[.ref b,.ref t]) (_:BoxAt H b n) (_:n<1099511627000) (_:t≠b) (_:H t=some (.lst (f.map V.ref))) (_:f.length<=1000) (_:(∀a∈f,PlA H a)) (_:∀(p:Addr) c,SameB b H c->BoxAt c b (n+3)->H p=none->PlA c p->(∀a∈f,c p≠H a)->Q (.ref p) c):Jl K g H Q
def ZO(K:W.Frag):Sp:=fun b H Q _=>Jl K b H Q
theorem Y3:zy ["_law_box_here","_law_taken","_law_most","_law_x","_law_y","_law_turn"] ["_law_box_here","_law_taken"] (zq (topL 48)):=u3
theorem zcW{f:Addr}{fd:FuncData}(F:Fun K "_law_place" "_law_place" (topL 48) f fd)(B:Blt I)(g:Dfn P w K I G "_law_take" 1 ["_law_box_here","_law_size"] xI):FnOk P w K I G CX0 2 f fd ["_law_box_here","_law_taken"] (ZO K):=by
 have nd:=Y3.nd;refine F.ok Y3 (fun vs H Q E h=>?_) (fun af A ae s H vs Q E hr h=>?_)
 ·obtain⟨b,t,n,as,rfl,_⟩:=h
  rfl
 ·obtain⟨b,t,n,as,rfl,B0,hn,aa,ht,ag,pa,k⟩:=h
  have a0:=hr.units;have T:=bGe;obtain⟨l,J⟩:=zc6 pa;have pl:=J.1;have el:(as.map V.ref).length=as.length:=zn ..;refine⟨_,(ze (zA (i:=2) nd rfl (Or.inl rfl) (vG (zI j9 (zg g hr.m rfl (za (pv 0) (za zi zb))) zi (zH _)) zi zi))
   (ze (Ww (i:=3) (j:=4) rfl nd rfl rfl (by decide) rfl rfl (za (zg g hr.m rfl (za (pv 0) (za (pv 2) zb))) (za (zg g hr.m rfl (za (pv 0) (za (pv 2) zb))) zb)) (by rfl))
   (ze (jA jU rfl (jx rfl B.range (za (zJ qR (zo zE rfl B.len boot_len (za (pv 1) zb)) zi) zb)) (zu (i:=5) nd rfl (Or.inl rfl))
   (zk (jn (zI (zf8 rfl a0) (qJ (za (pv 3) (za (pv 4) zb))) (pv 1) (by with_unfolding_all rfl))
    (zk (zA (i:=3) nd rfl (Or.inl rfl) (zJ xL (zJ qR (pv 3) zi) zi)))
    zZ)))
   (zk (zw (qJ (za (pv 3) (za (pv 4) zb)))))))),?_⟩
  refine⟨_,rfl,b,4,n,rfl,B0,by omega,by decide,by decide,fun r H1 r0 r1 B1 S1=>⟨rfl,_,rfl,xg (fun c=>?_) (fun c=>?_)⟩⟩
  all_goals
   refine⟨_,rfl,_,rfl,b,_,n+1,rfl,B1,by omega,by decide,by decide,fun x H2 x0 x1 B2 S2=>⟨_,rfl,_,rfl,b,_,n+1+1,rfl,B2,by omega,by decide,by decide,fun y H3 y0 y1 B3 S3=>⟨_,_,rfl,?_⟩⟩⟩
   have S4:=S1.trans (S2.trans S3);have ac:=S4 t _ ht aa;refine⟨_,rfl,t,_,rfl,.inl (u4 ac),_,_,rfl,rfl,_,rfl,(by rw[T,el];omega),(by rw[T,el];omega),?_⟩
   have xb:x<=1000:=by omega
   refine jR (fun i σ O=>Ex3 fun(v2 v5:Option V) (z:Int)=>An6 (σ=[some (.ref b),some (.ref t),v2,some (.int z),some (.int y),v5]) (0<=z) (z<=1000) (SameB b H O) (BoxAt O b (n+1+1+1)) (((z,y)∉l\/(z=(x+i) % 1001/\∀j:Nat,j<i->((x+j) % 1001,y)∈l)))) ⟨_,none,x,rfl,x0,xb,S4,B3,.inr ⟨by show x=(x+((0:Nat):Int)) % 1001;omega,fun j Y=>absurd Y (Xt j)⟩⟩ ?_ ?_
   ·rintro i σ O _ ⟨v2,v5,z,rfl,L,M,D,N,hz⟩
    refine⟨_,rfl,_,rfl,le2,fun p hp=>⟨_,rfl,p,t,(z,y),_,l,rfl,rfl,u5 zc,u4 ((D.new hp) t _ ht aa),(J.imp fun a o ha e=>?_).prs,_,rfl,xg (fun d=>?_) (fun d=>?_)⟩⟩
    ·obtain⟨cx,cy,hc,_⟩:=pa a ha
     exact(D.new hp) a o e fun e2=>by
      obtain⟨w0,w1,w2,e3,_⟩:=id B0;rw[e2] at hc;rw[hc] at e3;cases e3
    ·have d:(z,y)∈l:=ju d
     refine⟨_,rfl,_,_,rfl,rfl,_,_,rfl,rfl,(by show(0:Int)<1001;decide),_,_,_,rfl,wz _ (by decide),by have:=wC (z+1) (by decide:(0:Int)<1001);omega,D.new hp,N.new hp,.inr ?_⟩
     rcases hz with hz | ⟨e,Y⟩
     ·exact absurd d hz
     ·refine⟨by rw[e];omega,fun j ab=>?_⟩
      by_cases q:j=i
      ·rw[q,<- e];exact d
      ·exact Y j (by omega)
    ·have d:¬(z,y)∈l:=fun m=>d (zX m)
     exact⟨_,_,z,rfl,L,M,D.new hp,N.new hp,.inl d⟩
   ·rintro σ O ⟨v2,v5,z,rfl,L,M,D,N,hz⟩
    have B6:BoxAt O b (n+3):=by
     have e:n+3=n+1+1+1:=by omega
     rw[e];exact N
    have U:(z,y)∉l:=by
     rcases hz with hz | ⟨_,Y⟩
     ·exact hz
     ·exact absurd (fun j ab=>Y j (by omega)) (ziW (ps:=l) (x0:=x) (y:=y) (by omega))
    refine⟨_,rfl,_,rfl,le2,fun p hp=>k p _ (D.new hp) (B6.new hp) (D.none hp (N.nne hp)) ⟨z,y,zc,L,M,y0,by omega⟩ fun a ha e=>?_⟩
    obtain⟨q,hq,e2⟩:=J.mem ha;rw[zc,e2] at e;cases e;exact U hq
inductive Z4(j:List V)(H:Hp)(Q:VK):Prop
 | mk (b:Addr) (m n:Int) (_:j=[.ref b,.int m]) (_:BoxAt H b n) (_:n<1000000) (_:0<=m) (_:m<=100) (_:∀(l:Addr) (f:List Addr) c,SameB b H c->BoxAt c b (n+400)->l≠b->H l=none->c l=some (.lst (f.map V.ref))->(∀a∈f,PlA c a)->(f.length:Int)=m->(∃g,LieAt c f g/\g.Nodup)->Q (.ref l) c):Z4  j H Q
def X9:Sp:=fun b H Q _=>Z4  b H Q
theorem Vj:zy ["_law_box_here","_law_many","_law_found","_law_k"] ["_law_box_here","_law_many"] (zq (topL 49)):=u3
def zaO(b:_)(m:_)(l:_)(H:_)(n:_):=fun(i:Nat) (σ:St) (c:Hp)=>(∃(f:List Addr) (j:Option V),σ=[some (.ref b),some (.int m),some (.ref l),j]/\SameB b H c/\BoxAt c b (n+3*i)/\c l=some (.lst (f.map V.ref))/\(∀a∈f,PlA c a)/\f.length=i/\∃g,LieAt c f g/\g.Nodup:Prop)
theorem zbf{f:Addr}{fd:FuncData}(F:Fun K "_law_places" "_law_places" (topL 49) f fd)(B:Blt I)(g:Dfn P w K I G "_law_place" 2 ["_law_box_here","_law_taken"] (ZO K)):FnOk P w K I G CX0 3 f fd ["_law_box_here","_law_many"] X9:=by
 have nd:=Vj.nd;refine F.ok Vj (fun vs H Q E h=>?_) (fun ac A aa s H vs Q E hr h=>?_)
 ·obtain⟨b,m,n,rfl,_⟩:=h
  rfl
 ·obtain⟨b,m,n,rfl,B0,hn,m0,m1,k⟩:=h
  have ab:=bG100000;have U:=bGe;refine⟨_,(ze (zA (i:=2) nd rfl (Or.inl rfl) (z7 zb))
   (ze (jA jU rfl (jx rfl B.range (za (pv 1) zb)) (zu (i:=3) nd rfl (Or.inl rfl))
   (zk (qN (xo j4 vh vg qE (pv 2) (za (zg g hr.m rfl (za (pv 0) (za (pv 2) zb))) zb)))))
   (zk (zw (pv 2))))),?_⟩
  refine⟨le0,fun l Y=>?_⟩
  have nl:=B0.nne Y;refine⟨_,rfl,_,rfl,(by rw[U];omega),(by rw[U];omega),?_⟩
  refine jR (zaO b m l H n) ⟨[],_,rfl,(u9 b H).new Y,(B0.new Y).mono (by omega),zc,(fun x h=>nomatch h),rfl,[],⟨rfl,fun i q e=>by cases e⟩,List.nodup_nil⟩ ?_ ?_
  ·rintro i σ H4 hi ⟨T,v3,rfl,S4,L,M,N,J,ps,c,pn⟩
   refine⟨_,rfl,.inl ⟨rfl,_,u4 M⟩,_,rfl,_,rfl,b,l,_,T,rfl,L,by omega,nl,M,by omega,N,fun p H5 O B5 pN pp pq=>⟨l,_,_,rfl,rfl,O l _ M nl,by rw[zn,J];omega,?_⟩⟩
   have L5:=O l _ M nl;have D:∀{a:Addr},PlA H5 a->PlA (upd H5 l (.lst (T.map V.ref++[.ref p]))) a:=fun {a} h=>by
    obtain⟨x,y,e,r⟩:=h;exact⟨x,y,by rw[zm (Vu e L5 (by intro z;cases z))];exact e,r⟩
   obtain⟨px,py,pe,_⟩:=id pp;refine⟨T++[p],_,rfl,(S4.trans O).put Y,(B5.other nl).mono (by omega),by rw[zc,zQ];rfl,fun a ha=>?_,by rw[zS,J];rfl,ps++[(px,py)],⟨by rw[zS,zS,c.1];rfl,fun j q e=>?_⟩,QM.mpr ⟨pn,Zx.mpr ⟨yr,List.nodup_nil⟩,fun u hu v hv e=>?_⟩⟩
   ·rcases qM.mp ha with q | q
    ·exact D ((N a q).draw L O)
    ·rw[qg.mp q];exact D pp
   ·have up:∀{a:Addr} {x y:Int},H5 a=some (.tup [.int x,.int y])->upd H5 l (.lst (T.map V.ref++[.ref p])) a=some (.tup [.int x,.int y]):=fun {a x y} e=>by
     rw[zm (Vu e L5 (by intro z;cases z))];exact e
    by_cases lt:j<ps.length
    ·rw[xQ lt] at e
     obtain⟨a,e1,e2⟩:=c.2 j q e;obtain⟨cx,cy,e3,_⟩:=N a (zY e1);obtain⟨dx,dy,e4,_⟩:=(N a (zY e1)).draw L O;refine⟨a,by rw[xQ (by rw[c.1];exact lt)];exact e1,up (O a _ e2 fun z=>?_)⟩
     obtain⟨w0,w1,w2,e5,_⟩:=id L;rw[z,e5] at e2;cases e2
    ·rw[xR (by omega)] at e
     have e0:j-ps.length=0:=by
      have:=(zK.mp e).1;rw[Yo] at this;omega
     rw[e0] at e;cases e;exact⟨p,by rw[xR (by rw[c.1];omega),c.1,e0];rfl,up pe⟩
   ·rw[qg.mp hv] at e
    obtain⟨i',a0,eu⟩:=Yj hu;obtain⟨a,e1,e2⟩:=c.2 i' _ (qP a0);refine pq a (zY e1) ?_
    rw[pe,e2,eu,e]
  ·rintro σ H4 ⟨T,v3,rfl,S4,L,M,N,J,ps,c,pn⟩
   exact⟨_,rfl,k l T H4 S4 (L.mono (by omega)) nl Y M N (by omega) ⟨ps,c,pn⟩⟩
inductive X3(K:W.Frag)(g:List V)(H:Hp)(Q:VK):Prop
 | mk (b a:Addr) (n:Int) (f:List V) (_:g=[.ref b,.ref a]) (_:BoxAt H b n) (_:n<1000000) (_:a≠b) (_:H a=some (.lst f)) (_:f.length<=1000) (_:∀(l:Addr) (j:List V) c,SameB b H c->BoxAt c b (n+f.length)->l≠b->H l=none->c l=some (.lst j)->j.Perm f->Q (.ref l) c):X3 K g H Q
def JQ(K:W.Frag):Sp:=fun b H Q _=>X3 K b H Q
theorem zcm:zy ["_law_box_here","_law_some","_law_found","_law_one"] ["_law_box_here","_law_some"] (zq (topL 50)):=u3
def zaN(b:_)(a:_)(l:_)(H:_)(n:_)(f:List V):=fun(i:Nat) (σ:St) (c:Hp)=>(Ex2 fun(g:List V) (j:Option V)=>An6 (σ=[some (.ref b),some (.ref a),some (.ref l),j]) (SameB b H c) (BoxAt c b (n+i)) (c a=some (.lst f)) (c l=some (.lst g)) (g.Perm (f.take i)):Prop)
theorem zeb{f:Addr}{fd:FuncData}(F:Fun K "_law_shuffled" "_law_shuffled" (topL 50) f fd)(B:Blt I)(c:Dfn P w K I G "_law_take" 1 ["_law_box_here","_law_size"] xI):FnOk P w K I G CX0 2 f fd ["_law_box_here","_law_some"] (JQ K):=by
 have nd:=zcm.nd;refine F.ok zcm (fun vs H Q E h=>?_) (fun ae A ab s H vs Q E hr h=>?_)
 ·obtain⟨b,a,n,j,rfl,_⟩:=h
  rfl
 ·obtain⟨b,a,n,j,rfl,B0,hn,a0,Y,af,k⟩:=h
  have ac:=bG100000;have U:=bGe;refine⟨_,(ze (zA (i:=2) nd rfl (Or.inl rfl) (z7 zb))
   (ze (jA jU rfl (qH (pv 1)) (zu (i:=3) nd rfl (Or.inl rfl))
   (zk (qN (xo j4 PySem.F.slot_list_insert PySem.F.type_list_insert zbk (pv 2) (za (zg c hr.m rfl (za (pv 0) (za (zJ qR (zo zE rfl B.len boot_len (za (pv 2) zb)) zi) zb))) (za (pv 3) zb))))))
   (zk (zw (pv 2))))),?_⟩
  refine⟨le0,fun l g=>?_⟩
  have nl:=B0.nne g;have aa:a≠l:=zj Y g;refine⟨_,rfl,a,rfl,⟨_,u4 ((zd g) _ _ Y)⟩,xE (K:=K) (a:=a) (xs:=j) (zaN b a l H n j)
   ⟨[],_,rfl,(u9 b H).new g,(B0.new g).mono (by omega),(zd g) _ _ Y,zc,.nil⟩ (fun i σ N _ ⟨_,_,_,_,_,h,_,_⟩=>u4 h) ?_ ?_⟩
  ·rintro i x σ N hx ⟨L,v3,rfl,O,M,A4,D,J⟩
   have hi:=(zK.mp hx).1;have yl:L.length=i:=by rw[J.length_eq,qC];omega
   refine⟨_,rfl,.inl ⟨rfl,_,u4 D⟩,_,rfl,_,rfl,l,_,rfl,.inl (u4 D),_,_,rfl,rfl,b,_,_,rfl,M,by omega,by omega,by omega,fun q H5 q0 q1 B5 T=>⟨_,rfl,?_⟩⟩
   refine⟨l,L,q,x,rfl,rfl,T l _ D nl,q0,by rw[U];omega,by omega,?_⟩
   refine⟨_,_,rfl,(O.trans T).put g,(B5.other nl).mono (by omega),by rw[zm aa];exact T a _ A4 a0,zc,?_⟩
   have e1:j.take (i+1)=j.take i++[x]:=by
    obtain⟨h1,h2⟩:=zK.mp hx;rw[<- h2,yc]
   rw[e1];refine List.perm_middle.trans ?_
   rw[List.take_append_drop];exact((List.Perm.cons x J).trans (zdy x _).symm)
  ·rintro σ N ⟨L,v3,rfl,O,M,A4,D,J⟩
   rw[qW] at J;exact⟨_,rfl,k l L N O M nl g D J⟩
end
def SameT(H c:Hp):Prop:=∀a u,H a=some u->(∀f,u≠.lst f)->(∀b,u≠.dK b)->c a=some u
theorem SameT.refl(H:Hp):SameT H H:=fun _ _ e _ _=>e
theorem SameT.trans{H f g:Hp}(a:SameT H f)(b:SameT f g):SameT H g:=fun c u e h i=>b c u (a c u e h i) h i
theorem SameT.of{H b:Hp}(s:Same H b):SameT H b:=fun a u e _ _=>s a u e
theorem SameT.draw{H c:Hp}{b:Addr}{n:Int}(B:BoxAt H b n)(s:SameB b H c):SameT H c:=fun a u e h _=>by
 obtain⟨g,b1,b2,f,_⟩:=B;exact s a u e (fun z=>by rw[z,f] at e;cases e;exact h _ rfl)
def u7:=@SameT.draw
theorem SameT.put{H:Hp}{l:Addr}{b ys:List V}(h:H l=some (.lst b)):SameT H (upd H l (.lst ys)):=fun a u e hu _=>by
 rw[zm (fun z=>by rw[z,h] at e;cases e;exact hu _ rfl)];exact e
def ub:=@SameT.put
theorem SameT.putD{H:Hp}{l:Addr}{b:List (Key×V)}{o:HO}(h:H l=some (.dK b)):SameT H (upd H l o):=fun a u e _ hu=>by
 rw[zm (fun z=>by rw[z,h] at e;cases e;exact hu _ rfl)];exact e
mutual
def Dat.imm:Dat->Bool
 | .lst _=>false
 | .tup b=>Dat.imms b
 | _=>true
def Dat.imms:List Dat->Bool
 | []=>true
 | d::b=>d.imm&&Dat.imms b
end
section
variable{P:Program}{w:World}{K:W.Frag}{N:Str->Option Value}{M:Heap}
theorem SqT.keep{H H':Hp}{a:Addr}{c:List V}(q:SqT K H a c)(s:SameT H H'):SqT K H' a c:=by
 rcases q with(q | ⟨o,q⟩) | q
 ·exact .inl (.inl (s a _ q (fun z h=>nomatch h) (fun z h=>nomatch h)))
 ·exact .inl (.inr ⟨o,s a _ q (fun z h=>nomatch h) (fun z h=>nomatch h)⟩)
 ·exact .inr q
mutual
theorem Rep.keep{H H':Hp}(s:SameT H H'):∀{d:Dat} {v:V},d.imm=true->Rep K H d v->Rep K H' d v
 | .non,_,_,h=>h
 | .bl _,_,_,h=>h
 | .int _,_,_,h=>h
 | .str _,_,_,h=>h
 | .lst _,_,i,_=>by cases i
 | .tup ds,_,i,h=>by
  obtain⟨a,c,e,q,r⟩:=h;exact⟨a,c,e,q.keep s,Reps.keep s (ds:=ds) i r⟩
theorem Reps.keep{H H':Hp}(s:SameT H H'):∀{ds:List Dat} {f:List V},Dat.imms ds=true->Reps K H ds f->Reps K H' ds f
 | [],_,_,h=>h
 | d::ds,_,i,h=>by
  obtain⟨x,r,e,h1,g⟩:=h;have c:(d.imm&&Dat.imms ds)=true:=i;rw[jO] at c;exact⟨x,r,e,Rep.keep s c.1 h1,Reps.keep s c.2 g⟩
end
theorem Reps.snoc{H:Hp}{d:Dat}{v:V}(h:Rep K H d v):∀{c:List Dat} {f:List V},Reps K H c f->Reps K H (c++[d]) (f++[v])
 | [],_,e=>by rw[show _=_ from e];exact⟨v,[],rfl,h,rfl⟩
 | _::_,_,e=>by
  obtain⟨x,r,e1,h1,g⟩:=e;subst e1;exact⟨x,r++[v],rfl,h1,Reps.snoc h g⟩
def uc:=@Reps.snoc
theorem yA{α β:Type}{f:α->β}{J I:List β}(h:J.Perm I):∀{g:List α},I=g.map f->∃j:List α,j.Perm g/\J=j.map f:=by
 induction h with
 | nil=>
  intro g e;have:g=[]:=by simpa using e.symm
  exact⟨[],by rw[this],rfl⟩
 | @cons x l1 l2 p Q=>
  intro g e;cases g with
  | nil=>simp at e
  | cons a E=>
   rw[ji] at e;injection e with e1 e2;obtain⟨j,B,D⟩:=Q e2;exact⟨a::j,B.cons a,by rw[ji,<- D,<- e1]⟩
 | swap x y l=>
  intro g e;cases g with
  | nil=>simp at e
  | cons a E=>
   cases E with
   | nil=>simp at e
   | cons c G=>
    rw[ji,ji] at e;injection e with e1 e2;injection e2 with e2 L;exact⟨c::a::G,.swap a c G,by rw[ji,ji,<- e1,<- e2,<- L]⟩
 | trans p q s A=>
  intro g e;obtain⟨j,B,D⟩:=A e;obtain⟨Y,T,U⟩:=s D;exact⟨Y,T.trans B,U⟩
def jq(p:Nat×Nat):Dat:=.tup [.int p.1,.int p.2]
def wV(c:List (Nat×Nat)):Dat:=.tup (c.map jq)
theorem qo:∀(c:List (Nat×Nat)),Dat.imms (c.map jq)=true
 | []=>rfl
 | p::c=>by
  show(Dat.imm (jq p)&&Dat.imms (c.map jq))=true;rw[qo c];rfl
def ByOrd(c:List Nat)(f:List (Nat×Nat)):Prop:=∀p∈f,∃k l:Nat,k<l/\c[k]? =some p.1/\c[l]? =some p.2
theorem Reps.take{H:Hp}:∀(n:Nat) {c:List Dat} {f:List V},Reps K H c f->Reps K H (c.take n) (f.take n)
 | 0,_,_,_=>rfl
 | n+1,[],_,h=>by rw[show _=_ from h];exact rfl
 | n+1,d::c,_,h=>by
  obtain⟨x,r,e,h1,g⟩:=h;subst e;exact⟨x,r.take n,rfl,h1,Reps.take n g⟩
theorem Reps.app{H:Hp}:∀{c g:List Dat} {j l:List V},Reps K H c j->Reps K H g l->Reps K H (c++g) (j++l)
 | [],_,_,_,h,f=>by rw[show _=_ from h];exact f
 | d::c,_,_,_,h,f=>by
  obtain⟨x,r,e,h1,s⟩:=h;subst e;exact⟨x,r++_,rfl,h1,Reps.app s f⟩
inductive Z5(K:W.Frag)(g:List V)(H:Hp)(Q:VK):Prop
 | mk (b:Addr) (m n:Int) (_:g=[.ref b,.int m]) (_:BoxAt H b n) (_:n<1000000) (_:0<=m) (_:m<=100) (_:∀(p:Addr) (f:List (Nat×Nat)) (c:List Nat) H',SameB b H H'->BoxAt H' b (n+800)->Rep K H' (wV f) (.ref p)->c.Perm (List.range m.toNat)->ByOrd c f->f.length<=200->Q (.ref p) H'):Z5 K g H Q
def Vf(K:W.Frag):Sp:=fun c H Q _=>Z5 K c H Q
theorem Vk:zy ["_law_box_here","_law_many","_law_order_here","_law_found","_law_turn","_law_k"] ["_law_box_here","_law_many"] (zq (topL 52)):=u3
theorem zhG{m r:Int}(h:0<=r)(c:r<4)(g:2<=m)(f:m<=100):∃z:Int,atI [V.int 1,V.int 4,V.int 13,V.int (2*m)] r=some (.int z)/\1<=z/\z<=200:=by
 have hc:r=0\/r=1\/r=2\/r=3:=by omega
 rcases hc with rfl | rfl | rfl | rfl
 ·exact⟨1,rfl,by omega,by omega⟩
 ·exact⟨4,rfl,by omega,by omega⟩
 ·exact⟨13,rfl,by omega,by omega⟩
 ·exact⟨2*m,rfl,by omega,by omega⟩
theorem zcO{ord:List Nat}{i:Int}(h:0<=i)(c:i<ord.length):∃x:Nat,atI (ord.map fun i:Nat=>V.int (i:Int)) i=some (.int (x:Int))/\ord[i.toNat]? =some x:=by
 obtain⟨v,e1,e2⟩:=Qy (xs:=ord.map fun i:Nat=>V.int (i:Int)) h (by rw[zn];exact c)
 rw[qm] at e2;obtain⟨x,hx,rfl⟩:=qS.mp e2;exact⟨x,e1,hx⟩
def zaM(b:_)(m:_)(o:_)(R:_)(H:_)(n:_)(f:_)(K:_):=fun(i:Nat) (σ:St) (c:Hp)=>(Ex4 fun(g:List (Nat×Nat)) (j:List V) (l s:Option V)=>An8 (σ=[some (.ref b),some (.int m),some (.ref o),some (.ref R),l,s]) (SameB b H c) (BoxAt c b (n+110+2*i)) (c o=some (.lst (f.map fun i:Nat=>V.int (i:Int)))) (c R=some (.lst j)) (Reps K c (g.map jq) j) (ByOrd f g) (g.length=i):Prop)
theorem zbg{f:Addr}{fd:FuncData}(F:Fun K "_law_aheads" "_law_aheads" (topL 52) f fd)(B:Blt N)(g:Dfn P w K N M "_law_take" 1 ["_law_box_here","_law_size"] xI)(l:Dfn P w K N M "_law_shuffled" 2 ["_law_box_here","_law_some"] (JQ K)):FnOk P w K N M CX0 3 f fd ["_law_box_here","_law_many"] (Vf K):=by
 have nd:=Vk.nd;refine F.ok Vk (fun vs H Q E h=>?_) (fun ao A aj s H vs Q E hr h=>?_)
 ·obtain⟨b,m,n,rfl,_⟩:=h
  rfl
 ·obtain⟨b,m,n,rfl,B0,hn,m0,m1,k⟩:=h
  have an:=bG100000;have ae:=bGe;refine⟨_,(ze (Ww (i:=2) (j:=3) rfl nd rfl rfl (by decide) rfl rfl (za (zg l hr.m rfl (za (pv 0) (za (yB rfl rfl B.list rfl B.range jy (za (pv 1) zb)) zb))) (za (z7 zb) zb)) (by rfl))
   (ze (jn (zI Vr (pv 1) zi (zH _))
   (zk (zw (qJ zb)))
   zZ)
   (ze (jA jU rfl (jx rfl B.range (za (zg g hr.m rfl (za (pv 0) (za (zL z9 (z7 (za zi (za zi (za zi (za (zJ xY zi (pv 1)) zb))))) (zg g hr.m rfl (za (pv 0) (za zi zb))) (fun _ _=>rfl)) zb))) zb)) (zu (i:=4) nd rfl (Or.inl rfl))
   (ze (zA (i:=5) nd rfl (Or.inl rfl) (zg g hr.m rfl (za (pv 0) (za (zJ wg (pv 1) zi) zb))))
    (zk (qN (xo j4 vh vg qE (pv 3) (za (qJ (za (zL z9 (pv 2) (pv 5) (fun _ _=>rfl)) (za (zL z9 (pv 2) (zJ qR (zJ qR (pv 5) zi) (zg g hr.m rfl (za (pv 0) (za (zJ wg (zJ wg (pv 1) zi) (pv 5)) zb)))) (fun _ _=>rfl)) zb))) zb))))))
   (zk (zw (zW qI rfl B.tuple qv (za (zJ J5 (pv 3) (vF JT (pv 3) yz (vO (zW y9 rfl B.int ww (za (qB j9 (zg g hr.m rfl (za (pv 0) (za zi zb))) zi (zH _)) zb))))) zb))))))),?_⟩
  refine⟨_,rfl,_,rfl,m,rfl,m0,by omega,fun l0 h0=>?_⟩
  have Y:((List.range m.toNat).map fun i:Nat=>V.int (i:Int)).length=m.toNat:=by rw[zn,vd]
  refine⟨b,l0,n,_,rfl,B0.new h0,by omega,B0.nne h0,zc,by rw[Y];omega,fun o ys H1 S1 B1 no oN ho pm=>⟨le0,fun R hR=>⟨_,_,rfl,?_⟩⟩⟩
  obtain⟨D,op,rfl⟩:=yA pm rfl;have ol:D.length=m.toNat:=by rw[op.length_eq,vd]
  rw[Y] at B1;have nR:=B1.nne hR;have oR:o≠R:=zj ho hR;have ac:=((u9 b H).new h0).trans S1;have RH:H R=none:=ac.none hR nR;have S2:=ac.new (o:=.lst []) hR;have B2:=B1.new (o:=.lst []) hR;have O2:=(zd (o:=.lst []) hR) _ _ ho;have R2:upd H1 R (.lst []) R=some (.lst []):=zc;generalize upd H1 R (.lst [])=H2 at S2 B2 O2 R2;refine⟨_,rfl,_,_,rfl,rfl,_,rfl,xg (fun c=>?_) (fun c=>?_)⟩
  ·exact⟨le0,fun p hp=>k p [] D _ (S2.new hp) ((B2.new hp).mono (by omega)) ⟨p,[],rfl,u5 zc,rfl⟩ op (fun p h=>nomatch h) (qV _)⟩
  have m2:2<=m:=by
   have:¬m<2:=fun z=>c (zX z)
   omega
  refine⟨_,rfl,_,rfl,_,_,rfl,rfl,.inl ⟨by decide,by decide⟩,le4,fun l1 h1=>⟨_,rfl,b,4,_,rfl,B2.new h1,by omega,by decide,by decide,fun r H3 r0 r1 B3 S3=>?_⟩⟩
  have L3:=S3 l1 _ zc (B2.nne h1);obtain⟨z,ez,z0,z1⟩:=zhG r0 r1 m2 m1;refine⟨l1,_,_,_,rfl,rfl,u4 L3,ez,b,z,_,rfl,B3,by omega,by omega,by omega,fun cnt H4 c0 c1 B4 S4=>⟨_,rfl,(by rw[ae];omega),(by rw[ae];omega),?_⟩⟩
  have U4:=((u9 b H2).new h1).trans (S3.trans S4);have ag:=S2.trans U4;have O4:=U4 _ _ O2 no;have R4:=U4 _ _ R2 nR;clear S2 B2 O2 R2 S3 S4 U4 L3 h1 B3;refine jR (zaM b m o R H n D K)
   ⟨[],[],_,_,rfl,ag,B4.mono (by omega),O4,R4,rfl,(fun p h=>nomatch h),rfl⟩ ?_ ?_
  ·rintro i σ H5 hi ⟨L,G,v4,v5,rfl,S5,B5,O5,R5,rp,bo,a0⟩
   have xl:G.length=i:=by rw[rp.len,zn,a0]
   refine⟨_,rfl,_,rfl,_,_,rfl,rfl,b,_,_,rfl,B5,by omega,by omega,by omega,fun kk H6 k0 k1 B6 I=>?_⟩
   have O6:=I _ _ O5 no;obtain⟨x1,ah,ak⟩:=zcO (ord:=D) k0 (by omega)
   refine⟨_,rfl,.inl ⟨rfl,_,u4 (I _ _ R5 nR)⟩,_,rfl,_,rfl,o,_,_,_,rfl,rfl,u4 O6,ah,?_⟩
   refine⟨_,rfl,_,rfl,_,_,rfl,rfl,_,rfl,_,rfl,_,_,rfl,rfl,_,rfl,_,_,rfl,rfl,b,_,_,rfl,B6,by omega,by omega,by omega,fun q H7 q0 q1 B7 S7=>⟨_,_,rfl,rfl,?_⟩⟩
   have O7:=S7 _ _ O6 no;have R7:=S7 _ _ (I _ _ R5 nR) nR;obtain⟨x2,ai,al⟩:=zcO (ord:=D) (i:=kk+1+q) (by omega) (by omega)
   refine⟨o,_,_,_,rfl,rfl,u4 O7,ai,le2,fun T U=>⟨R,G,.ref T,rfl,rfl,(zd U) _ _ R7,by omega,?_⟩⟩
   have R8:=(zd (o:=.tup [.int (x1:Int),.int (x2:Int)]) U) _ _ R7;have st:SameT H5 (upd (upd H7 T (.tup [.int (x1:Int),.int (x2:Int)])) R (.lst (G++[.ref T]))):=((u7 B5 (I.trans S7)).trans (.of (zd U))).trans (.put R8);refine⟨L++[(x1,x2)],_,_,_,rfl,(((S5.trans I).trans S7).new U).put RH,((B7.new U).other nR).mono (by omega),by rw[zm oR];exact(zd U) _ _ O7,zc,?_,fun pq ab=>?_,by rw[zS,a0];rfl⟩
   ·rw[zQ]
    refine uc ?_ (Reps.keep st (qo L) rp)
    refine⟨T,_,rfl,u5 ?_,_,_,rfl,rfl,_,_,rfl,rfl,rfl⟩
    rw[zm (fun zz=>by rw[zz,R7] at U;cases U)]
    exact zc
   ·rcases qM.mp ab with w1 | w1
    ·exact bo pq w1
    ·rw[qg.mp w1]
     exact⟨kk.toNat,(kk+1+q).toNat,by omega,ak,al⟩
  ·rintro σ H5 ⟨L,G,v4,v5,rfl,S5,B5,O5,R5,rp,bo,a0⟩
   have xl:G.length=L.length:=by rw[rp.len,zn]
   refine⟨_,rfl,_,rfl,_,rfl,b,4,_,rfl,B5,by omega,by decide,by decide,fun r9 H6 ap aq B6 I=>⟨rfl,.inr ⟨_,rfl,_,rfl,R,G,rfl,u4 (I _ _ R5 nR),fun s1 J=>?_⟩⟩⟩
   have R6:=I _ _ R5 nR;obtain⟨t,et⟩:∃t:Nat,jY G none (some (if decide (V.int r9=V.int 0)=true then(1:Int) else 0))=G.take t/\t<=1:=by
    unfold jY;by_cases hd:decide (V.int r9=V.int 0)=true
    ·rw[zx hd,show(some (1:Int))=some ((1:Nat):Int) from rfl,HT.sIx_nat,HT.sIx_none]
     refine⟨min 1 G.length,by simp,by omega⟩
    ·rw[zr hd,show(some (0:Int))=some ((0:Nat):Int) from rfl,HT.sIx_nat,HT.sIx_none]
     refine⟨0,by simp,by omega⟩
   rw[et.1];have st:SameT H5 H6:=.draw B5 I;have am:=Reps.keep st (qo L) rp;have tl:(G.take t).length<=1:=by rw[qC];omega
   refine⟨R,s1,_,_,rfl,rfl,(zd J) _ _ R6,zc,by omega,fun c1 aa=>⟨c1,_,rfl,.inl ⟨u4 zc,fun p hp=>?_⟩⟩⟩
   have sm:=((zd (o:=.lst (G.take t)) J).trans (zd (o:=.lst (G++G.take t)) aa)).trans (zd (o:=.tup (G++G.take t)) hp);refine k p (L++L.take t) D _ ((((S5.trans I).new J).new aa).new hp) ((((B6.new J).new aa).new hp).mono (by omega)) ⟨p,_,rfl,u5 zc,?_⟩ op (fun pq ab=>?_) (by rw[zS,qC];omega)
   ·have af:=Reps.keep (SameT.of sm) (qo L) am
    have rt:=Reps.take t af;rw[<- List.map_take] at rt;have:=Reps.app af rt;rw[<- zQ] at this;exact this
   ·rcases qM.mp ab with w1 | w1
    ·exact bo pq w1
    ·exact bo pq (List.mem_of_mem_take w1)
structure ZM where
 k:Str
 x:Int
 y:Int
structure xn where
 k:Str
 x:Int
 y:Int
 m:Int
def xp(p:ZM):Dat:=.tup [.str p.k,.tup [.int p.x,.int p.y]]
def xF(p:xn):Dat:=.tup [.str p.k,.tup [.int p.x,.int p.y],.int p.m]
theorem xz:∀(c:List xn),Dat.imms (c.map xF)=true
 | []=>rfl
 | p::c=>by
  show(Dat.imm (xF p)&&Dat.imms (c.map xF))=true;rw[xz c];rfl
theorem j7:∀(c:List ZM),Dat.imms (c.map xp)=true
 | []=>rfl
 | p::c=>by
  show(Dat.imm (xp p)&&Dat.imms (c.map xp))=true;rw[j7 c];rfl
def inP(x y:Int):Prop:=0<=x/\x<=1000/\0<=y/\y<=1000
inductive Ve(K:W.Frag)(A:List V)(H:Hp)(Q:VK):Prop
 | mk (b j s:Addr) (B:Bool) (n:Int) (c:List Str) (g:List ZM) (_:A=[.ref b,.ref j,.ref s,.bl B]) (_:BoxAt H b n) (_:n<900000) (_:j≠b) (_:Row H j c) (_:1<=c.length) (_:c.length<=12) (_:Rep K H (.tup (g.map xp)) (.ref s)) (_:g.length<=100) (_:∀(p:Addr) (fs:List xn) (l:List Str) H',SameB b H H'->BoxAt H' b (n+400)->Rep K H' (.tup (fs.map xF)) (.ref p)->(fs.map (·.k)).Perm (c++l)->(∀e∈l,e∈c)->fs.length<=20->(∀f∈fs,Nm f.k/\inP f.x f.y/\0<=f.m/\f.m<=400)->Q (.ref p) H'):Ve K A H Q
def zcc(K:W.Frag):Sp:=fun c H Q _=>Ve K c H Q
theorem zct:zy ["_law_box_here","_law_kinds","_law_parts","_law_plenty","_law_great","_law_more","_law_some","_law_found","_law_kind","_law_need","_law_many"] ["_law_box_here","_law_kinds","_law_parts","_law_plenty"] (zq (topL 51)):=u3
theorem zbW{ns:List Str}{i:Int}(h:0<=i)(c:i<ns.length):∃x,atI (ns.map V.str) i=some (.str x)/\x∈ns:=by
 obtain⟨v,e1,e2⟩:=Qy (xs:=ns.map V.str) h (by rw[zn];exact c)
 rw[qm] at e2;obtain⟨x,hx,rfl⟩:=qS.mp e2;exact⟨x,e1,zY hx⟩
theorem zhF{a c r:Int}(h:0<=r)(j:r<3)(f:0<=a)(a1:a<=400)(g:0<=c)(c1:c<=400):∃z:Int,atI [V.int a,V.int c,V.int 400] r=some (.int z)/\0<=z/\z<=400:=by
 have hc:r=0\/r=1\/r=2:=by omega
 rcases hc with rfl | rfl | rfl
 ·exact⟨a,rfl,f,a1⟩
 ·exact⟨c,rfl,g,c1⟩
 ·exact⟨400,rfl,by omega,by omega⟩
theorem zeh{f:Addr}{fd:FuncData}(F:Fun K "_law_feeders" "_law_feeders" (topL 51) f fd)(B:Blt N)(I:Dfn P w K N M "_law_take" 1 ["_law_box_here","_law_size"] xI)(Y:Dfn P w K N M "_law_shuffled" 2 ["_law_box_here","_law_some"] (JQ K))(aa:Dfn P w K N M "_law_place" 2 ["_law_box_here","_law_taken"] (ZO K)):FnOk P w K N M CX0 3 f fd ["_law_box_here","_law_kinds","_law_parts","_law_plenty"] (zcc K):=by
 have nd:=zct.nd;refine F.ok zct (fun vs H Q E h=>?_) (fun bg A bb s H vs Q E hr h=>?_)
 ·obtain⟨b,ks,ps,pl,n,G,U,rfl,_⟩:=h
  rfl
 ·obtain⟨b,ks,ps,pl,n,G,U,rfl,B0,hn,nk,Rk,k0,k1,hp,lp,k⟩:=h
  have bf:=bG100000;have au:=bGe;have ek:(G.map V.str).length=G.length:=zn ..;refine⟨_,(ze (zA (i:=4) nd rfl (Or.inl rfl) (qB j9 (zg I hr.m rfl (za (pv 0) (za zi zb))) zi (zH _)))
   (ze (wQ (zA (i:=5) nd rfl (Or.inl rfl) (zg I hr.m rfl (za (pv 0) (za (vG (qY (pv 4)) (zJ wg zi (zo zE rfl B.len boot_len (za (pv 1) zb))) zi) zb)))))
   (ze (zA (i:=6) nd rfl (Or.inl rfl) (zJ J5 (pv 1) (jB ["_law_kinds","_law_box_here"] [1,0] rfl rfl (by kernel_rfl) (jx rfl B.range (za (pv 5) zb)) (fun _ _ _ _=>qQ) (fun _ _ _ _=>(zL (yG (K:=K) rfl) (pv 1) (zg I hr.m rfl (za (pv 2) (za (zo (vy (K:=K) rfl) rfl B.len boot_len (za (pv 1) zb)) zb))) (fun _ _=>rfl))))))
   (ze (zA (i:=7) nd rfl (Or.inl rfl) (z7 zb))
   (ze (jA jU rfl (qH (zg Y hr.m rfl (za (pv 0) (za (pv 6) zb)))) (zu (i:=8) nd rfl (Or.inr rfl))
   (ze (zA (i:=9) nd rfl (Or.inl rfl) (zo zE rfl B.len boot_len (za (jB ["_law_kind"] [8] rfl rfl (by kernel_rfl) (xt (pv 2)) (fun _ _ _ _=>(j5 (zI j9 (zL (xm (K:=K) rfl) (pv 0) zi (fun _ _=>rfl)) (pv 1) (zH _)))) (fun _ _ _ _=>(pv 0))) zb)))
    (ze (wQ (zA (i:=10) nd rfl (Or.inl rfl) (vG (qY (pv 3)) (zL z9 (z7 (za (pv 9) (za (zJ qR (pv 9) (zg I hr.m rfl (za (pv 0) (za zi zb)))) (za zi zb)))) (zg I hr.m rfl (za (pv 0) (za zi zb))) (fun _ _=>rfl)) (zg I hr.m rfl (za (pv 0) (za zi zb))))))
    (zk (qN (xo j4 vh vg qE (pv 7) (za (qJ (za (pv 8) (za (zg aa hr.m rfl (za (pv 0) (za (z7 zb) zb))) (za (pv 10) zb)))) zb)))))))
   (zk (zw (zW qI rfl B.tuple qv (za (pv 7) zb))))))))),?_⟩
  refine⟨_,rfl,b,8,n,rfl,B0,by omega,by decide,by decide,fun r H1 r0 r1 B1 S1=>⟨rfl,?_⟩⟩
  have ap:=Rk.draw S1 nk;refine⟨fun σ' H'=>Ex1 fun(more:Int)=>An6 (σ'=[some (.ref b),some (.ref ks),some (.ref ps),some (.bl pl),some (.bl (decide (V.int r=V.int 0))),some (.int more),none,none,none,none,none]) (0<=more) (more<=20) ((G.length:Int)+more<=20) (SameB b H H') (BoxAt H' b (n+2)),?_,?_⟩
  ·refine⟨_,rfl,_,rfl,_,rfl,xg (fun c=>?_) (fun c=>?_)⟩
   ·exact⟨_,rfl,ks,_,rfl,.inl (u4 ap.1),_,_,rfl,rfl,b,_,_,rfl,B1,by omega,by omega,by omega,fun more H2 a0 a1 B2 S2=>⟨_,rfl,a0,by omega,by omega,S1.trans S2,B2.mono (by omega)⟩⟩
   ·exact⟨b,4,_,rfl,B1,by omega,by decide,by decide,fun more H2 a0 a1 B2 S2=>⟨_,rfl,a0,by omega,by omega,S1.trans S2,B2.mono (by omega)⟩⟩
  rintro σ' H2 ⟨more,rfl,bi,bj,bm,S2,B2⟩;clear S1 B1 ap;have ae:=Rk.draw S2 nk;refine⟨_,rfl,_,rfl,_,rfl,(by rw[au];omega),(by rw[au];omega),VG (fun j zs H3=>Ex1 fun(L:List Str)=>An5 (zs=L.map V.str) (L.length=j) ((∀x∈L,x∈G)) (SameB b H2 H3) (BoxAt H3 b (n+2+j))) ⟨[],rfl,rfl,(fun x h=>nomatch h),u9 _ _,B2.mono (by omega)⟩ ?_ ?_⟩
  ·rintro j zs H3 hj ⟨L,rfl,el,ee,S3,B3⟩
   refine⟨rfl,⟨_,rfl,_,rfl,_,rfl,ks,_,rfl,.inl (u4 (ae.draw S3 nk).1),b,_,_,rfl,B3,by omega,by omega,by omega,fun q H4 q0 q1 B4 S4=>?_⟩⟩
   obtain⟨y,ey,my⟩:=zbW (ns:=G) q0 (by omega)
   refine⟨ks,_,_,_,rfl,rfl,u4 (ae.draw (S3.trans S4) nk).1,ey,by rw[zn,el];omega,L++[y],by rw[zQ];rfl,by rw[zS,el];rfl,fun x hx=>?_,S3.trans S4,B4.mono (by omega)⟩
   rcases qM.mp hx with pq | pq
   ·exact ee x pq
   ·rw[qg.mp pq];exact my
  rintro zs H3 ⟨L,rfl,el,ee,S3,B3⟩;refine⟨by rw[zn,el];omega,fun D hD=>?_⟩
  have ar:=(S2.trans S3).new (o:=.lst (L.map V.str)) hD;have aq:=(ae.draw S3 nk).same (zd (o:=.lst (L.map V.str)) hD);refine⟨ks,D,_,_,rfl,rfl,aq.1,zc,by rw[ek,zn,el];omega,fun sm hs=>?_⟩
  have B4:=(B3.new (o:=.lst (L.map V.str)) hD).new (o:=.lst (G.map V.str++L.map V.str)) hs;have S4:=ar.new (o:=.lst (G.map V.str++L.map V.str)) hs;have ns:=(B3.new (o:=.lst (L.map V.str)) hD).nne hs;have M4:upd (upd H3 D (.lst (L.map V.str))) sm (.lst (G.map V.str++L.map V.str)) sm=some (.lst ((G++L).map V.str)):=by rw[zc,zQ]
  generalize upd (upd H3 D (.lst (L.map V.str))) sm (.lst (G.map V.str++L.map V.str))=H4 at B4 S4 M4;clear S2 S3 ar ae aq B2 B3 hD hs;refine⟨le0,fun R hR=>?_⟩
  have nR:=B4.nne hR;have RH:H R=none:=S4.none hR nR;have af:((G++L).map V.str).length<=20:=by rw[zn,zS,el];omega
  refine⟨_,rfl,_,rfl,b,sm,_,_,rfl,B4.new hR,by omega,ns,(zd hR) _ _ M4,by omega,fun l ys H5 S5 B5 nl lN hl pm=>?_⟩
  obtain⟨sh,al,rfl⟩:=yA pm rfl;have ay:=(S4.new (o:=.lst []) hR).trans S5;have R5:H5 R=some (.lst []):=S5 _ _ zc nR;have lR:l≠R:=fun z=>by rw[z,zc] at lN;cases lN
  have bq:sh.length<=20:=by rw[al.length_eq];rw[zn] at af;exact af
  have be:∀x∈sh,Nm x:=fun x hx=>by
   rcases qM.mp (al.mem_iff.mp hx) with q | q
   ·exact Rk.2 x q
   ·exact Rk.2 x (ee x q)
  clear pm M4 S4 S5 B4 hR;refine⟨l,rfl,⟨_,u4 hl⟩,xE (K:=K) (a:=l) (xs:=sh.map V.str) (fun i σ H6=>Ex6 fun(fs:List xn) (xs:List V) (v6 v8 v9 am:Option V)=>An8 (σ=[some (.ref b),some (.ref ks),some (.ref ps),some (.bl pl),some (.bl (decide (V.int r=V.int 0))),some (.int more),v6,some (.ref R),v8,v9,am]) (SameB b H H6) (BoxAt H6 b (n+60+6*i)) (H6 l=some (.lst (sh.map V.str))) (H6 R=some (.lst xs)) (Reps K H6 (fs.map xF) xs) (fs.map (·.k)=sh.take i) (∀f∈fs,Nm f.k/\inP f.x f.y/\0<=f.m/\f.m<=400))
   ⟨[],[],_,_,_,_,rfl,ay,B5.mono (by omega),hl,R5,rfl,rfl,(fun f h=>nomatch h)⟩ (fun i σ H6 _ ⟨_,_,_,_,_,_,_,_,_,h,_,_,_,_⟩=>u4 h) ?_ ?_⟩
  ·rintro i x σ H6 hx ⟨fs,xs,v6,v8,v9,am,rfl,S6,B6,L6,R6,rp,fk,fa⟩
   rw[qm] at hx;obtain⟨kd,aj,rfl⟩:=qS.mp hx;have hi:=(zK.mp aj).1;have fl:fs.length=i:=by
    have:=congrArg List.length fk;rw[zn,qC] at this;omega
   have xl:xs.length=i:=by rw[rp.len,zn,fl]
   have ba:=Rep.keep (d:=.tup (U.map xp)) (u7 B0 S6) (j7 U) hp;obtain⟨_,aw,ep,hq,av⟩:=ba;cases ep;have bn:aw.length=U.length:=by rw[av.len,zn]
   refine⟨_,rfl,ps,rfl,⟨_,hq⟩,xx (K:=K) (a:=ps) (xs:=aw) (fun j zs H7=>zs.length<=j/\Same H6 H7) ⟨zC _,u6 _⟩ (fun j zs H7 ⟨_,s7⟩=>s7.sqT hq) ?_ ?_⟩
   ·rintro j v zs H7 hv ⟨zl,s7⟩
    have hj:=(zK.mp hv).1;obtain⟨d,hd,rd⟩:=av.get hv;rw[qm] at hd;obtain⟨pt,_,rfl⟩:=qS.mp hd;obtain⟨c,bh,rfl,hc,u1,bp,e1,e2,e3⟩:=rd;subst e1;cases(show u1=.str pt.k from e2)
    refine⟨rfl,⟨_,rfl,c,_,_,.str pt.k,rfl,rfl,s7.sqT hc,jh (j:=0) rfl,_,rfl,rfl,_,rfl,xg (fun dd=>⟨_,rfl,by omega,by rw[zS];simp;omega,s7⟩) (fun dd=>⟨by omega,s7⟩)⟩⟩
   rintro zs H7 ⟨zl,s7⟩;refine⟨by omega,fun D2 az=>⟨D2,zs,rfl,.inl (u4 zc),?_⟩⟩
   have s8:=s7.trans (zd (o:=.lst zs) az);have B8:=B6.same s8;generalize upd H7 D2 (.lst zs)=H8 at s8 B8;refine⟨fun σ' H'=>Ex1 fun(J:Int)=>An5 (σ'=[some (.ref b),some (.ref ks),some (.ref ps),some (.bl pl),some (.bl (decide (V.int r=V.int 0))),some (.int more),v6,some (.ref R),some (.str kd),some (.int (zs.length:Int)),some (.int J)]) (0<=J) (J<=400) (SameB b H8 H') (BoxAt H' b (n+60+6*i+2)),?_,?_⟩
   ·refine⟨_,rfl,_,rfl,xg (fun c=>?_) (fun c=>?_)⟩
    ·refine⟨_,rfl,_,rfl,_,rfl,b,9,_,rfl,B8,by omega,by decide,by decide,fun q9 H9 a0 a1 B9 S9=>⟨_,_,rfl,rfl,le3,fun l3 h3=>⟨_,rfl,b,3,_,rfl,B9.new h3,by omega,by decide,by decide,fun q3 an c0 c1 ag ab=>?_⟩⟩⟩
     have ax:=ab l3 _ zc (B9.nne h3);obtain⟨z,ez,z0,z1⟩:=zhF (a:=(zs.length:Int)) (c:=(zs.length:Int)+q9) c0 c1 (by omega) (by omega) (by omega) (by omega)
     exact⟨l3,_,_,_,rfl,rfl,u4 ax,ez,z,rfl,z0,z1,(S9.new h3).trans ab,ag.mono (by omega)⟩
    ·exact⟨_,rfl,b,4,_,rfl,B8,by omega,by decide,by decide,fun q9 H9 a0 a1 B9 S9=>⟨q9,rfl,a0,by omega,S9,B9.mono (by omega)⟩⟩
   rintro σ' H9 ⟨J,rfl,y0,y1,S9,B9⟩;have as:=(ua (b:=b) s8).trans S9;have R9:=as _ _ R6 nR;refine⟨_,rfl,.inl ⟨rfl,_,u4 R9⟩,_,rfl,_,rfl,le0,fun e he=>⟨b,e,_,[],rfl,B9.new he,by omega,B9.nne he,zc,qV _,(fun a h=>nomatch h),fun pp an ab ag bo pa _=>⟨_,rfl,le3,fun T hT=>?_⟩⟩⟩
   obtain⟨px,py,ac,b1,b2,b3,b4⟩:=pa;have ah:=ab _ _ ((zd he) _ _ R9) nR;have ao:=(zd (o:=.tup [.str kd,.ref pp,.int J]) hT) _ _ ah;refine⟨R,xs,.ref T,rfl,rfl,ao,by omega,?_⟩
   have ai:=(as.new he).trans (ab.new (o:=.tup [.str kd,.ref pp,.int J]) hT);have st:SameT H6 (upd (upd an T (.tup [.str kd,.ref pp,.int J])) R (.lst (xs++[.ref T]))):=(u7 B6 ai).trans (.put ao);have TR:T≠R:=fun z=>by rw[z,ah] at hT;cases hT
   have bc:pp≠R:=fun z=>by rw[z,ah] at ac;cases ac
   have bd:pp≠T:=fun z=>by rw[z,hT] at ac;cases ac
   refine⟨fs++[⟨kd,px,py,J⟩],_,_,_,_,_,rfl,(S6.trans ai).put RH,((ag.new hT).other nR).mono (by omega),by rw[zm lR];exact ai _ _ L6 nl,zc,?_,?_,fun g b0=>?_⟩
   ·rw[zQ]
    refine uc ?_ (Reps.keep st (xz fs) rp)
    refine⟨T,_,rfl,u5 (by rw[zm TR];exact zc),_,_,rfl,rfl,_,_,rfl,⟨pp,_,rfl,u5 (by rw[zm bc,zm bd];exact ac),_,_,rfl,rfl,_,_,rfl,rfl,rfl⟩,_,_,rfl,rfl,rfl⟩
   ·rw[zQ,fk]
    obtain⟨h1,h2⟩:=zK.mp aj;rw[<- yc h1,h2];rfl
   ·rcases qM.mp b0 with q | q
    ·exact fa g q
    ·rw[qg.mp q]
     exact⟨be kd (zY aj),⟨b1,b2,b3,b4⟩,y0,y1⟩
  ·rintro σ H6 ⟨fs,xs,v6,v8,v9,am,rfl,S6,B6,L6,R6,rp,fk,fa⟩
   rw[zn,qW] at fk;have fl:fs.length<=20:=by
    have:=congrArg List.length fk;rw[zn] at this;omega
   refine⟨_,rfl,R,xs,rfl,.inl ⟨u4 R6,fun p ak=>?_⟩⟩
   refine k p fs L _ (S6.new ak) ((B6.new ak).mono (by rw[zn] at *;omega)) ⟨p,_,rfl,u5 zc,Reps.keep (SameT.of (zd ak)) (xz fs) rp⟩ (by rw[fk];exact al) ee (by omega) fa
structure Job where
 gx:Int
 gy:Int
 hd:Int
 fs:List xn
 ps:List ZM
 as:List (Nat×Nat)
def vw(J:Job):Dat:=.tup [.tup [.int J.gx,.int J.gy],.int J.hd,.tup (J.fs.map xF),.tup (J.ps.map xp),wV J.as]
theorem wo(J:Job):(vw J).imm=true:=by
 show(true&&(true&&(Dat.imms (J.fs.map xF)&&(Dat.imms (J.ps.map xp)&&(Dat.imms (J.as.map jq)&&true)))))=true;rw[xz,j7,qo];rfl
structure JobOk(J:Job)(ord:List Nat):Prop where
 gate:inP J.gx J.gy
 hd0:1<=J.hd
 hd1:J.hd<=4
 fl:J.fs.length<=20
 fa:∀f∈J.fs,Nm f.k/\inP f.x f.y/\0<=f.m/\f.m<=400
 pl:J.ps.length<=60
 pa:∀p∈J.ps,Nm p.k/\inP p.x p.y/\∃f∈J.fs,f.k=p.k
 op:ord.Perm (List.range J.ps.length)
 bo:ByOrd ord J.as
 al:J.as.length<=200
 f0:1<=J.fs.length
 pd:(J.ps.map fun p=>(p.x,p.y)).Nodup
theorem zd1{r:Int}(c:0<=r)(h1:r<4):∃z:Int,atI [V.int 3,V.int 3,V.int 3,V.int 12] r=some (.int z)/\3<=z/\z<=12:=by
 have hc:r=0\/r=1\/r=2\/r=3:=by omega
 rcases hc with rfl | rfl | rfl | rfl
 ·exact⟨3,rfl,by decide,by decide⟩
 ·exact⟨3,rfl,by decide,by decide⟩
 ·exact⟨3,rfl,by decide,by decide⟩
 ·exact⟨12,rfl,by decide,by decide⟩
inductive YR(K:W.Frag)(j:List V)(H:Hp)(Q:VK):Prop
 | mk (b:Addr) (f c n:Int) (l:Bool) (_:j=[.ref b,.int f,.int c,.bl l]) (_:BoxAt H b n) (_:n<500000) (_:0<=f) (_:f<=60) (_:0<=c) (_:c<=60) (_:∀(p:Addr) (J:Job) (g:List Nat) H',SameB b H H'->BoxAt H' b (n+3000)->Rep K H' (vw J) (.ref p)->JobOk J g->Q (.ref p) H'):YR K j H Q
def zeX(K:W.Frag):Sp:=fun c H Q _=>YR K c H Q
theorem zfb:zy ["_law_box_here","_law_few","_law_most","_law_plenty","_law_many","_law_kinds","_law_parts","_law_feeders_here"] ["_law_box_here","_law_few","_law_most","_law_plenty"] (zq (topL 53)):=u3
def zaL(b:_)(f:_)(c:_)(g:_)(H:_)(n:_):=fun(j:St) (H':Hp)=>(Ex1 fun(m:Int)=>An5 (j=[some (.ref b),some (.int f),some (.int c),some (.bl g),some (.int m),none,none,none]) (0<=m) (m<=60) (SameB b H H') (BoxAt H' b (n+2)):Prop)
theorem zge{f:Addr}{fd:FuncData}(F:Fun K "_law_job" "_law_job" (topL 53) f fd)(B:Blt N)(g:Dfn P w K N M "_law_take" 1 ["_law_box_here","_law_size"] xI)(aa:Dfn P w K N M "_law_names" 3 ["_law_box_here","_law_many"] YN)(ab:Dfn P w K N M "_law_place" 2 ["_law_box_here","_law_taken"] (ZO K))(U:Dfn P w K N M "_law_places" 3 ["_law_box_here","_law_many"] X9)
  (J:Dfn P w K N M "_law_feeders" 3 ["_law_box_here","_law_kinds","_law_parts","_law_plenty"] (zcc K)) (L:Dfn P w K N M "_law_aheads" 3 ["_law_box_here","_law_many"] (Vf K)):FnOk P w K N M CX0 4 f fd ["_law_box_here","_law_few","_law_most","_law_plenty"] (zeX K):=by
 have nd:=zfb.nd;refine F.ok zfb (fun vs H Q E h=>?_) (fun bs A bj s H vs Q E hr h=>?_)
 ·obtain⟨b,ar,ag,n,pl,rfl,_⟩:=h
  rfl
 ·obtain⟨b,ar,ag,n,pl,rfl,B0,hn,f0,f1,bu,bv,k⟩:=h
  have bq:=bG100000;refine⟨_,(ze (wQ (zA (i:=4) nd rfl (Or.inl rfl) (zg g hr.m rfl (za (pv 0) (za (zJ qR (vG (zI zaf (zg g hr.m rfl (za (pv 0) (za zi zb))) zi (zH _)) (pv 1) (pv 2)) zi) zb)))))
   (ze (zA (i:=5) nd rfl (Or.inr rfl) (zg aa hr.m rfl (za (pv 0) (za (zJ qR zi (zg g hr.m rfl (za (pv 0) (za (zL z9 (z7 (za zi (za zi (za zi (za zi zb))))) (zg g hr.m rfl (za (pv 0) (za zi zb))) (fun _ _=>rfl)) zb)))) zb))))
   (ze (zA (i:=6) nd rfl (Or.inl rfl) (zW qI rfl B.tuple qv (za (jB ["_law_kinds","_law_box_here"] [5,0] rfl rfl (by kernel_rfl) (qH (zg U hr.m rfl (za (pv 0) (za (pv 4) zb)))) (fun _ _ _ _=>qQ) (fun _ _ _ _=>(qJ (za (zL (yG (K:=K) rfl) (pv 1) (zg g hr.m rfl (za (pv 2) (za (zo (vy (K:=K) rfl) rfl B.len boot_len (za (pv 1) zb)) zb))) (fun _ _=>rfl)) (za (pv 0) zb))))) zb)))
   (ze (zA (i:=7) nd rfl (Or.inl rfl) (zg J hr.m rfl (za (pv 0) (za (pv 5) (za (pv 6) (za (pv 3) zb))))))
   (zk (zw (qJ (pa5 (zg ab hr.m rfl (za (pv 0) (za (z7 zb) zb))) (zJ qR zi (zg g hr.m rfl (za (pv 0) (za zi zb)))) (pv 7) (pv 6) (zg L hr.m rfl (za (pv 0) (za (pv 4) zb))))))))))),?_⟩
  refine⟨zaL b ar ag pl H n,?_,?_⟩
  ·refine⟨_,rfl,_,rfl,b,8,n,rfl,B0,by omega,by decide,by decide,fun r H1 r0 r1 B1 S1=>⟨_,_,rfl,rfl,_,rfl,xg (fun c=>⟨_,rfl,_,_,rfl,rfl,?_⟩) (fun c=>⟨_,rfl,_,_,rfl,rfl,?_⟩)⟩⟩
   ·exact⟨b,_,_,rfl,B1,by omega,by omega,by omega,fun m H2 a0 a1 B2 S2=>⟨m,rfl,a0,by omega,S1.trans S2,B2.mono (by omega)⟩⟩
   ·exact⟨b,_,_,rfl,B1,by omega,by omega,by omega,fun m H2 a0 a1 B2 S2=>⟨m,rfl,a0,by omega,S1.trans S2,B2.mono (by omega)⟩⟩
  rintro σ' H2 ⟨m,rfl,m0,m1,S2,B2⟩;refine⟨_,rfl,_,rfl,le4,fun l1 h1=>⟨_,rfl,b,4,_,rfl,B2.new h1,by omega,by decide,by decide,fun r H3 r0 r1 B3 S3=>?_⟩⟩
  have L3:=S3 l1 _ zc (B2.nne h1);obtain⟨z,ez,z0,z1⟩:=zd1 r0 r1;refine⟨l1,_,_,_,rfl,rfl,u4 L3,ez,b,z,_,rfl,B3,by omega,by omega,by omega,fun q H4 q0 q1 B4 S4=>⟨_,_,rfl,rfl,b,1+q,_,rfl,B4,by omega,by omega,by omega,fun ks G H5 S5 B5 nk kN Rk kl=>?_⟩⟩
  have aq:=(((S2.new h1).trans S3).trans S4).trans S5;have ek:(G.map V.str).length=G.length:=zn ..;clear S2 S3 S4 S5 B2 B3 B4 L3 h1;refine⟨_,rfl,_,rfl,b,m,_,rfl,B5,by omega,m0,by omega,fun l as H6 S6 B6 nl lN hl pa al ⟨Y,ax,bi⟩=>?_⟩
  have af:=Rk.draw S6 nk;refine⟨l,rfl,⟨_,u4 hl⟩,jI (K:=K) (a:=l) (xs:=as.map V.ref) (fun j zs H7=>Ex1 fun(I:List ZM)=>An6 (Reps K H7 (I.map xp) zs) (I.length=j) ((∀q∈I,q.k∈G/\inP q.x q.y)) (SameB b H6 H7) (BoxAt H7 b (n+700+j)) ((I.map fun q=>(q.x,q.y))=Y.take j)) ⟨[],rfl,rfl,(fun x h=>nomatch h),u9 _ _,B6.mono (by omega),rfl⟩ (fun j zs H7 ⟨_,_,_,_,s7,_,_⟩=>u4 (s7 _ _ hl nl)) ?_ ?_⟩
  ·rintro j x zs H7 hx ⟨I,rq,ql,qa,S7,B7,qd⟩
   rw[qm] at hx;obtain⟨a,ha,rfl⟩:=qS.mp hx;have hj:=(zK.mp ha).1;have zl:zs.length=j:=by rw[rq.len,zn,ql]
   refine⟨rfl,⟨_,rfl,_,rfl,_,rfl,ks,_,rfl,.inl (u4 (af.draw S7 nk).1),b,_,_,rfl,B7,by omega,by omega,by omega,fun q H8 c0 c1 B8 S8=>?_⟩⟩
   obtain⟨y,ey,my⟩:=zbW (ns:=G) c0 (by omega)
   obtain⟨px,py,av,b1,b2,b3,b4⟩:=(pa a (zY ha)).draw B6 (S7.trans S8);have au:j<Y.length:=by rw[<- ax.1];exact hj
   obtain⟨a',e1,e2⟩:=ax.2 j _ (qP au);rw[ha] at e1;cases e1;have e3:=(S7.trans S8) a _ e2 fun z=>by
    obtain⟨w0,w1,w2,e5,_⟩:=id B6;rw[z,e5] at e2;cases e2
   rw[av] at e3;cases e3;refine⟨ks,_,_,_,rfl,rfl,u4 (af.draw (S7.trans S8) nk).1,ey,_,rfl,le2,fun T hT=>⟨by omega,I++[⟨y,Y[j].1,Y[j].2⟩],?_,by rw[zS,ql];rfl,fun q hq=>?_,(S7.trans S8).new hT,(B8.new hT).mono (by omega),by rw[zQ,qd,<- yc au];rfl⟩⟩
   ·rw[zQ]
    have rT:Rep K (upd H8 T (.tup [.str y,.ref a])) (xp ⟨y,Y[j].1,Y[j].2⟩) (.ref T):=⟨T,_,rfl,u5 zc,_,_,rfl,rfl,_,_,rfl,⟨a,_,rfl,u5 ((zd hT) _ _ av),_,_,rfl,rfl,_,_,rfl,rfl,rfl⟩,rfl⟩;exact uc rT (Reps.keep ((u7 B7 S8).trans (.of (zd hT))) (j7 I) rq)
   ·rcases qM.mp hq with w1 | w1
    ·exact qa q w1
    ·rw[qg.mp w1];exact⟨my,b1,b2,b3,b4⟩
  rintro zs H7 ⟨I,rq,ql,qa,S7,B7,qd⟩;rw[zn] at ql qd;have bm:(I.map fun q=>(q.x,q.y)).Nodup:=by rw[qd];exact bi.sublist (Yb _ _)
  have B7:BoxAt H7 b (n+800):=B7.mono (by rw[zn];omega)
  have zl:zs.length=as.length:=by rw[rq.len,zn,ql]
  refine⟨by omega,fun D hD=>⟨D,zs,rfl,.inl ⟨u4 zc,fun ps aw=>?_⟩⟩⟩
  have sm:=(zd (o:=.lst zs) hD).trans (zd (o:=.tup zs) aw);have S8:=(aq.trans S6).trans (S7.trans (ua (b:=b) sm));have B8:=B7.same sm;have aj:=(af.draw S7 nk).same sm;have P8:Rep K (upd (upd H7 D (.lst zs)) ps (.tup zs)) (.tup (I.map xp)) (.ref ps):=⟨ps,_,rfl,u5 zc,Reps.keep (.of sm) (j7 I) rq⟩;generalize upd (upd H7 D (.lst zs)) ps (.tup zs)=H8 at sm S8 B8 aj P8;clear aq S6 S7 B5 B6 B7 Rk af rq hD aw pa hl;refine⟨_,rfl,_,rfl,_,rfl,_,rfl,b,ks,ps,pl,_,G,I,rfl,B8,by omega,nk,aj,by omega,by omega,P8,by omega,fun fp fs es H9 S9 B9 F9 ac ee fl fa=>?_⟩
  have P9:=Rep.keep (d:=.tup (I.map xp)) (u7 B8 S9) (j7 I) P8;refine⟨_,rfl,le0,fun t ht=>⟨b,t,_,[],rfl,B9.new ht,by omega,B9.nne ht,zc,qV _,(fun a h=>nomatch h),fun gp bd ao ah gN ga _=>?_⟩⟩
  obtain⟨gx,gy,bg,g1,g2,g3,g4⟩:=ga;refine⟨_,rfl,b,4,_,rfl,ah,by omega,by decide,by decide,fun hd br d0 d1 ai ak=>⟨_,_,rfl,rfl,_,rfl,_,rfl,_,rfl,_,rfl,b,m,_,rfl,ai,by omega,m0,by omega,fun ap an ay ae am ba az op bo bf=>⟨leN (by show 5<=1000;decide),fun p hp=>?_⟩⟩⟩
  have t9:SameT H9 ae:=((SameT.of (zd ht)).trans (.draw (B9.new ht) ao)).trans ((u7 ah ak).trans (.draw ai am));have bp:SameT bd ae:=(u7 ah ak).trans (.draw ai am);have up:Same ae (upd ae p (.tup [.ref gp,.int (1+hd),.ref fp,.ref ps,.ref ap])):=zd hp;have bb:=Rep.keep (d:=.tup (fs.map xF)) (t9.trans (.of up)) (xz fs) F9;have be:=Rep.keep (d:=.tup (I.map xp)) (t9.trans (.of up)) (j7 I) P9;have b0:=Rep.keep (d:=wV an) (.of up) (qo an) az;have bc:=(bp.trans (.of up)) gp _ bg (fun xs h=>nomatch h) (fun bt h=>nomatch h)
  have bn:I.length=m.toNat:=by omega
  have fk:∀kd∈G,∃f∈fs,f.k=kd:=fun kd bh=>by
   have:=ac.mem_iff.mpr (j3 es bh);obtain⟨f,hf,e⟩:=zP.mp this;exact⟨f,hf,e⟩
  refine k p ⟨gx,gy,1+hd,fs,I,an⟩ ay _ (((S8.trans S9).trans ((ua (zd ht)).trans ao)).trans ((ak.trans am).new hp)) ((ba.new hp).mono (by omega)) ?_ ?_
  ·exact⟨p,_,rfl,u5 zc,_,_,rfl,⟨gp,_,rfl,u5 bc,_,_,rfl,rfl,_,_,rfl,rfl,rfl⟩,_,_,rfl,rfl,_,_,rfl,bb,_,_,rfl,be,_,_,rfl,b0,rfl⟩
  ·refine⟨⟨g1,g2,g3,g4⟩,by show 1<=1+hd;omega,by show 1+hd<=4;omega,fl,fa,by show I.length<=60;omega,fun q hq=>?_,by show ay.Perm (List.range I.length);rw[bn];exact op,bo,bf,?_,bm⟩
   ·obtain⟨hk,hi⟩:=qa q hq
    exact⟨aj.2 q.k hk,hi,fk q.k hk⟩
   ·have:=ac.length_eq
    rw[zn,zS] at this;show 1<=fs.length;omega
theorem qr{α:Type}{l:List α}{i:Nat}{x:α}(h:l[i]? =some x):l.take (i+1)=l.take i++[x]:=by
 obtain⟨h1,c⟩:=zK.mp h;rw[<- c,yc]
def zB(os:List Nat):List V:=os.map fun i:Nat=>V.int (i:Int)
theorem zG(os:List Nat):(zB os).length=os.length:=zn ..
theorem Vw(os:List Nat):zB os=(os.map fun i:Nat=>(i:Int)).map V.int:=by unfold zB;rw[xH];rfl
theorem xU:∀os:List Nat,(zB os).all xO=true
 | []=>rfl
 | o::os=>by
  show(true&&(zB os).all xO)=true;rw[xU os];rfl
theorem ZR(k:Nat):∀os:List Nat,inV (.int (k:Int)) (zB os)=decide (k∈os)
 | []=>rfl
 | o::os=>by
  show((o:Int)==(k:Int)||inV (.int (k:Int)) (zB os))=_
  rw[ZR k os];by_cases h:o=k
  ·subst h;simp
  ·have e:((o:Int)==(k:Int))=false:=by simp;omega
   rw[e,Xp,decide_eq_decide];exact⟨fun z=>jc _ z,fun z=>(zR.mp z).resolve_left fun y=>h y.symm⟩
theorem JB(k:Nat):∀os:List Nat,((os.map fun i:Nat=>(i:Int)).erase (k:Int))=(os.erase k).map fun i:Nat=>(i:Int)
 | []=>rfl
 | o::os=>by
  rw[ji,List.erase_cons,List.erase_cons];by_cases h:(o==k)=true
  ·have e:((o:Int)==(k:Int))=true:=by
    have:=eq_of_beq h;simp[this]
   rw[zx h,zx e]
  ·have e:¬((o:Int)==(k:Int))=true:=fun z=>h (by
    have:=eq_of_beq z;have:o=k:=by omega
    simp[this])
   rw[zr h,zr e,ji,JB k os]
theorem yD{os:List Nat}{i:Nat}{x:V}(h:(zB os)[i]? =some x):∃k,os[i]? =some k/\x=.int (k:Int):=by
 unfold zB at h;rw[qm] at h;obtain⟨k,hk,rfl⟩:=qS.mp h;exact⟨k,hk,rfl⟩
def Early(os:List Nat)(c:List (Nat×Nat)):Prop:=∀p∈c,∀l:Nat,os[l]? =some p.2->∃k:Nat,k<l/\os[k]? =some p.1
theorem Early.snoc{os:List Nat}{f:List (Nat×Nat)}{k:Nat}(h:Early os f)(hk:∀p∈f,p.2=k->p.1∈os):Early (os++[k]) f:=by
 intro p hp l c;by_cases A:l<os.length
 ·rw[xQ A] at c
  obtain⟨j,h1,D⟩:=h p hp l c;exact⟨j,h1,by rw[xQ (by omega)];exact D⟩
 ·have s:l=os.length:=by
   have:=(zK.mp c).1;rw[zS] at this;simp at this;omega
  subst s;rw[xR (zC _),ym] at c;have e:k=p.2:=by simpa using c
  obtain⟨j,g,B⟩:=JM.mp (hk p hp e.symm);exact⟨j,g,by rw[xQ g,<- B];simp[g]⟩
theorem ByOrd.mem1{c:List Nat}{f:List (Nat×Nat)}(h:ByOrd c f){p:Nat×Nat}(hp:p∈f):p.1∈c:=by
 obtain⟨k,l,_,e,_⟩:=h p hp;exact zY e
theorem ByOrd.mem2{c:List Nat}{f:List (Nat×Nat)}(h:ByOrd c f){p:Nat×Nat}(hp:p∈f):p.2∈c:=by
 obtain⟨k,l,_,_,e⟩:=h p hp;exact zY e
theorem Early.ord{os ord:List Nat}{c:List (Nat×Nat)}(h:Early os c)(b:ByOrd ord c)(hp:os.Perm ord):ByOrd os c:=by
 intro p hq;obtain⟨l,j,f⟩:=JM.mp (hp.mem_iff.mpr (b.mem2 hq));have e:os[l]? =some p.2:=by rw[<- f];simp[j]
 obtain⟨k,h1,g⟩:=h p hq l e;exact⟨k,l,h1,g,e⟩
def qF(left:List Nat)(c:List (Nat×Nat)):List Nat:=(c.filter fun p=>decide (p.1∈left)).map fun p=>p.2
def jH(left:List Nat)(c:List (Nat×Nat)):List Nat:=left.filter fun k=>!decide (k∈qF left c)
theorem VD{left:List Nat}{g:List (Nat×Nat)}{c:Nat}:c∈qF left g↔∃p∈g,p.1∈left/\p.2=c:=by
 unfold qF;rw[zP];constructor
 ·rintro⟨p,hp,rfl⟩
  obtain⟨h1,f⟩:=jD.mp hp;exact⟨p,h1,ju f,rfl⟩
 ·rintro⟨p,h1,f,rfl⟩
  exact⟨p,jD.mpr ⟨h1,zX f⟩,rfl⟩
theorem zbt{left f:List Nat}{g:List (Nat×Nat)}(b:ByOrd f g)(U:f.Nodup)(L:∀k∈left,k∈f)(A:left≠[]):jH left g≠[]:=by
 have B:∀(n:Nat) (k:Nat),k∈left->(∃i,i<n/\f[i]? =some k)->∃c∈left,c∉qF left g:=by
  intro n;induction n with
  | zero=>rintro k _ ⟨i,s,_⟩;omega
  | succ n T=>
   rintro k hk ⟨i,s,j⟩;by_cases D:k∈qF left g
   ·obtain⟨p,hp,h1,rfl⟩:=VD.mp D
    obtain⟨x,y,Q,E,l⟩:=b p hp;have e:y=i:=by
     have h1:=(zK.mp j).1;have G:=(zK.mp l).1;have I:f[y]=f[i]:=by
      rw[qP h1] at j;rw[qP G] at l;exact(jt l).trans (jt j).symm
     exact(W3 U).mp I
    exact T p.1 h1 ⟨x,by omega,E⟩
   ·exact⟨k,hk,D⟩
 obtain⟨k,hk⟩:∃k,k∈left:=by
  cases left with
  | nil=>exact absurd rfl A
  | cons a r=>exact⟨a,by simp⟩
 obtain⟨i,s,j⟩:=JM.mp (L k hk);obtain⟨c,hc,J⟩:=B (i+1) k hk ⟨i,by omega,by rw[<- j];simp[s]⟩
 intro z;have:c∈jH left g:=jD.mpr ⟨hc,by simp[J]⟩
 rw[z] at this;cases this
theorem VN{H:Hp}{J:Job}{s:Addr}(h:Rep K H (vw J) (.ref s)):∃g fs f c:Addr,SqT K H s [.ref g,.int J.hd,.ref fs,.ref f,.ref c]/\Rep K H (.tup [.int J.gx,.int J.gy]) (.ref g)/\Rep K H (.tup (J.fs.map xF)) (.ref fs)/\Rep K H (.tup (J.ps.map xp)) (.ref f)/\Rep K H (wV J.as) (.ref c):=by
 obtain⟨a,xs,e,q,x0,r0,D,Y,x1,r1,e1,h1,x2,r2,e2,h2,x3,r3,E,h3,x4,r4,G,h4,I⟩:=h;cases e;subst D e1 e2 E G;have j:r4=[]:=I;subst j;have l:x1=.int J.hd:=h1;subst l;obtain⟨g,U,rfl,T⟩:=Y;obtain⟨fs,Q,rfl,L⟩:=h2;obtain⟨f,px,rfl,pq⟩:=h3;obtain⟨c,B,rfl,A⟩:=h4;exact⟨g,fs,f,c,q,⟨g,U,rfl,T⟩,⟨fs,Q,rfl,L⟩,⟨f,px,rfl,pq⟩,⟨c,B,rfl,A⟩⟩
theorem yx{H:Hp}{f:List Dat}{a:Addr}(h:Rep K H (.tup f) (.ref a)):∃c,SqT K H a c/\Reps K H f c:=by
 obtain⟨g,c,e,q,r⟩:=h;cases e;exact⟨c,q,r⟩
inductive Jm(K:W.Frag)(g:List V)(H:Hp)(Q:VK):Prop
 | mk (b f:Addr) (J:Job) (c:List Nat) (n:Int) (_:g=[.ref b,.ref f]) (_:BoxAt H b n) (_:n<600000) (_:Rep K H (vw J) (.ref f)) (_:JobOk J c) (_:∀(l:Addr) (os:List Nat) H',SameB b H H'->BoxAt H' b (n+60)->l≠b->H l=none->H' l=some (.lst (zB os))->os.Perm (List.range J.ps.length)->ByOrd os J.as->Q (.ref l) H'):Jm K g H Q
def YL(K:W.Frag):Sp:=fun c H Q _=>Jm K c H Q
inductive zit(b j f g:Addr)(H:Hp)(n:Int)(J:Job)(m:Nat)(σ:St)(c:Hp):Prop
 | mk (left os:List Nat) (l s:Option V) (_:σ=[some (.ref b),some (.ref j),some (.ref f),some (.ref g),l,s]) (_:m=left.length) (_:SameB b H c) (_:BoxAt c b (n+os.length)) (_:c f=some (.lst (zB left))) (_:c g=some (.lst (zB os))) (_:(left++os).Perm (List.range J.ps.length)) (_:Early os J.as):zit b j f g H n J m σ c
inductive ziu(b l g j:Addr)(H:Hp)(n:Int)(J:Job)(left:List Nat)(σ:St)(f:Hp):Prop
 | mk (c os:List Nat) (s A:Option V) (_:c.length<left.length) (_:σ=[some (.ref b),some (.ref l),some (.ref g),some (.ref j),s,A]) (_:SameB b H f) (_:BoxAt f b (n+os.length)) (_:f g=some (.lst (zB c))) (_:f j=some (.lst (zB os))) (_:(c++os).Perm (List.range J.ps.length)) (_:Early os J.as):ziu b l g j H n J left σ f
theorem Y4:zy ["_law_box_here","_law_job_here","_law_left","_law_found","_law_late","_law_free"] ["_law_box_here","_law_job_here"] (zq (topL 54)):=u3
theorem zcX{f:Addr}{fd:FuncData}(F:Fun K "_law_order" "_law_order" (topL 54) f fd)(B:Blt N)(Y:Dfn P w K N M "_law_take" 1 ["_law_box_here","_law_size"] xI):FnOk P w K N M CX0 2 f fd ["_law_box_here","_law_job_here"] (YL K):=by
 have nd:=Y4.nd;refine F.ok Y4 (fun vs H Q E h=>?_) (fun c2 A bt s H vs Q E hr h=>?_)
 ·obtain⟨b,jp,J,ar,n,rfl,_⟩:=h
  rfl
 ·obtain⟨b,jp,J,ar,n,rfl,B0,hn,rj,jo,k⟩:=h
  have hu:=hr.units0;have bz:=bG100000;have pl:=jo.pl;have al:=jo.al;obtain⟨g,fs,ps,as,qj,_,_,rp,ra⟩:=VN rj;obtain⟨L,qp,bw⟩:=yx rp;obtain⟨av,qa,bd⟩:=yx ra;have lp:=bw.len;rw[zn] at lp;have la:=bd.len;rw[zn] at la;refine⟨_,(ze (xi (qJ (za (yB rfl rfl B.list rfl B.range jy (za (zo zE rfl B.len boot_len (za (zL jC (pv 1) zi (fun _ _=>rfl)) zb)) zb)) (za (z7 zb) zb))) (jd rfl (zt (zu (i:=2) nd rfl (Or.inr rfl)) (zt (zu (i:=3) nd rfl (Or.inl rfl)) qA))))
   (ze (Z9 jU (zI (Qg hu) (pv 2) (z7 zb) (zH _))
   (ze (zA (i:=4) nd rfl (Or.inr rfl) (vP ["_law_left"] [2] rfl rfl (by kernel_rfl) (xt (zL jC (pv 1) zi (fun _ _=>rfl))) (fun _ _ _ _=>(j5 (zI (vQ (K:=K) rfl) (pv 0) (pv 2) (by with_unfolding_all rfl)))) (fun _ _ _ _=>(pv 1))))
    (ze (JW ["_law_late"] [4] rfl rfl (by kernel_rfl) (qH (pv 2)) (fun _ _ _ _=>(j5 (zI (vo (K:=K) rfl) (pv 0) (pv 1) (by with_unfolding_all rfl)))) (fun _ _ _ _=>(pv 0)) (zu (i:=5) nd rfl (Or.inl rfl)))
    (ze (qN (xo j4 vh vg qE (pv 3) (za (zL z9 (pv 5) (zg Y hr.m rfl (za (pv 0) (za (zo zE rfl B.len boot_len (za (pv 5) zb)) zb))) (fun _ _=>rfl)) zb)))
    (zk (qN (xo j4 PySem.F.slot_list_remove PySem.F.type_list_remove WE (pv 2) (za (zL z9 (pv 3) (zhH zfx zi) (fun _ _=>rfl)) zb))))))))
   (zk (zw (pv 3))))),?_⟩
  refine⟨_,rfl,jp,_,_,_,rfl,rfl,qj,rfl,ps,_,rfl,.inr qp,_,rfl,by omega,by omega,fun D h0=>⟨le0,fun G h1=>⟨le2,fun t ht=>?_⟩⟩⟩
  have eN:((List.range ((L.length:Int)).toNat).map fun i:Nat=>V.int (i:Int))=zB (List.range J.ps.length):=by
   unfold zB;rw[show((L.length:Int)).toNat=J.ps.length by omega]
  have n0:=B0.nne h0;have S0:=(u9 b H).new (o:=.lst ((List.range ((L.length:Int)).toNat).map fun i:Nat=>V.int (i:Int))) h0
  have B1:=B0.new (o:=.lst ((List.range ((L.length:Int)).toNat).map fun i:Nat=>V.int (i:Int))) h0
  have L0:upd H D (.lst ((List.range ((L.length:Int)).toNat).map fun i:Nat=>V.int (i:Int))) D=some (.lst (zB (List.range J.ps.length))):=by rw[zc,eN]
  generalize upd H D (.lst ((List.range ((L.length:Int)).toNat).map fun i:Nat=>V.int (i:Int)))=H1 at S0 B1 L0 h1 ht
  have n1:=B1.nne h1;have N1:=S0.none h1 n1;have bb:D≠G:=zj L0 h1;have S1:=S0.new (o:=.lst []) h1;have B2:=B1.new (o:=.lst []) h1;have ae:=(zd (o:=.lst []) h1) _ _ L0;have L1:upd H1 G (.lst []) G=some (.lst []):=zc;generalize upd H1 G (.lst [])=H2 at S1 B2 ae L1 ht;have S2:=S1.new (o:=.tup [.ref D,.ref G]) ht;have B3:=B2.new (o:=.tup [.ref D,.ref G]) ht;have af:=(zd (o:=.tup [.ref D,.ref G]) ht) _ _ ae;have ag:=(zd (o:=.tup [.ref D,.ref G]) ht) _ _ L1;have T3:upd H2 t (.tup [.ref D,.ref G]) t=some (.tup [.ref D,.ref G]):=zc;generalize upd H2 t (.tup [.ref D,.ref G])=H3 at S2 B3 af ag T3;refine⟨t,_,rfl,u5 T3,rfl,_,_,rfl,_,_,rfl,rfl,?_⟩
  clear S0 S1 B1 B2 L0 ae L1 ht h1 T3;refine⟨zit b jp D G H n J,
   ⟨_,List.range J.ps.length,[],none,none,rfl,rfl,S2,B3.mono (by simp),af,ag,by rw[jZ],fun p _ l hl=>by simp at hl⟩,?_⟩
  clear S2 B3 af ag;rintro m σ H4 ⟨left,os,v4,v5,rfl,rfl,S4,B4,LL,LO,pm,ea⟩;have ac:=pm.length_eq;rw[zS,vd] at ac;refine⟨_,rfl,le0,fun q hq=>⟨D,q,_,rfl,rfl,u4 ((zd hq) _ _ LL),u4 zc,_,rfl,?_⟩⟩
  have S5:=S4.new (o:=.lst []) hq;have B5:=B4.new (o:=.lst []) hq;have a0:=(zd (o:=.lst []) hq) _ _ LL;have aa:=(zd (o:=.lst []) hq) _ _ LO;generalize upd H4 q (.lst [])=H5 at S5 B5 a0 aa;clear S4 B4 LL LO hq;cases left with
  | nil=>
   refine ifF rfl ⟨_,rfl,k G os H5 S5 (B5.mono (by simp at ac;omega)) n1 N1 aa (by simpa using pm) (ea.ord jo.bo ?_)⟩
   have:os.Perm (List.range J.ps.length):=by simpa using pm
   exact this.trans jo.op.symm
  | cons c rest=>
   refine ifT rfl ?_
   have bp:c::rest≠[]:=fun z=>by cases z
   generalize c::rest=left at *
   clear c rest;refine⟨ziu b jp D G H n J left,
    fun σ' H' ⟨aq,bs,v4,v5,bo,e,a1,a2,a3,a4,a5,a6⟩=>⟨_,bo,aq,bs,v4,v5,e,rfl,a1,a2,a3,a4,a5,a6⟩,?_⟩
   have T5:=SameT.trans (u7 B0 S5) (SameT.refl H5);have bc:=qj.keep T5;have aw:=qa.keep T5;have be:=bd.keep T5 (qo J.as);refine⟨_,rfl,jp,_,_,_,rfl,rfl,bc,rfl,as,rfl,⟨_,aw⟩,xx (K:=K) (a:=as) (xs:=av) (fun i zs H6=>zs=zB (qF left (J.as.take i))/\Same H5 H6) ⟨rfl,u6 _⟩ (fun i zs H6 ⟨_,j⟩=>j.sqT aw) ?_ ?_⟩
   ·rintro i x zs H6 hx ⟨rfl,j⟩
    obtain⟨d,e1,r1⟩:=(be.same j).get hx;rw[qm] at e1;obtain⟨p,ep,rfl⟩:=qS.mp e1;obtain⟨pa,xs,rfl,bu,y0,r0,f0,g0,y1,bv,f1,g1,f2⟩:=r1;subst f0 f1;cases(show bv=[] from f2)
    cases(show y0=_ from g0)
    cases(show y1=_ from g1)
    have hi:i<J.as.length:=(zK.mp ep).1;refine⟨pa,_,rfl,bu,rfl,_,_,rfl,_,_,rfl,rfl,rfl,?_⟩
    refine⟨_,rfl,_,rfl,D,zB left,rfl,.inl (u4 (j _ _ a0)),rfl,xU left,_,rfl,?_⟩
    have et:J.as.take (i+1)=J.as.take i++[p]:=qr ep;have ao:(if false=true then !inV (.int (p.1:Int)) (zB left) else inV (.int (p.1:Int)) (zB left))=decide (p.1∈left):=ZR p.1 left
    rw[ao];refine xg (fun c=>⟨_,rfl,?_,?_,j⟩) (fun c=>⟨?_,j⟩)
    ·have:(qF left (J.as.take i)).length<=J.as.length:=by
      unfold qF;rw[zn];refine qL (jz _ _) ?_
      rw[qC];omega
     rw[zG];omega
    ·rw[et]
     unfold qF;rw[wB,zQ,QU (by exact c)]
     unfold zB;rw[zQ];rfl
    ·rw[et]
     unfold qF;rw[wB,QT (by exact c),WY,jZ]
   rintro zs H6 ⟨rfl,j⟩;have ay:J.as.take av.length=J.as:=by rw[la,qW]
   rw[ay];have bq:(qF left J.as).length<=300:=by
    unfold qF;rw[zn];exact qL (jz _ _) (qL al (by decide))
   refine⟨by rw[zG];omega,fun ab U=>?_⟩
   have S6:=(S5.trans (ua j)).new (o:=.lst (zB (qF left J.as))) U;have B6:=(B5.same j).new (o:=.lst (zB (qF left J.as))) U;have T:=(zd (o:=.lst (zB (qF left J.as))) U) _ _ (j _ _ a0);have ak:=(zd (o:=.lst (zB (qF left J.as))) U) _ _ (j _ _ aa);have ah:upd H6 ab (.lst (zB (qF left J.as))) ab=some (.lst (zB (qF left J.as))):=zc;generalize upd H6 ab (.lst (zB (qF left J.as)))=H7 at S6 B6 T ak ah;clear S5 B5 a0 aa j U T5 bc aw be;refine⟨_,rfl,D,rfl,⟨_,u4 T⟩,jI (K:=K) (a:=D) (xs:=zB left) (fun i zs H8=>zs=zB ((left.take i).filter fun k=>!decide (k∈qF left J.as))/\Same H7 H8) ⟨rfl,u6 _⟩ (fun i zs H8 ⟨_,j⟩=>u4 (j _ _ T)) ?_ ?_⟩
   ·rintro i x zs H8 hx ⟨rfl,j⟩
    obtain⟨c,ec,rfl⟩:=yD hx;have hi:i<left.length:=(zK.mp ec).1;refine⟨rfl,?_⟩
    refine⟨_,rfl,_,rfl,ab,zB (qF left J.as),rfl,.inl (u4 (j _ _ ah)),rfl,xU _,_,rfl,?_⟩
    have ao:(if true=true then !inV (.int (c:Int)) (zB (qF left J.as)) else inV (.int (c:Int)) (zB (qF left J.as)))=!decide (c∈qF left J.as):=by rw[ZR];rfl
    rw[ao,qr ec];refine xg (fun d=>⟨_,rfl,?_,?_,j⟩) (fun d=>⟨?_,j⟩)
    ·have:=jz (fun k=>!decide (k∈qF left J.as)) (left.take i)
     rw[qC] at this;rw[zG];omega
    ·rw[wB,QU (by exact d)]
     unfold zB;rw[zQ];rfl
    ·rw[wB,QT (by exact d),WY,jZ]
   rintro zs H8 ⟨rfl,j⟩;have bj:left.take (zB left).length=left:=by rw[zG,qW]
   rw[bj];have bn:(left.filter fun k=>!decide (k∈qF left J.as))=jH left J.as:=rfl
   rw[bn];have c3:(jH left J.as).length<=left.length:=jz _ _;refine⟨by rw[zG];omega,fun lf I=>?_⟩
   have S7:=(S6.trans (ua j)).new (o:=.lst (zB (jH left J.as))) I;have B7:=(B6.same j).new (o:=.lst (zB (jH left J.as))) I;have ax:=(zd (o:=.lst (zB (jH left J.as))) I) _ _ (j _ _ T);have am:=(zd (o:=.lst (zB (jH left J.as))) I) _ _ (j _ _ ak);have ai:upd H8 lf (.lst (zB (jH left J.as))) lf=some (.lst (zB (jH left J.as))):=zc;have br:=(B6.same j).nne I;generalize upd H8 lf (.lst (zB (jH left J.as)))=H9 at S7 B7 ax am ai;clear S6 B6 T ak ah j I;have inr:∀x∈left,x∈ar:=fun x hx=>by
    have h1:=pm.mem_iff.mp (j3 os hx);exact jo.op.mem_iff.mpr h1
   have au:ar.Nodup:=jo.op.nodup_iff.mpr Zg;have bm:=zbt jo.bo au inr bp;have bx:0<(jH left J.as).length:=Zn.mpr bm;refine⟨_,rfl,.inl ⟨rfl,_,u4 am⟩,_,rfl,_,rfl,_,rfl,lf,_,rfl,.inl (u4 ai),b,_,_,rfl,B7,by omega,by rw[zG];omega,by rw[zG];omega,fun r Ha r0 r1 Ba Sa=>?_⟩
   rw[zG] at r1;have ba:r.toNat<(jH left J.as).length:=by omega
   have er:(zB (jH left J.as))[r.toNat]? =some (.int (((jH left J.as)[r.toNat]:Nat):Int)):=by
    unfold zB;rw[qm,qP ba];rfl
   have az:atI (zB (jH left J.as)) r=some (.int (((jH left J.as)[r.toNat]:Nat):Int)):=by
    have:=jh er;rwa[show((r.toNat:Nat):Int)=r by omega] at this
   have b0:=wA ba;generalize (jH left J.as)[r.toNat]=c at er az b0;obtain⟨cl,cn⟩:=jD.mp b0;have bi:c∉qF left J.as:=by simpa using cn
   have bf:=Sa _ _ ai br;have bh:=Sa _ _ am n1;have bg:=Sa _ _ ax n0;refine⟨lf,_,_,_,rfl,rfl,u4 bf,az,G,_,_,rfl,rfl,bh,by rw[zG];omega,?_⟩
   have eO:zB os++[V.int (c:Int)]=zB (os++[c]):=by unfold zB;rw[zQ];rfl
   rw[eO];have Sb:=(S7.trans Sa).put (o:=.lst (zB (os++[c]))) N1;have Bb:=Ba.other (o:=.lst (zB (os++[c]))) n1;have an:upd Ha G (.lst (zB (os++[c]))) G=some (.lst (zB (os++[c]))):=zc;have aj:upd Ha G (.lst (zB (os++[c]))) D=some (.lst (zB left)):=by rw[zm bb];exact bg
   generalize upd Ha G (.lst (zB (os++[c])))=Hb at Sb Bb an aj;have ap:atI (zB (os++[c])) (-1)=some (.int (c:Int)):=by
    have:zB (os++[c])=zB os++[V.int (c:Int)]:=eO.symm;rw[this];exact zdu _ _
   refine⟨_,rfl,.inl ⟨rfl,_,u4 aj⟩,_,rfl,_,rfl,G,_,_,_,rfl,rfl,u4 an,ap,D,left.map fun i:Nat=>(i:Int),(c:Int),rfl,rfl,by rw[aj,Vw],zP.mpr ⟨c,cl,rfl⟩,?_⟩
   have eE:((left.map fun i:Nat=>(i:Int)).erase (c:Int)).map V.int=zB (left.erase c):=by rw[JB,Vw]
   rw[eE];have N0:H D=none:=h0;have c0:(left.erase c).length+1=left.length:=by
    have:=XL cl;have:=XH cl;omega
   refine⟨left.erase c,os++[c],_,_,by omega,rfl,Sb.put N0,(Bb.other n0).mono (by rw[zS];simp;omega),zc,by rw[zm bb.symm];exact an,?_,?_⟩
   ·have h1:(left++os).Perm (c::(left.erase c)++os):=(List.perm_cons_erase cl).append_right os
    have h2:(left.erase c++(os++[c])).Perm (c::left.erase c++os):=by
     rw[<- Zj];exact List.perm_append_comm
    exact(h2.trans h1.symm).trans pm
   ·refine ea.snoc fun p hp e=>?_
    have h1:p.1∈left++os:=pm.mem_iff.mpr (jo.op.mem_iff.mp (jo.bo.mem1 hp));rcases qM.mp h1 with z | z
    ·exact absurd (VD.mpr ⟨p,hp,z,e⟩) bi
    ·exact z
structure qw where
 pk:List (Nat×Nat)
 ly:List Nat
def Qj(k:Nat):Dat:=.int (k:Int)
def jm(t:qw):Dat:=.tup [.tup (t.pk.map jq),.tup (t.ly.map Qj)]
theorem Vv:∀(l:List Nat),Dat.imms (l.map Qj)=true
 | []=>rfl
 | k::l=>by
  show(true&&Dat.imms (l.map Qj))=true;rw[Vv l];rfl
theorem Jf(t:qw):(jm t).imm=true:=by
 show(Dat.imms (t.pk.map jq)&&(Dat.imms (t.ly.map Qj)&&true))=true;rw[qo,Vv];rfl
theorem jF:∀(l:List qw),Dat.imms (l.map jm)=true
 | []=>rfl
 | t::l=>by
  show((jm t).imm&&Dat.imms (l.map jm))=true;rw[Jf,jF l];rfl
theorem Reps.perm{H:Hp}{α:Type}{f:α->Dat}{E D:List V}(h:E.Perm D):∀{g:List α},Reps K H (g.map f) D->∃j:List α,j.Perm g/\Reps K H (j.map f) E:=by
 induction h with
 | nil=>intro g h;exact⟨g,List.Perm.refl _,h⟩
 | cons x hp L=>
  intro g h;cases g with
  | nil=>cases(show _=[] from h)
  | cons a g=>
   obtain⟨y,r,e,h1,s⟩:=h;cases e;obtain⟨j,p,q⟩:=L s;exact⟨a::j,p.cons a,⟨_,_,rfl,h1,q⟩⟩
 | swap x y l=>
  intro g h;cases g with
  | nil=>cases(show _=[] from h)
  | cons a g=>
   obtain⟨u,r,e,h1,s⟩:=h;cases e;cases g with
   | nil=>cases(show _=[] from s)
   | cons c g=>
    obtain⟨u,r,e,I,J⟩:=s;cases e;exact⟨c::a::g,List.Perm.swap a c g,⟨_,_,rfl,I,_,_,rfl,h1,J⟩⟩
 | trans h1 s A B=>
  intro g h;obtain⟨j,p,q⟩:=B h;obtain⟨G,Q,T⟩:=A q;exact⟨G,Q.trans p,T⟩
theorem yZ{H:Hp}:∀(l:List Nat),Reps K H (l.map Qj) (zB l)
 | []=>rfl
 | k::l=>⟨_,_,rfl,rfl,yZ l⟩
theorem j8{H:Hp}{p:Nat×Nat}{x:V}(h:Rep K H (jq p) x):∃a,x=.ref a/\SqT K H a [.int p.1,.int p.2]:=by
 obtain⟨B,I,rfl,c,D,G,g,s,E,f,j,A,l⟩:=h;subst g j;cases(show f=[] from l)
 cases(show D=_ from s)
 cases(show E=_ from A)
 exact⟨B,rfl,c⟩
inductive X0(K:W.Frag)(g:List V)(H:Hp)(Q:VK):Prop
 | mk (b pk:Addr) (n:Int) (j:List V) (c:List (Nat×Nat)) (_:g=[.ref b,.ref pk]) (_:BoxAt H b n) (_:n<900000) (_:pk≠b) (_:H pk=some (.lst j)) (_:Reps K H (c.map jq) j) (_:c.length<=1000) (_:∀(p:Addr) (f:List (Nat×Nat)) H',SameB b H H'->BoxAt H' b (n+c.length)->f.Perm c->Rep K H' (jm ⟨f,c.map (·.1)⟩) (.ref p)->Q (.ref p) H'):X0 K g H Q
def zbZ(K:W.Frag):Sp:=fun c H Q _=>X0 K c H Q
theorem zck:zy ["_law_box_here","_law_picks"] ["_law_box_here","_law_picks"] (zq (topL 55)):=u3
theorem zd9{f:Addr}{fd:FuncData}(F:Fun K "_law_trip" "_law_trip" (topL 55) f fd)(B:Blt N)(c:Dfn P w K N M "_law_shuffled" 2 ["_law_box_here","_law_some"] (JQ K)):FnOk P w K N M CX0 3 f fd ["_law_box_here","_law_picks"] (zbZ K):=by
 have nd:=zck.nd;refine F.ok zck (fun vs H Q E h=>?_) (fun ak A af s H vs Q E hr h=>?_)
 ·obtain⟨b,pk,n,L,g,rfl,_⟩:=h
  rfl
 ·obtain⟨b,pk,n,L,g,rfl,B0,hn,T,hp,rp,lp,k⟩:=h
  have aj:=bG100000;have lx:L.length=g.length:=by have:=rp.len;rwa[zn] at this
  refine⟨_,(zk (zw (qJ (za (zW qI rfl B.tuple qv (za (zg c hr.m rfl (za (pv 0) (za (pv 1) zb))) zb)) (za (zW qI rfl B.tuple qv (za (vP [] [] rfl rfl (by kernel_rfl) (qH (pv 1)) (fun _ _ _ _=>qQ) (fun _ _ _ _=>(pv 0))) zb)) zb))))),?_⟩
  refine⟨_,rfl,_,rfl,b,pk,n,L,rfl,B0,by omega,T,hp,by omega,fun l D H1 S1 B1 nl hl hL pm=>?_⟩
  have T1:=u7 B0 S1;obtain⟨sh,ai,ah⟩:=Reps.perm pm (rp.keep T1 (qo g));have ag:=rp.keep T1 (qo g);refine⟨l,D,rfl,.inl ⟨u4 hL,fun Y I=>?_⟩⟩
  have s1:=zd (o:=.tup D) I;have G:=s1 _ _ (S1 _ _ hp T);have U:=ag.same s1;have j:=ah.same s1;have a0:upd H1 Y (.tup D) Y=some (.tup D):=zc;have S2:=S1.new (o:=.tup D) I;have B2:=B1.new (o:=.tup D) I;generalize upd H1 Y (.tup D)=H2 at s1 G U j a0 S2 B2;refine⟨_,rfl,pk,rfl,⟨_,u4 G⟩,jI (K:=K) (a:=pk) (xs:=L) (fun i zs H3=>zs=zB ((g.map (·.1)).take i)/\Same H2 H3) ⟨rfl,u6 _⟩ (fun i zs H3 ⟨_,J⟩=>u4 (J _ _ G)) ?_ ?_⟩
  ·rintro i x zs H3 hx ⟨rfl,J⟩
   obtain⟨d,e1,r1⟩:=(U.same J).get hx;rw[qm] at e1;obtain⟨p,ep,rfl⟩:=qS.mp e1;obtain⟨pa,rfl,qp⟩:=j8 r1;have hi:i<g.length:=(zK.mp ep).1;refine⟨pa,_,rfl,qp,rfl,_,_,rfl,_,_,rfl,rfl,rfl,?_⟩
   refine⟨_,rfl,?_,?_,J⟩
   ·rw[zG,qC,zn];omega
   ·have aa:(g.map (·.1))[i]? =some p.1:=by rw[qm,ep];rfl
    rw[qr aa];unfold zB;rw[zQ];rfl
  rintro zs H3 ⟨rfl,J⟩;have ab:(g.map (·.1)).take L.length=g.map (·.1):=by rw[lx,<- zn (f:=(·.1)),qW]
  rw[ab];refine⟨by rw[zG,zn];omega,fun l2 ac=>⟨l2,_,rfl,.inl ⟨u4 zc,fun t2 ae=>⟨le2,fun q hq=>?_⟩⟩⟩⟩
  have s2:=(J.trans (zd (o:=.lst (zB (g.map (·.1)))) ac)).trans (zd (o:=.tup (zB (g.map (·.1)))) ae)
  have s3:=s2.trans (zd (o:=.tup [.ref Y,.ref t2]) hq);refine k q sh _ (S2.trans (ua s3)) (B2.same s3 |>.mono (by omega)) ai ?_
  refine⟨q,_,rfl,u5 zc,_,_,rfl,⟨Y,D,rfl,u5 (s3 _ _ a0),j.same s3⟩,_,_,rfl,⟨t2,_,rfl,u5 ((zd hq) _ _ zc),yZ _⟩,rfl⟩
def yt(J:Job)(p:Nat×Nat):Prop:=∃f c,J.ps[p.1]? =some f/\J.fs[p.2]? =some c/\c.k=f.k
structure XQ(J:Job)(t:qw):Prop where
 p1:1<=t.pk.length
 p2:(t.pk.length:Int)<=J.hd
 ok:∀p∈t.pk,yt J p
 ly:t.ly.Perm (t.pk.map (·.1))
def vv(ts:List qw):List Nat:=ts.flatMap (·.ly)
theorem Zr(ts:List qw)(t:qw):vv (ts++[t])=vv ts++t.ly:=by
 unfold vv;rw[XC];simp
def Zq(ts:List qw):List (Nat×Nat):=ts.flatMap (·.pk)
theorem Qa(ts:List qw)(t:qw):Zq (ts++[t])=Zq ts++t.pk:=by
 unfold Zq;rw[XC];simp
structure StL(J:Job)(st:List Int)(l:List (Nat×Nat)):Prop where
 len:st.length=J.fs.length
 nn:∀(f:Nat) (z:Int),st[f]? =some z->0<=z
 cnt:∀(f:Nat) (z:Int) (fe:xn),st[f]? =some z->J.fs[f]? =some fe->z=fe.m-((l.map (·.2)).count f:Int)
theorem StL.nil{J:Job}(h:∀f∈J.fs,0<=f.m):StL J (J.fs.map (·.m)) []:=by
 refine⟨zn ..,fun f z e=>?_,fun f z c e g=>?_⟩
 ·rw[qm] at e
  obtain⟨x,j,rfl⟩:=qS.mp e;exact h x (zY j)
 ·rw[qm,g] at e
  cases e;show c.m=c.m-((0:Nat):Int);omega
theorem StL.perm{J:Job}{st:List Int}{l c:List (Nat×Nat)}(s:StL J st l)(p:l.Perm c):StL J st c:=⟨s.len,s.nn,fun f z j e g=>by rw[<- (p.map (·.2)).count_eq];exact s.cnt f z j e g⟩
theorem StL.take{J:Job}{st:List Int}{l:List (Nat×Nat)}(s:StL J st l){c f:Nat}{z:Int}(e:st[f]? =some z)(h:0<z):StL J (st.set f (z-1)) (l++[(c,f)]):=by
 refine⟨by rw[Zf];exact s.len,fun g y j=>?_,fun g y B j A=>?_⟩
 ·rw[W4] at j
  split at j
  ·split at j
   ·cases j;omega
   ·cases j
  ·exact s.nn g y j
 ·rw[zQ,Xz]
  show _=_-((_+[f].count g:Nat):Int);rw[W4] at j;split at j
  ·split at j
   ·cases j
    rename_i x _
    subst x;have:=s.cnt f z B e A;rw[List.count_singleton_self];omega
   ·cases j
  ·rename_i x
   have:=s.cnt g y B j A;rw[List.count_eq_zero_of_not_mem (a:=g) (l:=[f]) (fun z=>x (qg.mp z).symm)]
   omega
structure zdI(J:Job)(os:List Nat)(ts:List qw):Prop where
 tr:∀t∈ts,XQ J t
 sub:(vv ts).Sublist os
 len:ts.length<=60
 stk:∃st,StL J st (Zq ts)
structure PlS(K:W.Frag)(H:Hp)(b ls lf lp lo lq:Addr)(st:List Int)(tr pk:List V)(ou os:List Nat)(ts:List qw)(pks:List (Nat×Nat))(H':Hp)(n:Int):Prop where
 s:SameB b H H'
 bx:BoxAt H' b n
 nb:ls≠b/\lf≠b/\lp≠b/\lo≠b/\lq≠b
 nn:ls≠lf/\ls≠lp/\ls≠lo/\ls≠lq/\lf≠lp/\lf≠lo/\lf≠lq/\lp≠lo/\lp≠lq/\lo≠lq
 hN:H ls=none/\H lf=none/\H lp=none/\H lo=none
 hs:H' ls=some (.lst (st.map V.int))
 hf:H' lf=some (.lst tr)
 hp:H' lp=some (.lst pk)
 ho:H' lo=some (.lst (zB ou))
 hq:H' lq=some (.lst (zB os))
 rt:Reps K H' (ts.map jm) tr
 rk:Reps K H' (pks.map jq) pk
variable{H H' O:Hp}{b ls lf lp lo lq:Addr}{st:List Int}{tr pk:List V}{ou os:List Nat}{ts:List qw}{pks:List (Nat×Nat)}{n m:Int}
theorem PlS.draw(g:PlS K H b ls lf lp lo lq st tr pk ou os ts pks H' n)(S:SameB b H' O)(B:BoxAt O b m):PlS K H b ls lf lp lo lq st tr pk ou os ts pks O m:=by
 obtain⟨c,f,j,l,s⟩:=g.nb;have T:=u7 g.bx S;exact⟨g.s.trans S,B,g.nb,g.nn,g.hN,S _ _ g.hs c,S _ _ g.hf f,S _ _ g.hp j,S _ _ g.ho l,S _ _ g.hq s,g.rt.keep T (jF ts),g.rk.keep T (qo pks)⟩
theorem PlS.same(g:PlS K H b ls lf lp lo lq st tr pk ou os ts pks H' n)(S:Same H' O):PlS K H b ls lf lp lo lq st tr pk ou os ts pks O n:=g.draw (ua S) (g.bx.same S)
theorem PlS.new{q:Addr}{o:HO}(g:PlS K H b ls lf lp lo lq st tr pk ou os ts pks H' n)(h:H' q=none):PlS K H b ls lf lp lo lq st tr pk ou os ts pks (upd H' q o) n:=g.same (zd h)
theorem PlS.mono(g:PlS K H b ls lf lp lo lq st tr pk ou os ts pks H' n)(h:n<=m):PlS K H b ls lf lp lo lq st tr pk ou os ts pks H' m:=⟨g.s,g.bx.mono h,g.nb,g.nn,g.hN,g.hs,g.hf,g.hp,g.ho,g.hq,g.rt,g.rk⟩
theorem PlS.putO{c:List Nat}(g:PlS K H b ls lf lp lo lq st tr pk ou os ts pks H' n):PlS K H b ls lf lp lo lq st tr pk c os ts pks (upd H' lo (.lst (zB c))) n:=by
 obtain⟨l,s,A,j,B⟩:=g.nb;obtain⟨a1,a2,a3,a4,a5,a6,a7,a8,a9,f⟩:=g.nn;have T:=ub (ys:=zB c) g.ho;exact⟨g.s.put g.hN.2.2.2,g.bx.other j,g.nb,g.nn,g.hN,by rw[zm a3];exact g.hs,by rw[zm a6];exact g.hf,by rw[zm a8];exact g.hp,zc,by rw[zm f.symm];exact g.hq,g.rt.keep T (jF ts),g.rk.keep T (qo pks)⟩
theorem PlS.putS{st':List Int}(g:PlS K H b ls lf lp lo lq st tr pk ou os ts pks H' n):PlS K H b ls lf lp lo lq st' tr pk ou os ts pks (upd H' ls (.lst (st'.map V.int))) n:=by
 obtain⟨f,j,l,s,A⟩:=g.nb;obtain⟨a1,a2,a3,a4,a5,a6,a7,a8,a9,c⟩:=g.nn;have T:=ub (ys:=st'.map V.int) g.hs;exact⟨g.s.put g.hN.1,g.bx.other f,g.nb,g.nn,g.hN,zc,by rw[zm a1.symm];exact g.hf,by rw[zm a2.symm];exact g.hp,by rw[zm a3.symm];exact g.ho,by rw[zm a4.symm];exact g.hq,g.rt.keep T (jF ts),g.rk.keep T (qo pks)⟩
theorem PlS.putF{v:V}{t:qw}(g:PlS K H b ls lf lp lo lq st tr pk ou os ts pks H' n)(hv:Rep K H' (jm t) v):PlS K H b ls lf lp lo lq st (tr++[v]) pk ou os (ts++[t]) pks (upd H' lf (.lst (tr++[v]))) n:=by
 obtain⟨j,f,l,s,A⟩:=g.nb;obtain⟨a1,a2,a3,a4,a5,a6,a7,a8,a9,c⟩:=g.nn;have T:=ub (ys:=tr++[v]) g.hf;refine⟨g.s.put g.hN.2.1,g.bx.other f,g.nb,g.nn,g.hN,by rw[zm a1];exact g.hs,zc,by rw[zm a5.symm];exact g.hp,by rw[zm a6.symm];exact g.ho,by rw[zm a7.symm];exact g.hq,?_,g.rk.keep T (qo pks)⟩
 rw[zQ];exact uc (hv.keep T (Jf t)) (g.rt.keep T (jF ts))
theorem PlS.putP{v:V}{p:Nat×Nat}(g:PlS K H b ls lf lp lo lq st tr pk ou os ts pks H' n)(hv:Rep K H' (jq p) v):PlS K H b ls lf lp lo lq st tr (pk++[v]) ou os ts (pks++[p]) (upd H' lp (.lst (pk++[v]))) n:=by
 obtain⟨j,l,f,s,A⟩:=g.nb;obtain⟨a1,a2,a3,a4,a5,a6,a7,a8,a9,c⟩:=g.nn;have T:=ub (ys:=pk++[v]) g.hp;refine⟨g.s.put g.hN.2.2.1,g.bx.other f,g.nb,g.nn,g.hN,by rw[zm a2];exact g.hs,by rw[zm a5];exact g.hf,zc,by rw[zm a8.symm];exact g.ho,by rw[zm a9.symm];exact g.hq,g.rt.keep T (jF ts),?_⟩
 rw[zQ];exact uc (hv.keep T (by rfl)) (g.rk.keep T (qo pks))
theorem PlS.newP{q:Addr}(g:PlS K H b ls lf lp lo lq st tr pk ou os ts pks H' n)(h:H' q=none):PlS K H b ls lf q lo lq st tr [] ou os ts [] (upd H' q (.lst [])) n:=by
 obtain⟨l,s,D,A,B⟩:=g.nb;obtain⟨a1,a2,a3,a4,a5,a6,a7,a8,a9,f⟩:=g.nn;have c:=g.new (o:=.lst []) h;have j:=g.bx.nne h;exact⟨c.s,c.bx,⟨l,s,j,A,B⟩,⟨a1,zj g.hs h,a3,a4,zj g.hf h,a6,a7,(zj g.ho h).symm,(zj g.hq h).symm,f⟩,⟨g.hN.1,g.hN.2.1,g.s.none h j,g.hN.2.2.2⟩,c.hs,c.hf,zc,c.ho,c.hq,c.rt,rfl⟩
inductive zgY(t:TT)(σ:St)(H:Hp)(Q:Bool->Hp->Prop):Prop
 | mk (J:Bool->Hp->Prop) (_:t σ H J) (_:∀c H',J c H'->Q c H'):zgY t σ H Q
theorem zab{X:Cx}{e:Expr}{t:TT}(h:PT X e t):PT X e (zgY t):=by
 intro f s σ H Q I l;obtain⟨J,A,B⟩:=l;exact thn (h f s σ H J I A) fun c s1 ⟨g,j,q⟩=>⟨g,j,B _ _ q⟩
theorem xA{H:Hp}{p:xn}{x:V}(h:Rep K H (xF p) x):∃a c,x=.ref a/\SqT K H a [.str p.k,.ref c,.int p.m]/\SqT K H c [.int p.x,.int p.y]:=by
 obtain⟨a,xs,rfl,q,L,Y,g,A,y1,r1,j,B,Q,J,l,D,s⟩:=h;subst g j l;cases(show J=[] from s)
 cases(show L=_ from A)
 cases(show Q=_ from D)
 obtain⟨c,ys,rfl,I,T,s0,f,E,U,s1,e1,G,e2⟩:=B;subst f e1;cases(show s1=[] from e2)
 cases(show T=_ from E)
 cases(show U=_ from G)
 exact⟨a,c,rfl,q,I⟩
theorem yV{H:Hp}{p:ZM}{x:V}(h:Rep K H (xp p) x):∃a c,x=.ref a/\SqT K H a [.str p.k,.ref c]/\SqT K H c [.int p.x,.int p.y]:=by
 obtain⟨a,U,rfl,q,I,Q,g,s,Y,G,j,A,l⟩:=h;subst g j;cases(show G=[] from l)
 cases(show I=_ from s)
 obtain⟨c,ys,rfl,E,J,T,f,B,L,s1,e1,D,e2⟩:=A;subst f e1;cases(show s1=[] from e2)
 cases(show J=_ from B)
 cases(show L=_ from D)
 exact⟨a,c,rfl,q,E⟩
theorem zdt{H:Hp}{α:Type}{f:α->Dat}{j:List α}{g:List V}(h:Reps K H (j.map f) g){i:Nat}{a:α}(l:j[i]? =some a):∃v,g[i]? =some v/\Rep K H (f a) v:=by
 have s:=h.len;rw[zn] at s;have c:i<g.length:=by have:=(zK.mp l).1;omega
 obtain⟨d,e,r⟩:=h.get (i:=i) (x:=g[i]) (by simp[c])
 rw[qm,l] at e;cases e;exact⟨g[i],by simp[c],r⟩
inductive X8(K:W.Frag)(j:List V)(H:Hp)(Q:VK):Prop
 | mk (b g:Addr) (J:Job) (f:List Nat) (c n:Int) (_:j=[.ref b,.ref g,.int c]) (_:BoxAt H b n) (_:n<500000) (_:Rep K H (vw J) (.ref g)) (_:JobOk J f) (_:0<=c) (_:c<=100) (_:∀(l:Addr) (os:List Nat) (ts:List qw) (tr:List V) H',SameB b H H'->BoxAt H' b (n+1000)->l≠b->H l=none->H' l=some (.lst tr)->Reps K H' (ts.map jm) tr->os.Perm (List.range J.ps.length)->ByOrd os J.as->zdI J os ts->Q (.ref l) H'):X8 K j H Q
def zb4(K:W.Frag):Sp:=fun c H Q _=>X8 K c H Q
theorem zcp:zy ["_law_box_here","_law_job_here","_law_most","_law_stock","_law_found","_law_picks","_law_out","_law_part","_law_some","_law_lost","_law_at"] ["_law_box_here","_law_job_here","_law_most"] (zq (topL 56)):=u3
def zaK(b:_)(g:_)(c:_)(ls:_)(lf:_)(lo:_)(K:_)(H:_)(lq:_)(os:_)(n:_)(J:_):=fun(i:Nat) (σ:St) (H':Hp)=>(ziz fun(lp:Addr) (j l s f:Option V) (st:List Int) (tr pk:List V) (ou:List Nat) (ts:List qw) (pks:List (Nat×Nat))=>An9 (σ=[some (.ref b),some (.ref g),some (.int c),some (.ref ls),some (.ref lf),some (.ref lp),some (.ref lo),j,l,s,f]) (PlS K H b ls lf lp lo lq st tr pk ou os ts pks H' (n+60+10*i)) (StL J st (Zq ts++pks)) ((∀t∈ts,XQ J t)) ((∀p∈pks,yt J p)) ((pks.length:Int)<J.hd) ((vv ts++pks.map (·.1)).Sublist (os.take i)) (ts.length+pks.length<=i) (ou.length<=i):Prop)
def zaJ(b:_)(B:_)(g:_)(ls:_)(lf:_)(lp:_)(lo:_)(c:Nat)(s:_)(j:_)(A:_)(l:_):=fun(D:St) (H':Hp)=>(Ex1 fun(f:Bool)=>An4 (D=[some (.ref b),some (.ref B),some (.int g),some (.ref ls),some (.ref lf),some (.ref lp),some (.ref lo),some (.int (c:Int)),some (.ref s),some (.bl f),j]) (Same A H') (H' s=some (.lst (zB l))) ((f=false->l≠[])):Prop)
theorem zed{f:Addr}{fd:FuncData}(F:Fun K "_law_plan" "_law_plan" (topL 56) f fd)(B:Blt N)(aa:Dfn P w K N M "_law_take" 1 ["_law_box_here","_law_size"] xI)(ar:Dfn P w K N M "_law_order" 2 ["_law_box_here","_law_job_here"] (YL K))(aj:Dfn P w K N M "_law_trip" 3 ["_law_box_here","_law_picks"] (zbZ K)):FnOk P w K N M CX0 4 f fd ["_law_box_here","_law_job_here","_law_most"] (zb4 K):=by
 have nd:=zcp.nd;refine F.ok zcp (fun vs H Q E h=>?_) (fun e6 A di s H vs Q E hr h=>?_)
 ·obtain⟨b,jp,J,cs,af,n,rfl,_⟩:=h
  rfl
 ·obtain⟨b,jp,J,cs,af,n,rfl,B0,hn,rj,jo,ea,eb,k⟩:=h
  have hu:=hr.units0;have e0:=bG100000;have pl:=jo.pl;have al:=jo.al;have fl:=jo.fl;have e7:=jo.hd0;have e8:=jo.hd1;obtain⟨g,fs,ps,as,qj,_,rf,rp,ra⟩:=VN rj;obtain⟨fv,qf,cd⟩:=yx rf;obtain⟨ef,qp,d2⟩:=yx rp;obtain⟨av,qa,d0⟩:=yx ra;have co:=cd.len;rw[zn] at co;have lp:=d2.len;rw[zn] at lp;have la:=d0.len;rw[zn] at la;refine⟨_,(ze (zA (i:=3) nd rfl (Or.inr rfl) (jB [] [] rfl rfl (by kernel_rfl) (xt (zL jC (pv 1) zi (fun _ _=>rfl))) (fun _ _ _ _=>qQ) (fun _ _ _ _=>(zL (xm (K:=K) rfl) (pv 0) zi (fun _ _=>rfl)))))
   (ze (xi (qJ (za (z7 zb) (za (z7 zb) (za (z7 zb) zb)))) (jd rfl (zt (zu (i:=4) nd rfl (Or.inl rfl)) (zt (zu (i:=5) nd rfl (Or.inl rfl)) (zt (zu (i:=6) nd rfl (Or.inr rfl)) qA)))))
   (ze (jA jU rfl (qH (zg ar hr.m rfl (za (pv 0) (za (pv 1) zb)))) (zu (i:=7) nd rfl (Or.inr rfl))
   (ze (Wx ["_law_stock","_law_part","_law_job_here"] [3,7,1] rfl rfl (by kernel_rfl) (Qb rfl B.enumerate (za (zL jC (pv 1) zi (fun _ _=>rfl)) zb)) (fun _ _ _ _=>(j5 (u8 (Z7 (zI j9 (zL (xm (K:=K) rfl) (pv 1) zi (fun _ _=>rfl)) (zL (xm (K:=K) rfl) (zL (xm (K:=K) rfl) (zL (xm (K:=K) rfl) (pv 4) zi (fun _ _=>rfl)) (pv 3) (fun _ _=>rfl)) zi (fun _ _=>rfl)) (zH _)) (yy (zI zaf (zL (yG (K:=K) rfl) (pv 2) (pv 0) (fun _ _=>rfl)) zi (zH _))))))) (fun _ _ _ _=>(pv 0)) (zu (i:=8) nd rfl (Or.inl rfl)))
    (ze (wQ (zA (i:=9) nd rfl (Or.inl rfl) (zhJ (qB (zcR hu) (pv 8) (z7 zb) (zH _)) (xj (zo (JG rfl) rfl B.any V8 (za (vP ["_law_part","_law_out"] [7,6] rfl rfl (by kernel_rfl) (xt (zL jC (pv 1) zi (fun _ _=>rfl))) (fun _ _ _ _=>qQ) (fun _ _ _ _=>(j6 (qB j9 (pv 1) (pv 2) (zH _)) (xj (qB (vQ (K:=K) rfl) (pv 0) (pv 3) (by with_unfolding_all rfl)))))) zb))))))
    (ze (wQ (jn (zab (u8 (vE (qY (pv 9)) (xJ (u8 (Z7 (zI zaf (pv 2) zi (zH _)) (yy (zI j9 (zg aa hr.m rfl (za (pv 0) (za (pv 2) zb))) zi (zH _)))))))))
    (zk (qN (xo j4 vh vg qE (pv 6) (za (pv 7) zb))))
    (ze (zA (i:=10) nd rfl (Or.inl rfl) (zL z9 (pv 8) (zg aa hr.m rfl (za (pv 0) (za (zo zE rfl B.len boot_len (za (pv 8) zb)) zb))) (fun _ _=>rfl)))
     (ze (xi (zJ wg (zL z9 (pv 3) (pv 10) (fun _ _=>rfl)) zi) (JY (pv 3) (pv 10) we))
     (zk (qN (xo j4 vh vg qE (pv 5) (za (qJ (za (pv 7) (za (pv 10) zb))) zb))))))))
    (zk (jn (zab (u8 (Z7 (zI (Qg hu) (pv 5) (z7 zb) (zH _)) (yy (u8 (vE (zI j9 (zo zE rfl B.len boot_len (za (pv 5) zb)) (zL jC (pv 1) zi (fun _ _=>rfl)) (zH _)) (xJ (zI j9 (zg aa hr.m rfl (za (pv 0) (za zi zb))) zi (zH _)))))))))
    (ze (qN (xo j4 vh vg qE (pv 4) (za (zg aj hr.m rfl (za (pv 0) (za (pv 5) zb))) zb)))
     (zk (zA (i:=5) nd rfl (Or.inl rfl) (z7 zb))))
    zZ))))))
   (zk (zw (zJ J5 (pv 4) (zJ zf5 (z7 (za (zg aj hr.m rfl (za (pv 0) (za (pv 5) zb))) zb)) (zW y9 rfl B.int ww (za (qB (Qg hu) (pv 5) (z7 zb) (zH _)) zb))))))))),?_⟩
  refine⟨_,rfl,jp,_,_,_,rfl,rfl,qj,rfl,fs,rfl,⟨_,qf⟩,xx (K:=K) (a:=fs) (xs:=fv) (fun i Y H1=>Y=((J.fs.take i).map (·.m)).map V.int/\Same H H1) ⟨rfl,u6 _⟩ (fun i Y H1 ⟨_,I⟩=>I.sqT qf) ?_ ?_⟩
  ·rintro i x Y H1 hx ⟨rfl,I⟩
   obtain⟨d,e1,r1⟩:=(cd.same I).get hx;rw[qm] at e1;obtain⟨p,ep,rfl⟩:=qS.mp e1;obtain⟨a,c,rfl,q,q'⟩:=xA r1;have hi:i<J.fs.length:=(zK.mp ep).1;refine⟨rfl,⟨_,rfl,a,_,_,_,rfl,rfl,q,rfl,?_,?_,I⟩⟩
   ·rw[zn,zn,qC];omega
   ·rw[qr ep,zQ,zQ];rfl
  rintro Y H1 ⟨rfl,I⟩;have da:J.fs.take fv.length=J.fs:=by rw[co,qW]
  rw[da];refine⟨by rw[zn,zn];omega,fun ls an=>?_⟩
  have br:StL J (J.fs.map (·.m)) []:=.nil fun f hf=>(jo.fa f hf).2.2.1
  generalize J.fs.map (·.m)=ai at br
  have S1:=(ua (b:=b) I).new (o:=.lst (ai.map V.int)) an;have B1:=(B0.same I).new (o:=.lst (ai.map V.int)) an;have LS:upd H1 ls (.lst (ai.map V.int)) ls=some (.lst (ai.map V.int)):=zc;have NS:H ls=none:=(ua (b:=b) I).none an ((B0.same I).nne an);have cr:=(B0.same I).nne an;generalize upd H1 ls (.lst (ai.map V.int))=H2 at S1 B1 LS;refine⟨le0,fun lf ag=>⟨le0,fun l a0=>⟨le0,fun lo L=>⟨le3,fun t ht=>?_⟩⟩⟩⟩
  have c8:=B1.nne ag;have NF:=S1.none ag c8;have S2:=S1.new (o:=.lst []) ag;have B2:=B1.new (o:=.lst []) ag;have be:=(zd (o:=.lst []) ag) _ _ LS;have az:upd H2 lf (.lst []) lf=some (.lst []):=zc;generalize upd H2 lf (.lst [])=H3 at S2 B2 be az a0 L ht;have ca:=B2.nne a0;have NP:=S2.none a0 ca;have S3:=S2.new (o:=.lst []) a0;have B3:=B2.new (o:=.lst []) a0;have bf:=(zd (o:=.lst []) a0) _ _ be;have b0:=(zd (o:=.lst []) a0) _ _ az;have bc:upd H3 l (.lst []) l=some (.lst []):=zc;generalize upd H3 l (.lst [])=H4 at S3 B3 bf b0 bc L ht;have c9:=B3.nne L;have NO:=S3.none L c9;have S4:=S3.new (o:=.lst []) L;have B4:=B3.new (o:=.lst []) L;have c0:=(zd (o:=.lst []) L) _ _ bf;have bv:=(zd (o:=.lst []) L) _ _ b0;have bz:=(zd (o:=.lst []) L) _ _ bc;have bw:upd H4 lo (.lst []) lo=some (.lst []):=zc;have a1:ls≠lf:=zj LS ag;have a2:ls≠l:=zj be a0;have a3:ls≠lo:=zj bf L;have a5:lf≠l:=zj az a0;have a6:lf≠lo:=zj b0 L;have a8:l≠lo:=zj bc L;generalize upd H4 lo (.lst [])=H5 at S4 B4 c0 bv bz bw ht;have s5:=zd (o:=.tup [.ref lf,.ref l,.ref lo]) ht;have T5:upd H5 t (.tup [.ref lf,.ref l,.ref lo]) t=some (.tup [.ref lf,.ref l,.ref lo]):=zc;have S5:=S4.new (o:=.tup [.ref lf,.ref l,.ref lo]) ht;have B5:=B4.new (o:=.tup [.ref lf,.ref l,.ref lo]) ht;have bg:=s5 _ _ c0;have ba:=s5 _ _ bv;have bd:=s5 _ _ bz;have bb:=s5 _ _ bw;generalize upd H5 t (.tup [.ref lf,.ref l,.ref lo])=H6 at s5 T5 S5 B5 bg ba bd bb;refine⟨t,_,rfl,u5 T5,rfl,_,_,rfl,_,_,rfl,_,_,rfl,rfl,?_⟩
  clear S1 S2 S3 S4 B1 B2 B3 B4 LS be bf c0 az b0 bv bc bz bw an ag a0 L ht s5 T5;have d1:=rj.keep (u7 B0 S5) (wo J);refine⟨_,rfl,_,rfl,b,jp,J,cs,n,rfl,B5.mono (by omega),by omega,d1,jo,fun lq os H7 S7 B7 dh aw cf pm ob=>?_⟩
  have ed:os.length=J.ps.length:=by have:=pm.length_eq;rwa[vd] at this
  have a4:ls≠lq:=zj bg aw;have a7:lf≠lq:=zj ba aw;have a9:l≠lq:=zj bd aw;have d7:lo≠lq:=zj bb aw;have g0:PlS K H b ls lf l lo lq ai [] [] [] os [] [] H7 (n+60):=⟨S5.trans S7,B7,⟨cr,c8,ca,c9,dh⟩,⟨a1,a2,a3,a4,a5,a6,a7,a8,a9,d7⟩,⟨NS,NF,NP,NO⟩,S7 _ _ bg cr,S7 _ _ ba c8,S7 _ _ bd ca,S7 _ _ bb c9,cf,rfl,rfl⟩;clear S5 S7 B5 B7 bg ba bd bb cf aw d1 I;refine⟨lq,rfl,⟨_,u4 g0.hq⟩,xE (K:=K) (a:=lq) (xs:=zB os) (zaK b jp af ls lf lo K H lq os n J)
   ⟨l,none,none,none,none,ai,[],[],[],[],[],rfl,g0.mono (by omega),br,(fun _ h=>nomatch h),(fun _ h=>nomatch h),(by show((0:Nat):Int)<_;omega),Xy _,zC _,zC _⟩
   (fun i σ H' _ ⟨_,_,_,_,_,_,_,_,_,_,_,_,g,_,_,_,_,_,_,_⟩=>u4 g.hq) ?_ ?_⟩
  ·rintro i x σ H8 hx ⟨lp,v7,v8,v9,bn,st,tr,pk,ou,ts,pks,rfl,g,ay,bm,bi,dk,sub,cnt,cu⟩
   obtain⟨c,ec,rfl⟩:=yD hx;have ei:=ay.len;have hi:i<os.length:=(zK.mp ec).1;have hc:c<J.ps.length:=jJ.mp (pm.mem_iff.mp (zY ec));obtain⟨pa,ch⟩:∃pa,J.ps[c]? =some pa:=⟨J.ps[c],by simp[hc]⟩
   have T8:=u7 B0 g.s;have cb:=qj.keep T8;have cy:=qf.keep T8;have dn:=qp.keep T8;have cx:=qa.keep T8;have dt:=cd.keep T8 (xz J.fs);have du:=d2.keep T8 (j7 J.ps);have ds:=d0.keep T8 (qo J.as);obtain⟨eg,d9,dv⟩:=zdt du ch;obtain⟨dj,ee,rfl,dp,_⟩:=yV dv;refine⟨_,rfl,jp,_,_,_,rfl,rfl,cb,rfl,fs,rfl,⟨_,cy⟩,VH (K:=K) (a:=fs) (xs:=fv) (fun i' Y H9=>Ex1 fun(U:List Nat)=>An4 (Y=zB U) (U.length<=i') ((∀k'∈U,∃fe,J.fs[k']? =some fe/\fe.k=pa.k/\∃z,st[k']? =some z/\0<z)) (Same H8 H9)) ⟨[],rfl,zC _,(fun _ h=>nomatch h),u6 _⟩ (fun i' Y H9 ⟨_,_,_,_,I⟩=>I.sqT cy) ?_ ?_⟩
   ·rintro i' x Y H9 T c6 ⟨U,rfl,kl,kk,I⟩ hT
    obtain⟨d,e1,r1⟩:=(dt.same I).get c6;rw[qm] at e1;obtain⟨fe,am,rfl⟩:=qS.mp e1;have db:i'<J.fs.length:=(zK.mp am).1;have sT:=I.trans (zd (o:=.tup [.int (i':Int),x]) hT);obtain⟨fa,fc,rfl,dm,_⟩:=xA (r1.same (zd (o:=.tup [.int (i':Int),x]) hT));refine⟨T,_,rfl,u5 zc,rfl,_,_,rfl,_,_,rfl,rfl,rfl,?_⟩
    refine⟨_,rfl,fa,_,_,_,rfl,rfl,dm,rfl,_,rfl,jp,_,_,_,rfl,rfl,sT.sqT cb,rfl,_,rfl,ps,_,_,_,rfl,rfl,sT.sqT dn,jh d9,dj,_,_,_,rfl,rfl,sT.sqT dp,rfl,rfl,_,rfl,xg (fun c1=>?_) (fun c1=>?_)⟩
    ·have ek:fe.k=pa.k:=by have:=ju c1;exact V.str.inj this
     have ao:i'<st.length:=by omega
     refine⟨_,rfl,_,rfl,ls,_,_,.int st[i'],rfl,rfl,u4 (sT _ _ g.hs),jh (by rw[qm,qP ao];rfl),_,_,rfl,rfl,_,rfl,xg (fun c2=>?_) (fun c2=>?_)⟩
     ·refine⟨_,rfl,by rw[zG];omega,U++[i'],?_,by rw[zS];show _+1<=_;omega,fun k' dc=>?_,sT⟩
      ·unfold zB
       rw[zQ];rfl
      ·rcases qM.mp dc with z | z
       ·exact kk k' z
       ·rw[qg.mp z]
        exact⟨fe,am,ek,_,qP ao,ju c2⟩
     ·exact⟨U,rfl,by omega,kk,sT⟩
    ·exact ifF rfl ⟨U,rfl,by omega,kk,sT⟩
   rintro Y H9 ⟨U,rfl,kl,kk,I⟩;refine⟨by rw[zG];omega,fun lm c5=>?_⟩
   have bj:=I.trans (zd (o:=.lst (zB U)) c5);have LM:upd H9 lm (.lst (zB U)) lm=some (.lst (zB U)):=zc;have cq:lm≠b:=(g.same I).bx.nne c5;generalize upd H9 lm (.lst (zB U))=Ha at bj LM;clear I c5;refine⟨zaJ b jp af ls lf lp lo c lm bn H8 U,?_,?_⟩
   ·refine⟨_,rfl,le0,fun q hq=>⟨lm,q,zB U,rfl,rfl,u4 ((zd hq) _ _ LM),u4 zc,_,rfl,xg (fun c1=>?_) (fun c1=>?_)⟩⟩
    ·exact⟨true,rfl,bj.trans (zd hq),(zd hq) _ _ LM,fun z=>nomatch z⟩
    ·have c7:U≠[]:=fun z=>c1 (by rw[z];rfl)
     have ae:=bj.trans (zd (o:=.lst []) hq);have ak:=(zd (o:=.lst []) hq) _ _ LM;generalize upd Ha q (.lst [])=Hb at ae ak;refine⟨_,rfl,jp,_,_,_,rfl,rfl,ae.sqT cb,rfl,as,rfl,⟨_,ae.sqT cx⟩,xx (K:=K) (a:=as) (xs:=av) (fun i' Y H9=>∃bs:List Bool,Y=bs.map V.bl/\bs.length<=i'/\Same Hb H9) ⟨[],rfl,zC _,u6 _⟩ (fun i' Y H9 ⟨_,_,_,I⟩=>(ae.trans I).sqT cx) ?_ ?_⟩
     ·rintro i' x Y H9 c6 ⟨bs,rfl,bl,I⟩
      obtain⟨d,e1,r1⟩:=(ds.same (ae.trans I)).get c6;rw[qm] at e1;obtain⟨p,ep,rfl⟩:=qS.mp e1;obtain⟨pp,rfl,dq⟩:=j8 r1;have db:i'<J.as.length:=(zK.mp ep).1;refine⟨pp,_,rfl,dq,rfl,_,_,rfl,_,_,rfl,rfl,rfl,?_⟩
      refine⟨_,rfl,_,rfl,rfl,_,rfl,xg (fun c2=>?_) (fun c2=>?_)⟩
      ·refine⟨_,rfl,_,rfl,lo,zB ou,rfl,.inl (u4 ((ae.trans I) _ _ g.ho)),rfl,xU _,by rw[zn];omega,bs++[inV (.int (p.1:Int)) (zB ou)],?_,by rw[zS];show _+1<=_;omega,I⟩
       rw[zQ];rfl
      ·refine⟨by rw[zn];omega,bs++[false],?_,by rw[zS];show _+1<=_;omega,I⟩
       rw[zQ];rfl
     ·rintro Y H9 ⟨bs,rfl,bl,I⟩
      refine⟨by rw[zn];omega,fun D hD=>⟨D,bs,rfl,u4 zc,?_⟩⟩
      have dx:=(ae.trans I).trans (zd (o:=.lst (bs.map V.bl)) hD);exact⟨bs.any id,rfl,dx,(zd (o:=.lst (bs.map V.bl)) hD) _ _ (I _ _ ak),fun _=>c7⟩
   rintro σ' Hb ⟨cp,rfl,ae,ak,c7⟩;have g2:=g.same ae;clear bj LM;have d6:(vv ts++pks.map (·.1)).Sublist (os.take (i+1)):=sub.trans (by rw[qr ec];exact List.sublist_append_left _ _)
   have eO:zB ou++[V.int (c:Int)]=zB (ou++[c]):=by unfold zB;rw[zQ];rfl
   refine⟨fun σ' H'=>Ex5 fun(bn:Option V) (ah:List Int) (ab:List V) (ap:List Nat) (j:List (Nat×Nat))=>An8 (σ'=[some (.ref b),some (.ref jp),some (.int af),some (.ref ls),some (.ref lf),some (.ref lp),some (.ref lo),some (.int (c:Int)),some (.ref lm),some (.bl cp),bn]) (PlS K H b ls lf lp lo lq ah tr ab ap os ts j H' (n+60+10*i+3)) (StL J ah (Zq ts++j)) ((∀p∈j,yt J p)) ((j.length:Int)<=J.hd) ((vv ts++j.map (·.1)).Sublist (os.take (i+1))) (ts.length+j.length<=i+1) (ap.length<=i+1),?_,?_⟩
   ·have cw:∀(H':Hp) (m:Int),PlS K H b ls lf lp lo lq st tr pk ou os ts pks H' m->m<=n+60+10*i+3->PlS K H b ls lf lp lo lq st tr pk (ou++[c]) os ts pks (upd H' lo (.lst (zB ou++[V.int (c:Int)]))) (n+60+10*i+3):=fun H' m g' hm=>by
     rw[eO];exact(g'.mono hm).putO
    have cv:(ou++[c]).length<=i+1:=by rw[zS];show _+1<=_;omega
    refine⟨fun(d:Bool) (H':Hp)=>PlS K H b ls lf lp lo lq st tr pk ou os ts pks H' (n+60+10*i+1)/\H' lm=some (.lst (zB U))/\(d=false->U≠[]),?_,?_⟩
    ·refine⟨_,rfl,_,rfl,xg (fun c1=>⟨g2.mono (by omega),ak,(fun z=>nomatch z)⟩) (fun c1=>?_)⟩
     have bo:=c7 (by simpa using c1)
     exact⟨_,rfl,_,_,rfl,rfl,_,rfl,xg (fun c2=>⟨_,rfl,_,rfl,b,af,_,rfl,g2.bx,by omega,ju c2,by omega,fun r Hc r0 r1 Bc Sc=>⟨rfl,_,rfl,(g2.draw Sc Bc).mono (by omega),Sc _ _ ak cq,fun _=>bo⟩⟩) (fun c2=>⟨g2.mono (by omega),ak,fun _=>bo⟩)⟩
    rintro d Hc ⟨g3,ce,kn⟩;refine xg (fun c1=>?_) (fun c1=>?_)
    ·exact⟨_,rfl,.inl ⟨rfl,_,u4 g3.ho⟩,_,rfl,lo,_,_,rfl,rfl,g3.ho,by rw[zG];omega,_,st,pk,ou++[c],pks,rfl,cw _ _ g3 (by omega),ay,bi,by omega,d6,by omega,cv⟩
    ·have e3:0<U.length:=Zn.mpr (kn (by simpa using c1))
     refine⟨_,rfl,_,rfl,_,rfl,lm,_,rfl,.inl (u4 ce),b,_,_,rfl,g3.bx,by omega,by rw[zG];omega,by rw[zG];omega,fun r' Hd eh dr Bd Sd=>?_⟩
     rw[zG] at dr;have cn:r'.toNat<U.length:=by omega
     have ci:atI (zB U) r'=some (.int ((U[r'.toNat]:Nat):Int)):=by
      have er:(zB U)[r'.toNat]? =some (.int ((U[r'.toNat]:Nat):Int)):=by
       unfold zB;rw[qm,qP cn];rfl
      have:=jh er;rwa[show((r'.toNat:Nat):Int)=r' by omega] at this
     obtain⟨fe,am,d8,z0,c3,df⟩:=kk _ (wA cn);generalize U[r'.toNat]=kf at ci am c3;have e9:kf<J.fs.length:=(zK.mp am).1;have ao:kf<st.length:=by omega
     have g5:=g3.draw Sd Bd;refine⟨lm,_,_,_,rfl,rfl,u4 (Sd _ _ ce cq),ci,?_⟩
     refine⟨_,rfl,_,rfl,ls,_,_,.int st[kf],rfl,rfl,u4 g5.hs,jh (by rw[qm,qP ao];rfl),_,_,rfl,rfl,_,rfl,_,rfl,ls,_,_,kf,rfl,rfl,g5.hs,Xa (by rw[zn];omega),?_⟩
     have eS:(st.map V.int).set kf (V.int (st[kf]-1))=(st.set kf (st[kf]-1)).map V.int:=by rw[List.map_set]
     rw[eS];have g6:=g5.putS (st':=st.set kf (st[kf]-1));generalize upd Hd ls (.lst ((st.set kf (st[kf]-1)).map V.int))=He at g6;refine⟨_,rfl,.inl ⟨rfl,_,u4 g6.hp⟩,_,rfl,_,rfl,le2,fun q hq=>?_⟩
     have g7:=g6.new (o:=.tup [.int (c:Int),.int (kf:Int)]) hq;have rq:Rep K (upd He q (.tup [.int (c:Int),.int (kf:Int)])) (jq (c,kf)) (.ref q):=⟨q,_,rfl,u5 zc,_,_,rfl,rfl,_,_,rfl,rfl,rfl⟩;have aq:pk.length=pks.length:=by have:=g.rk.len;rwa[zn] at this
     refine⟨lp,_,_,rfl,rfl,g7.hp,by omega,_,st.set kf (st[kf]-1),pk++[.ref q],ou,pks++[(c,kf)],rfl,(g7.putP rq).mono (by omega),by rw[<- Zj];exact ay.take (qP ao) (by rw[qP ao] at c3;rw[jt c3];exact df),fun p' au=>?_,by rw[zS];show((_+1:Nat):Int)<=_;omega,?_,by rw[zS];show _+(_+1)<=_;omega,by omega⟩
     ·rcases qM.mp au with z | z
      ·exact bi p' z
      ·rw[qg.mp z]
       exact⟨pa,fe,ch,am,d8⟩
     ·rw[zQ,<- Zj,qr ec]
      exact sub.append (Xy _)
   rintro σ' Hc ⟨e5,ah,ab,ap,j,rfl,g4,bt,bq,e4,bu,cg,bp⟩;have aq:ab.length=j.length:=by have:=g4.rk.len;rwa[zn] at this
   have dy:tr.length=ts.length:=by have:=g4.rt.len;rwa[zn] at this
   have T9:=u7 B0 g4.s;refine⟨fun(d:Bool) (H':Hp)=>PlS K H b ls lf lp lo lq ah tr ab ap os ts j H' (n+60+10*i+4)/\(d=true->1<=j.length)/\(d=false->(j.length:Int)<J.hd),?_,?_⟩
   ·refine⟨_,rfl,le0,fun q hq=>⟨lp,q,_,rfl,rfl,u4 (g4.new (o:=.lst []) hq).hp,u4 zc,_,rfl,xg (fun c1=>?_) (fun c1=>?_)⟩⟩
    ·have g5:=g4.new (o:=.lst []) hq
     have cz:=(qj.keep T9).keep (SameT.of (zd (o:=.lst []) hq));generalize upd Hc q (.lst [])=Hd at g5 cz;have ax:1<=j.length:=by
      cases ab with
      | nil=>cases c1
      | cons x r=>simp at aq;omega
     refine⟨_,rfl,lp,_,rfl,.inl (u4 g5.hp),_,rfl,jp,_,_,_,rfl,rfl,cz,rfl,rfl,_,rfl,xg (fun c2=>⟨g5.mono (by omega),fun _=>ax,fun z=>nomatch z⟩) (fun c2=>⟨_,rfl,b,3,_,rfl,g5.bx,by omega,by decide,by decide,fun r He r0 r1 Be Se=>⟨rfl,_,rfl,(g5.draw Se Be).mono (by omega),fun _=>ax,fun _=>?_⟩⟩)⟩
     have cm:¬(ab.length:Int)=J.hd:=fun z=>c2 (by rw[z];simp)
     omega
    ·have pe:j=[]:=by
      cases j with
      | nil=>rfl
      | cons x r=>
       cases ab with
       | nil=>simp at aq
       | cons y r'=>exact absurd rfl c1
     exact⟨(g4.new (o:=.lst []) hq).mono (by omega),(fun z=>nomatch z),fun _=>by rw[pe];show((0:Nat):Int)<_;omega⟩
   rintro d Hd ⟨G,ax,dd⟩;refine xg (fun c1=>?_) (fun c1=>?_)
   ·have ax:=ax c1
    refine⟨_,rfl,.inl ⟨rfl,_,u4 G.hf⟩,_,rfl,_,rfl,b,lp,_,ab,j,rfl,G.bx,by omega,G.nb.2.2.1,G.hp,G.rk,by omega,fun p sh Hg Sg Bg ac rt=>?_⟩
    have G2:=G.draw Sg Bg;have d5:sh.length=j.length:=ac.length_eq;refine⟨lf,_,_,rfl,rfl,G2.hf,by omega,?_⟩
    have G3:=G2.putF rt;generalize upd Hg lf (.lst (tr++[.ref p]))=Hh at G3;refine⟨le0,fun dg cl=>⟨dg,_,_,_,_,ah,tr++[.ref p],[],ap,ts++[⟨sh,j.map (·.1)⟩],[],rfl,(G3.newP cl).mono (by omega),by rw[Qa,jZ];exact bt.perm (ac.symm.append_left _),?_,(fun _ h=>nomatch h),(by show((0:Nat):Int)<_;omega),?_,?_,bp⟩⟩
    ·intro t' de
     rcases qM.mp de with z | z
     ·exact bm t' z
     ·rw[qg.mp z]
      exact⟨by show 1<=sh.length;omega,by show(sh.length:Int)<=_;omega,fun p' au=>bq p' (ac.mem_iff.mp au),(ac.map (·.1)).symm⟩
    ·rw[Zr]
     simpa using bu
    ·rw[zS]
     show _+1+0<=_;omega
   ·exact⟨lp,_,_,_,_,ah,tr,ab,ap,ts,j,rfl,G.mono (by omega),bt,bm,bq,dd (by simpa using c1),bu,cg,bp⟩
  ·rintro σ H8 ⟨lp,v7,v8,v9,bn,st,tr,pk,ou,ts,pks,rfl,g,ay,bm,bi,dk,sub,cnt,cu⟩
   rw[zG] at sub cnt cu;rw[zG] at g;rw[qW] at sub;have aq:pk.length=pks.length:=by have:=g.rk.len;rwa[zn] at this
   have dy:tr.length=ts.length:=by have:=g.rt.len;rwa[zn] at this
   refine⟨_,rfl,_,rfl,_,rfl,b,lp,_,pk,pks,rfl,g.bx,by omega,g.nb.2.2.1,g.hp,g.rk,by omega,fun p sh Hg Sg Bg ac rt=>?_⟩
   have g2:=g.draw Sg Bg;have d5:sh.length=pks.length:=ac.length_eq;refine⟨le1,fun l1 ck=>?_⟩
   have g3:=g2.new (o:=.lst [.ref p]) ck;have d3:=rt.same (zd (o:=.lst [.ref p]) ck);have L1:upd Hg l1 (.lst [.ref p]) l1=some (.lst [.ref p]):=zc;generalize upd Hg l1 (.lst [.ref p])=Hh at g3 d3 L1;refine⟨_,rfl,le0,fun q hq=>⟨lp,q,_,rfl,rfl,u4 (g3.new (o:=.lst []) hq).hp,u4 zc,.inr ⟨_,rfl,l1,_,_,rfl,rfl,(zd hq) _ _ L1,?_,?_,?_,fun l2 c4=>?_⟩⟩⟩
   ·split<;>decide
   ·split<;>decide
   ·show 1*_<=sizeLine
    split<;>(first| (show 1*1<=_;omega) | (show 1*0<=_;omega))
   have g4:=g3.new (o:=.lst []) hq;have d4:=d3.same (zd (o:=.lst []) hq);generalize upd Hh q (.lst [])=Hi at g4 d4 c4;have cj:∀(Y:List V) (us:List qw),Reps K Hi (us.map jm) Y->Y.length<=1->us.length+ts.length<=60->(∀t∈us,XQ J t)->(vv (ts++us)).Sublist os->(Zq ts++pks).Perm (Zq (ts++us))->zfP (V.ref lf) (V.ref l2) (upd Hi l2 (.lst Y)) Q:=by
    intro Y us rz zl ul uo dz up;have g5:=g4.new (o:=.lst Y) c4;have dw:=rz.same (zd (o:=.lst Y) c4);refine⟨lf,l2,tr,Y,rfl,rfl,g5.hf,zc,by omega,fun l3 bh=>?_⟩
    have n3:=g5.bx.nne bh;have g6:=g5.new (o:=.lst (tr++Y)) bh;refine k l3 os (ts++us) (tr++Y) _ g6.s (g6.bx.mono (by omega)) n3 (g5.s.none bh n3) zc ?_ pm ob ⟨fun t ht=>?_,dz,by rw[zS];omega,st,ay.perm up⟩
    ·rw[zQ]
     exact Reps.app g6.rt (dw.same (zd bh))
    ·rcases qM.mp ht with z | z
     ·exact bm t z
     ·exact uo t z
   cases pks with
   | nil=>
    have e:pk=[]:=List.length_eq_zero_iff.mp (by rw[aq];rfl)
    subst e;exact cj [] [] rfl (qV _) (by show 0+_<=_;omega) (fun _ h=>nomatch h) (by rw[jZ];simpa using sub) (by rw[jZ,jZ])
   | cons x r=>
    have cm:∃y r',pk=y::r':=by
     cases pk with
     | nil=>simp at aq
     | cons y r'=>exact⟨y,r',rfl⟩
    obtain⟨y,r',rfl⟩:=cm;refine cj [.ref p] [⟨sh,(x::r).map (·.1)⟩] ⟨_,_,rfl,d4,rfl⟩ (zC _) (by simp at cnt;show 1+_<=_;omega) (fun t ht=>?_) (by rw[Zr];exact sub) (by rw[Qa];exact ac.symm.append_left _)
    rw[qg.mp ht];exact⟨by show 1<=sh.length;rw[d5];exact Nat.succ_le_succ (qV _),by show(sh.length:Int)<=_;omega,fun p' au=>bi p' (ac.mem_iff.mp au),(ac.map (·.1)).symm⟩
def prD(p:Int×Int):Dat:=.tup [.int p.1,.int p.2]
inductive Jh(K:W.Frag)(g:List V)(H:Hp)(Q:VK):Prop
 | mk (t:Addr) (f:List V) (c:List (Int×Int)) (_:g=[.ref t]) (_:(SqL K H t f\/SqT K H t f)) (_:Reps K H (c.map prD) f) (_:c.length<=1000) (_:∀(l:Addr) (j:List V) H',Same H H'->H' l=some (.lst j)->Reps K H' (c.map fun p=>prD p.swap) j->Q (.ref l) H'):Jh K g H Q
def JO(K:W.Frag):Sp:=fun c H Q _=>Jh K c H Q
theorem YZ:zy ["pairs"] ["pairs"] (zq (topL 23)):=u3
theorem zcT{f:Addr}{L:FuncData}(F:Fun K "turned" "turned" (topL 23) f L)(B:Blt N):FnOk P w K N M CX0 1 f L ["pairs"] (JO K):=by
 have nd:=YZ.nd;refine F.ok YZ (fun vs H Q E h=>?_) (fun a0 A I s H vs Q E hr h=>?_)
 ·obtain⟨t,G,j,rfl,_⟩:=h
  rfl
 ·obtain⟨t,G,j,rfl,ht,rp,la,k⟩:=h
  have Y:=bG100000;have lx:=rp.len;rw[zn] at lx;refine⟨_,(zk (zw (vP [] [] rfl rfl (by kernel_rfl) (zcE (pv 0)) (fun _ _ _ _=>qQ) (fun _ _ _ _=>(qJ (za (pv 1) (za (pv 0) zb))))))),?_⟩
  have l2:∀x y:V,[x,y].length<=sizeLine:=fun x y=>by rw[sizeLine_eq];show 2<=_;decide
  refine⟨_,rfl,t,rfl,ht.elim (fun T=>.inl ⟨⟨_,T⟩,jI (K:=K) (a:=t) (xs:=G) (fun i g H'=>Reps K H' ((j.take i).map fun p=>prD p.swap) g/\Same H H') ⟨rfl,u6 _⟩ (fun i g H' ⟨_,c⟩=>c.seq T) ?s1 ?e1⟩) (fun U=>.inr ⟨⟨_,U⟩,xx (K:=K) (a:=t) (xs:=G) (fun i g H'=>Reps K H' ((j.take i).map fun p=>prD p.swap) g/\Same H H') ⟨rfl,u6 _⟩ (fun i g H' ⟨_,c⟩=>c.sqT U) ?s2 ?e2⟩)⟩
  case s1 | s2=>
   rintro i x g H1 hx ⟨D,c⟩;obtain⟨d,e1,r1⟩:=(rp.same c).get hx;rw[qm] at e1;obtain⟨p,J,rfl⟩:=qS.mp e1;have hi:i<j.length:=(zK.mp J).1;obtain⟨a,ws,rfl,qa,x1,aa,rfl,e2,x2,ab,rfl,e3,e4⟩:=r1;cases e2;cases e3;cases e4;refine⟨a,_,rfl,qa,rfl,_,_,rfl,_,_,rfl,rfl,rfl,?_⟩
   refine⟨_,rfl,_,rfl,l2 _ _,fun q hq=>⟨?_,?_,c.trans (zd hq)⟩⟩
   ·have:=D.len
    rw[zn,qC] at this;omega
   ·have e5:j.take (i+1)=j.take i++[p]:=by
     obtain⟨h1,h2⟩:=zK.mp J;rw[<- h2,yc]
    rw[e5,zQ];exact uc (d:=prD p.swap) ⟨q,_,rfl,u5 zc,_,_,rfl,rfl,_,_,rfl,rfl,rfl⟩ (D.same (zd hq))
  case e1 | e2=>
   rintro g H1 ⟨D,c⟩;rw[lx,qW] at D;refine⟨by have:=D.len;rw[zn] at this;omega,fun l hl=>k l g _ (c.trans (zd hl)) zc (D.same (zd hl))⟩
def vn(c:List (Int×Int))(i:Int):List Int:=(c.filter fun p=>decide (p.1=i)).map (·.2)
structure NB(H0 H:Hp)(kvs:List (Key×V))(as:List (Int×Int)):Prop where
 at_:∀i v,qX kvs (Sum.inl i)=some v->∃l,v=.ref l/\H0 l=none/\H l=some (.lst ((vn as i).map V.int))
 no:∀i,qX kvs (Sum.inl i)=none->vn as i=[]
 inj:∀i j l,qX kvs (Sum.inl i)=some (.ref l)->qX kvs (Sum.inl j)=some (.ref l)->i=j
 few:kvs.length<=as.length
theorem wP(c:List (Int×Int))(x y i:Int):vn (c++[(x,y)]) i=vn c i++(if x=i then [y] else []):=by
 unfold vn;rw[wB,zQ];congr 1
 by_cases h:x=i<;>simp[h]
theorem zdP(c:List (Int×Int))(i:Int):(vn c i).length<=c.length:=by
 unfold vn;rw[zn];exact jz _ _
theorem NB.old{g H j:Hp}{c:List (Key×V)}{f:List (Int×Int)}{x y:Int}{l:Addr}(n:NB g H c f)(s:Same H j)(e:qX c (Sum.inl x)=some (.ref l)) :
  NB g (upd j l (.lst ((vn f x).map V.int++[.int y]))) c (f++[(x,y)]):=by
 refine⟨fun i v hv=>?_,fun i hv=>?_,n.inj,by rw[zS];have:=n.few;omega⟩
 ·obtain⟨A,rfl,B,h1⟩:=n.at_ i v hv
  refine⟨A,rfl,B,?_⟩
  rw[wP];by_cases hx:x=i
  ·subst hx
   rw[e] at hv;cases hv;rw[zc,zx rfl,zQ];rfl
  ·have ne:A≠l:=fun z=>hx (n.inj x i l e (by rw[<- z];exact hv))
   rw[zm ne,zr hx,jZ];exact s _ _ h1
 ·rw[wP,n.no i hv,zr (fun z=>by rw[<- z,e] at hv;cases hv)]
  rfl
theorem NB.new{A H:Hp}{c:List (Key×V)}{B:List (Int×Int)}{x y:Int}{m d:Addr}(n:NB A H c B)(G:H m=none)(E:A m=none)(hd:H d=some (.dK c))(e:qX c (Sum.inl x)=none) :
  NB A (upd (upd (upd H m (.lst [])) d (.dK (jQ c (Sum.inl x) (.ref m)))) m (.lst ([]++[.int y]))) (jQ c (Sum.inl x) (.ref m)) (B++[(x,y)]):=by
 have old:∀i l,qX c (Sum.inl i)=some (.ref l)->H l=some (.lst ((vn B i).map V.int))/\l≠m/\l≠d:=fun i l h=>by
  obtain⟨J,z,_,h1⟩:=n.at_ i _ h;cases z;refine⟨h1,fun z=>?_,fun z=>?_⟩
  ·rw[z,G] at h1;cases h1
  ·rw[z,hd] at h1;cases h1
 refine⟨fun i v hv=>?_,fun i hv=>?_,fun i j l f g=>?_,?_⟩
 ·rw[ZW] at hv
  rw[wP];by_cases hx:i=x
  ·subst hx
   rw[zx rfl] at hv;cases hv;refine⟨m,rfl,E,?_⟩
   rw[zc,n.no _ e,zx rfl];rfl
  ·rw[zr (fun z=>hx (vK z))] at hv
   obtain⟨l,rfl,h1,s⟩:=n.at_ i v hv;obtain⟨_,D,I⟩:=old i l hv;refine⟨l,rfl,h1,?_⟩
   rw[zm D,zm I,zm D,zr (zM hx),jZ];exact s
 ·rw[ZW] at hv
  by_cases hx:i=x
  ·subst hx;rw[zx rfl] at hv;cases hv
  ·rw[zr (fun z=>hx (vK z))] at hv
   rw[wP,n.no i hv,zr (zM hx)];rfl
 ·rw[ZW] at f g
  by_cases h1:i=x<;>by_cases s:j=x
  ·rw[h1,s]
  ·rw[zx (by rw[h1])] at f
   rw[zr (fun z=>s (vK z))] at g
   cases f;exact absurd rfl (old j _ g).2.1
  ·rw[zr (fun z=>h1 (vK z))] at f
   rw[zx (by rw[s])] at g
   cases g;exact absurd rfl (old i _ f).2.1
  ·rw[zr (fun z=>h1 (vK z))] at f
   rw[zr (fun z=>s (vK z))] at g
   exact n.inj i j l f g
 ·have:=xD c (Sum.inl x) (.ref m)
  have:=n.few;rw[zS,Yo];omega
inductive Vb(K:W.Frag)(j:List V)(H:Hp)(Q:VK):Prop
 | mk (t:Addr) (g:List V) (f:List (Int×Int)) (_:j=[.ref t]) (_:(SqL K H t g\/SqT K H t g)) (_:Reps K H (f.map prD) g) (_:f.length<=1000) (_:∀(d:Addr) (c:List (Key×V)) H',Same H H'->H d=none->H' d=some (.dK c)->NB H H' c f->Q (.ref d) H'):Vb K j H Q
def Wp(K:W.Frag):Sp:=fun c H Q _=>Vb K c H Q
theorem zcq:zy ["pairs","rows","one","other"] ["pairs"] (zq (topL 24)):=u3
theorem zee{f:Addr}{fd:FuncData}(F:Fun K "next_by" "next_by" (topL 24) f fd)(B:Blt N):FnOk P w K N M CX0 1 f fd ["pairs"] (Wp K):=by
 have Y:=zcq.nd;refine F.ok zcq (fun vs H Q E h=>?_) (fun ae A ab s H vs Q E hr h=>?_)
 ·obtain⟨t,U,J,rfl,_⟩:=h
  rfl
 ·obtain⟨t,U,J,rfl,ht,rp,la,k⟩:=h
  have ac:=bG100000;have af:=Zs hr;have lx:=rp.len;rw[zn] at lx;refine⟨_,(ze (zA (i:=1) Y rfl (Or.inl rfl) zcK)
   (ze (jA jU rfl (zcE (pv 0)) (jd rfl (zt (zu (i:=2) Y rfl (Or.inl rfl)) (zt (zu (i:=3) Y rfl (Or.inl rfl)) qA)))
   (zk (qN (xo j4 vh vg qE (zf2 (pv 1) (pv 2) (z7 zb) ⟨rfl,rfl,rfl,rfl⟩) (za (pv 3) zb)))))
   (zk (zw (pv 1))))),?_⟩
  refine fun d hd=>?_
  have e0:NB H (upd H d (.dK [])) [] ([]:List (Int×Int)):=⟨(fun i v z=>nomatch z),(fun _ _=>rfl),(fun i j l z=>nomatch z),zC _⟩
  have s0:Same H (upd H d (.dK [])):=zd hd;have step:∀(i:Nat) (x:V) (G:Hp) (g:List (Key×V)),U[i]? =some x->G d=some (.dK g)->NB H G g (J.take i)->Same H G->∃(a:Addr) (p:Int×Int),x=.ref a/\SqT K G a [.int p.1,.int p.2]/\J[i]? =some p/\i<J.length/\J.take (i+1)=J.take i++[p]:=fun i x G g hx _ _ D=>by
   obtain⟨dd,e1,r1⟩:=(rp.same D).get hx;rw[qm] at e1;obtain⟨p,ep,rfl⟩:=qS.mp e1;obtain⟨h1,h2⟩:=zK.mp ep;obtain⟨a,ws,rfl,qa,x1,ag,rfl,e2,x2,ah,rfl,e3,e4⟩:=r1;cases e2;cases e3;cases e4;exact⟨a,p,rfl,qa,ep,h1,by rw[<- h2,yc]⟩
  refine⟨_,rfl,t,rfl,ht.elim (fun hL=>.inl ⟨⟨_,s0.seq hL⟩,xE (K:=K) (a:=t) (xs:=U) (fun i σ H'=>Ex3 fun(v2 v3:Option V) (g:List (Key×V))=>An4 (σ=[some (.ref t),some (.ref d),v2,v3]) (H' d=some (.dK g)) (NB H H' g (J.take i)) (Same H H'))
   ⟨_,_,[],rfl,zc,e0,s0⟩ (fun i σ H' _ ⟨_,_,_,_,_,_,D⟩=>D.seq hL) ?s1 ?e1⟩) (fun hT=>.inr ⟨⟨_,s0.sqT hT⟩,zew (K:=K) (a:=t) (xs:=U) (fun i σ H'=>Ex3 fun(v2 v3:Option V) (g:List (Key×V))=>An4 (σ=[some (.ref t),some (.ref d),v2,v3]) (H' d=some (.dK g)) (NB H H' g (J.take i)) (Same H H'))
   ⟨_,_,[],rfl,zc,e0,s0⟩ (fun i σ H' _ ⟨_,_,_,_,_,_,D⟩=>D.sqT hT) ?s2 ?e2⟩)⟩
  case e1 | e2=>
   rintro σ G ⟨v2,v3,g,rfl,h1,T,D⟩;rw[lx,qW] at T;exact⟨_,rfl,k d g G D hd h1 T⟩
  case s1 | s2=>
   rintro i x σ G hx ⟨v2,v3,g,rfl,h1,T,D⟩;obtain⟨a,p,rfl,qa,ep,hi,et⟩:=step i x G g hx h1 T D;rw[et];have aa:=T.few;rw[qC] at aa;refine⟨a,_,rfl,qa,rfl,_,_,rfl,_,_,rfl,rfl,?_⟩
   refine⟨_,rfl,d,rfl,.inl ⟨_,.inl h1⟩,_,rfl,le0,fun m I=>⟨g,Sum.inl p.1,(zd (o:=.lst []) I) _ _ h1,rfl,by omega,fun v hv=>?_,fun hv=>?_⟩⟩
   ·obtain⟨l,rfl,l0,ll⟩:=T.at_ _ v hv
    have L:=(zd (o:=.lst []) I) _ _ ll;have Y:d≠l:=fun z=>by rw[<- z,h1] at ll;cases ll
    have sl:=zdP (J.take i) p.1;rw[qC] at sl;refine⟨.inl ⟨rfl,_,u4 L⟩,_,rfl,l,_,_,rfl,rfl,L,by rw[zn];omega,?_⟩
    exact⟨_,_,g,rfl,by rw[zm Y];exact(zd (o:=.lst []) I) _ _ h1,T.old (zd I) hv,fun c o e=>by rw[zm (zj e l0)];exact(zd I) _ _ (D _ _ e)⟩
   ·have a0:m≠d:=fun z=>by rw[z,h1] at I;cases I
    have m0:H m=none:=by
     cases z:H m with
     | none=>rfl
     | some o=>rw[D _ _ z] at I;cases I
    have L:upd (upd G m (.lst [])) d (.dK (jQ g (Sum.inl p.1) (.ref m))) m=some (.lst []):=by rw[zm a0];exact zc
    refine⟨.inl ⟨rfl,_,u4 L⟩,_,rfl,m,_,_,rfl,rfl,L,by show 0<_;omega,?_⟩
    exact⟨_,_,_,rfl,by rw[zm (zM a0)];exact zc,T.new I m0 h1 hv,fun c o e=>by rw[zm (zj e m0),zm (zj e hd),zm (zj e m0)];exact D _ _ e⟩
end
def Wk(b:List (Int×Int)):Nat->Int->Int->Prop
 | 0,i,j=>i=j
 | n+1,i,j=>∃m,(i,m)∈b/\Wk b n m j
section
variable{f:List (Int×Int)}
theorem Wk.snoc:∀{n:Nat} {i j k:Int},Wk f n i j->(j,k)∈f->Wk f (n+1) i k
 | 0,i,j,k,h,e=>by cases(show i=j from h);exact⟨k,e,rfl⟩
 | n+1,i,j,k,⟨m,h,b⟩,e=>⟨m,h,Wk.snoc b e⟩
theorem Wk.add:∀{n m:Nat} {i j k:Int},Wk f n i j->Wk f m j k->Wk f (n+m) i k
 | 0,m,i,j,k,h,e=>by cases(show i=j from h);rw[Zc];exact e
 | n+1,m,i,j,k,⟨x,h,b⟩,e=>by rw[Nat.add_right_comm];exact⟨x,h,Wk.add b e⟩
theorem Wk.split:∀{n m:Nat} {i k:Int},Wk f (n+m) i k->∃j,Wk f n i j/\Wk f m j k
 | 0,m,i,k,h=>by rw[Zc] at h;exact⟨i,rfl,h⟩
 | n+1,m,i,k,h=>by
  rw[Nat.add_right_comm] at h;obtain⟨x,h1,b⟩:=h;obtain⟨j,c,g⟩:=Wk.split b;exact⟨j,⟨x,h1,c⟩,g⟩
theorem Wk.closed{C:Int->Prop}(c:∀x y,C x->(x,y)∈f->C y):∀{n:Nat} {i j:Int},C i->Wk f n i j->C j
 | 0,i,j,h,e=>by cases(show i=j from e);exact h
 | n+1,i,j,h,⟨m,e,w⟩=>Wk.closed c (c i m h e) w
theorem Wk.back:∀{n:Nat} {i j:Int},Wk f n i j->Wk (f.map Prod.swap) n j i
 | 0,i,j,h=>Eq.symm h
 | n+1,i,j,⟨m,e,w⟩=>Wk.snoc (Wk.back w) (zP.mpr ⟨(i,m),e,rfl⟩)
theorem Qo{i j:Int}:j∈vn f i↔(i,j)∈f:=by
 unfold vn;rw[zP];constructor
 ·rintro⟨⟨a,b⟩,h,rfl⟩
  obtain⟨h1,c⟩:=jD.mp h;rw[<- ju c];exact h1
 ·intro h
  exact⟨(i,j),jD.mpr ⟨h,zX rfl⟩,rfl⟩
end
theorem Q3(b:List (Int×Int)):(b.map Prod.swap).map Prod.swap=b:=by
 rw[xH];exact List.map_id'' (fun _=>rfl) b
def dkI(b:List (Int×Int)):List (Key×V):=b.map fun p=>(Sum.inl p.1,V.int p.2)
theorem zaw(b:List (Int×Int)):(dkI b).length=b.length:=zn _
theorem ZS:∀(b:List (Int×Int)) (i:Int),(∃v,qX (dkI b) (Sum.inl i)=some (.int v)/\i∈b.map (·.1))\/(qX (dkI b) (Sum.inl i)=none/\i∉b.map (·.1))
 | [],i=>.inr ⟨rfl,by simp⟩
 | p::b,i=>by
  by_cases h:p.1=i
  ·exact .inl ⟨p.2,jv (by show Sum.inl p.1=_;rw[h]),by simp[h]⟩
  ·have e:qX (dkI (p::b)) (Sum.inl i)=qX (dkI b) (Sum.inl i):=jw (fun z=>h (vK z))
   rcases ZS b i with ⟨v,h1,c⟩ | ⟨h1,c⟩
   ·exact .inl ⟨v,e.trans h1,by simp only[ji,zR];exact .inr c⟩
   ·exact .inr ⟨e.trans h1,by simp only[ji,zR];rintro(z | z);exact h z.symm;exact c z⟩
theorem zez{b:List (Int×Int)}{i v:Int}(h:qX (dkI b) (Sum.inl i)=none):jQ (dkI b) (Sum.inl i) (.int v)=dkI (b++[(i,v)]):=by
 rw[Z8 _ h];unfold dkI;rw[zQ];rfl
theorem Jt{α:Type}[DecidableEq α]:∀{l m:List α},l.Nodup->(∀x∈l,x∈m)->l.length<=m.length
 | [],_,_,_=>qV _
 | x::l,m,h,s=>by
  have hx:=s x (by simp)
  have b:=Zx.mp h;have:=Jt (l:=l) (m:=m.erase x) b.2 fun y hy=>(Yk (fun e:y=x=>b.1 (e▸hy))).mpr (s y (jc _ hy))
  rw[XL hx] at this;have:=XH hx;rw[jV];omega
def InN(n:Nat)(i:Int):Prop:=0<=i/\i<n
theorem Qi{n:Nat}{l:List Int}(h:l.Nodup)(s:∀x∈l,InN n x):l.length<=n:=by
 have:=Jt (m:=(List.range n).map fun k:Nat=>(k:Int)) h fun x hx=>by
  obtain⟨b,h1⟩:=s x hx;exact zP.mpr ⟨x.toNat,jJ.mpr (by omega),by omega⟩
 rwa[zn,vd] at this
theorem WD{α:Type}{l:List α}{x:α}(h:l.Nodup)(hx:x∉l):(l++[x]).Nodup:=by
 rw[QM];exact⟨h,by simp,fun a c b hb e=>hx (by rw[qg] at hb;rw[<- hb,<- e];exact c)⟩
structure RowsOk(H:Hp)(rk:List (Key×V))(as:List (Int×Int)):Prop where
 at_:∀i v,qX rk (Sum.inl i)=some v->∃l,v=.ref l/\H l=some (.lst ((vn as i).map V.int))
 no:∀i,qX rk (Sum.inl i)=none->vn as i=[]
theorem RowsOk.same{H c:Hp}{g:List (Key×V)}{f:List (Int×Int)}(r:RowsOk H g f)(s:Same H c):RowsOk c g f:=⟨fun i v e=>let ⟨l,a,b⟩:=r.at_ i v e;⟨l,a,s _ _ b⟩,r.no⟩
def WSt(H:Hp)(g:List (Int×Int))(n:Nat)(s:Int)(r d:Addr)(m:Nat)(σ:St)(f:Hp):Prop:=
 ∃(e:Addr) (c:List Int) (b:List (Int×Int)) (l w A:Option V),σ=[some (.int s),some (.ref r),some (.ref d),some (.ref e),l,w,A]/\H e=none/\e≠d/\f e=some (.lst (c.map V.int))/\f d=some (.dK (dkI b))/\Same H f /\
  (b.map (·.1)).Nodup/\(∀j∈b.map (·.1),∃k,Wk g k s j)/\s∈b.map (·.1)/\(∀j∈c,j∈b.map (·.1))/\(∀x∈b.map (·.1),x∉c->∀y,(x,y)∈g->y∈b.map (·.1))/\c.length<=60/\m=2*(n-b.length)+(if c=[] then 0 else 1)
structure RSt(as:List (Int×Int))(s:Int)(d l:Addr)(ps:List (Int×Int))(H H':Hp)(qs:List (Int×Int))(rs:List Int):Prop where
 hd:H' d=some (.dK (dkI qs))
 hl:H' l=some (.lst (rs.map V.int))
 sm:Same H H'
 nd:(qs.map (·.1)).Nodup
 snd:∀j∈qs.map (·.1),∃k,Wk as k s j
 eq:qs.map (·.1)=ps.map (·.1)++rs
section
variable{P:Program}{w:World}{K:W.Frag}{G:Str->Option Value}{D:Heap}
inductive Ji(K:W.Frag)(l:List V)(H:Hp)(Q:VK):Prop
 | mk (s:Int) (r:Addr) (g:List (Key×V)) (b:List (Int×Int)) (n:Nat) (_:l=[.int s,.ref r]) (_:H r=some (.dK g)) (_:RowsOk H g b) (_:n<=60) (_:InN n s) (_:(∀p∈b,InN n p.2)) (_:b.length<=1000) (_:∀(d:Addr) (c:List (Int×Int)) f,Same H f->H d=none->f d=some (.dK (dkI c))->(c.map (·.1)).Nodup->c.length<=n->(∀j,j∈c.map (·.1)↔∃k,Wk b k s j)->Q (.ref d) f):Ji K l H Q
def JP(K:W.Frag):Sp:=fun b H Q _=>Ji K b H Q
theorem Y0:zy ["start","rows","steps","edge","reached","part","other"] ["start","rows"] (zq (topL 25)):=u3
theorem zcU{f:Addr}{fd:FuncData}(F:Fun K "steps_from" "steps_from" (topL 25) f fd)(B:Blt G):FnOk P w K G D CX0 1 f fd ["start","rows"] (JP K):=by
 have nd:=Y0.nd;refine F.ok Y0 (fun vs H Q E h=>?_) (fun bd A bb s H vs Q E hr h=>?_)
 ·obtain⟨s,r,rk,L,n,rfl,_⟩:=h
  rfl
 ·obtain⟨s,r,rk,L,n,rfl,hR,ro,be,ins,ah,al,k⟩:=h
  have bc:=bG100000;have ae:=Zs hr;refine⟨_,(ze (zA (i:=2) nd rfl (Or.inl rfl) (zd5 (zcB (pv 0) zi zd0) rfl rfl (by intro z;cases z) (by show 1<=15;decide)))
   (ze (zA (i:=3) nd rfl (Or.inl rfl) (z7 (za (pv 0) zb)))
   (ze (Z9 jU (zdY (pv 3))
   (ze (zA (i:=4) nd rfl (Or.inl rfl) (z7 zb))
    (ze (jA jU rfl (qH (pv 3)) (zu (i:=5) nd rfl (Or.inl rfl))
    (zk (jA jU rfl (qH (Vn ae (pv 1) (pv 5) (z7 zb) ⟨rfl,rfl,rfl,rfl⟩)) (zu (i:=6) nd rfl (Or.inl rfl))
     (zk (jn (Wv (Jr ae (pv 6) (pv 2)))
      (ze (zad ae (pv 2) (pv 6) (zJ qR (yC ae (pv 2) (pv 5) (fun _ _=>rfl)) zi) rfl)
       (zk (qN (xo j4 vh vg qE (pv 4) (za (pv 6) zb)))))
      zZ)))))
    (zk (zA (i:=3) nd rfl (Or.inl rfl) (pv 4))))))
   (zk (zw (pv 2)))))),?_⟩
  refine fun d hd=>⟨_,rfl,zc,[(Sum.inl s,.int 0)],rfl,(by show 1<=15;decide),_,rfl,le1,fun e he=>?_⟩
  have ed:e≠d:=fun z=>by rw[z,zc] at he;cases he
  have e0:H e=none:=by rw[zm ed,zm ed] at he;exact he
  have s0:Same H (upd (upd (upd H d (.dK [])) d (.dK (jM [] [(Sum.inl s,V.int 0)]))) e (.lst [.int s])):=fun c o z=>by rw[zm (zj z e0),zm (zj z hd),zm (zj z hd)];exact z
  have ao:(upd (upd (upd H d (.dK [])) d (.dK (jM [] [(Sum.inl s,V.int 0)]))) e (.lst [.int s])) d=some (.dK (dkI [(s,0)])):=by rw[zm (zM ed),zc];rfl
  have ap:(upd (upd (upd H d (.dK [])) d (.dK (jM [] [(Sum.inl s,V.int 0)]))) e (.lst [.int s])) e=some (.lst ([s].map V.int)):=zc;generalize upd (upd (upd H d (.dK [])) d (.dK (jM [] [(Sum.inl s,V.int 0)]))) e (.lst [.int s])=H1 at s0 ao ap;refine⟨WSt H L n s r d,⟨_,e,[s],[(s,0)],_,_,_,rfl,e0,ed,ap,ao,s0,by simp,fun j U=>⟨0,by simp at U;exact U.symm⟩,by simp,by simp,fun x hx hn=>absurd hx (by simpa using hn),by simp,rfl⟩,?_⟩
  rintro m σ H2 ⟨e,es,N,v4,v5,v6,rfl,en,ba,ab,af,s2,aj,ak,au,aw,an,el,rfl⟩;have b0:∀j∈N.map (·.1),InN n j:=fun j U=>by
   obtain⟨k,wk⟩:=ak j U;exact Wk.closed (C:=InN n) (fun x y _ h=>ah _ h) ins wk
  have pl:N.length<=n:=by have:=Qi aj b0;rwa[zn] at this
  refine⟨_,rfl,e,_,rfl,u4 ab,?_⟩
  cases es with
  | nil=>
   refine ifF (by rfl) ?_
   refine⟨_,rfl,k d N H2 s2 hd af aj pl fun j=>⟨ak j,fun ⟨k,wk⟩=>Wk.closed (C:=fun j=>j∈N.map (·.1)) (fun x y hx h=>an x hx (by simp) y h) au wk⟩⟩
  | cons e1 T=>
   refine ifT (by rfl) ?_
   refine⟨fun σ' O=>∃m',m'<2*(n-N.length)+(if e1::T=[] then 0 else 1)/\WSt H L n s r d m' σ' O,fun _ _ h=>h,?_⟩
   refine⟨le0,fun l Y=>?_⟩
   have lH:H l=none:=by
    cases z:H l with
    | none=>rfl
    | some o=>rw[s2 _ _ z] at Y;cases Y
   have ld:l≠d:=fun z=>by rw[z,af] at Y;cases Y
   have le:l≠e:=fun z=>by rw[z,ab] at Y;cases Y
   refine⟨_,rfl,e,rfl,⟨_,u4 ((zd Y) _ _ ab)⟩,xE (K:=K) (a:=e) (xs:=(e1::T).map V.int) (fun i σ O=>Ex4 fun(v5 v6:Option V) (b:List (Int×Int)) (J:List Int)=>An4 (σ=[some (.int s),some (.ref r),some (.ref d),some (.ref e),some (.ref l),v5,v6]) (O e=some (.lst ((e1::T).map V.int))) (RSt L s d l N H O b J) ((∀x∈(e1::T).take i,∀y,(x,y)∈L->y∈b.map (·.1))))
    ⟨_,_,N,[],rfl,(zd Y) _ _ ab,⟨(zd Y) _ _ af,zc,s2.trans (zd Y),aj,ak,by simp⟩,by simp⟩ (fun i σ O _ ⟨_,_,_,_,_,h,_,_⟩=>u4 h) ?_ ?_⟩
   ·rintro i x σ H3 hx ⟨v5,v6,b,J,rfl,ar,g,a0⟩
    rw[qm] at hx;obtain⟨x,ex,rfl⟩:=qS.mp hx;have et:(e1::T).take (i+1)=(e1::T).take i++[x]:=by
     obtain⟨h1,h2⟩:=zK.mp ex;rw[<- h2,yc]
    have xk:x∈N.map (·.1):=aw x (zY ex)
    have xq:x∈b.map (·.1):=by rw[g.eq];exact j3 _ xk
    refine⟨_,rfl,r,rfl,.inl ⟨_,.inl (g.sm _ _ hR)⟩,_,rfl,le0,fun q hq=>?_⟩
    have sq:=zd (H:=H3) (o:=.lst []) hq;have qd:q≠d:=fun z=>by rw[z,g.hd] at hq;cases hq
    have ql:q≠l:=fun z=>by rw[z,g.hl] at hq;cases hq
    refine⟨_,.inl ⟨rk,Sum.inl x,.inl (sq _ _ (g.sm _ _ hR)),rfl,rfl⟩,?_⟩
    have tt:∃t,(qX rk (Sum.inl x)).getD (.ref q)=.ref t/\upd H3 q (.lst []) t=some (.lst ((vn L x).map V.int))/\t≠d/\t≠l:=by
     cases z:qX rk (Sum.inl x) with
     | none=>exact⟨q,rfl,by rw[ro.no x z];exact zc,qd,ql⟩
     | some v=>
      obtain⟨t,rfl,ht⟩:=ro.at_ x v z;exact⟨t,rfl,sq _ _ (g.sm _ _ ht),zj ht hd,zj ht lH⟩
    obtain⟨t,ay,ht,td,tl⟩:=tt;rw[ay];refine⟨t,rfl,⟨_,u4 ht⟩,xE (K:=K) (a:=t) (xs:=(vn L x).map V.int) (fun k σ O=>Ex3 fun(v6:Option V) (b:List (Int×Int)) (J:List Int)=>An6 (σ=[some (.int s),some (.ref r),some (.ref d),some (.ref e),some (.ref l),some (.int x),v6]) (O e=some (.lst ((e1::T).map V.int))) (O t=some (.lst ((vn L x).map V.int))) (RSt L s d l N H O b J) ((∀x∈(e1::T).take i,∀y,(x,y)∈L->y∈b.map (·.1))) (∀y∈(vn L x).take k,y∈b.map (·.1)))
     ⟨_,b,J,rfl,sq _ _ ar,ht,⟨sq _ _ g.hd,sq _ _ g.hl,g.sm.trans sq,g.nd,g.snd,g.eq⟩,a0,by simp⟩ (fun i σ O _ ⟨_,_,_,_,_,h,_,_,_⟩=>u4 h) ?_ ?_⟩
    ·rintro j y σ H4 hy ⟨v6,b,J,rfl,ac,ag,I,aa,M⟩
     rw[qm] at hy;obtain⟨y,ey,rfl⟩:=qS.mp hy;have aq:(vn L x).take (j+1)=(vn L x).take j++[y]:=by
      obtain⟨h1,h2⟩:=zK.mp ey;rw[<- h2,yc]
     have xy:(x,y)∈L:=Qo.mp (zY ey);have ax:x∈b.map (·.1):=by rw[I.eq];exact j3 _ xk
     refine⟨_,rfl,_,rfl,d,_,rfl,.inl ⟨_,Sum.inl y,.inl I.hd,rfl,rfl⟩,?_⟩
     rcases ZS b y with ⟨v,hv,my⟩ | ⟨hv,my⟩
     ·rw[hv]
      refine⟨_,rfl,ifF (by rfl) ?_⟩
      refine⟨_,b,J,rfl,ac,ag,I,aa,fun z hz=>?_⟩
      rw[aq] at hz;rcases qM.mp hz with h | h
      ·exact M z h
      ·rw[qg.mp h];exact my
     ·rw[hv]
      refine⟨_,rfl,ifT (by rfl) ?_⟩
      rcases ZS b x with ⟨vx,az,_⟩ | ⟨_,z⟩
      ·have ai:∀j∈b.map (·.1),InN n j:=fun j U=>by
        obtain⟨k,wk⟩:=I.snd j U;exact Wk.closed (C:=InN n) (fun x y _ h=>ah _ h) ins wk
       have ql:b.length<=n:=by have:=Qi I.nd ai;rwa[zn] at this
       have lq:b.length=N.length+J.length:=by
        have:=congrArg List.length I.eq;rwa[zS,zn,zn] at this
       refine⟨_,rfl,_,rfl,d,_,rfl,.inl ⟨_,Sum.inl x,.inl I.hd,rfl,az.symm⟩,_,_,rfl,rfl,_,rfl,_,rfl,d,_,rfl,.inl ⟨_,Sum.inl y,I.hd,rfl,by rw[zaw];omega,rfl⟩,?_⟩
       rw[zez hv];have am:upd H4 d (.dK (dkI (b++[(y,vx+1)]))) l=some (.lst (J.map V.int)):=by rw[zm ld];exact I.hl
       refine⟨_,rfl,.inl ⟨rfl,_,u4 am⟩,_,rfl,l,_,_,rfl,rfl,am,by rw[zn];omega,?_⟩
       refine⟨_,b++[(y,vx+1)],J++[y],rfl,by rw[zm (zM le),zm ba];exact ac,by rw[zm tl,zm td];exact ag,⟨by rw[zm (zM ld)];exact zc,by rw[zc,zQ];rfl,fun c o z=>by rw[zm (zj z lH),zm (zj z hd)];exact I.sm _ _ z,?_,?_,by rw[zQ,I.eq,Zj];rfl⟩,fun z hz u hu=>?_,fun z hz=>?_⟩
       ·rw[zQ]
        exact WD I.nd my
       ·intro z hz
        rw[zQ] at hz;rcases qM.mp hz with h | h
        ·exact I.snd z h
        ·obtain⟨k,wk⟩:=I.snd x ax
         rw[qg.mp h];exact⟨k+1,wk.snoc xy⟩
       ·rw[zQ]
        exact j3 _ (aa z hz u hu)
       ·rw[aq] at hz
        rw[zQ];rcases qM.mp hz with h | h
        ·exact j3 _ (M z h)
        ·exact qD _ h
      ·exact absurd ax z
    ·rintro σ H4 ⟨v6,b,J,rfl,ac,ag,I,aa,M⟩
     rw[zn,qW] at M;refine⟨_,_,b,J,rfl,ac,I,fun z hz y hy=>?_⟩
     rw[et] at hz;rcases qM.mp hz with h | h
     ·exact aa z h y hy
     ·rw[qg.mp h] at hy
      exact M y (Qo.mpr hy)
   ·rintro σ H3 ⟨v5,v6,b,J,rfl,ar,g,a0⟩
    rw[zn,qW] at a0;have ai:∀j∈b.map (·.1),InN n j:=fun j U=>by
     obtain⟨k,wk⟩:=g.snd j U;exact Wk.closed (C:=InN n) (fun x y _ h=>ah _ h) ins wk
    have ql:b.length<=n:=by have:=Qi g.nd ai;rwa[zn] at this
    have lq:b.length=N.length+J.length:=by
     have:=congrArg List.length g.eq;rwa[zS,zn,zn] at this
    refine⟨_,rfl,2*(n-b.length)+(if J=[] then 0 else 1),?_,l,J,b,_,_,_,rfl,lH,ld,g.hl,g.hd,g.sm,g.nd,g.snd,by rw[g.eq];exact j3 _ au,fun j U=>by rw[g.eq];exact qD _ U,fun x hx hn y hy=>?_,by omega,rfl⟩
    ·rw[zr (by simp:¬e1::T=[])]
     split
     ·omega
     ·rename_i h
      have:=Zn.mpr h;omega
    ·rw[g.eq] at hx
     rcases qM.mp hx with h | h
     ·by_cases av:x∈e1::T
      ·exact a0 x av y hy
      ·rw[g.eq];exact j3 _ (an x h av y hy)
     ·exact absurd h hn
theorem zgW{c f:List Int}(p:c.Perm f)(j:f.Nodup)(h:c.Pairwise (·<= ·)):c.Pairwise (·< ·):=by
 have g:c.Pairwise (·≠ ·):=p.nodup_iff.mpr j
 exact(h.and g).imp fun ⟨a,b⟩=>by omega
inductive YX(K:W.Frag)(A:List V)(H:Hp)(Q:VK):Prop
 | mk (s:Int) (r:Addr) (g:List (Key×V)) (b:List (Int×Int)) (n:Nat) (_:A=[.int s,.ref r]) (_:H r=some (.dK g)) (_:RowsOk H g b) (_:n<=60) (_:InN n s) (_:(∀p∈b,InN n p.2)) (_:b.length<=1000) (_:∀(l:Addr) (c:List Int) f,Same H f->H l=none->f l=some (.lst (c.map V.int))->c.length<=60->c.Pairwise (·< ·)->(∀j,j∈c↔j≠s/\∃k,Wk b k s j)->Q (.ref l) f):YX K A H Q
def ze3(K:W.Frag):Sp:=fun b H Q _=>YX K b H Q
theorem zfh:zy ["part","rows"] ["part","rows"] (zq (topL 29)):=u3
theorem zgl{f:Addr}{fd:FuncData}(F:Fun K "all_from" "all_from" (topL 29) f fd)(B:Blt G)(g:Dfn P w K G D "steps_from" 1 ["start","rows"] (JP K)):FnOk P w K G D CX0 2 f fd ["part","rows"] (ze3 K):=by
 have nd:=zfh.nd;refine F.ok zfh (fun vs H Q E h=>?_) (fun ae A ab s H vs Q E hr h=>?_)
 ·obtain⟨s,r,rk,as,n,rfl,_⟩:=h
  rfl
 ·obtain⟨s,r,rk,as,n,rfl,hR,ro,a0,ins,U,al,k⟩:=h
  have ac:=bG100000;refine⟨_,(zk (zw (zo vT rfl B.sorted wv (za (jB ["part"] [0] rfl rfl (by kernel_rfl) (zcG (zg g hr.m rfl (za (pv 0) (za (pv 1) zb)))) (fun _ _ _ _=>(j5 (zI Qh (pv 0) (pv 1) (zH _)))) (fun _ _ _ _=>(pv 0))) zb)))),?_⟩
  refine⟨_,rfl,_,rfl,s,r,rk,as,n,rfl,hR,ro,a0,ins,U,al,fun d I N s1 hd T aa lp mem=>⟨d,_,rfl,T,fun o=>VI (d:=d) (o:=o) (kvs:=dkI I) (fun i M H'=>M=(((I.take i).map (·.1)).filter fun j=>decide (j≠s)).map V.int/\H'=upd N d (.frz o (.dK (dkI I)))) ⟨rfl,rfl⟩ (fun i M H' ⟨_,h⟩=>by rw[h];exact zc) ?_ ?_⟩⟩
  ·rintro i kk v M H2 hx ⟨rfl,rfl⟩
   unfold dkI at hx;rw[qm] at hx;obtain⟨p,ep,e1⟩:=qS.mp hx;cases e1;have et:I.take (i+1)=I.take i++[p]:=by
    obtain⟨h1,h2⟩:=zK.mp ep;rw[<- h2,yc]
   have hi:=(zK.mp ep).1;rw[et,zQ,wB,zQ];have Y:=jz (fun j=>decide (j≠s)) ((I.take i).map (·.1))
   rw[zn,qC] at Y;refine⟨rfl,_,rfl,_,rfl,rfl,_,rfl,?_⟩
   by_cases c:p.1=s
   ·refine ifF (by show(!decide (V.int p.1=V.int s))=false;rw[c];simp) ⟨?_,rfl⟩
    simp[c]
   ·refine ifT (by show(!decide (V.int p.1=V.int s))=true;rw[qZ (fun z=>c (V.int.inj z))];rfl) ⟨_,rfl,by rw[zn];omega,?_,rfl⟩
    simp[c,kV]
  ·rintro M H2 ⟨rfl,rfl⟩
   rw[zaw,qW];have Y:=jz (fun j=>decide (j≠s)) (I.map (·.1))
   rw[zn] at Y;refine⟨by rw[zn];omega,fun l L=>⟨l,(I.map (·.1)).filter fun j=>decide (j≠s),rfl,u4 zc,by omega,fun l2 ms J pm pw=>?_⟩⟩
   have ld:l≠d:=fun z=>by rw[z,zc] at L;cases L
   have O:N l=none:=by rw[zm ld] at L;exact L
   have s3:Same H (upd (upd N d (.frz o (.dK (dkI I)))) l (.lst (((I.map (·.1)).filter fun j=>decide (j≠s)).map V.int))):=fun c o z=>by
    rw[zm (zj (s1 _ _ z) O),zm (zj z hd)];exact s1 _ _ z
   refine k l2 ms _ (s3.trans (zd J)) ?_ zc (by rw[pm.length_eq];omega) (zgW pm (aa.filter _) pw) fun j=>?_
   ·cases z:H l2 with
    | none=>rfl
    | some o=>rw[s3 _ _ z] at J;cases J
   ·rw[pm.mem_iff,jD,mem j]
    constructor
    ·rintro⟨a,b⟩;exact⟨ju b,a⟩
    ·rintro⟨a,b⟩;exact⟨b,zX a⟩
def asI(J:Job):List (Int×Int):=J.as.map fun p=>((p.1:Int),(p.2:Int))
theorem zeJ(J:Job):(asI J).map prD=J.as.map jq:=by
 unfold asI;rw[xH];rfl
theorem Xl(J:Job):(asI J).length=J.as.length:=zn _
inductive Jo(K:W.Frag)(f:List V)(H:Hp)(Q:VK):Prop
 | mk (s:Int) (p:Addr) (J:Job) (_:f=[.ref p,.int s]) (_:Rep K H (vw J) (.ref p)) (_:J.ps.length<=60) (_:InN J.ps.length s) (_:(∀q∈asI J,InN J.ps.length q.1/\InN J.ps.length q.2)) (_:J.as.length<=300) (_:∀(l:Addr) (b:List Int) c,Same H c->H l=none->c l=some (.lst (b.map V.int))->b.length<=60->b.Pairwise (·< ·)->(∀j,j∈b↔j≠s/\∃k,Wk (asI J) k j s)->Q (.ref l) c):Jo K f H Q
def YY(K:W.Frag):Sp:=fun b H Q _=>Jo K b H Q
theorem WJ{J:Job}{H:Hp}{p:Addr}(h:Rep K H (vw J) (.ref p)):∃(t:Addr) (c f g j:V) (b:List V),SqT K H p [c,f,g,j,.ref t]/\SqT K H t b/\Reps K H ((asI J).map prD) b:=by
 obtain⟨a,b,e,s,c,_,rfl,_,f,_,rfl,_,g,_,rfl,_,j,_,rfl,_,L,I,rfl,l,rfl⟩:=h;cases e;obtain⟨t,E,rfl,A,B⟩:=l;exact⟨t,_,_,_,_,E,s,A,by rw[zeJ];exact B⟩
theorem Y6:zy ["job","part"] ["job","part"] (zq (topL 30)):=u3
theorem zcZ{f:Addr}{fd:FuncData}(F:Fun K "ahead_of" "ahead_of" (topL 30) f fd)(B:Blt G)(I:Dfn P w K G D "turned" 1 ["pairs"] (JO K))(g:Dfn P w K G D "next_by" 1 ["pairs"] (Wp K))(c:Dfn P w K G D "all_from" 2 ["part","rows"] (ze3 K)):FnOk P w K G D CX0 3 f fd ["job","part"] (YY K):=by
 have nd:=Y6.nd;refine F.ok Y6 (fun vs H Q E h=>?_) (fun ae A ab s H vs Q E U h=>?_)
 ·obtain⟨s,p,J,rfl,_⟩:=h
  rfl
 ·obtain⟨s,p,J,rfl,rp,aa,ins,Y,al,k⟩:=h
  have ac:=bG100000;refine⟨_,(zk (zw (zg c U.m rfl (za (pv 1) (za (zg g U.m rfl (za (zg I U.m rfl (za (zL jC (pv 0) zi (fun _ _=>rfl)) zb)) zb)) zb))))),?_⟩
  obtain⟨t,x0,x1,x2,x3,xs,qa,qt,rx⟩:=WJ rp;refine⟨_,rfl,_,rfl,p,_,_,_,rfl,rfl,qa,rfl,t,xs,asI J,rfl,.inr qt,rx,by rw[Xl];omega,fun l0 ys H0 s0 N ry=>?_⟩
  have em:((asI J).map Prod.swap).map prD=(asI J).map fun p=>prD p.swap:=by rw[xH];rfl
  refine⟨l0,ys,(asI J).map Prod.swap,rfl,.inl (u4 N),by rw[em];exact ry,by rw[zn,Xl];omega,fun d a0 H1 s1 hd M nb=>?_⟩
  refine⟨s,d,a0,(asI J).map Prod.swap,J.ps.length,rfl,M,⟨fun i v hv=>let ⟨l,a,_,b⟩:=nb.at_ i v hv;⟨l,a,b⟩,nb.no⟩,aa,ins,fun q hq=>?_,by rw[zn,Xl];omega,fun l ms H2 s2 hl O L pw mem=>?_⟩
  ·obtain⟨q',T,rfl⟩:=zP.mp hq
   exact(Y q' T).1
  refine k l ms H2 (s0.trans (s1.trans s2)) ?_ O L pw fun j=>?_
  ·cases z:H l with
   | none=>rfl
   | some o=>rw[s1 _ _ (s0 _ _ z)] at hl;cases hl
  ·rw[mem j]
   refine⟨fun ⟨a,k,b⟩=>⟨a,k,?_⟩,fun ⟨a,k,b⟩=>⟨a,k,b.back⟩⟩
   have:=b.back;rwa[Q3] at this
theorem Same.none{H b:Hp}{t:Addr}(s:Same H b)(h:b t=Option.none):H t=Option.none:=s.free h
def atK(fs:List xn)(b:Str)(n:Nat):List Nat:=(List.range n).filter fun i=>decide (fs[i]?.map xn.k=some b)
theorem Xj(fs:List xn)(b:Str)(n:Nat):(atK fs b n).length<=n:=qL (jz _ _) (by rw[vd];exact zC _)
theorem zeH{fs:List xn}{b:Str}{n:Nat}{f:xn}(h:fs[n]? =some f)(e:f.k=b):atK fs b (n+1)=atK fs b n++[n]:=by
 unfold atK;rw[QI,wB,QU (by rw[h];exact zX (by show some f.k=_;rw[e]))]
 rfl
theorem zeI{fs:List xn}{b:Str}{n:Nat}{f:xn}(h:fs[n]? =some f)(e:f.k≠b):atK fs b (n+1)=atK fs b n:=by
 unfold atK;rw[QI,wB,QT (by rw[h];simpa using e),WY,jZ]
theorem xu(os:List Nat)(n:Nat):zB (os++[n])=zB os++[.int (n:Int)]:=by
 unfold zB;rw[zQ];rfl
theorem xV{H:Hp}{J:Job}{s:Addr}(h:Rep K H (vw J) (.ref s)):∃(g fs c b:Addr) (l pv:List V),SqT K H s [.ref g,.int J.hd,.ref fs,.ref c,.ref b]/\Rep K H (.tup [.int J.gx,.int J.gy]) (.ref g)/\SqT K H fs l/\Reps K H (J.fs.map xF) l/\SqT K H c pv/\Reps K H (J.ps.map xp) pv/\Rep K H (wV J.as) (.ref b):=by
 obtain⟨a,xs,e,q,x0,r0,E,Y,x1,r1,e1,h1,x2,r2,e2,h2,x3,r3,I,h3,x4,r4,L,h4,M⟩:=h;cases e;subst E e1 e2 I L;have f:r4=[]:=M;subst f;have j:x1=.int J.hd:=h1;subst j;obtain⟨g,U,rfl,T⟩:=Y;obtain⟨fs,Q,rfl,N,O⟩:=h2;obtain⟨c,px,rfl,pq,pr⟩:=h3;obtain⟨b,B,rfl,A⟩:=h4;exact⟨g,fs,c,b,Q,px,q,⟨g,U,rfl,T⟩,N,O,pq,pr,⟨b,B,rfl,A⟩⟩
inductive YU(K:W.Frag)(g:List V)(H:Hp)(Q:VK):Prop
 | mk (c:Addr) (J:Job) (f:Str) (_:g=[.ref c,.str f]) (_:Rep K H (vw J) (.ref c)) (_:J.fs.length<=100) (_:∀(l:Addr) b,H l=none->Same H b->b l=some (.lst (zB (atK J.fs f J.fs.length)))->Q (.ref l) b):YU K g H Q
def ze0(K:W.Frag):Sp:=fun b H Q _=>YU K b H Q
theorem zfe:zy ["job","kind"] ["job","kind"] (zq (topL 31)):=u3
theorem zgi{f:Addr}{U:FuncData}(F:Fun K "feeders_for" "feeders_for" (topL 31) f U)(B:Blt G):FnOk P w K G D CX0 1 f U ["job","kind"] (ze0 K):=by
 have nd:=zfe.nd;refine F.ok zfe (fun vs H Q E h=>?_) (fun aa A N s H vs Q E hr h=>?_)
 ·obtain⟨jp,J,L,rfl,_⟩:=h
  rfl
 ·obtain⟨jp,J,L,rfl,rj,fl,k⟩:=h
  have a0:=bG100000;obtain⟨g,fs,ps,as,fv,ab,qj,_,qf,rf,qp,rp,_⟩:=xV rj;have lf:=rf.len;rw[zn] at lf;refine⟨_,(zk (zw (vP ["kind"] [1] rfl rfl (by kernel_rfl) (Qb rfl B.enumerate (za (zL jC (pv 0) zi (fun _ _=>rfl)) zb)) (fun _ _ _ _=>(j5 (zI j9 (zL (xm (K:=K) rfl) (pv 1) zi (fun _ _=>rfl)) (pv 2) (zH _)))) (fun _ _ _ _=>(pv 0))))),?_⟩
  refine⟨_,rfl,jp,_,_,_,rfl,rfl,qj,rfl,fs,rfl,⟨_,qf⟩,VH (K:=K) (a:=fs) (xs:=fv) (fun i M I=>M=zB (atK J.fs L i)/\Same H I) ⟨rfl,u6 _⟩ (fun i M I ⟨_,j⟩=>j.sqT qf) ?_ ?_⟩
  ·rintro i x M I T hx ⟨rfl,j⟩ Y
   obtain⟨d,e1,r1⟩:=(rf.same j).get hx;rw[qm] at e1;obtain⟨fe,b,rfl⟩:=qS.mp e1;have hi:=(zK.mp b).1;have sT:=j.trans (zd (o:=.tup [.int (i:Int),x]) Y);obtain⟨fa,fc,rfl,O,_⟩:=xA (r1.same (zd (o:=.tup [.int (i:Int),x]) Y));have le:=Xj J.fs L i;refine⟨T,_,rfl,u5 zc,rfl,_,_,rfl,_,_,rfl,rfl,rfl,?_⟩
   refine⟨_,rfl,fa,_,_,_,rfl,rfl,O,rfl,_,rfl,rfl,_,rfl,xg (fun c=>⟨_,rfl,?_,?_,sT⟩) (fun c=>⟨?_,sT⟩)⟩
   ·rw[zG];omega
   ·rw[zeH b (V.str.inj (ju c)),xu]
   ·rw[zeI b fun z=>c (zX (by rw[z]))]
  ·rintro M I ⟨rfl,j⟩
   rw[lf];have le:=Xj J.fs L J.fs.length;exact⟨by rw[zG];omega,fun l hl=>k l _ (j.none hl) (j.trans (zd hl)) zc⟩
end
section
variable{K:W.Frag}
theorem zfm{H:Hp}{a:Addr}{x y:Int}(h:SqT K H a [.int x,.int y]):Rep K H (.tup [.int x,.int y]) (.ref a):=⟨a,_,rfl,h,_,_,rfl,rfl,_,_,rfl,rfl,rfl⟩
theorem zcC{H:Hp}{x y:Int}{v:V}(h:Rep K H (.tup [.int x,.int y]) v):∃a,v=.ref a/\SqT K H a [.int x,.int y]:=by
 obtain⟨a,s,rfl,c,j,f,rfl,b,l,g,rfl,e1,e2⟩:=h;cases b;cases e1;cases e2
 exact⟨a,rfl,c⟩
theorem VX{H:Hp}{p:xn}{x:V}(h:Rep K H (xF p) x):∃a c,x=.ref a/\SqT K H a [.str p.k,.ref c,.int p.m]/\Rep K H (.tup [.int p.x,.int p.y]) (.ref c):=by
 obtain⟨a,c,e,q,r⟩:=xA h;exact⟨a,c,e,q,zfm r⟩
theorem Vo{H:Hp}{p:ZM}{x:V}(h:Rep K H (xp p) x):∃a c,x=.ref a/\SqT K H a [.str p.k,.ref c]/\Rep K H (.tup [.int p.x,.int p.y]) (.ref c):=by
 obtain⟨a,c,e,q,r⟩:=yV h;exact⟨a,c,e,q,zfm r⟩
end
section
variable{P:Program}{w:World}{K:W.Frag}{I:Str->Option Value}{G:Heap}
inductive Va(b:List V)(H:Hp)(Q:VK):Prop
 | mk (i:Int) (_:b=[.int i]) (_:Q (.bl true) H):Va  b H Q
def zb7:Sp:=fun b H Q _=>Va  b H Q
theorem ze8:zy ["thing"] ["thing"] (zq (topL 4)):=u3
theorem zgf{f:Addr}{c:FuncData}(F:Fun K "is_number" "is_number" (topL 4) f c)(B:Blt I):FnOk P w K I G CX0 1 f c ["thing"] zb7:=by
 have D:=ze8.nd;refine F.ok ze8 (fun j H Q E h=>?_) (fun g A b s H j Q E l h=>?_)
 ·obtain⟨i,rfl,_⟩:=h
  rfl
 ·obtain⟨i,rfl,k⟩:=h
  refine⟨_,(zk (zw (j6 (zo jg rfl B.isinstance boot_isinstance (za (pv 0) (za (ja (v:=.ty "int") rfl B.int ww rfl) zb))) (xj (zfZ (zo jg rfl B.isinstance boot_isinstance (za (pv 0) (za (ja (v:=.ty "bool") rfl B.bool Za rfl) zb)))))))),?_⟩
  exact⟨_,rfl,_, "int", "int",rfl,rfl,(by decide),_,rfl,ifT (by decide) ⟨_,rfl,_, "int", "bool",rfl,rfl,(by decide),_,rfl,k⟩⟩
inductive XZ(c:List V)(H:Hp)(Q:VK):Prop
 | mk (i lo b:Int) (_:c=[.int i,.int lo,.int b]) (_:lo<=i) (_:i<=b) (_:Q (.bl true) H):XZ  c H Q
def Z1:Sp:=fun b H Q _=>XZ  b H Q
theorem ze4:zy ["thing","least","most"] ["thing","least","most"] (zq (topL 5)):=u3
theorem zf9{f:Addr}{g:FuncData}(F:Fun K "is_number_within" "is_number_within" (topL 5) f g)(B:Blt I)(b:Dfn P w K I G "is_number" 1 ["thing"] zb7):FnOk P w K I G CX0 2 f g ["thing","least","most"] Z1:=by
 have M:=ze4.nd;refine F.ok ze4 (fun L H Q E h=>?_) (fun j A c s H L Q E J h=>?_)
 ·obtain⟨i,lo,D,rfl,_⟩:=h
  rfl
 ·obtain⟨i,lo,D,rfl,h1,l,k⟩:=h
  refine⟨_,(zk (zw (j6 (zg b J.m rfl (za (pv 0) zb)) (xj (zcL Vs Vs (pv 1) (pv 0) (pv 2)))))),?_⟩
  refine⟨_,rfl,i,rfl,_,rfl,ifT rfl ⟨_,rfl,_,rfl,_,_,rfl,rfl,_,rfl,ifT (zX h1) ⟨_,rfl,_,_,rfl,rfl,?_⟩⟩⟩
  rw[zX l];exact k
inductive YM(c:List V)(H:Hp)(Q:VK):Prop
 | mk (x:Str) (_:c=[.str x]) (_:Nm x) (_:∀b,Same H b->Q (.bl true) b):YM  c H Q
def zeV:Sp:=fun b H Q _=>YM  b H Q
theorem zhs:zy ["thing"] ["thing"] (zq (topL 6)):=u3
theorem zgn(c:Nat):(!(Builtin.Str.occurrences za9 ⟨#[c]⟩ 0 za9.length 1).isEmpty)=ZI c:=by
 rw[StrLaws.found_one,VF,va];unfold ZI;rw[vN,List.mem_range'_1,jO,vN,vN];omega
theorem Ws{x:Str}{i c:Nat}(h:x.cps[i]? =some c)(f:Nat->V):(x.cps.toList.take i).map f++[f c]=(x.cps.toList.take (i+1)).map f:=by
 rw[qr (show x.cps.toList[i]? =some c by simpa using h),zQ]
 rfl
theorem zhW{f:Addr}{N:FuncData}{Y tn:Tok}(F:Fun K "is_name" "is_name" (topL 6) f N)(B:Blt I)(g:I "LETTERS" = some (.str za9 Y))(b:I "LONGEST_NAME" = some (.int 8 tn)):FnOk P w K I G CX0 1 f N ["thing"] zeV:=by
 have nd:=zhs.nd;refine F.ok zhs (fun vs H Q E h=>?_) (fun T A J s H vs Q E hr h=>?_)
 ·obtain⟨x,rfl,_⟩:=h
  rfl
 ·obtain⟨x,rfl,⟨h8,_,h1,l⟩,k⟩:=h
  have O:=bG100000;have hz:x.length<=sizeLine:=by omega
  have lx:x.cps.toList.length=x.length:=by simp[Str.length]
  refine⟨_,(ze (jn (u8 (vE (jG (qY (zo jg rfl B.isinstance boot_isinstance (za (pv 0) (za (ja (v:=.ty "str") rfl B.str vJ rfl) zb))))) (xJ (jG (zcA Vs Vs zi (zo Xi rfl B.len boot_len (za (pv 0) zb)) (vm (v:=.int 8) rfl b ⟨_,rfl⟩))))))
   (zk (zw xM))
   zZ)
   (zk (zw (zo (xB rfl) rfl B.all boot_all (za (jB [] [] rfl rfl (by kernel_rfl) (zfW (pv 0)) (fun _ _ _ _=>qQ) (fun _ _ _ _=>(qB zbc (pv 0) (vm (v:=.str za9) rfl g ⟨_,rfl⟩) (by with_unfolding_all rfl)))) zb))))),?_⟩
  refine⟨_,rfl,_, "str", "str",rfl,rfl,(by decide),_,rfl,ifF (by decide) ⟨_,rfl,x,rfl,hz,_,_,rfl,rfl,_,rfl,ifT (zX (by omega)) ⟨_,_,rfl,rfl,_,rfl,?_⟩⟩⟩
  refine ifF (by rw[zX (by omega:(x.length:Int)<=8)];decide) ?_
  refine⟨_,rfl,x,rfl,zgq (fun i M j=>M=(x.cps.toList.take i).map (fun c=>V.bl (ZI c))/\Same H j) ⟨rfl,u6 _⟩ ?_ ?_⟩
  ·rintro i c M j hc ⟨rfl,L⟩
   refine⟨rfl,⟨_,rfl,_,_,rfl,rfl,?_,?_,L⟩⟩
   ·rw[zn,qC];omega
   ·rw[zgn,<- Ws hc]
  ·rintro M j ⟨rfl,L⟩
   rw[QR (show x.cps.toList.length<=x.cps.size by simp)]
   refine⟨by rw[zn];omega,fun D U=>⟨D,x.cps.toList.map ZI,rfl,u4 (by rw[zc,xH];rfl),?_⟩⟩
   rw[l];exact k _ (L.trans (zd U))
inductive X7(K:W.Frag)(c:List V)(H:Hp)(Q:VK):Prop
 | mk (v:V) (x y:Int) (_:c=[v]) (_:Rep K H (.tup [.int x,.int y]) v) (_:inP x y) (_:∀b,Same H b->Q (.bl true) b):X7 K c H Q
def JR(K:W.Frag):Sp:=fun b H Q _=>X7 K b H Q
theorem ze7:zy ["thing"] ["thing"] (zq (topL 7)):=u3
theorem zgb{f:Addr}{N:FuncData}{tf:Tok}(F:Fun K "is_place" "is_place" (topL 7) f N)(B:Blt I)(b:Dfn P w K I G "is_number_within" 2 ["thing","least","most"] Z1)(c:I "FARTHEST" = some (.int 1000 tf)):FnOk P w K I G CX0 3 f N ["thing"] (JR K):=by
 have nd:=ze7.nd;refine F.ok ze7 (fun vs H Q E h=>?_) (fun T A M s H vs Q E Y h=>?_)
 ·obtain⟨v,x,y,rfl,_⟩:=h
  rfl
 ·obtain⟨v,x,y,rfl,rp,⟨x0,x1,y0,y1⟩,k⟩:=h
  have O:=bG100000;obtain⟨a,rfl,l⟩:=zcC rp;refine⟨_,(ze (jn (u8 (vE (jG (qY (zo jg rfl B.isinstance boot_isinstance (za (pv 0) (za (ja (v:=.ty "tuple") rfl B.tuple qv rfl) zb))))) (xJ (zI Qh (zo zE rfl B.len boot_len (za (pv 0) zb)) zi (zH _)))))
   (zk (zw xM))
   zZ)
   (zk (zw (zo (xB rfl) rfl B.all boot_all (za (jB [] [] rfl rfl (by kernel_rfl) (xt (pv 0)) (fun _ _ _ _=>qQ) (fun _ _ _ _=>(zg b Y.m rfl (za (pv 0) (za zi (za (vm (v:=.int 1000) rfl c ⟨_,rfl⟩) zb)))))) zb))))),?_⟩
  refine⟨_,rfl,_, "tuple", "tuple",rfl,.inr ⟨rfl,_,l⟩,(by decide),_,rfl,ifF (by decide) ⟨_,rfl,a,_,rfl,.inr l,rfl,_,rfl,ifF rfl ?_⟩⟩
  refine⟨_,rfl,a,rfl,⟨_,l⟩,xx (K:=K) (xs:=[.int x,.int y]) (fun i J j=>J=List.replicate i (V.bl true)/\Same H j) ⟨rfl,u6 _⟩ (fun i J j ⟨_,g⟩=>g.sqT l) ?_ ?_⟩
  ·rintro i z J j hz ⟨rfl,g⟩
   have L:=(zK.mp hz).1;have L:i<2:=L;obtain⟨n,rfl,n0,n1⟩:∃n:Int,z=.int n/\0<=n/\n<=1000:=by
    match i,L with
    | 0,_=>cases hz;exact⟨x,rfl,x0,x1⟩
    | 1,_=>cases hz;exact⟨y,rfl,y0,y1⟩
   exact⟨rfl,⟨_,rfl,n,0,1000,rfl,n0,n1,by rw[xP];omega,by rw[QC],g⟩⟩
  ·rintro J j ⟨rfl,g⟩
   exact⟨by rw[xP];show 2<=_;omega,fun D U=>⟨D,[true,true],rfl,u4 zc,k _ (g.trans (zd U))⟩⟩
inductive YG(K:W.Frag)(b:List V)(H:Hp)(Q:VK):Prop
 | mk (a:Addr) (c:List V) (n:Nat) (_:b=[.ref a,.int (n:Int)]) (_:SqT K H a c) (_:c.length=n) (_:Q (.bl true) H):YG K b H Q
def X1(K:W.Frag):Sp:=fun b H Q _=>YG K b H Q
theorem zhl:zy ["thing","many"] ["thing","many"] (zq (topL 14)):=u3
theorem zhO{f:Addr}{c:FuncData}(F:Fun K "is_tuple_of" "is_tuple_of" (topL 14) f c)(B:Blt I):FnOk P w K I G CX0 1 f c ["thing","many"] (X1 K):=by
 have L:=zhl.nd;refine F.ok zhl (fun D H Q E h=>?_) (fun l A b s H D Q E J h=>?_)
 ·obtain⟨a,j,n,rfl,_⟩:=h
  rfl
 ·obtain⟨a,j,n,rfl,g,ln,k⟩:=h
  refine⟨_,(zk (zw (j6 (zo jg rfl B.isinstance boot_isinstance (za (pv 0) (za (ja (v:=.ty "tuple") rfl B.tuple qv rfl) zb))) (xj (qB j9 (zo zE rfl B.len boot_len (za (pv 0) zb)) (pv 1) (zH _)))))),?_⟩
  refine⟨_,rfl,_, "tuple", "tuple",rfl,.inr ⟨rfl,_,g⟩,(by decide),_,rfl,ifT (by decide) ⟨_,rfl,a,j,rfl,.inr g,_,rfl,?_⟩⟩
  refine⟨rfl,?_⟩
  rw[ln];exact(zX (rfl:V.int (n:Int)=V.int (n:Int))).symm▸k
inductive YE(K:W.Frag)(b:List V)(H:Hp)(Q:VK):Prop
 | mk (a:Addr) (c:List V) (m:Int) (_:b=[.ref a,.int m]) (_:SqT K H a c) (_:(c.length:Int)<=m) (_:Q (.bl true) H):YE K b H Q
def YF(K:W.Frag):Sp:=fun b H Q _=>YE K b H Q
theorem zhk:zy ["thing","most"] ["thing","most"] (zq (topL 15)):=u3
theorem zhN{f:Addr}{c:FuncData}(F:Fun K "is_tuple_upto" "is_tuple_upto" (topL 15) f c)(B:Blt I):FnOk P w K I G CX0 1 f c ["thing","most"] (YF K):=by
 have L:=zhk.nd;refine F.ok zhk (fun D H Q E h=>?_) (fun l A b s H D Q E J h=>?_)
 ·obtain⟨a,j,n,rfl,_⟩:=h
  rfl
 ·obtain⟨a,j,n,rfl,g,ln,k⟩:=h
  refine⟨_,(zk (zw (j6 (zo jg rfl B.isinstance boot_isinstance (za (pv 0) (za (ja (v:=.ty "tuple") rfl B.tuple qv rfl) zb))) (xj (qB Vs (zo zE rfl B.len boot_len (za (pv 0) zb)) (pv 1) (zH _)))))),?_⟩
  refine⟨_,rfl,_, "tuple", "tuple",rfl,.inr ⟨rfl,_,g⟩,(by decide),_,rfl,ifT (by decide) ⟨_,rfl,a,j,rfl,.inr g,_,rfl,_,_,rfl,rfl,?_⟩⟩
  rw[zX ln];exact k
def okF(f:xn):Prop:=Nm f.k/\inP f.x f.y/\0<=f.m/\f.m<=400
inductive zcd(K:W.Frag)(c:List V)(H:Hp)(Q:VK):Prop
 | mk (v:V) (p:xn) (_:c=[v]) (_:Rep K H (xF p) v) (_:okF p) (_:∀b,Same H b->Q (.bl true) b):zcd K c H Q
def zhe(K:W.Frag):Sp:=fun b H Q _=>zcd K b H Q
theorem zhv:zy ["thing","kind","place","many"] ["thing"] (zq (topL 16)):=u3
theorem zhZ{f:Addr}{N:FuncData}{tf:Tok}(F:Fun K "is_feeder" "is_feeder" (topL 16) f N)(B:Blt I)(j:Dfn P w K I G "is_tuple_of" 1 ["thing","many"] (X1 K))(D:Dfn P w K I G "is_name" 1 ["thing"] zeV)(l:Dfn P w K I G "is_place" 3 ["thing"] (JR K))(b:Dfn P w K I G "is_number_within" 2 ["thing","least","most"] Z1)(g:I "MOST_IN_FEEDER" = some (.int 400 tf)):FnOk P w K I G CX0 4 f N ["thing"] (zhe K):=by
 have L:=zhv.nd;refine F.ok zhv (fun vs H Q E h=>?_) (fun T A M s H vs Q E J h=>?_)
 ·obtain⟨v,p,rfl,_⟩:=h
  rfl
 ·obtain⟨v,p,rfl,rp,⟨nk,np,U,Y⟩,k⟩:=h
  obtain⟨a,c,rfl,O,rc⟩:=VX rp;refine⟨_,(ze (jn (jG (qY (zg j J.m rfl (za (pv 0) (za zi zb)))))
   (zk (zw xM))
   zZ)
   (ze (xi (pv 0) (jd rfl (zt (zu (i:=1) L rfl (Or.inl rfl)) (zt (zu (i:=2) L rfl (Or.inl rfl)) (zt (zu (i:=3) L rfl (Or.inl rfl)) qA)))))
   (zk (zw (j6 (zg D J.m rfl (za (pv 1) zb)) (j6 (zg l J.m rfl (za (pv 2) zb)) (xj (zg b J.m rfl (za (pv 3) (za zi (za (vm (v:=.int 400) rfl g ⟨_,rfl⟩) zb))))))))))),?_⟩
  refine⟨_,rfl,a,_,3,rfl,O,rfl,_,rfl,ifF rfl ⟨_,rfl,a,_,rfl,O,rfl,_,_,rfl,_,_,rfl,_,_,rfl,rfl,?_⟩⟩
  refine⟨_,rfl,p.k,rfl,nk,fun H1 s1=>⟨_,rfl,ifT rfl ?_⟩⟩
  refine⟨_,rfl,.ref c,p.x,p.y,rfl,rc.same s1,np,fun H2 s2=>⟨_,rfl,ifT rfl ?_⟩⟩
  exact⟨_,rfl,p.m,0,400,rfl,U,Y,k _ (s1.trans s2)⟩
inductive YT(K:W.Frag)(f:List V)(H:Hp)(Q:VK):Prop
 | mk (a:Addr) (c:List V) (fs:List xn) (_:f=[.ref a]) (_:SqT K H a c) (_:Reps K H (fs.map xF) c) (_:fs.length<=20) (_:(∀p∈fs,okF p)) (_:∀b,Same H b->Q (.bl true) b):YT K f H Q
def zeZ(K:W.Frag):Sp:=fun b H Q _=>YT K b H Q
theorem zfd:zy ["thing"] ["thing"] (zq (topL 17)):=u3
theorem zgh{f:Addr}{T:FuncData}{tf:Tok}(F:Fun K "are_feeders" "are_feeders" (topL 17) f T)(B:Blt I)(b:Dfn P w K I G "is_tuple_upto" 1 ["thing","most"] (YF K))(g:Dfn P w K I G "is_feeder" 4 ["thing"] (zhe K))(c:I "MOST_FEEDERS" = some (.int 20 tf)):FnOk P w K I G CX0 5 f T ["thing"] (zeZ K):=by
 have nd:=zfd.nd;refine F.ok zfd (fun vs H Q E h=>?_) (fun a0 A M s H vs Q E Y h=>?_)
 ·obtain⟨a,J,fs,rfl,_⟩:=h
  rfl
 ·obtain⟨a,J,fs,rfl,N,rf,fl,ok,k⟩:=h
  have U:=bG100000;have ln:=rf.len;rw[zn] at ln;refine⟨_,(zk (zw (j6 (zg b Y.m rfl (za (pv 0) (za (vm (v:=.int 20) rfl c ⟨_,rfl⟩) zb))) (xj (zo (xB rfl) rfl B.all boot_all (za (jB [] [] rfl rfl (by kernel_rfl) (xt (pv 0)) (fun _ _ _ _=>qQ) (fun _ _ _ _=>(zg g Y.m rfl (za (pv 0) zb)))) zb)))))),?_⟩
  refine⟨_,rfl,a,J,20,rfl,N,by omega,_,rfl,ifT rfl ?_⟩
  refine⟨_,rfl,a,rfl,⟨_,N⟩,xx (K:=K) (xs:=J) (fun i L l=>L=(List.replicate i true).map V.bl/\Same H l) ⟨rfl,u6 _⟩ (fun i L l ⟨_,j⟩=>j.sqT N) ?_ ?_⟩
  ·rintro i z L l hz ⟨rfl,j⟩
   obtain⟨dd,e1,r1⟩:=(rf.same j).get hz;rw[qm] at e1;obtain⟨p,O,rfl⟩:=qS.mp e1;have hi:=(zK.mp O).1;exact⟨rfl,⟨_,rfl,z,p,rfl,r1,ok p (zY O),fun H4 s4=>⟨by rw[zn,xP];omega,by rw[QC,zQ];rfl,j.trans s4⟩⟩⟩
  ·rintro L l ⟨rfl,j⟩
   refine⟨by rw[zn,xP];omega,fun D hD=>⟨D,_,rfl,u4 zc,?_⟩⟩
   rw[show(List.replicate J.length true).all id=true by simp]
   exact k _ (j.trans (zd hD))
inductive YJ(K:W.Frag)(g:List V)(H:Hp)(Q:VK):Prop
 | mk (v:V) (c:Addr) (p:ZM) (f:List Str) (_:g=[v,.ref c]) (_:Rep K H (xp p) v) (_:SqL K H c (f.map V.str)) (_:p.k∈f) (_:inP p.x p.y) (_:∀b,Same H b->Q (.bl true) b):YJ K g H Q
def zeT(K:W.Frag):Sp:=fun b H Q _=>YJ K b H Q
theorem ze5:zy ["thing","kinds","kind","place"] ["thing","kinds"] (zq (topL 18)):=u3
theorem zar(t:Str):∀l:List Str,inV (.str t) (l.map V.str)=decide (t∈l)
 | []=>by simp[inV]
 | x::l=>by
  have:=zar t l;unfold inV at this ⊢;rw[ji,wy,this];by_cases e:t=x
  ·subst e
   simp[eqV]
  ·have b:¬x=t:=fun z=>e z.symm
   simp[eqV,e,b]
theorem Wo(l:List Str):(l.map V.str).all xO=true:=vX.mpr fun z hz=>by
 obtain⟨k,_,rfl⟩:=zP.mp hz;rfl
theorem zhT{f:Addr}{l:FuncData}(F:Fun K "is_part" "is_part" (topL 18) f l)(B:Blt I)(b:Dfn P w K I G "is_tuple_of" 1 ["thing","many"] (X1 K))(g:Dfn P w K I G "is_place" 3 ["thing"] (JR K)):FnOk P w K I G CX0 4 f l ["thing","kinds"] (zeT K):=by
 have L:=ze5.nd;refine F.ok ze5 (fun vs H Q E h=>?_) (fun N A j s H vs Q E D h=>?_)
 ·obtain⟨v,J,p,O,rfl,_⟩:=h
  rfl
 ·obtain⟨v,J,p,O,rfl,rp,U,mk,T,k⟩:=h
  obtain⟨a,c,rfl,M,Y⟩:=Vo rp;refine⟨_,(ze (jn (jG (qY (zg b D.m rfl (za (pv 0) (za zi zb)))))
   (zk (zw xM))
   zZ)
   (ze (xi (pv 0) (jd rfl (zt (zu (i:=2) L rfl (Or.inl rfl)) (zt (zu (i:=3) L rfl (Or.inl rfl)) qA))))
   (zk (zw (j6 (qB yY (pv 2) (pv 1) (by with_unfolding_all rfl)) (xj (zg g D.m rfl (za (pv 3) zb)))))))),?_⟩
  refine⟨_,rfl,a,_,2,rfl,M,rfl,_,rfl,ifF rfl ⟨_,rfl,a,_,rfl,M,rfl,_,_,rfl,_,_,rfl,rfl,?_⟩⟩
  refine⟨_,rfl,_,rfl,J,_,rfl,.inl U,rfl,Wo _,_,rfl,?_⟩
  rw[zar,zX mk];exact ifT rfl ⟨_,rfl,.ref c,p.x,p.y,rfl,Y,T,k⟩
def Wz(p:ZM):List Key:=[Sum.inl p.x,Sum.inl p.y]
inductive YK(K:W.Frag)(s:List V)(H:Hp)(Q:VK):Prop
 | mk (a b:Addr) (c l:List V) (g:List ZM) (fs:List xn) (_:s=[.ref a,.ref b]) (_:SqT K H a c) (_:Reps K H (g.map xp) c) (_:SqT K H b l) (_:Reps K H (fs.map xF) l) (_:fs.length<=100) (_:g.length<=60) (_:(∀p∈g,inP p.x p.y/\∃f∈fs,f.k=p.k)) (_:(g.map fun p=>(p.x,p.y)).Nodup) (_:∀j,Same H j->Q (.bl true) j):YK K s H Q
def zeU(K:W.Frag):Sp:=fun b H Q _=>YK K b H Q
theorem ze6:zy ["thing","feeders","kinds"] ["thing","feeders"] (zq (topL 19)):=u3
theorem zga{f:Addr}{fd:FuncData}{tf:Tok}(F:Fun K "are_parts" "are_parts" (topL 19) f fd)(B:Blt I)(g:Dfn P w K I G "is_tuple_upto" 1 ["thing","most"] (YF K))(M:Dfn P w K I G "is_part" 4 ["thing","kinds"] (zeT K))(l:I "MOST_PARTS" = some (.int 60 tf)):FnOk P w K I G CX0 5 f fd ["thing","feeders"] (zeU K):=by
 have nd:=ze6.nd;refine F.ok ze6 (fun vs H Q E h=>?_) (fun ag A ae s H vs Q E hr h=>?_)
 ·obtain⟨a,b,J,fv,ps,fs,rfl,_⟩:=h
  rfl
 ·obtain⟨a,b,J,fv,ps,fs,rfl,qa,rp,qb,rf,fl,pl,ok,pd,k⟩:=h
  have af:=bG100000;have ac:=Zs hr;have ln:=rp.len;have lf:=rf.len;rw[zn] at ln lf;refine⟨_,(ze (zA (i:=2) nd rfl (Or.inr rfl) (jB [] [] rfl rfl (by kernel_rfl) (xt (pv 1)) (fun _ _ _ _=>qQ) (fun _ _ _ _=>(zL (xm (K:=K) rfl) (pv 0) zi (fun _ _=>rfl)))))
   (ze (jn (u8 (vE (jG (qY (zg g hr.m rfl (za (pv 0) (za (vm (v:=.int 60) rfl l ⟨_,rfl⟩) zb))))) (xJ (jG (qY (zo (xB rfl) rfl B.all boot_all (za (jB ["kinds"] [2] rfl rfl (by kernel_rfl) (xt (pv 0)) (fun _ _ _ _=>qQ) (fun _ _ _ _=>(zg M hr.m rfl (za (pv 0) (za (pv 1) zb))))) zb)))))))
   (zk (zw xM))
   zZ)
   (zk (zw (qB j9 (zo zbF rfl B.len boot_len (za (zfY ac [] [] rfl rfl (by kernel_rfl) (xt (pv 0)) (fun _ _ _ _=>qQ) (fun _ _ _ _=>(zL (xm (K:=K) rfl) (pv 0) zi (fun _ _=>rfl)))) zb)) (zo zE rfl B.len boot_len (za (pv 0) zb)) (zH _)))))),?_⟩
  refine⟨_,rfl,b,rfl,⟨_,qb⟩,xx (K:=K) (xs:=fv) (fun i L O=>L=((fs.take i).map xn.k).map V.str/\Same H O) ⟨rfl,u6 _⟩ (fun i L O ⟨_,N⟩=>N.sqT qb) ?_ ?_⟩
  ·rintro i z L O hz ⟨rfl,N⟩
   obtain⟨dd,e1,r1⟩:=(rf.same N).get hz;rw[qm] at e1;obtain⟨p,T,rfl⟩:=qS.mp e1;have hi:=(zK.mp T).1;obtain⟨u,c,rfl,qu,_⟩:=VX r1;exact⟨rfl,⟨_,rfl,u,_,_,_,rfl,rfl,qu,rfl,by rw[zn,zn,qC];omega,by rw[qr T,zQ,zQ];rfl,N⟩⟩
  rintro L H1 ⟨rfl,s1⟩;rw[lf,qW];refine⟨by rw[zn,zn];omega,fun kl aa=>?_⟩
  have s2:=s1.trans (zd (o:=.lst ((fs.map xn.k).map V.str)) aa);have K2:upd H1 kl (.lst ((fs.map xn.k).map V.str)) kl=some (.lst ((fs.map xn.k).map V.str)):=zc;generalize upd H1 kl (.lst ((fs.map xn.k).map V.str))=H2 at s2 K2;refine⟨_,rfl,a,J,60,rfl,s2.sqT qa,by omega,_,rfl,ifF rfl ?_⟩
  refine⟨_,rfl,a,rfl,⟨_,s2.sqT qa⟩,xx (K:=K) (xs:=J) (fun i L O=>L=(List.replicate i true).map V.bl/\Same H2 O) ⟨rfl,u6 _⟩ (fun i L O ⟨_,N⟩=>N.sqT (s2.sqT qa)) ?_ ?_⟩
  ·rintro i z L O hz ⟨rfl,N⟩
   obtain⟨dd,e1,r1⟩:=(rp.same (s2.trans N)).get hz;rw[qm] at e1;obtain⟨p,T,rfl⟩:=qS.mp e1;have hi:=(zK.mp T).1;obtain⟨o1,fe,fm,o2⟩:=ok p (zY T);exact⟨rfl,⟨_,rfl,_,rfl,z,kl,p,fs.map xn.k,rfl,r1,u4 (N _ _ K2),zP.mpr ⟨fe,fm,o2⟩,o1,fun H4 U=>⟨by rw[zn,xP];omega,by rw[QC,zQ];rfl,N.trans U⟩⟩⟩
  rintro L O ⟨rfl,s3⟩;refine⟨by rw[zn,xP];omega,fun D hD=>⟨D,_,rfl,u4 zc,_,rfl,?_⟩⟩
  rw[show(List.replicate J.length true).all id=true by simp]
  refine ifF rfl ?_
  have U:=s2.trans (s3.trans (zd (o:=.lst ((List.replicate J.length true).map V.bl)) hD));generalize upd O D (.lst ((List.replicate J.length true).map V.bl))=H4 at U;refine⟨_,rfl,a,rfl,⟨_,U.sqT qa⟩,zfD (K:=K) (xs:=J) (fun i L H5=>L.map (·.1)=(ps.take i).map Wz/\Same H4 H5/\∀p∈L,SqT K H5 p.2 (p.1.map kV)) ⟨rfl,u6 _,fun p h=>(nomatch h)⟩ (fun i L H5 ⟨_,Y,q⟩=>⟨Y.sqT (U.sqT qa),q⟩) ?_ ?_⟩
  ·rintro i z L H5 hz ⟨e5,Y,q5⟩
   obtain⟨dd,e1,r1⟩:=(rp.same (U.trans Y)).get hz;rw[qm] at e1;obtain⟨p,T,rfl⟩:=qS.mp e1;have hi:=(zK.mp T).1;obtain⟨u,c,rfl,qu,rc⟩:=Vo r1;obtain⟨c',ec,qc⟩:=zcC rc;cases ec;have zl:=congrArg List.length e5;rw[zn,zn,qC] at zl;refine⟨rfl,⟨_,rfl,u,_,_,_,rfl,rfl,qu,rfl,Wz p,c,rfl,qc,?_,by omega,?_,Y,fun x hx=>?_⟩⟩
   ·rw[e5]
    intro h;obtain⟨p',ab,e⟩:=zP.mp h;obtain⟨j,hj,ej⟩:=zdw.mp ab;have e6:(ps.map fun p=>(p.x,p.y))[j]? =(ps.map fun p=>(p.x,p.y))[i]?:=by
     rw[qm,qm,T,qP (by omega),ej]
     unfold Wz at e;injection e with a1 a2;injection a2 with a2 _;exact congrArg some (Prod.ext (vK a1) (vK a2))
    have:=(List.getElem?_inj (by rw[zn];omega) pd).mp e6
    omega
   ·rw[zQ,e5,qr T,zQ];rfl
   ·rcases qM.mp hx with h | h
    ·exact q5 x h
    ·rw[qg.mp h];exact qc
  ·rintro L H5 ⟨e5,Y,q5⟩ D5 a0
   have zl:=congrArg List.length e5;rw[zn,zn,qC] at zl;refine⟨D5,L.length,rfl,zc,_,rfl,a,J,rfl,.inr ((U.trans (Y.trans (zd a0))).sqT qa),rfl,?_⟩
   rw[show L.length=J.length by omega,zX rfl]
   exact k _ (U.trans (Y.trans (zd a0)))
inductive zcg(K:W.Frag)(b:List V)(H:Hp)(Q:VK):Prop
 | mk (v:V) (p:Nat×Nat) (m:Nat) (_:b=[v,.int (m:Int)]) (_:Rep K H (jq p) v) (_:p.1<m) (_:p.2<m) (_:p.1≠p.2) (_:Q (.bl true) H):zcg K b H Q
def zhh(K:W.Frag):Sp:=fun b H Q _=>zcg K b H Q
theorem zhy:zy ["thing","many","one","other"] ["thing","many"] (zq (topL 20)):=u3
theorem zh2{f:Addr}{l:FuncData}(F:Fun K "is_ahead" "is_ahead" (topL 20) f l)(B:Blt I)(c:Dfn P w K I G "is_tuple_of" 1 ["thing","many"] (X1 K))(b:Dfn P w K I G "is_number_within" 2 ["thing","least","most"] Z1):FnOk P w K I G CX0 3 f l ["thing","many"] (zhh K):=by
 have D:=zhy.nd;refine F.ok zhy (fun N H Q E h=>?_) (fun L A j s H N Q E g h=>?_)
 ·obtain⟨v,p,m,rfl,_⟩:=h
  rfl
 ·obtain⟨v,p,m,rfl,M,h1,O,ne,k⟩:=h
  obtain⟨a,rfl,J⟩:=j8 M;refine⟨_,(ze (jn (jG (qY (zg c g.m rfl (za (pv 0) (za zi zb)))))
   (zk (zw xM))
   zZ)
   (ze (xi (pv 0) (jd rfl (zt (zu (i:=2) D rfl (Or.inl rfl)) (zt (zu (i:=3) D rfl (Or.inl rfl)) qA))))
   (ze (jn (u8 (vE (jG (qY (zg b g.m rfl (za (pv 2) (za zi (za (zJ wg (pv 1) zi) zb)))))) (xJ (jG (qY (zg b g.m rfl (za (pv 3) (za zi (za (zJ wg (pv 1) zi) zb)))))))))
   (zk (zw xM))
   zZ)
   (zk (zw (qB Qh (pv 2) (pv 3) (zH _))))))),?_⟩
  refine⟨_,rfl,a,_,2,rfl,J,rfl,_,rfl,ifF rfl ⟨_,rfl,a,_,rfl,J,rfl,_,_,rfl,_,_,rfl,rfl,?_⟩⟩
  refine⟨_,rfl,_,rfl,_,_,rfl,rfl,_,_,_,rfl,by omega,by omega,_,rfl,ifF rfl ?_⟩
  refine⟨_,rfl,_,rfl,_,_,rfl,rfl,_,_,_,rfl,by omega,by omega,_,rfl,ifF rfl ?_⟩
  refine⟨_,rfl,_,rfl,rfl,?_⟩
  rw[show decide (V.int (p.1:Int)=V.int (p.2:Int))=false from qZ fun z=>ne (by injection z with z;omega)]
  exact k
inductive YW(K:W.Frag)(f:List V)(H:Hp)(Q:VK):Prop
 | mk (a:Addr) (m:Nat) (b:List (Nat×Nat)) (_:f=[.ref a,.int (m:Int)]) (_:Rep K H (wV b) (.ref a)) (_:b.length<=200) (_:(∀p∈b,p.1<m/\p.2<m/\p.1≠p.2)) (_:∀c,Same H c->Q (.bl true) c):YW K f H Q
def ze2(K:W.Frag):Sp:=fun b H Q _=>YW K b H Q
theorem zfg:zy ["thing","many"] ["thing","many"] (zq (topL 21)):=u3
theorem zgk{f:Addr}{T:FuncData}{tf:Tok}(F:Fun K "are_aheads" "are_aheads" (topL 21) f T)(B:Blt I)(b:Dfn P w K I G "is_tuple_upto" 1 ["thing","most"] (YF K))(g:Dfn P w K I G "is_ahead" 3 ["thing","many"] (zhh K))(c:I "MOST_AHEADS" = some (.int 200 tf)):FnOk P w K I G CX0 4 f T ["thing","many"] (ze2 K):=by
 have nd:=zfg.nd;refine F.ok zfg (fun vs H Q E h=>?_) (fun a0 A M s H vs Q E Y h=>?_)
 ·obtain⟨a,m,as,rfl,_⟩:=h
  rfl
 ·obtain⟨a,m,as,rfl,⟨a',L,ea,N,rf⟩,fl,ok,k⟩:=h
  cases ea;have U:=bG100000;have ln:=rf.len;rw[zn] at ln;refine⟨_,(zk (zw (j6 (zg b Y.m rfl (za (pv 0) (za (vm (v:=.int 200) rfl c ⟨_,rfl⟩) zb))) (xj (zo (xB rfl) rfl B.all boot_all (za (jB ["many"] [1] rfl rfl (by kernel_rfl) (xt (pv 0)) (fun _ _ _ _=>qQ) (fun _ _ _ _=>(zg g Y.m rfl (za (pv 0) (za (pv 1) zb))))) zb)))))),?_⟩
  refine⟨_,rfl,a,L,200,rfl,N,by omega,_,rfl,ifT rfl ?_⟩
  refine⟨_,rfl,a,rfl,⟨_,N⟩,xx (K:=K) (xs:=L) (fun i J l=>J=(List.replicate i true).map V.bl/\Same H l) ⟨rfl,u6 _⟩ (fun i J l ⟨_,j⟩=>j.sqT N) ?_ ?_⟩
  ·rintro i z J l hz ⟨rfl,j⟩
   obtain⟨dd,e1,r1⟩:=(rf.same j).get hz;rw[qm] at e1;obtain⟨p,O,rfl⟩:=qS.mp e1;have hi:=(zK.mp O).1;obtain⟨o1,o2,o3⟩:=ok p (zY O);exact⟨rfl,⟨_,rfl,_,rfl,z,p,m,rfl,r1,o1,o2,o3,by rw[zn,xP];omega,by rw[QC,zQ];rfl,j⟩⟩
  ·rintro J l ⟨rfl,j⟩
   refine⟨by rw[zn,xP];omega,fun D hD=>⟨D,_,rfl,u4 zc,?_⟩⟩
   rw[show(List.replicate L.length true).all id=true by simp]
   exact k _ (j.trans (zd hD))
inductive Vc(K:W.Frag)(g:List V)(H:Hp)(Q:VK):Prop
 | mk (l d:Addr) (c:List Int) (f:List (Int×Int)) (_:g=[.ref l,.ref d]) (_:SqL K H l (c.map V.int)) (_:H d=some (.dK (dkI f))) (_:(∀x∈c,x∉f.map (·.1))) (_:∀b,Same H b->Q .non b):Vc K g H Q
def zb8(K:W.Frag):Sp:=fun b H Q _=>Vc K b H Q
theorem zcr:zy ["parts","steps","found"] ["parts","steps"] (zq (topL 26)):=u3
theorem zef{f:Addr}{L:FuncData}(F:Fun K "nearest_of" "nearest_of" (topL 26) f L)(B:Blt I):FnOk P w K I G CX0 1 f L ["parts","steps"] (zb8 K):=by
 have nd:=zcr.nd;refine F.ok zcr (fun vs H Q E h=>?_) (fun Y A J s H vs Q E N h=>?_)
 ·obtain⟨l,d,T,U,rfl,_⟩:=h
  rfl
 ·obtain⟨l,d,T,U,rfl,M,hd,no,k⟩:=h
  have b:=Zs N;have c:=N.units;refine⟨_,(ze (zA (i:=2) nd rfl (Or.inl rfl) (Qc (zbE rfl c) rfl B.min V5 (za (jB ["steps"] [1] rfl rfl (by kernel_rfl) (qH (pv 0)) (fun _ _ _ _=>(j5 (Wv (zf4 b (pv 0) (pv 1))))) (fun _ _ _ _=>(qJ (za (yC b (pv 1) (pv 0) (fun _ _=>rfl)) (za (pv 0) zb))))) zb) xK))
   (ze (jn (zI yX (pv 2) xK (zH _))
   (zk (zw xK))
   zZ)
   (zk (zw (zL jC (pv 2) zi (fun _ _=>rfl)))))),?_⟩
  refine⟨_,rfl,l,rfl,⟨_,M⟩,jI (K:=K) (a:=l) (xs:=T.map V.int) (fun i j g=>Same H g/\j=[]) ⟨u6 _,rfl⟩ (fun i j g ⟨s1,_⟩=>s1.seq M) ?_ ?_⟩
  ·rintro i x j g hx ⟨s1,rfl⟩
   rw[qm] at hx;obtain⟨x,ex,rfl⟩:=qS.mp hx;refine⟨rfl,_,rfl,_,rfl,d,_,rfl,.inl ⟨_,Sum.inl x,.inl (s1 _ _ hd),rfl,rfl⟩,?_⟩
   rcases ZS U x with ⟨v,hv,O⟩ | ⟨hv,O⟩
   ·exact absurd O (no x (zY ex))
   ·rw[hv]
    exact⟨_,rfl,ifF rfl ⟨s1,rfl⟩⟩
  ·rintro j g ⟨s1,rfl⟩
   refine⟨qV _,fun D hD=>?_⟩
   refine⟨D,[],[],rfl,u4 zc,PrR.nil,fun e=>?_,fun v ne=>absurd rfl ne⟩
   exact⟨_,rfl,rfl,_,rfl,ifT (by decide) (k _ (s1.trans (zd hD)))⟩
inductive Z3(K:W.Frag)(j:List V)(H:Hp)(Q:VK):Prop
 | mk (fs:Int) (r d:Addr) (g:List (Key×V)) (c f:List (Int×Int)) (_:j=[.int fs,.ref r,.ref d]) (_:H r=some (.dK g)) (_:RowsOk H g c) (_:H d=some (.dK (dkI f))) (_:(∀y,(fs,y)∈c->y∉f.map (·.1))) (_:∀b,Same H b->Q .non b):Z3 K j H Q
def X5(K:W.Frag):Sp:=fun b H Q _=>Z3 K b H Q
theorem Vi:zy ["first","rows","steps","ring","part"] ["first","rows","steps"] (zq (topL 27)):=u3
theorem zbe{f:Addr}{T:FuncData}(F:Fun K "ring_by" "ring_by" (topL 27) f T)(B:Blt I)(b:Dfn P w K I G "nearest_of" 1 ["parts","steps"] (zb8 K)):FnOk P w K I G CX0 2 f T ["first","rows","steps"] (X5 K):=by
 have M:=Vi.nd;refine F.ok Vi (fun vs H Q E h=>?_) (fun a0 A N s H vs Q E J h=>?_)
 ·obtain⟨fs,r,d,g,j,Y,rfl,_⟩:=h
  rfl
 ·obtain⟨fs,r,d,g,j,Y,rfl,U,ro,hd,no,k⟩:=h
  have c:=Zs J;refine⟨_,(ze (zA (i:=3) M rfl (Or.inl rfl) (z7 (za (pv 0) zb)))
   (ze (zA (i:=4) M rfl (Or.inl rfl) (zg b J.m rfl (za (Vn c (pv 1) (pv 0) (z7 zb) ⟨rfl,rfl,rfl,rfl⟩) (za (pv 2) zb))))
   (ze (jn (zI yX (pv 4) xK (zH _))
   (zk (zw xK))
   zZ)
   (ze (Z9 jU (zI Qh (pv 4) (pv 0) (zH _))
   (ze (qN (xo j4 vh vg qE (pv 3) (za (pv 4) zb)))
    (zk (zA (i:=4) M rfl (Or.inl rfl) (zg b J.m rfl (za (yC c (pv 1) (pv 4) (fun _ _=>rfl)) (za (pv 2) zb)))))))
   (zk (zw (pv 3))))))),?_⟩
  refine⟨_,rfl,le1,fun l hl=>?_⟩
  have s1:=zd (o:=.lst [V.int fs]) hl;generalize upd H l (.lst [V.int fs])=O at s1;refine⟨_,rfl,r,rfl,.inl ⟨_,.inl (s1 _ _ U)⟩,_,rfl,le0,fun q hq=>?_⟩
  have sq:=zd (H:=O) (o:=.lst []) hq;have s2:=s1.trans sq;refine⟨_,.inl ⟨g,Sum.inl fs,.inl (s2 _ _ U),rfl,rfl⟩,?_⟩
  have tt:∃t,(qX g (Sum.inl fs)).getD (.ref q)=.ref t/\upd O q (.lst []) t=some (.lst ((vn j fs).map V.int)):=by
   cases z:qX g (Sum.inl fs) with
   | none=>exact⟨q,rfl,by rw[ro.no fs z];exact zc⟩
   | some v=>
    obtain⟨t,rfl,L⟩:=ro.at_ fs v z;exact⟨t,rfl,s2 _ _ L⟩
  obtain⟨t,D,L⟩:=tt;rw[D];refine⟨_,rfl,t,d,vn j fs,Y,rfl,u4 L,s2 _ _ hd,fun y hy=>no y (Qo.mp hy),fun H3 s3=>?_⟩
  exact⟨_,rfl,rfl,_,rfl,ifT (by decide) (k _ (s2.trans s3))⟩
def zgU(b:List (Int×Int)):Prop:=∀s k,¬Wk b (k+1) s s
inductive Z2(K:W.Frag)(f:List V)(H:Hp)(Q:VK):Prop
 | mk (n:Nat) (t:Addr) (g:List V) (b:List (Int×Int)) (_:f=[.int (n:Int),.ref t]) (_:SqL K H t g) (_:Reps K H (b.map prD) g) (_:b.length<=1000) (_:n<=60) (_:(∀p∈b,InN n p.1/\InN n p.2)) (_:zgU b) (_:∀c,Same H c->Q .non c):Z2 K f H Q
def X4(K:W.Frag):Sp:=fun b H Q _=>Z2 K b H Q
theorem Vh:zy ["many","aheads","onward","backward","best","first","ring"] ["many","aheads"] (zq (topL 28)):=u3
def zaI(n:Nat)(t:_)(g:_)(f:_)(b:_):=fun(i:Nat) (σ:St) (c:Hp)=>(Ex2 fun(j l:Option V)=>An2 (σ=[some (.int (n:Int)),some (.ref t),some (.ref g),some (.ref f),some .non,j,l]) (Same b c):Prop)
theorem zbd{f:Addr}{fd:FuncData}(F:Fun K "ring_in" "ring_in" (topL 28) f fd)(B:Blt I)(J:Dfn P w K I G "turned" 1 ["pairs"] (JO K))(g:Dfn P w K I G "next_by" 1 ["pairs"] (Wp K))(j:Dfn P w K I G "steps_from" 1 ["start","rows"] (JP K))(D:Dfn P w K I G "ring_by" 2 ["first","rows","steps"] (X5 K)) :
  FnOk P w K I G CX0 3 f fd ["many","aheads"] (X4 K):=by
 have O:=Vh.nd;refine F.ok Vh (fun vs H Q E h=>?_) (fun aq A am s H vs Q E Y h=>?_)
 ·obtain⟨n,t,xs,L,rfl,_⟩:=h
  rfl
 ·obtain⟨n,t,xs,L,rfl,ht,rp,la,al,aj,U,k⟩:=h
  have T:(2^62:Int)=4611686018427387904:=by decide
  refine⟨_,(ze (zA (i:=2) O rfl (Or.inl rfl) (zg g Y.m rfl (za (pv 1) zb)))
   (ze (zA (i:=3) O rfl (Or.inl rfl) (zg g Y.m rfl (za (zg J Y.m rfl (za (pv 1) zb)) zb)))
   (ze (zA (i:=4) O rfl (Or.inl rfl) xK)
   (ze (jA jU rfl (jx rfl B.range (za (pv 0) zb)) (zu (i:=5) O rfl (Or.inl rfl))
   (ze (zA (i:=6) O rfl (Or.inl rfl) (zg D Y.m rfl (za (pv 5) (za (pv 2) (za (zg j Y.m rfl (za (pv 5) (za (pv 3) zb))) zb)))))
    (zk (jn (u8 (Z7 (zI zd7 (pv 6) xK (zH _)) (yy (u8 (vE (zI yX (pv 4) xK (zH _)) (xJ (zI Vr (zo zE rfl B.len boot_len (za (pv 6) zb)) (zo zE rfl B.len boot_len (za (pv 4) zb)) (zH _))))))))
    (zk (zA (i:=4) O rfl (Or.inl rfl) (pv 6)))
    zZ))))
   (zk (zw (pv 4))))))),?_⟩
  refine⟨_,rfl,t,xs,L,rfl,.inl ht,rp,la,fun ro af H1 s1 au aa ab=>?_⟩
  refine⟨_,rfl,t,xs,L,rfl,.inl (s1.seq ht),rp.same s1,la,fun tl ys H2 s2 ai ag=>?_⟩
  have em:(L.map fun p=>prD p.swap)=(L.map Prod.swap).map prD:=by rw[xH];rfl
  rw[em] at ag;refine⟨tl,ys,L.map Prod.swap,rfl,.inl (u4 ai),ag,by rw[zn];exact la,fun rb ae H3 s3 ar a0 ac=>?_⟩
  have M:=s2.trans s3;have ao:RowsOk H3 af L:=(RowsOk.mk (fun i v e=>let ⟨l,a,_,b⟩:=ab.at_ i v e;⟨l,a,b⟩) ab.no).same M
  have an:RowsOk H3 ae (L.map Prod.swap):=RowsOk.mk (fun i v e=>let ⟨l,a,_,b⟩:=ac.at_ i v e;⟨l,a,b⟩) ac.no
  have h3:=M _ _ aa;have ap:=s1.trans M;refine⟨_,rfl,_,rfl,by rw[T];omega,by rw[T];omega,?_⟩
  rw[Zk];refine jR (n:=n) (zaI n t ro rb H3) ⟨_,_,rfl,u6 _⟩ ?_ ?_
  ·rintro i σ H4 hi ⟨v5,v6,rfl,s4⟩
   have ak:InN n (0+(i:Int)):=⟨by omega,by omega⟩
   refine⟨_,rfl,_,rfl,_,rfl,_,rfl,0+(i:Int),rb,ae,L.map Prod.swap,n,rfl,s4 _ _ a0,an.same s4,al,ak,fun p hp=>?_,by rw[zn];exact la,fun d ps H5 s5 hd ah av pl dm=>?_⟩
   ·obtain⟨q,hq,rfl⟩:=zP.mp hp
    exact(aj q hq).1
   have N:=s4.trans s5;refine⟨0+(i:Int),ro,d,af,L,ps,rfl,N _ _ h3,ao.same N,ah,fun y hy hk=>?_,fun H6 s6=>?_⟩
   ·obtain⟨c,hc⟩:=(dm y).mp hk
    have:=hc.back;rw[xH,show(Prod.swap∘Prod.swap:Int×Int->Int×Int)=id from funext fun _=>rfl,List.map_id] at this
    exact U _ c ⟨y,hy,this⟩
   ·refine⟨_,rfl,rfl,_,rfl,ifF (by simp) ?_⟩
    exact⟨_,_,rfl,N.trans s6⟩
  ·rintro σ H4 ⟨v5,v6,rfl,s4⟩
   exact⟨_,rfl,k H4 (ap.trans s4)⟩
theorem Wk.rank{c:List (Int×Int)}{rk:Int->Nat}(h:∀q∈c,rk q.1<rk q.2):∀{k:Nat} {a b:Int},Wk c k a b->rk a+k<=rk b
 | 0,a,b,e=>by cases(show a=b from e);exact zC _
 | k+1,a,b,⟨m,e,w⟩=>by
  have:=Wk.rank h w;have:rk a<rk m:=h (a,m) e;omega
def zgy(p:Nat×Nat):Int×Int:=(p.1,p.2)
theorem ByOrd.at_{b:List Nat}{f:List (Nat×Nat)}{n:Nat}(c:b.Perm (List.range n))(A:ByOrd b f):∀p∈f,p.1<n/\p.2<n/\b.idxOf p.1<b.idxOf p.2:=fun p hp=>by
 obtain⟨k,l,D,e1,e2⟩:=A p hp;have s:=c.nodup_iff.mpr Zg;obtain⟨h1,g⟩:=zK.mp e1;obtain⟨B,j⟩:=zK.mp e2;refine⟨jJ.mp (c.mem_iff.mp (g▸wA h1)),jJ.mp (c.mem_iff.mp (j▸wA B)),?_⟩
 rw[<- g,<- j,s.idxOf_getElem,s.idxOf_getElem];exact D
theorem ByOrd.free{b:List Nat}{c:List (Nat×Nat)}{n:Nat}(g:b.Perm (List.range n))(f:ByOrd b c):zgU (c.map zgy):=fun s k w=>by
 have:=w.rank (rk:=fun i=>b.idxOf i.toNat) fun q hq=>by
  obtain⟨p,hp,rfl⟩:=zP.mp hq;exact(f.at_ g p hp).2.2
 omega
structure ziw(J:Job):Prop where
 gate:inP J.gx J.gy
 hd0:1<=J.hd
 hd1:J.hd<=4
 fl:J.fs.length<=20
 fa:∀f∈J.fs,okF f
 pl:J.ps.length<=60
 pa:∀p∈J.ps,inP p.x p.y/\∃f∈J.fs,f.k=p.k
 pd:(J.ps.map fun p=>(p.x,p.y)).Nodup
 al:J.as.length<=200
 ab:∀p∈J.as,p.1<J.ps.length/\p.2<J.ps.length/\p.1≠p.2
 fr:zgU (J.as.map zgy)
theorem JobOk.rt{J:Job}{g:List Nat}(f:JobOk J g):ziw J:=⟨f.gate,f.hd0,f.hd1,f.fl,f.fa,f.pl,fun p hp=>(f.pa p hp).2,f.pd,f.al,fun p hp=>by
 obtain⟨a,b,c⟩:=f.bo.at_ f.op p hp;exact⟨a,b,fun z=>by rw[z] at c;exact vM _ c⟩,f.bo.free f.op⟩
inductive YS(K:W.Frag)(f:List V)(H:Hp)(Q:VK):Prop
 | mk (c:Addr) (J:Job) (_:f=[.ref c]) (_:Rep K H (vw J) (.ref c)) (_:ziw J) (_:∀b,Same H b->Q (.bl true) b):YS K f H Q
def zeY(K:W.Frag):Sp:=fun b H Q _=>YS K b H Q
theorem zfc:zy ["thing","gate","heads","feeders","parts","aheads"] ["thing"] (zq (topL 22)):=u3
theorem zgg{f:Addr}{fd:FuncData}{tf:Tok}(F:Fun K "is_job" "is_job" (topL 22) f fd)(B:Blt I)(j:Dfn P w K I G "is_tuple_of" 1 ["thing","many"] (X1 K))(N:Dfn P w K I G "is_place" 3 ["thing"] (JR K))(b:Dfn P w K I G "is_number_within" 2 ["thing","least","most"] Z1)
  (c:Dfn P w K I G "are_feeders" 5 ["thing"] (zeZ K)) (M:Dfn P w K I G "are_parts" 5 ["thing","feeders"] (zeU K)) (L:Dfn P w K I G "are_aheads" 4 ["thing","many"] (ze2 K)) (T:Dfn P w K I G "ring_in" 3 ["many","aheads"] (X4 K)) (D:I "MOST_HEADS" = some (.int 4 tf)):FnOk P w K I G CX0 6 f fd ["thing"] (zeY K):=by
 have Y:=zfc.nd;refine F.ok zfc (fun vs H Q E h=>?_) (fun ac A aa s H vs Q E U h=>?_)
 ·obtain⟨jp,J,rfl,_⟩:=h
  rfl
 ·obtain⟨jp,J,rfl,rj,O,k⟩:=h
  obtain⟨g,fs,ps,as,fv,ab,qj,rg,qf,rf,qp,rp,ra⟩:=xV rj;have lp:=rp.len;rw[zn] at lp;refine⟨_,(ze (jn (jG (qY (zg j U.m rfl (za (pv 0) (za zi zb)))))
   (zk (zw xM))
   zZ)
   (ze (xi (pv 0) (jd rfl (zt (zu (i:=1) Y rfl (Or.inl rfl)) (zt (zu (i:=2) Y rfl (Or.inl rfl)) (zt (zu (i:=3) Y rfl (Or.inl rfl)) (zt (zu (i:=4) Y rfl (Or.inl rfl)) (zt (zu (i:=5) Y rfl (Or.inl rfl)) qA)))))))
   (ze (jn (u8 (vE (jG (qY (zg N U.m rfl (za (pv 1) zb)))) (xJ (jG (qY (zg b U.m rfl (za (pv 2) (za zi (za (vm (v:=.int 4) rfl D ⟨_,rfl⟩) zb)))))))))
   (zk (zw xM))
   zZ)
   (ze (jn (u8 (vE (jG (qY (zg c U.m rfl (za (pv 3) zb)))) (xJ (jG (qY (zg M U.m rfl (za (pv 4) (za (pv 3) zb))))))))
   (zk (zw xM))
   zZ)
   (ze (jn (jG (qY (zg L U.m rfl (za (pv 5) (za (zo zE rfl B.len boot_len (za (pv 4) zb)) zb)))))
   (zk (zw xM))
   zZ)
   (zk (zw (qB yX (zg T U.m rfl (za (zo zE rfl B.len boot_len (za (pv 4) zb)) (za (zW xT rfl B.list jy (za (pv 5) zb)) zb))) xK (zH _))))))))),?_⟩
  refine⟨_,rfl,jp,_,5,rfl,qj,rfl,_,rfl,ifF rfl ⟨_,rfl,jp,_,rfl,qj,rfl,_,_,rfl,_,_,rfl,_,_,rfl,_,_,rfl,_,_,rfl,rfl,?_⟩⟩
  refine⟨_,rfl,.ref g,J.gx,J.gy,rfl,rg,O.gate,fun H1 s1=>⟨_,rfl,ifF rfl ?_⟩⟩
  refine⟨_,rfl,J.hd,1,4,rfl,O.hd0,O.hd1,_,rfl,ifF rfl ?_⟩
  refine⟨_,rfl,fs,fv,J.fs,rfl,s1.sqT qf,rf.same s1,O.fl,O.fa,fun H2 s2=>⟨_,rfl,ifF rfl ?_⟩⟩
  have s2:=s1.trans s2;refine⟨_,rfl,_,rfl,ps,fs,ab,fv,J.ps,J.fs,rfl,s2.sqT qp,rp.same s2,s2.sqT qf,rf.same s2,qL O.fl (by decide),O.pl,O.pa,O.pd,fun H3 s3=>⟨_,rfl,ifF rfl ?_⟩⟩
  have s3:=s2.trans s3;refine⟨_,rfl,_,rfl,ps,_,rfl,.inr (s3.sqT qp),as,J.ps.length,J.as,(by rw[lp];rfl),ra.same s3,O.al,O.ab,fun H4 s4=>⟨_,rfl,ifF rfl ?_⟩⟩
  have s4:=s3.trans s4;obtain⟨a',av,ea,qa,a0⟩:=ra.same s4;cases ea;have la:=a0.len;rw[zn] at la;refine⟨_,rfl,ps,_,rfl,.inr (s4.sqT qp),_,rfl,as,av,rfl,.inr qa,fun l hl=>?_⟩
  have s5:=s4.trans (zd (o:=.lst av) hl);refine⟨J.ps.length,l,av,J.as.map zgy,(by rw[lp];rfl),u4 zc,?_,by rw[zn];exact qL O.al (by decide),O.pl,fun p hp=>?_,O.fr,fun H6 s6=>?_⟩
  ·rw[xH]
   exact a0.same (zd hl)
  ·obtain⟨q,hq,rfl⟩:=zP.mp hp
   obtain⟨h1,h2,_⟩:=O.ab q hq;exact⟨⟨Yc _,Int.ofNat_lt.mpr h1⟩,Yc _,Int.ofNat_lt.mpr h2⟩
  ·exact⟨rfl,k _ (s5.trans s6)⟩
end
def upF(g:Nat->Int)(f:Nat)(v:Int):Nat->Int:=fun k=>if k=f then v else g k
def jf(n:Nat)(g:Nat->Int):List V:=(List.range n).map fun k=>V.int (g k)
theorem jK(n:Nat)(g:Nat->Int):(jf n g).length=n:=by unfold jf;rw[zn,vd]
theorem xX{n f:Nat}{g:Nat->Int}(h:f<n):(jf n g)[f]? =some (.int (g f)):=by
 unfold jf;rw[qm,List.getElem?_range h]
 rfl
theorem zcu{n f:Nat}{g:Nat->Int}{v:Int}(h:f<n):(jf n g).set f (.int v)=jf n (upF g f v):=by
 refine List.ext_getElem? fun i=>?_
 rw[W4];by_cases b:i<n
 ·rw[xX b,jK]
  unfold upF;by_cases e:f=i
  ·subst e
   rw[zx rfl,zx h,xX h,zx rfl]
  ·rw[zr e,xX b,zr (zM e)]
 ·have e1:(jf n (upF g f v))[i]? =none:=List.getElem?_eq_none (by rw[jK];omega)
  have e2:(jf n g)[i]? =none:=List.getElem?_eq_none (by rw[jK];omega)
  rw[e1,e2,zr (show ¬f=i by omega)]
theorem JU{n f:Nat}{g:Nat->Int}(h:f<n):atI (jf n g) (f:Int)=some (.int (g f)):=by
 exact jh (xX h)
def s1(s:(Nat->Int)×List (Nat×Nat))(p:Nat×Nat):(Nat->Int)×List (Nat×Nat):=if 0<s.1 p.2 then(upF s.1 p.2 (s.1 p.2-1),s.2++[p]) else s
def P1(st:Nat->Int)(b:List (Nat×Nat)):(Nat->Int)×List (Nat×Nat):=b.foldl s1 (st,[])
theorem zeO(st:Nat->Int)(b:List (Nat×Nat))(p:Nat×Nat):P1 st (b++[p])=s1 (P1 st b) p:=by unfold P1;rw[List.foldl_append];rfl
def zes(J:Job)(p:Nat):Str:=((J.ps[p]?).map ZM.k).getD ""
def rdy(J:Job)(p:Nat)(b:Nat->Int):List Nat:=(atK J.fs (zes J p) J.fs.length).filter fun k=>decide (0<b k)
def s2(J:Job)(s:(Nat->Int)×List (Nat×Option Nat))(p:Nat×Nat):(Nat->Int)×List (Nat×Option Nat):=
 if p.1∈s.2.map (·.1) then s else match rdy J p.1 s.1 with
  | []=>(s.1,s.2++[(p.1,none)])
  | k::_=>(upF s.1 k (s.1 k-1),s.2++[(p.1,some k)])
def som(l:List (Nat×Nat)):List (Nat×Option Nat):=l.map fun q=>(q.1,some q.2)
def P2(J:Job)(st:Nat->Int)(all b:List (Nat×Nat)):(Nat->Int)×List (Nat×Option Nat):=b.foldl (s2 J) ((P1 st all).1,som (P1 st all).2)
theorem zaG(J:Job)(st:Nat->Int)(all b:List (Nat×Nat))(p:Nat×Nat):P2 J st all (b++[p])=s2 J (P2 J st all b) p:=by unfold P2;rw[List.foldl_append];rfl
def Cnt1(st:Nat->Int)(s:(Nat->Int)×List (Nat×Nat)):Prop:=∀k,(((s.2.map (·.2)).count k:Nat):Int)+s.1 k=st k
def Cnt2(st:Nat->Int)(s:(Nat->Int)×List (Nat×Option Nat)):Prop:=∀k,(((s.2.map (·.2)).count (some k):Nat):Int)+s.1 k=st k
theorem Cnt1.step{st:Nat->Int}{s:(Nat->Int)×List (Nat×Nat)}(h:Cnt1 st s)(p:Nat×Nat):Cnt1 st (s1 s p):=by
 unfold s1;split
 ·intro k
  have hk:=h k;show((((s.2++[p]).map (·.2)).count k:Nat):Int)+upF s.1 p.2 (s.1 p.2-1) k=st k
  rw[zQ,Xz];unfold upF;by_cases e:k=p.2
  ·subst e
   rw[zx rfl,show([p].map (·.2)).count p.2=1 by simp]
   omega
  ·rw[zr e,show([p].map (·.2)).count k=0 by
    rw[ji,wF];exact List.count_eq_zero.mpr (by simpa using e)]
   omega
 ·exact h
theorem zgT(st:Nat->Int)(b:List (Nat×Nat)):Cnt1 st (P1 st b):=by
 unfold P1;have:∀(b:List (Nat×Nat)) s,Cnt1 st s->Cnt1 st (b.foldl s1 s):=by
  intro b;induction b with
  | nil=>intro s h;exact h
  | cons p r c=>intro s h;exact c _ (h.step p)
 exact this b _ fun k=>by show((0:Nat):Int)+st k=st k;omega
theorem XS(st:Nat->Int)(b:List (Nat×Nat)):(P1 st b).2.Sublist b:=by
 unfold P1;have:∀(b:List (Nat×Nat)) s (q:List (Nat×Nat)),s.2.Sublist q->(b.foldl s1 s).2.Sublist (q++b):=by
  intro b;induction b with
  | nil=>intro s q h;rw[jZ];exact h
  | cons p r c=>
   intro s q h;rw[show q++p::r=(q++[p])++r by simp]
   refine c (s1 s p) (q++[p]) ?_
   unfold s1;split
   ·exact h.append (Xy _)
   ·exact h.trans (List.sublist_append_left _ _)
 exact this b (st,[]) [] (Xy _)
theorem Vg(l:List (Nat×Nat)):(som l).map (·.1)=l.map (·.1):=by
 unfold som;rw[xH];rfl
theorem zdS(l:List (Nat×Nat))(k:Nat):((som l).map (·.2)).count (some k)=(l.map (·.2)).count k:=by
 induction l with
 | nil=>rfl
 | cons a r b=>
  show((some a.2)::(som r).map (·.2)).count (some k)=(a.2::r.map (·.2)).count k
  rw[QJ,QJ,b];by_cases e:a.2=k
  ·rw[e];simp
  ·simp[e]
theorem Cnt2.step{J:Job}{st:Nat->Int}{s:(Nat->Int)×List (Nat×Option Nat)}(h:Cnt2 st s)(p:Nat×Nat):Cnt2 st (s2 J s p):=by
 unfold s2;split
 ·exact h
 ·split
  ·intro k
   have hk:=h k;show((((s.2++[(p.1,none)]).map (fun q:Nat×Option Nat=>q.2)).count (some k):Nat):Int)+s.1 k=st k
   rw[zQ,Xz,show(([(p.1,none)]:List (Nat×Option Nat)).map fun q=>q.2).count (some k)=0 from rfl]
   omega
  ·rename_i f r e
   intro k;have hk:=h k;show((((s.2++[(p.1,some f)]).map (fun q:Nat×Option Nat=>q.2)).count (some k):Nat):Int)+upF s.1 f (s.1 f-1) k=st k
   rw[zQ,Xz];unfold upF;by_cases e:k=f
   ·subst e
    rw[zx rfl,show(([(p.1,some k)]:List (Nat×Option Nat)).map fun q=>q.2).count (some k)=1 by simp]
    omega
   ·rw[zr e,show(([(p.1,some f)]:List (Nat×Option Nat)).map fun q=>q.2).count (some k)=0 by
     rw[ji,wF];exact List.count_eq_zero.mpr (by simpa using e)]
    omega
theorem zgS(J:Job)(st:Nat->Int)(all b:List (Nat×Nat)):Cnt2 st (P2 J st all b):=by
 unfold P2;have:∀(b:List (Nat×Nat)) s,Cnt2 st s->Cnt2 st (b.foldl (s2 J) s):=by
  intro b;induction b with
  | nil=>intro s h;exact h
  | cons p r c=>intro s h;exact c _ (h.step p)
 refine this b _ fun k=>?_
 show((((som (P1 st all).2).map (·.2)).count (some k):Nat):Int)+(P1 st all).1 k=st k
 rw[zdS];exact zgT st all k
structure Ky2(st:Nat->Int)(all ps:List (Nat×Nat))(s:(Nat->Int)×List (Nat×Option Nat)):Prop where
 nd:(s.2.map (·.1)).Nodup
 al:∀p∈ps,p.1∈s.2.map (·.1)
 sub:∀x∈s.2.map (·.1),x∈all.map (·.1)
 non:∀q∈s.2,q.2=none->q.1∈ps.map (·.1)
 len:s.2.length<=all.length
theorem Ju{l m:List Nat}(h:l.Nodup)(b:∀x∈l,x∈m):l.length<=m.length:=h.length_le_of_subset b
theorem Ky2.step{J:Job}{st:Nat->Int}{all w:List (Nat×Nat)}{s:(Nat->Int)×List (Nat×Option Nat)}(h:Ky2 st all w s){p:Nat×Nat}(hp:p∈all):Ky2 st all (w++[p]) (s2 J s p):=by
 have l:∀{v:Option Nat} (q:Nat×Option Nat),q∈s.2++[(p.1,v)]->q∈s.2\/q.1=p.1:=fun q hq=>by
  rcases qM.mp hq with h1 | h1
  ·exact .inl h1
  ·rw[qg.mp h1];exact .inr rfl
 have c:∀(g:Nat->Int) (v:Option Nat),p.1∉s.2.map (·.1)->Ky2 st all (w++[p]) (g,s.2++[(p.1,v)]):=fun g v f=>by
  have A:((s.2++[(p.1,v)]).map (·.1)).Nodup:=by
   rw[zQ];refine QM.mpr ⟨h.nd,by simp,fun a B b hb=>?_⟩
   rw[ji,wF,qg] at hb;intro e;exact f (by rw[<- hb,<- e];exact B)
  have sub:∀x∈(s.2++[(p.1,v)]).map (·.1),x∈all.map (·.1):=fun x hx=>by
   rw[zQ] at hx;rcases qM.mp hx with h1 | h1
   ·exact h.sub x h1
   ·rw[ji,wF,qg] at h1
    rw[h1];exact zP.mpr ⟨p,hp,rfl⟩
  refine⟨A,fun q hq=>?_,sub,fun q hq e=>?_,?_⟩
  ·rw[zQ]
   rcases qM.mp hq with h1 | h1
   ·exact j3 _ (h.al q h1)
   ·rw[qg.mp h1]
    exact qD _ (qg.mpr rfl)
  ·rw[zQ]
   rcases l q hq with h1 | h1
   ·exact j3 _ (h.non q h1 e)
   ·exact qD _ (by rw[h1];exact qg.mpr rfl)
  ·have:=Ju A sub
   rw[zn,zn] at this;exact this
 unfold s2;split
 ·rename_i j
  refine⟨h.nd,fun q hq=>?_,h.sub,fun q hq e=>?_,h.len⟩
  ·rcases qM.mp hq with h1 | h1
   ·exact h.al q h1
   ·rw[qg.mp h1];exact j
  ·rw[zQ]
   exact j3 _ (h.non q hq e)
 ·rename_i f
  split
  ·exact c _ _ f
  ·exact c _ _ f
theorem zeP{st:Nat->Int}{all:List (Nat×Nat)}(h:(all.map (·.1)).Nodup):Ky2 st all [] ((P1 st all).1,som (P1 st all).2):=by
 have c:=XS st all;refine⟨?_,(fun p hp=>nomatch hp),fun x hx=>?_,fun q hq e=>?_,?_⟩
 ·show((som (P1 st all).2).map (·.1)).Nodup
  rw[Vg];exact(c.map (·.1)).nodup h
 ·have b:x∈(som (P1 st all).2).map (·.1):=hx
  rw[Vg] at b;exact(c.map (·.1)).subset b
 ·obtain⟨u,_,rfl⟩:=zP.mp (show q∈som (P1 st all).2 from hq)
  cases e
 ·show(som (P1 st all).2).length<=_
  unfold som;rw[zn];exact c.length_le
theorem XR{J:Job}{st:Nat->Int}{all:List (Nat×Nat)}(h:(all.map (·.1)).Nodup):∀{i:Nat},i<=all.length->Ky2 st all (all.take i) (P2 J st all (all.take i))
 | 0,_=>zeP h
 | i+1,f=>by
  have c:=XR (J:=J) (st:=st) h (i:=i) (by omega)
  obtain⟨p,b⟩:∃p,all[i]? =some p:=⟨all[i]'(by omega),qP (by omega)⟩
  rw[qr b,zaG];exact c.step (zY b)
def oI(o:Option Nat):Option Int:=o.map fun k:Nat=>(k:Int)
def dkO(b:List (Nat×Option Nat)):List (Key×V):=b.map fun q=>(Sum.inl (q.1:Int),wW (oI q.2))
def lkF(b:List (Nat×Option Nat))(p:Nat):Option (Option Nat):=(b.find? fun q=>decide (q.1=p)).map (·.2)
theorem wS(p:Nat):∀b:List (Nat×Option Nat),qX (dkO b) (Sum.inl (p:Int))=(lkF b p).map fun o=>wW (oI o)
 | []=>rfl
 | q::r=>by
  by_cases e:q.1=p
  ·rw[show lkF (q::r) p=some q.2 by unfold lkF;rw[wI,zX e];rfl]
   exact jv (p:=(Sum.inl (q.1:Int),wW (oI q.2))) (by rw[e])
  ·rw[show lkF (q::r) p=lkF r p by unfold lkF;rw[wI,qZ e],<- wS p r]
   exact jw (p:=(Sum.inl (q.1:Int),wW (oI q.2))) (fun z=>e (by
    have c:=vK z;exact QG c))
theorem yF{b:List (Nat×Option Nat)}{p:Nat}:lkF b p=none↔p∉b.map (·.1):=by
 unfold lkF;rw[Option.map_eq_none_iff,Ye];constructor
 ·intro h c
  obtain⟨q,hq,e⟩:=zP.mp c;exact h q hq (zX e)
 ·intro h q hq e
  exact h (zP.mpr ⟨q,hq,ju e⟩)
theorem zem{b:List (Nat×Option Nat)}{p:Nat}{o:Option Nat}(h:lkF b p=some o):(p,o)∈b:=by
 unfold lkF at h;obtain⟨q,e,rfl⟩:=qS.mp h;have h1:=WZ e;have c:=Yu e;have:q.1=p:=ju h1;rw[<- this];exact c
theorem zey{b:List (Nat×Option Nat)}{p:Nat}{o:Option Nat}(h:p∉b.map (·.1)):jQ (dkO b) (Sum.inl (p:Int)) (wW (oI o))=dkO (b++[(p,o)]):=by
 rw[Z8 _ (by rw[wS,yF.mpr h];rfl)]
 unfold dkO;rw[zQ];rfl
def jS(b:List (Nat×Option Nat)):List Nat:=(b.filter fun q=>decide (q.2=none)).map (·.1)
theorem zaZ(b:List (Nat×Option Nat))(p:Nat)(o:Option Nat):jS (b++[(p,o)])=jS b++(match o with | some k=>[] | none=>[p]):=by
 unfold jS;rw[wB,zQ];cases o<;>rfl
theorem zbm{b:List (Nat×Option Nat)}{p:Nat}:p∈jS b↔(p,none)∈b:=by
 unfold jS;rw[zP];constructor
 ·rintro⟨q,hq,rfl⟩
  obtain⟨h1,c⟩:=jD.mp hq;have:q.2=none:=ju c;rw[<- this];exact h1
 ·intro h
  exact⟨(p,none),jD.mpr ⟨h,zX rfl⟩,rfl⟩
open Classical in
noncomputable def JZ (b:List (Int×Int)) (c:List Nat) (p:Nat):Bool:=decide (∃j∈c,∃k,Wk b k (j:Int) (p:Int))
open Classical in
theorem Vq{b:List (Int×Int)}{c:List Nat}{p:Nat}:JZ b c p=true↔∃j∈c,∃k,Wk b k (j:Int) (p:Int):=by
 unfold JZ;exact vN
def fdN(b:List (Nat×Option Nat))(p:Nat):Nat:=((lkF b p).getD none).getD 0
noncomputable def yE (c:List (Nat×Option Nat)) (b:Nat->Bool) (t:qw):qw:=⟨(t.pk.filter fun p=>!b p.1).map fun p=>(p.1,fdN c p.1),t.ly.filter fun p=>!b p⟩
noncomputable def xZ (b:List (Nat×Option Nat)) (c:Nat->Bool) (f:List qw):List qw:=(f.map (yE b c)).filter fun t=>!t.pk.isEmpty
def zp(b:List qw):List (Nat×Nat):=b.flatMap (·.pk)
def srt(l:List Int):List Int:=l.mergeSort fun a b=>decide (a<=b)
theorem wc(l:List Int):(srt l).Perm l:=List.mergeSort_perm _ _
theorem zfE(l:List Int):(srt l).Pairwise (·<= ·):=by
 have:=List.pairwise_mergeSort (le:=fun a b:Int=>decide (a<=b)) (fun a b c h1 f=>zX (Int.le_trans (ju h1) (ju f))) (fun a b=>by
  rcases Int.le_total a b with h | h
  ·rw[zX h];rfl
  ·rw[zX h,Bool.or_true]) l
 exact this.imp fun h=>ju h
theorem zcI{a b:List Int}(h:a.Perm b)(c:a.Pairwise (·<= ·))(hb:b.Pairwise (·<= ·)):a=b:=by
 induction a generalizing b with
 | nil=>exact(List.Perm.nil_eq h)
 | cons x a g=>
  cases b with
  | nil=>exact absurd h.length_eq (by simp)
  | cons y b=>
   rw[Yh] at c hb;have j:x=y:=by
    have h1:y∈x::a:=h.mem_iff.mpr jb;have f:x∈y::b:=h.mem_iff.mp jb;rcases zR.mp h1 with z | z
    ·exact z.symm
    ·rcases zR.mp f with u | u
     ·exact u
     ·have:=c.1 y z
      have:=hb.1 x u;omega
   subst j;rw[g (List.Perm.cons_inv h) c.2 hb.2]
theorem zbY{b l:List Int}(h:b.Perm l)(hp:b.Pairwise (·<= ·)):b=srt l:=zcI (h.trans (wc l).symm) hp (zfE l)
def nI(l:List Nat):List Int:=l.map fun k:Nat=>(k:Int)
noncomputable def xw (b:List (Nat×Option Nat)) (c:Nat->Bool) (f:List (Nat×Nat)):List Nat:=(f.filter fun p=>!c p.1&&decide (fdN b p.1≠p.2)).map (·.1)
noncomputable def yW (b:Nat->Bool) (c:List (Nat×Nat)):List Nat:=(c.map (·.1)).filter b
noncomputable def Jv (f:List (Nat×Option Nat)) (b:Nat->Bool) (c:List qw):Dat:=.tup [.lst ((xZ f b c).map jm),.lst ((srt (nI (xw f b (zp c)))).map Dat.int),.lst ((srt (nI (yW b (zp c)))).map Dat.int)]
end L2
namespace L2
open PySem PySem.Spec PyProof.Rows
theorem Qz(b:List qw)(t:qw):zp (b++[t])=zp b++t.pk:=by
 unfold zp;rw[XC];simp
theorem WU(b:List qw)(i:Nat):(zp (b.take i)).length<=(zp b).length:=by
 have e:zp b=zp (b.take i)++zp (b.drop i):=by
  unfold zp;rw[<- XC,List.take_append_drop]
 rw[e,zS];omega
theorem Same.put{m:Addr}{H b:Hp}{o:HO}(s:Same H b)(h:H m=Option.none):Same H (upd b m o):=fun c u e=>by
 rw[zm (zj e h)];exact s c u e
section
variable{P:Program}{w:World}{K:W.Frag}{I:Str->Option Value}{G:Heap}
theorem wO{H:Hp}{t:qw}{x:V}(h:Rep K H (jm t) x):∃a b c f g,x=.ref a/\SqT K H a [.ref b,.ref c]/\SqT K H b f/\Reps K H (t.pk.map jq) f/\SqT K H c g/\Reps K H (t.ly.map Qj) g:=by
 obtain⟨a,M,rfl,s,N,L,j,l,O,D,e1,h1,e2⟩:=h;subst j e1;cases(show D=[] from e2)
 obtain⟨b,f,rfl,A,E⟩:=l;obtain⟨c,g,rfl,B,J⟩:=h1;exact⟨a,b,c,f,g,rfl,s,A,E,B,J⟩
inductive zb5(K:W.Frag)(f:List V)(H:Hp)(Q:VK):Prop
 | mk (l:Addr) (g:List V) (c:List qw) (_:f=[.ref l]) (_:SqL K H l g) (_:Reps K H (c.map jm) g) (_:(zp c).length<=60) (_:∀(p:Addr) (j:List V) b,Same H b->H p=none->b p=some (.lst j)->Reps K b ((zp c).map jq) j->Q (.ref p) b):zb5 K f H Q
def zdR(K:W.Frag):Sp:=fun b H Q _=>zb5 K b H Q
theorem zhq:zy ["plan"] ["plan"] (zq (topL 33)):=u3
theorem zhU{f:Addr}{fd:FuncData}(F:Fun K "picks_in" "picks_in" (topL 33) f fd)(B:Blt I):FnOk P w K I G CX0 1 f fd ["plan"] (zdR K):=by
 have nd:=zhq.nd;refine F.ok zhq (fun vs H Q E h=>?_) (fun aa A Y s H vs Q E hr h=>?_)
 ·obtain⟨l,U,O,rfl,_⟩:=h
  rfl
 ·obtain⟨l,U,O,rfl,hl,rl,al,k⟩:=h
  have a0:=bG1000000;have ll:=rl.len;rw[zn] at ll;refine⟨_,(zk (zw (zd4 [] [] rfl rfl (by kernel_rfl) (qH (pv 0)) (fun _ _ _ _=>qQ) (fun _ _ _ _=>(zae (K:=K) rfl (pv 0))) (fun _ _ _ _=>qQ) (fun _ _ _ _=>(pv 2))))),?_⟩
  refine⟨_,rfl,l,rfl,⟨_,hl⟩,zda (K:=K) (a:=l) (xs:=U) (fun i N J=>Reps K J ((zp (O.take i)).map jq) N/\Same H J) ⟨rfl,u6 _⟩ (fun i N J ⟨_,D⟩=>D.seq hl) ?_ ?_⟩
  ·rintro i x N J hx ⟨L,D⟩
   obtain⟨d,e1,r1⟩:=(rl.same D).get hx;rw[qm] at e1;obtain⟨t,et,rfl⟩:=qS.mp e1;obtain⟨a,b,c,ps,ys,rfl,qa,qb,rb,qc,rc⟩:=wO r1;have lb:=rb.len;rw[zn] at lb;have zl:=L.len;rw[zn] at zl;have le1:=WU O (i+1);rw[qr et,Qz,zS] at le1;refine⟨a,_,rfl,qa,rfl,_,_,rfl,_,_,rfl,rfl,rfl,?_⟩
   refine⟨_,rfl,b,rfl,⟨_,qb⟩,zgz (K:=K) (a:=b) (xs:=ps) (fun j T M=>Reps K M ((zp (O.take i)++t.pk.take j).map jq) T/\Same J M) ⟨by simpa using L,u6 _⟩ (fun j T M ⟨_,s2⟩=>s2.sqT qb) ?_ ?_⟩
   ·rintro j y T M hy ⟨g,s2⟩
    obtain⟨d2,e2,r2⟩:=(rb.same s2).get hy;rw[qm] at e2;obtain⟨p,ep,rfl⟩:=qS.mp e2;have hj:=(zK.mp ep).1;have wl:=g.len;rw[zn,zS,qC] at wl;refine⟨⟨rfl,rfl,trivial⟩,?_⟩
    refine⟨_,rfl,by omega,?_,s2⟩
    rw[qr ep,<- Zj,zQ (l₂:=[p])];exact g.snoc r2
   ·rintro T M ⟨g,s2⟩
    refine⟨?_,D.trans s2⟩
    rw[lb,qW] at g;rw[qr et,Qz];exact g
  rintro N J ⟨L,D⟩;rw[ll,qW] at L;have zl:=L.len;rw[zn] at zl;exact⟨by omega,fun p hp=>k p N _ (D.trans (zd hp)) (D.free hp) zc (L.same (zd hp))⟩
def kpN(l:List (Nat×Nat)):List (Key×V):=l.map fun q=>(Sum.inl (q.1:Int),V.int (q.2:Int))
inductive zb0(K:W.Frag)(g:List V)(H:Hp)(Q:VK):Prop
 | mk (l c:Addr) (j:List V) (f:List qw) (n:Nat) (st:Nat->Int) (_:g=[.ref l,.ref c]) (_:SqL K H l j) (_:Reps K H (f.map jm) j) (_:(zp f).length<=60) (_:SqL K H c (jf n st)) (_:n<=100) (_:(∀p∈zp f,p.2<n)) (_:∀(p:Addr) (s:List V) b,Same H b->H p=none->b p=some (.lst s)->PrsL b s (kpN (P1 st (zp f)).2)->Q (.ref p) b):zb0 K g H Q
def zg8(K:W.Frag):Sp:=fun b H Q _=>zb0 K b H Q
theorem zhm:zy ["plan","stock","taken","stay","part","feeder"] ["plan","stock"] (zq (topL 34)):=u3
def zaY(l:_)(c:_)(g:_)(f:_)(H:_)(A:_)(B:_)(J:_)(n:_)(st:_)(j:_):=fun(i:Nat) (σ:St) (b:Hp)=>(Ex3 fun(D E:Option V) (s:List V)=>An7 (σ=[some (.ref l),some (.ref c),some (.ref g),some (.ref f),D,E]) (Same H b) (SameT A b) (b B=some (.lst J)) (b g=some (.lst (jf n fun k=>st k-(P1 st ((zp j).take i)).1 k))) (b f=some (.lst s)) (PrsL b s (kpN (P1 st ((zp j).take i)).2)):Prop)
theorem zhP{f:Addr}{fd:FuncData}(F:Fun K "staying_picks" "staying_picks" (topL 34) f fd)(B:Blt I)(D:Dfn P w K I G "picks_in" 1 ["plan"] (zdR K)):FnOk P w K I G CX0 2 f fd ["plan","stock"] (zg8 K):=by
 have nd:=zhm.nd;refine F.ok zhm (fun vs H Q E h=>?_) (fun as A ao s H vs Q E hr h=>?_)
 ·obtain⟨l,c,xs,b,n,st,rfl,_⟩:=h
  rfl
 ·obtain⟨l,c,xs,b,n,st,rfl,hl,rl,al,hc,n1,fn,k⟩:=h
  have ar:=bG1000000;refine⟨_,(ze (JW [] [] rfl rfl (by kernel_rfl) (qH (pv 1)) (fun _ _ _ _=>qQ) (fun _ _ _ _=>zi) (zu (i:=2) nd rfl (Or.inl rfl)))
   (ze (zA (i:=3) nd rfl (Or.inl rfl) (z7 zb))
   (ze (jA jU rfl (qH (zg D hr.m rfl (za (pv 0) zb))) (jd rfl (zt (zu (i:=4) nd rfl (Or.inl rfl)) (zt (zu (i:=5) nd rfl (Or.inl rfl)) qA)))
   (zk (jn (zI Vr (zL z9 (pv 2) (pv 5) (fun _ _=>rfl)) (zL z9 (pv 1) (pv 5) (fun _ _=>rfl)) (zH _))
    (ze (zdZ (pv 2) (pv 5) zde zi zgx we)
     (zk (qN (xo j4 vh vg qE (pv 3) (za (qJ (za (pv 4) (za (pv 5) zb))) zb)))))
    zZ)))
   (zk (zw (pv 3)))))),?_⟩
  refine⟨_,rfl,c,rfl,⟨_,hc⟩,jI (K:=K) (a:=c) (xs:=jf n st) (fun i M H1=>M=jf i (fun _=>0)/\Same H H1) ⟨rfl,u6 _⟩ (fun i M H1 ⟨_,sm⟩=>sm.seq hc) ?_ ?_⟩
  ·rintro i x M H1 hx ⟨rfl,sm⟩
   have il:=(zK.mp hx).1;rw[jK] at il;refine⟨rfl,by rw[jK];omega,?_,sm⟩
   unfold jf;rw[QI,zQ];rfl
  rintro M H1 ⟨e1,sm⟩;rw[jK n st] at e1;subst e1;refine⟨by rw[jK];omega,fun g ae=>⟨le0,fun N Y=>?_⟩⟩
  have ab:g≠N:=zj zc Y;have aq:H g=none:=sm.free ae;have ah:H N=none:=sm.free (by rw[<- Y,zm (zM ab)])
  have T2:upd (upd H1 g (.lst (jf n fun _=>0))) N (.lst []) g=some (.lst (jf n fun _=>0)):=(zd Y) _ _ zc
  have Y2:upd (upd H1 g (.lst (jf n fun _=>0))) N (.lst []) N=some (.lst []):=zc
  have s2:=(sm.trans (zd (o:=.lst (jf n fun _=>0)) ae)).trans (zd (o:=.lst []) Y)
  generalize upd (upd H1 g (.lst (jf n fun _=>0))) N (.lst [])=H2 at *
  refine⟨_,rfl,l,xs,b,rfl,s2.seq hl,rl.same s2,al,fun pl ys H3 s3 af ac rp=>?_⟩
  have an:pl≠g:=zM (zj T2 af);have am:pl≠N:=zM (zj Y2 af);have lp:=rp.len;rw[zn] at lp;refine⟨pl,rfl,⟨_,u4 ac⟩,xE (K:=K) (a:=pl) (xs:=ys) (zaY l c g N H H3 pl ys n st b) ⟨_,_,[],rfl,s2.trans s3,SameT.refl _,ac,?_,s3 _ _ Y2,PrsL.nil⟩ (fun i σ H4 _ ⟨_,_,_,_,_,_,h,_,_,_⟩=>u4 h) ?_ ?_⟩
  ·rw[s3 _ _ T2]
   have e0:(fun k=>st k-(P1 st ((zp b).take 0)).1 k)=fun _=>0:=funext fun k=>by
    show st k-st k=0;omega
   rw[e0]
  ·rintro i x σ H4 hx ⟨v4,v5,M,rfl,s4,T4,aa,J,a0,L⟩
   obtain⟨d,e1,r1⟩:=(rp.keep T4 (qo _)).get hx;rw[qm] at e1;obtain⟨p,ep,rfl⟩:=qS.mp e1;obtain⟨pa,rfl,qp⟩:=j8 r1;have il:=(zK.mp ep).1;have pf:=fn p (zY ep);have ai:=s4.seq hc;have es:P1 st ((zp b).take (i+1))=s1 (P1 st ((zp b).take i)) p:=by rw[qr ep,zeO]
   have zl:M.length<=60:=by
    have h1:=L.1;have U:=(XS st ((zp b).take i)).length_le;rw[qC] at U;unfold kpN at h1;rw[zn] at h1;omega
   refine⟨pa,_,rfl,qp,rfl,_,_,rfl,_,_,rfl,rfl,?_⟩
   refine⟨_,rfl,_,rfl,g,_,_,_,rfl,rfl,u4 J,JU pf,_,rfl,_,rfl,c,_,_,_,rfl,rfl,ai,JU pf,_,_,rfl,rfl,_,rfl,xg (fun cc=>?_) (fun cc=>?_)⟩
   ·have c':0<(P1 st ((zp b).take i)).1 p.2:=by have:=ju cc;omega
    refine⟨_,rfl,_,rfl,g,_,p.2,_,rfl,rfl,u4 J,xX pf,_,_,rfl,rfl,g,_,_,p.2,rfl,rfl,J,by rw[jK];exact Xa pf,?_⟩
    rw[zcu pf];have eg:upF (fun k=>st k-(P1 st ((zp b).take i)).1 k) p.2 (st p.2-(P1 st ((zp b).take i)).1 p.2+1)=fun k=>st k-(P1 st ((zp b).take (i+1))).1 k:=funext fun k=>by
     rw[es,s1,zx c'];unfold upF;show(if k=p.2 then _ else _)=st k-(if k=p.2 then _ else _)
     by_cases e:k=p.2
     ·rw[zx e,zx e,e];omega
     ·rw[zr e,zr e]
    rw[eg];have s5:=s4.put (o:=.lst (jf n fun k=>st k-(P1 st ((zp b).take (i+1))).1 k)) aq
    have T5:=T4.trans (ub (ys:=jf n fun k=>st k-(P1 st ((zp b).take (i+1))).1 k) J)
    have aj:upd H4 g (.lst (jf n fun k=>st k-(P1 st ((zp b).take (i+1))).1 k)) pl=some (.lst ys):=by rw[zm an];exact aa
    have ak:upd H4 g (.lst (jf n fun k=>st k-(P1 st ((zp b).take (i+1))).1 k)) g=some (.lst (jf n fun k=>st k-(P1 st ((zp b).take (i+1))).1 k)):=zc
    have O:upd H4 g (.lst (jf n fun k=>st k-(P1 st ((zp b).take (i+1))).1 k)) N=some (.lst M):=by rw[zm (zM ab)];exact a0
    have ap:PrsL (upd H4 g (.lst (jf n fun k=>st k-(P1 st ((zp b).take (i+1))).1 k))) M (kpN (P1 st ((zp b).take i)).2):=⟨L.1,fun j x e=>by
     obtain⟨T,kk,v,h1,U,h3⟩:=L.2 j x e;exact⟨T,kk,v,h1,by rw[zm (fun z=>by rw[z,J] at U;cases U)];exact U,h3⟩⟩
    generalize upd H4 g (.lst (jf n fun k=>st k-(P1 st ((zp b).take (i+1))).1 k))=H5 at *
    refine⟨_,rfl,.inl ⟨rfl,_,u4 O⟩,_,rfl,_,rfl,le2,fun q hq=>?_⟩
    have s6:=zd (H:=H5) (o:=.tup [.int p.1,.int p.2]) hq;have au:q≠N:=zM (zj O hq);refine⟨N,M,.ref q,rfl,rfl,s6 _ _ O,by omega,_,_,M++[.ref q],rfl,(s5.trans s6).put ah,(T5.trans (SameT.of s6)).trans (ub (s6 _ _ O)),?_,?_,zc,?_⟩
    ·rw[zm am];exact s6 _ _ aj
    ·rw[zm ab];exact s6 _ _ ak
    ·rw[es,s1,zx c',show kpN ((P1 st ((zp b).take i)).2++[p])=kpN (P1 st ((zp b).take i)).2++[(Sum.inl (p.1:Int),V.int (p.2:Int))] by unfold kpN;rw[zQ];rfl]
     have ag:=(ap.same s6).snoc (T:=q) (k:=Sum.inl (p.1:Int)) (v:=V.int (p.2:Int)) zc;exact⟨ag.1,fun j x e=>by
      obtain⟨T,kk,v,h1,U,h3⟩:=ag.2 j x e;exact⟨T,kk,v,h1,by rw[zm (fun z=>by rw[z,s6 _ _ O] at U;cases U)];exact U,h3⟩⟩
   ·have c':¬0<(P1 st ((zp b).take i)).1 p.2:=fun z=>cc (zX (by omega))
    refine⟨_,_,M,rfl,s4,T4,aa,?_,a0,?_⟩
    ·rw[J,es,s1,zr c']
    ·rw[es,s1,zr c'];exact L
  ·rintro σ H4 ⟨v4,v5,M,rfl,s4,T4,aa,J,a0,L⟩
   rw[lp,qW] at L;exact⟨_,rfl,k N M H4 s4 ah a0 L⟩
theorem Qn:∀(c b:List (Key×V)),((b++c).map (·.1)).Nodup->jM b c=b++c
 | [],b,_=>by rw[jZ];rfl
 | q::r,b,h=>by
  have e:b++q::r=(b++[q])++r:=by simp
  have l:q.1∉b.map (·.1):=by
   rw[zQ,ji] at h;obtain⟨_,_,g⟩:=QM.mp h;exact fun j=>g _ j _ jb rfl
  have hv:qX b q.1=none:=by
   unfold qX;rw[Option.map_eq_none_iff,Ye];intro x hx f;exact l (zP.mpr ⟨x,hx,ju f⟩)
  show jM (jQ b q.1 q.2) r=_;rw[Z8 _ hv,e];exact Qn r (b++[q]) (by rw[<- e];exact h)
theorem zeq(l:List (Nat×Nat)):kpN l=dkO (som l):=by
 unfold kpN dkO som;rw[xH];rfl
theorem zbo{l:List (Nat×Nat)}(h:(l.map (·.1)).Nodup):((kpN l).map (·.1)).Nodup:=by
 unfold kpN;rw[xH];have:(l.map ((fun p:Key×V=>p.1)∘fun q:Nat×Nat=>(Sum.inl (q.1:Int),V.int (q.2:Int))))=(l.map (·.1)).map fun k:Nat=>(Sum.inl (k:Int):Key):=by rw[xH];rfl
 rw[this];exact List.Pairwise.map _ (fun a b z y=>z (QG (vK y))) h
theorem zdn(l:List (Option Nat))(k:Nat):(l.map oI).count (some (k:Int))=l.count (some k):=by
 induction l with
 | nil=>rfl
 | cons a r b=>
  rw[ji,QJ,QJ,b];cases a with
  | none=>rfl
  | some j=>
   have e:(oI (some j)==some (k:Int))=(some j==some k):=by
    rw[va,jT,jT];constructor
    ·intro h
     have:=jt (show some (j:Int)=some (k:Int) from h)
     rw[QG this]
    ·intro h
     rw[jt h];rfl
   rw[e]
theorem zer{J:Job}{p:Nat}{b:ZM}(h:J.ps[p]? =some b):zes J p=b.k:=by unfold zes;rw[h];rfl
theorem xc{α:Type}(f:α->Bool){l:List α}{i:Nat}{x:α}(h:l[i]? =some x):(l.take (i+1)).filter f=(l.take i).filter f++(if f x=true then [x] else []):=by
 rw[qr h,wB];cases b:f x
 ·rw[QT (by rw[b];exact qO)];rfl
 ·rw[QU b];rfl
theorem zgO(fs:List xn)(b:Str)(n:Nat):(atK fs b n).Pairwise (·< ·):=List.Pairwise.filter _ Yq
theorem zfK(J:Job)(p:Nat)(b:Nat->Int):(rdy J p b).Pairwise (·< ·):=List.Pairwise.filter _ (zgO _ _ _)
structure Brk(J:Job)(ts:List qw):Prop where
 al:(zp ts).length<=60
 nd:((zp ts).map (·.1)).Nodup
 ok:∀p∈zp ts,p.1<J.ps.length/\p.2<J.fs.length
 fl:J.fs.length<=60
def qK(J:Job)(st:Nat->Int)(b:List qw):List (Nat×Option Nat):=(P2 J st (zp b) (zp b)).2
inductive zb6(K:W.Frag)(j:List V)(H:Hp)(Q:VK):Prop
 | mk (g l c:Addr) (J:Job) (s:List V) (f:List qw) (st:Nat->Int) (_:j=[.ref g,.ref l,.ref c]) (_:Rep K H (vw J) (.ref g)) (_:SqL K H l s) (_:Reps K H (f.map jm) s) (_:Brk J f) (_:SqL K H c (jf J.fs.length st)) (_:∀(p:Addr) (o:Obj) b,Same H b->H p=none->b p=some (.frz o (.dK (dkO (qK J st f))))->Q (.ref p) b):zb6 K j H Q
def zhb(K:W.Frag):Sp:=fun b H Q _=>zb6 K b H Q
theorem zhr:zy ["job","plan","stock","feeders","part","feeder","taken","ready"] ["job","plan","stock"] (zq (topL 35)):=u3
def zaX(j:_)(l:_)(c:_)(d:_)(H:_)(g:_)(s:_)(L:_)(J:_)(st:_)(f:_):=fun(i:Nat) (σ:St) (b:Hp)=>(Ex4 fun(A B D E:Option V)=>An5 (σ=[some (.ref j),some (.ref l),some (.ref c),some (.ref d),A,B,D,E]) (Same H b) (SameT g b) (b s=some (.lst L)) (b d=some (.dK (dkO (P2 J st (zp f) ((zp f).take i)).2))):Prop)
theorem zhV{f:Addr}{fd:FuncData}(F:Fun K "new_feeders" "new_feeders" (topL 35) f fd)(B:Blt I)(O:Dfn P w K I G "picks_in" 1 ["plan"] (zdR K))(D:Dfn P w K I G "staying_picks" 2 ["plan","stock"] (zg8 K))(N:Dfn P w K I G "feeders_for" 1 ["job","kind"] (ze0 K)):FnOk P w K I G CX0 3 f fd ["job","plan","stock"] (zhb K):=by
 have nd:=zhr.nd;refine F.ok zhr (fun vs H Q E h=>?_) (fun bg A az s H vs Q E hr h=>?_)
 ·obtain⟨jp,l,c,J,xs,M,st,rfl,_⟩:=h
  rfl
 ·obtain⟨jp,l,c,J,xs,M,st,rfl,rj,hl,rl,bk,hc,k⟩:=h
  have bf:=bG1000000;have an:=hr.units;have am:=Zs hr;have al:=bk.al;have fl:=bk.fl;refine⟨_,(ze (zA (i:=3) nd rfl (Or.inl rfl) (zW (WR hr.hd) rfl B.dict zbG (za (zg D hr.m rfl (za (pv 1) (za (pv 2) zb))) zb)))
   (ze (jA jU rfl (qH (zg O hr.m rfl (za (pv 1) zb))) (jd rfl (zt (zu (i:=4) nd rfl (Or.inl rfl)) (zt (zu (i:=5) nd rfl (Or.inl rfl)) qA)))
   (zk (jn (Wv (Jr am (pv 4) (pv 3)))
    (ze (zA (i:=6) nd rfl (Or.inr rfl) (zW (WQ hr.hd) rfl B.list jy (za (zcM PySem.F.slot_dict_values PySem.F.type_dict_values zbi (pv 3)) zb)))
     (ze (JW ["stock","taken"] [2,6] rfl rfl (by kernel_rfl) (qH (zg N hr.m rfl (za (pv 0) (za (zL jC (zL jC (zL jC (pv 0) zi (fun _ _=>rfl)) (pv 4) (fun _ _=>rfl)) zi (fun _ _=>rfl)) zb)))) (fun _ _ _ _=>(j5 (zI Vr (zf3 (K:=K) rfl j4 PySem.F.slot_list_count PySem.F.type_list_count zbl (pv 2) (za (pv 0) zb)) (zL (yG (K:=K) rfl) (pv 1) (pv 0) (fun _ _=>rfl)) (zH _)))) (fun _ _ _ _=>(pv 0)) (zu (i:=7) nd rfl (Or.inl rfl)))
     (zk (zad am (pv 3) (pv 4) (Qc (WP rfl an) rfl B.min V5 (za (pv 7) zb) xK) rfl))))
    zZ)))
   (zk (zw (zf1 (pv 3)))))),?_⟩
  refine⟨_,rfl,_,rfl,l,c,xs,M,_,st,rfl,hl,rl,al,hc,by omega,fun p hp=>(bk.ok p hp).2,fun sy zs H1 aa bj ak pr=>?_⟩
  refine⟨sy,zs,_,rfl,ak,pr,fun d hd=>?_⟩
  have ax:(((P1 st (zp M)).2).map (·.1)).Nodup:=((XS st (zp M)).map (·.1)).nodup bk.nd
  have d0:H d=none:=aa.free hd;have D2:upd H1 d (.dK (jM [] (kpN (P1 st (zp M)).2))) d=some (.dK (dkO (som (P1 st (zp M)).2))):=by rw[zc,Qn _ [] (by rw[QK];exact zbo ax),QK,zeq]
  have ab:=aa.trans (zd (H:=H1) (o:=.dK (jM [] (kpN (P1 st (zp M)).2))) hd);generalize upd H1 d (.dK (jM [] (kpN (P1 st (zp M)).2)))=H2 at *
  clear ak pr aa;refine⟨_,rfl,l,xs,M,rfl,ab.seq hl,rl.same ab,al,fun pl ys H3 s3 b0 ai rp=>?_⟩
  have ay:pl≠d:=zM (zj D2 b0);have lp:=rp.len;rw[zn] at lp;refine⟨pl,rfl,⟨_,u4 ai⟩,xE (K:=K) (a:=pl) (xs:=ys) (zaX jp l c d H H3 pl ys J st M) ⟨_,_,_,_,rfl,ab.trans s3,SameT.refl _,ai,s3 _ _ D2⟩ (fun i σ H4 _ ⟨_,_,_,_,_,_,_,h,_⟩=>u4 h) ?_ ?_⟩
  ·rintro i x σ H4 hx ⟨v4,v5,v6,v7,rfl,s4,T4,a0,L⟩
   obtain⟨dd,e1,r1⟩:=(rp.keep T4 (qo _)).get hx;rw[qm] at e1;obtain⟨p,ep,rfl⟩:=qS.mp e1;obtain⟨pa,rfl,qp⟩:=j8 r1;have il:=(zK.mp ep).1;obtain⟨p1,p2⟩:=bk.ok p (zY ep);have es:P2 J st (zp M) ((zp M).take (i+1))=s2 J (P2 J st (zp M) ((zp M).take i)) p:=by rw[qr ep,zaG]
   have ky:=XR (J:=J) (st:=st) bk.nd (i:=i) (by omega)
   have cn:=zgS J st (zp M) ((zp M).take i);generalize P2 J st (zp M) ((zp M).take i)=S at es ky cn L;refine⟨pa,_,rfl,qp,rfl,_,_,rfl,_,_,rfl,rfl,?_⟩
   refine⟨_,rfl,_,rfl,d,_,rfl,DGet.k (k:=Sum.inl (p.1:Int)) L,_,rfl,xg (fun cc=>?_) (fun cc=>?_)⟩
   ·rw[wS] at cc
    have hn:p.1∉S.2.map (·.1):=by
     refine yF.mp ?_
     cases au:lkF S.2 p.1 with
     | none=>rfl
     | some o=>rw[au] at cc;cases cc
    refine⟨_,rfl,d,rfl,.inl ⟨_,.inl L⟩,d,_,rfl,rfl,.inl L,fun pv aj=>⟨pv,d,_,rfl,zc,.inl ((zd aj) _ _ L),fun tl aw=>?_⟩⟩
    have ev:(dkO S.2).map (·.2)=(S.2.map fun q=>oI q.2).map wW:=by
     unfold dkO;rw[xH,xH];rfl
    have s6:=(zd (H:=H4) (o:=ZV pv d) aj).trans (zd (o:=.lst ((dkO S.2).map (·.2))) aw)
    have L6:upd (upd H4 pv (ZV pv d)) tl (.lst ((dkO S.2).map (·.2))) tl=some (.lst ((S.2.map fun q=>oI q.2).map wW)):=by rw[zc,ev]
    generalize upd (upd H4 pv (ZV pv d)) tl (.lst ((dkO S.2).map (·.2)))=H6 at *
    have ao:=s4.trans s6;obtain⟨g,fs,ps,as,fv,px,qj,_,qf,rf,bb,bc,_⟩:=xV (rj.same ao);obtain⟨U,ac⟩:∃U,J.ps[p.1]? =some U:=⟨J.ps[p.1],qP p1⟩;obtain⟨v,aq,bd⟩:=zdt bc ac;obtain⟨a1,c1,rfl,ba,_⟩:=yV bd;refine⟨_,rfl,_,rfl,jp,_,_,_,rfl,rfl,qj,jh (j:=3) rfl,_,rfl,ps,_,_,_,rfl,rfl,bb,jh aq,a1,_,_,_,rfl,rfl,ba,jh (j:=0) rfl,jp,J,U.k,rfl,rj.same ao,by omega,fun fl H7 bi s7 af=>?_⟩
    have ap:=s6.trans s7;have be:=s4.trans ap;have L7:=s7 _ _ L6;have c7:=be.seq hc;have lf:(zB (atK J.fs U.k J.fs.length)).length=(atK J.fs U.k J.fs.length).length:=zG _;have la:=Xj J.fs U.k J.fs.length;refine⟨fl,rfl,⟨_,u4 af⟩,jI (K:=K) (a:=fl) (xs:=zB (atK J.fs U.k J.fs.length)) (fun i zs H8=>zs=zB (((atK J.fs U.k J.fs.length).take i).filter fun k=>decide (0<S.1 k))/\Same H7 H8) ⟨rfl,u6 _⟩ (fun i zs H8 ⟨_,Y⟩=>u4 (Y _ _ af)) ?_ ?_⟩
    ·rintro j x zs H8 hx ⟨rfl,Y⟩
     obtain⟨kk,ek,rfl⟩:=yD hx;have jl:=(zK.mp ek).1;have kl:kk<J.fs.length:=jJ.mp (jD.mp (zY ek)).1;have bh:=cn kk;have ec:((S.2.map fun q=>oI q.2).count (some (kk:Int)))=(S.2.map (·.2)).count (some kk):=by
      have:(S.2.map fun q=>oI q.2)=(S.2.map (·.2)).map oI:=by rw[xH];rfl
      rw[this];exact zdn _ _
     refine⟨rfl,_,rfl,.inl ⟨rfl,_,u4 (Y _ _ L7)⟩,_,rfl,tl,_,_,rfl,rfl,Y _ _ L7,_,rfl,_,rfl,c,_,_,_,rfl,rfl,Y.seq c7,JU kl,_,_,rfl,rfl,_,rfl,xg (fun c2=>?_) (fun c2=>?_)⟩
     ·have c3:0<S.1 kk:=by
       have:=ju c2;rw[ec] at this;omega
      refine⟨_,rfl,?_,?_,Y⟩
      ·rw[zG]
       exact wD (jz _ _) (by rw[qC];omega)
      ·rw[xc _ ek,zX c3,zx rfl,xu]
     ·have c3:¬0<S.1 kk:=fun z=>c2 (zX (by rw[ec];omega))
      refine⟨?_,Y⟩
      rw[xc _ ek,qZ c3,zr qO,jZ]
    rintro zs H8 ⟨e8,Y⟩;rw[lf,qW,show(atK J.fs U.k J.fs.length).filter (fun k=>decide (0<S.1 k))=rdy J p.1 S.1 by unfold rdy;rw[zer ac]] at e8
    subst e8;have lr:(rdy J p.1 S.1).length<=J.fs.length:=by
     unfold rdy;exact qL (jz _ _) (Xj _ _ _)
    refine⟨by rw[zG];omega,fun rd av=>?_⟩
    have s9:=Y.trans (zd (H:=H8) (o:=.lst (zB (rdy J p.1 S.1))) av);have R9:upd H8 rd (.lst (zB (rdy J p.1 S.1))) rd=some (.lst (zB (rdy J p.1 S.1))):=zc;generalize upd H8 rd (.lst (zB (rdy J p.1 S.1)))=H9 at *
    have T:=ap.trans s9;have ae:∀o:Option Nat,(P2 J st (zp M) ((zp M).take (i+1))).2=S.2++[(p.1,o)]->Ex4 fun(v4 v5 v6 v7:Option V)=>An5 ([some (V.ref jp),some (.ref l),some (.ref c),some (.ref d),some (V.int (p.1:Int)),some (V.int (p.2:Int)),some (V.ref tl),some (V.ref rd)]=[some (.ref jp),some (.ref l),some (.ref c),some (.ref d),v4,v5,v6,v7]) (Same H (upd H9 d (.dK (jQ (dkO S.2) (Sum.inl (p.1:Int)) (wW (oI o)))))) (SameT H3 (upd H9 d (.dK (jQ (dkO S.2) (Sum.inl (p.1:Int)) (wW (oI o)))))) (upd H9 d (.dK (jQ (dkO S.2) (Sum.inl (p.1:Int)) (wW (oI o)))) pl=some (.lst ys)) (upd H9 d (.dK (jQ (dkO S.2) (Sum.inl (p.1:Int)) (wW (oI o)))) d=some (.dK (dkO (P2 J st (zp M) ((zp M).take (i+1))).2))):=fun o eo=>by
     refine⟨_,_,_,_,rfl,(s4.trans T).put d0,(T4.trans (SameT.of T)).trans (SameT.putD (T _ _ L)),?_,?_⟩
     ·rw[zm ay];exact T _ _ a0
     ·rw[zc,eo,zey hn]
    have kl:=ky.len;have dl:(dkO S.2).length<sizeLine:=by
     unfold dkO;rw[zn];omega
    refine⟨_,rfl,rd,nI (rdy J p.1 S.1),rfl,by rw[show(nI (rdy J p.1 S.1)).map V.int=zB (rdy J p.1 S.1) by unfold nI zB;rw[xH];rfl];exact u4 R9,fun e0=>?_,fun m hm ah=>?_⟩
    ·have er:rdy J p.1 S.1=[]:=by
      unfold nI at e0;exact List.map_eq_nil_iff.mp e0
     obtain⟨w4,w5,w6,w7,f1,f2,f3,f4,f5⟩:=ae none (by rw[es,s2,zr hn,er])
     exact⟨_,rfl,_,rfl,d,_,rfl,DPut.k (k:=Sum.inl (p.1:Int)) (T _ _ L) dl,w4,w5,w6,w7,f1,f2,f3,f4,f5⟩
    ·obtain⟨r0,rr,er⟩:∃r0 rr,rdy J p.1 S.1=r0::rr:=by
      cases h0:rdy J p.1 S.1 with
      | nil=>rw[h0] at hm;cases hm
      | cons a b=>exact⟨a,b,rfl⟩
     have pw:=zfK J p.1 S.1;rw[er,Yh] at pw;have em:m=(r0:Int):=by
      have h1:=ah (r0:Int) (by rw[er];exact jb)
      unfold nI at hm;obtain⟨k0,ag,rfl⟩:=zP.mp hm;rw[er] at ag;rcases zR.mp ag with z | z
      ·rw[z]
      ·have:=pw.1 k0 z
       omega
     subst em;obtain⟨w4,w5,w6,w7,f1,f2,f3,f4,f5⟩:=ae (some r0) (by rw[es,s2,zr hn,er])
     exact⟨_,rfl,_,rfl,d,_,rfl,DPut.k (k:=Sum.inl (p.1:Int)) (T _ _ L) dl,w4,w5,w6,w7,f1,f2,f3,f4,f5⟩
   ·rw[wS] at cc
    have ar:p.1∈S.2.map (·.1):=XN fun z=>cc (by rw[yF.mpr z];rfl)
    refine⟨_,_,_,_,rfl,s4,T4,a0,?_⟩
    rw[es,s2,zx ar];exact L
  ·rintro σ H4 ⟨v4,v5,v6,v7,rfl,s4,T4,a0,L⟩
   rw[lp,qW] at L;refine⟨_,rfl,d,_,rfl,L,fun o=>k d o _ (s4.put d0) d0 zc⟩
theorem zh4(os:List Nat):(nI os).map V.int=zB os:=by unfold nI zB;rw[xH];rfl
theorem WH{os:List Nat}{k:Nat}:(k:Int)∈nI os↔k∈os:=by
 unfold nI;rw[zP];exact⟨fun ⟨j,b,e⟩=>by rw[<- QG e];exact b,fun h=>⟨k,h,rfl⟩⟩
theorem Qk(os:List Nat):(nI os).length=os.length:=zn ..
theorem zie(j:Int)(os:List Nat):inV (.int j) (zB os)=decide (j∈nI os):=by
 rw[va,vN];unfold inV;rw[yM];constructor
 ·rintro⟨y,hy,e⟩
  unfold zB at hy;obtain⟨k,hk,rfl⟩:=zP.mp hy;have:((k:Int)==j)=true:=e;rw[<- jT.mp this];exact WH.mpr hk
 ·intro h
  unfold nI at h;obtain⟨k,hk,rfl⟩:=zP.mp h;exact⟨.int (k:Int),zP.mpr ⟨k,hk,rfl⟩,(show((k:Int)==(k:Int))=true from beq_self_eq_true _)⟩
theorem zeL{f:List (Int×Int)}{c:List Nat}{p:Nat}{l:List Int}(h:∀j,j∈l↔j≠(p:Int)/\∃k,Wk f k j (p:Int)):(((p:Int)::l).map fun j=>decide (j∈nI c)).any id=JZ f c p:=by
 rw[va,Vq,yM];constructor
 ·rintro⟨b,hb,e⟩
  obtain⟨j,s,rfl⟩:=zP.mp hb;have g:j∈nI c:=ju e;unfold nI at g;obtain⟨q,hq,rfl⟩:=zP.mp g;rcases zR.mp s with z | z
  ·exact⟨q,hq,0,z⟩
  ·exact⟨q,hq,((h _).mp z).2⟩
 ·rintro⟨q,hq,k,A⟩
  refine⟨true,zP.mpr ⟨(q:Int),?_,zX (WH.mpr hq)⟩,rfl⟩
  by_cases e:(q:Int)=(p:Int)
  ·rw[e];exact jb
  ·exact jc _ ((h _).mpr ⟨e,k,A⟩)
theorem Wg{b:List (Nat×Option Nat)}{i:Nat}{q:Nat×Option Nat}(h:b[i]? =some q):jS (b.take (i+1))=jS (b.take i)++(if q.2=none then [q.1] else []):=by
 rw[qr h,show [q]=[(q.1,q.2)] from rfl,zaZ]
 cases q.2<;>rfl
theorem Q8(b:List (Nat×Option Nat)):(jS b).length<=b.length:=by
 unfold jS;rw[zn];exact jz _ _
inductive zce(K:W.Frag)(j:List V)(H:Hp)(Q:VK):Prop
 | mk (g d:Addr) (o:Obj) (J:Job) (b:List (Nat×Option Nat)) (_:j=[.ref g,.ref d]) (_:Rep K H (vw J) (.ref g)) (_:J.ps.length<=60) (_:(∀q∈asI J,InN J.ps.length q.1/\InN J.ps.length q.2)) (_:J.as.length<=300) (_:H d=some (.frz o (.dK (dkO b)))) (_:b.length<=60) (_:(∀q∈b,q.1<J.ps.length)) (_:∀(l:Addr) (f:List Int) c,Same H c->H l=none->c l=some (.lst (f.map V.int))->f.Perm (nI ((b.map (·.1)).filter (JZ (asI J) (jS b))))->f.Pairwise (·<= ·)->Q (.ref l) c):zce K j H Q
def zhf(K:W.Frag):Sp:=fun b H Q _=>zce K b H Q
theorem zhw:zy ["job","feeders","wanting"] ["job","feeders"] (zq (topL 36)):=u3
theorem zh0{f:Addr}{b:FuncData}(F:Fun K "dropped_parts" "dropped_parts" (topL 36) f b)(B:Blt I)(L:Dfn P w K I G "ahead_of" 3 ["job","part"] (YY K)):FnOk P w K I G CX0 4 f b ["job","feeders"] (zhf K):=by
 have nd:=zhw.nd;refine F.ok zhw (fun vs H Q E h=>?_) (fun aj A ah s H vs Q E hr h=>?_)
 ·obtain⟨jp,d,o,J,b,rfl,_⟩:=h
  rfl
 ·obtain⟨jp,d,o,J,b,rfl,rj,pl,ab,al,hd,fl,fp,k⟩:=h
  have ai:=bG1000000;have dl:(dkO b).length=b.length:=by unfold dkO;rw[zn]
  have O:∀{i:Nat} {kk:Key} {v:V},(dkO b)[i]? =some (kk,v)->∃q,b[i]? =some q/\kk=Sum.inl (q.1:Int)/\v=wW (oI q.2):=fun {i kk v} h=>by
   unfold dkO at h;rw[qm] at h;obtain⟨q,eq,e⟩:=qS.mp h;cases e;exact⟨q,eq,rfl,rfl⟩
  refine⟨_,(ze (zA (i:=2) nd rfl (Or.inr rfl) (vP [] [] rfl rfl (by kernel_rfl) (zd2 (zcM PySem.F.slot_dict_items PySem.F.type_dict_items zbj (pv 1))) (fun _ _ _ _=>(j5 (zI yX (pv 1) xK (zH _)))) (fun _ _ _ _=>(pv 0))))
   (zk (zw (zo vT rfl B.sorted wv (za (jB ["wanting","job"] [2,0] rfl rfl (by kernel_rfl) (zcH (pv 1)) (fun _ _ _ _=>(j5 (qY (zo (WS (K:=K) rfl rfl) rfl B.any V8 (za (jB ["wanting"] [1] rfl rfl (by kernel_rfl) (zcF (K:=K) rfl (zJ J5 (z7 (za (pv 0) zb)) (zg L hr.m rfl (za (pv 2) (za (pv 0) zb))))) (fun _ _ _ _=>qQ) (fun _ _ _ _=>(qB (vQ (K:=K) rfl) (pv 0) (pv 1) (by with_unfolding_all rfl)))) zb))))) (fun _ _ _ _=>(pv 0))) zb))))),?_⟩
  refine⟨_,rfl,d,rfl,.inl ⟨_,.inr ⟨o,hd⟩⟩,d,o,_,rfl,rfl,hd,fun pv aa=>⟨pv,d,o,_,rfl,zc,by rw[zm (zj hd aa)];exact hd,zeo (d:=d) (o:=o) (kvs:=dkO b) (fun i M U=>M=zB (jS (b.take i))/\Same H U) ⟨rfl,zd aa⟩ (fun i M U ⟨_,s1⟩=>s1 _ _ hd) ?_ ?_⟩⟩
  ·rintro i kk v M U T hk ⟨rfl,s1⟩ hT
   obtain⟨q,eq,rfl,rfl⟩:=O hk;have il:=(zK.mp eq).1;have s2:=s1.trans (zd (o:=.tup [kV (Sum.inl (q.1:Int)),wW (oI q.2)]) hT);have wl:=Q8 (b.take i);rw[qC] at wl;refine⟨T,_,rfl,u5 zc,rfl,_,_,rfl,_,_,rfl,rfl,rfl,_,rfl,rfl,_,rfl,?_⟩
   rw[Wg eq];cases e:q.2 with
   | none=>
    rw[e] at s2;refine ifT (by rw[zX];rfl) ⟨_,rfl,by rw[zG];omega,?_,s2⟩
    rw[zx rfl,xu];rfl
   | some j=>
    rw[e] at s2;refine ifF (by rw[qZ];intro z;cases z) ⟨?_,s2⟩
    rw[zr (by simp),jZ]
  rintro M U ⟨e1,s1⟩;rw[dl,qW] at e1;subst e1;have wl:=Q8 b;refine⟨by rw[zG];omega,fun wt af=>?_⟩
  have W2:upd U wt (.lst (zB (jS b))) wt=some (.lst (zB (jS b))):=zc;have s2:=s1.trans (zd (H:=U) (o:=.lst (zB (jS b))) af);generalize upd U wt (.lst (zB (jS b)))=H2 at *
  have a0:=s2 _ _ hd;have fk:(b.map (·.1)).length=b.length:=zn ..
  refine⟨_,rfl,d,o,_,rfl,a0,VI (d:=d) (o:=o) (kvs:=dkO b) (fun i M N=>M=zB (((b.map (·.1)).take i).filter (JZ (asI J) (jS b)))/\Same H2 N) ⟨rfl,u6 _⟩ (fun i M N ⟨_,s3⟩=>s3 _ _ a0) ?_ ?_⟩
  ·rintro i kk v M N hk ⟨rfl,s3⟩
   obtain⟨q,eq,rfl,rfl⟩:=O hk;have il:=(zK.mp eq).1;have ac:(b.map (·.1))[i]? =some q.1:=by rw[qm,eq];rfl
   have qp:=fp q (zY eq);refine⟨rfl,_,rfl,le1,fun p1 ae=>?_⟩
   have Y:=s3.trans (zd (H:=N) (o:=.lst [kV (Sum.inl (q.1:Int))]) ae);have P4:upd N p1 (.lst [kV (Sum.inl (q.1:Int))]) p1=some (.lst [.int (q.1:Int)]):=zc;generalize upd N p1 (.lst [kV (Sum.inl (q.1:Int))])=H4 at Y P4;refine⟨_,rfl,_,rfl,(q.1:Int),jp,J,rfl,rj.same (s2.trans Y),pl,⟨by omega,by omega⟩,ab,al,fun l g H5 s5 l0 hl ml pw mem=>?_⟩
   refine⟨p1,l,_,_,rfl,rfl,s5 _ _ P4,hl,by rw[zn];show 1+_<=_;omega,fun c hc=>⟨c,rfl,⟨_,u4 zc⟩,?_⟩⟩
   have e0:[V.int (q.1:Int)]++g.map V.int=((q.1:Int)::g).map V.int:=rfl;rw[e0];have s6:=(Y.trans s5).trans (zd (H:=H5) (o:=.lst (((q.1:Int)::g).map V.int)) hc);have C6:upd H5 c (.lst (((q.1:Int)::g).map V.int)) c=some (.lst (((q.1:Int)::g).map V.int)):=zc;generalize upd H5 c (.lst (((q.1:Int)::g).map V.int))=H6 at *
   have W6:=s6 _ _ W2;have lm:(((q.1:Int)::g).map V.int).length=g.length+1:=by rw[zn];rfl
   refine jI (K:=K) (a:=c) (xs:=((q.1:Int)::g).map V.int) (fun j M H7=>M=((((q.1:Int)::g).take j).map fun j=>decide (j∈nI (jS b))).map V.bl/\Same H6 H7) ⟨rfl,u6 _⟩ (fun j M H7 ⟨_,s7⟩=>u4 (s7 _ _ C6)) ?_ ?_
   ·rintro j x M H7 hx ⟨rfl,s7⟩
    rw[qm] at hx;obtain⟨m,em,rfl⟩:=qS.mp hx;have jl:=(zK.mp em).1;have ak:j<g.length+1:=jl;refine⟨rfl,_,rfl,_,rfl,wt,_,rfl,.inl (u4 (s7 _ _ W6)),rfl,xU _,?_,?_,s7⟩
    ·rw[zn,zn,qC];omega
    ·rw[qr em,zQ,zQ,zr qO,zie];rfl
   rintro M H7 ⟨rfl,s7⟩;rw[lm,show((q.1:Int)::g).take (g.length+1)=(q.1:Int)::g from QR (by show g.length+1<=_;omega)]
   refine⟨by rw[zn,zn];show g.length+1<=_;omega,fun D hD=>⟨D,_,rfl,u4 zc,?_⟩⟩
   rw[zeL mem];have s8:=(s6.trans s7).trans (zd (H:=H7) (o:=.lst ((((q.1:Int)::g).map fun j=>decide (j∈nI (jS b))).map V.bl)) hD)
   rw[xc _ ac];refine⟨_,rfl,xg (fun cc=>⟨_,rfl,?_,?_,s8⟩) (fun cc=>⟨?_,s8⟩)⟩
   ·rw[zG]
    exact wD (jz _ _) (by rw[qC];omega)
   ·rw[zx cc,xu];rfl
   ·rw[zr cc,jZ]
  rintro M N ⟨e3,s3⟩;rw[dl,<- fk,qW] at e3;subst e3;have ol:=jz (JZ (asI J) (jS b)) (b.map (·.1))
  refine⟨by rw[zG];omega,fun D hD=>⟨D,nI ((b.map (·.1)).filter (JZ (asI J) (jS b))),rfl,by rw[zh4];exact u4 zc,by rw[Qk];omega,fun l g hl pm pw=>?_⟩⟩
  have Y:=(s2.trans s3).trans (zd (H:=N) (o:=.lst (zB ((b.map (·.1)).filter (JZ (asI J) (jS b))))) hD)
  exact k l g _ (Y.trans (zd hl)) (Y.free hl) zc pm pw
theorem VQ(j:Int)(b:List Int):inV (.int j) (b.map V.int)=decide (j∈b):=by
 rw[va,vN];unfold inV;rw[yM];constructor
 ·rintro⟨y,hy,e⟩
  obtain⟨k,hk,rfl⟩:=zP.mp hy;have:(k==j)=true:=e;rw[<- jT.mp this];exact hk
 ·intro h
  exact⟨.int j,zP.mpr ⟨j,h,rfl⟩,(show(j==j)=true from beq_self_eq_true _)⟩
theorem y6:∀b:List Int,(b.map V.int).all xO=true
 | []=>rfl
 | i::b=>by
  show(true&&(b.map V.int).all xO)=true;rw[y6 b];rfl
theorem zcN{K:W.Frag}{H:Hp}{p:Nat×Nat}{a:Addr}(h:SqT K H a [.int p.1,.int p.2]):Rep K H (jq p) (.ref a):=⟨a,_,rfl,h,_,_,rfl,rfl,_,_,rfl,rfl,rfl⟩
inductive zb9(K:W.Frag)(l:List V)(H:Hp)(Q:VK):Prop
 | mk (v:V) (d g:Addr) (o:Obj) (t:qw) (b:List (Nat×Option Nat)) (j:List Int) (f:Nat->Bool) (_:l=[v,.ref d,.ref g]) (_:Rep K H (jm t) v) (_:H d=some (.frz o (.dK (dkO b)))) (_:SqL K H g (j.map V.int)) (_:(∀p∈t.pk,((p.1:Int)∈j↔f p.1=true))) (_:(∀p∈t.pk,f p.1=false->lkF b p.1=some (some (fdN b p.1)))) (_:t.ly.Perm (t.pk.map (·.1))) (_:t.pk.length<=60) (_:∀a c,Same H c->Rep K c (jm (yE b f t)) (.ref a)->Q (.ref a) c):zb9 K l H Q
def zhc(K:W.Frag):Sp:=fun b H Q _=>zb9 K b H Q
theorem zht:zy ["trip","feeders","dropped","picks","lays","kept"] ["trip","feeders","dropped"] (zq (topL 37)):=u3
theorem zhX{f:Addr}{M:FuncData}(F:Fun K "mended_trip" "mended_trip" (topL 37) f M)(B:Blt I):FnOk P w K I G CX0 1 f M ["trip","feeders","dropped"] (zhc K):=by
 have nd:=zht.nd;refine F.ok zht (fun vs H Q E h=>?_) (fun as A ap s H vs Q E hr h=>?_)
 ·obtain⟨v,d,dr,o,t,M,ms,l,rfl,_⟩:=h
  rfl
 ·obtain⟨v,d,dr,o,t,M,ms,l,rfl,rt,hd,ae,aj,ai,aa,pl,k⟩:=h
  have ar:=bG1000000;have am:=Zs hr;obtain⟨a,b,c,xs,ys,rfl,qa,qb,rb,qc,rc⟩:=wO rt;have lb:=rb.len;have lc:=rc.len;rw[zn] at lb lc;have ao:=aa.length_eq;rw[zn] at ao;refine⟨_,(ze (xi (pv 0) (jd rfl (zt (zu (i:=3) nd rfl (Or.inl rfl)) (zt (zu (i:=4) nd rfl (Or.inl rfl)) qA))))
   (ze (zA (i:=5) nd rfl (Or.inr rfl) (vP ["dropped"] [2] rfl rfl (by kernel_rfl) (xt (pv 3)) (fun _ _ _ _=>(j5 (zI (vo (K:=K) rfl) (pv 0) (pv 2) (by with_unfolding_all rfl)))) (fun _ _ _ _=>(pv 0))))
   (zk (zw (qJ (za (zW qI rfl B.tuple qv (za (jB ["feeders"] [1] rfl rfl (by kernel_rfl) (qH (pv 5)) (fun _ _ _ _=>qQ) (fun _ _ _ _=>(qJ (za (pv 0) (za (yC am (pv 1) (pv 0) (fun _ _=>rfl)) zb))))) zb)) (za (zW qI rfl B.tuple qv (za (jB ["kept"] [5] rfl rfl (by kernel_rfl) (xt (pv 4)) (fun _ _ _ _=>(j5 (zI (vQ (K:=K) rfl) (pv 0) (pv 1) (by with_unfolding_all rfl)))) (fun _ _ _ _=>(pv 0))) zb)) zb))))))),?_⟩
  refine⟨_,rfl,a,_,rfl,qa,rfl,_,_,rfl,_,_,rfl,rfl,?_⟩
  refine⟨_,rfl,b,rfl,⟨_,qb⟩,xx (K:=K) (a:=b) (xs:=xs) (fun i g O=>g=zB (((t.pk.take i).filter fun p=>!l p.1).map (·.1))/\Same H O) ⟨rfl,u6 _⟩ (fun i g O ⟨_,s1⟩=>s1.sqT qb) ?_ ?_⟩
  ·rintro i x g O hx ⟨rfl,s1⟩
   obtain⟨dd,ed,rd⟩:=(rb.same s1).get hx;rw[qm] at ed;obtain⟨p,D,rfl⟩:=qS.mp ed;obtain⟨pa,rfl,qp⟩:=j8 rd;have il:=(zK.mp D).1;have hm:=aj p (zY D);refine⟨pa,_,rfl,qp,rfl,_,_,rfl,_,_,rfl,rfl,rfl,_,rfl,_,rfl,dr,_,rfl,.inl (s1.seq ae),rfl,y6 _,_,rfl,?_⟩
   rw[zx rfl,VQ,xc _ D];cases e:l p.1 with
   | true=>
    refine ifF (by rw[zX (hm.mpr e)];rfl) ⟨?_,s1⟩
    rw[zr (by simp),jZ]
   | false=>
    refine ifT (by rw[qZ (fun z=>by rw[hm.mp z] at e;cases e)];rfl) ⟨_,rfl,?_,?_,s1⟩
    ·rw[zG,zn]
     exact wD (jz _ _) (by rw[qC];omega)
    ·rw[zx (by simp),zQ,<- xu];rfl
  rintro g O ⟨e1,s1⟩;rw[lb,qW] at e1;subst e1;have kl:(((t.pk.filter fun p=>!l p.1).map (·.1))).length<=t.pk.length:=by rw[zn];exact jz _ _
  refine⟨by rw[zG];omega,fun U af=>?_⟩
  have K2:upd O U (.lst (zB ((t.pk.filter fun p=>!l p.1).map (·.1)))) U=some (.lst (zB ((t.pk.filter fun p=>!l p.1).map (·.1)))):=zc
  have s2:=s1.trans (zd (H:=O) (o:=.lst (zB ((t.pk.filter fun p=>!l p.1).map (·.1)))) af)
  generalize upd O U (.lst (zB ((t.pk.filter fun p=>!l p.1).map (·.1))))=H2 at *
  generalize ek:t.pk.filter (fun p=>!l p.1)=j at *
  have ac:=s2 _ _ hd;have lk:(zB (j.map (·.1))).length=j.length:=by rw[zG,zn]
  rw[zn] at kl;refine⟨_,rfl,U,rfl,⟨_,u4 K2⟩,jI (K:=K) (a:=U) (xs:=zB (j.map (·.1))) (fun i g L=>Reps K L (((j.take i).map fun p=>(p.1,fdN M p.1)).map jq) g/\Same H2 L) ⟨rfl,u6 _⟩ (fun i g L ⟨_,s3⟩=>u4 (s3 _ _ K2)) ?_ ?_⟩
  ·rintro i x g L hx ⟨Y,s3⟩
   obtain⟨n,T,rfl⟩:=yD hx;rw[qm] at T;obtain⟨p,D,rfl⟩:=qS.mp T;have il:=(zK.mp D).1;have hp:=zY D;rw[<- ek] at hp;obtain⟨ak,al⟩:=jD.mp hp;have hl:=ai p ak (by simpa using al)
   have zl:=Y.len;rw[zn,zn,qC] at zl;refine⟨rfl,_,rfl,_,rfl,_,rfl,d,.int (fdN M p.1:Int),rfl,?_,?_⟩
   ·exact .inl ⟨_,Sum.inl (p.1:Int),.inr ⟨o,s3 _ _ ac⟩,rfl,by rw[wS,hl];rfl⟩
   ·refine⟨le2,fun q hq=>⟨by omega,?_,s3.trans (zd hq)⟩⟩
    rw[qr D,zQ,zQ];exact(Y.same (zd hq)).snoc (d:=jq (p.1,fdN M p.1)) (zcN (u5 zc))
  rintro g L ⟨Y,s3⟩;rw[lk,qW] at Y;have zl:=Y.len;rw[zn,zn] at zl;refine⟨by omega,fun l3 ag=>⟨l3,_,rfl,.inl ⟨u4 zc,fun u hu=>?_⟩⟩⟩
  have s4:=(zd (H:=L) (o:=.lst g) ag).trans (zd (o:=.tup g) hu);have qu:upd (upd L l3 (.lst g)) u (.tup g) u=some (.tup g):=zc;have r4:=Y.same s4;have J:=s3.trans s4;generalize upd (upd L l3 (.lst g)) u (.tup g)=H4 at *
  have ab:=(s2.trans J).sqT qc;have aq:=rc.same (s2.trans J);have K4:=J _ _ K2;refine⟨_,rfl,c,rfl,⟨_,ab⟩,xx (K:=K) (a:=c) (xs:=ys) (fun i g H5=>g=zB ((t.ly.take i).filter fun p=>!l p)/\Same H4 H5) ⟨rfl,u6 _⟩ (fun i g H5 ⟨_,N⟩=>N.sqT ab) ?_ ?_⟩
  ·rintro i x ws H5 hx ⟨rfl,N⟩
   obtain⟨dd,ed,rd⟩:=(aq.same N).get hx;rw[qm] at ed;obtain⟨n,T,rfl⟩:=qS.mp ed;cases(show x=.int (n:Int) from rd)
   have il:=(zK.mp T).1;refine⟨rfl,_,rfl,_,rfl,U,_,rfl,.inl (u4 (N _ _ K4)),rfl,xU _,_,rfl,?_⟩
   rw[zr qO,ZR,xc _ T];obtain⟨p,hp,D⟩:=zP.mp (aa.mem_iff.mp (zY T));have a0:n∈j.map (·.1)↔l n=false:=by
    constructor
    ·intro hm
     obtain⟨q,hq,eq⟩:=zP.mp hm;rw[<- ek] at hq;have:=(jD.mp hq).2;rw[<- eq];simpa using this
    ·intro e
     refine zP.mpr ⟨p,?_,D⟩
     rw[<- ek];exact jD.mpr ⟨hp,by rw[D,e];rfl⟩
   cases e:l n with
   | true=>
    refine ifF (qZ (fun z=>by rw[a0.mp z] at e;cases e)) ⟨?_,N⟩
    rw[zr (by simp),jZ]
   | false=>
    refine ifT (zX (a0.mpr e)) ⟨_,rfl,?_,?_,N⟩
    ·rw[zG]
     exact wD (jz _ _) (by rw[qC];omega)
    ·rw[zx (by simp),xu]
  rintro ws H5 ⟨e5,N⟩;rw[lc,qW] at e5;subst e5;have wl:=jz (fun p=>!l p) t.ly
  refine⟨by rw[zG];omega,fun l5 ah=>⟨l5,_,rfl,.inl ⟨u4 zc,fun u2 an=>⟨le2,fun q hq=>?_⟩⟩⟩⟩
  have s6:=(zd (H:=H5) (o:=.lst (zB (t.ly.filter fun p=>!l p))) ah).trans (zd (o:=.tup (zB (t.ly.filter fun p=>!l p))) an)
  have s7:=s6.trans (zd (o:=.tup [.ref u,.ref u2]) hq);have s8:=N.trans s7;refine k q _ ((s2.trans J).trans s8) ⟨q,_,rfl,u5 zc,_,_,rfl,⟨u,g,rfl,u5 (s8 _ _ qu),?_⟩,_,_,rfl,⟨u2,_,rfl,u5 ((zd hq) _ _ zc),yZ _⟩,rfl⟩
  show Reps K _ (((t.pk.filter fun p=>!l p.1).map fun p=>(p.1,fdN M p.1)).map jq) g
  rw[ek];exact r4.same s8
structure MOk(J:Job)(ord os:List Nat)(ts:List qw):Prop where
 jo:JobOk J ord
 po:zdI J os ts
 pm:os.Perm (List.range J.ps.length)
theorem Qd{J:Job}:∀{b:List qw},(∀t∈b,XQ J t)->(vv b).Perm ((zp b).map (·.1))
 | [],_=>List.Perm.nil
 | t::r,h=>by
  show(t.ly++vv r).Perm ((t.pk++zp r).map (·.1))
  rw[zQ];exact(h t jb).ly.append (Qd fun u hu=>h u (jc _ hu))
theorem MOk.nd{J:Job}{b os:List Nat}{c:List qw}(m:MOk J b os c):((zp c).map (·.1)).Nodup:=by
 have f:os.Nodup:=m.pm.nodup_iff.mpr Zg;exact(Qd m.po.tr).nodup_iff.mp (m.po.sub.nodup f)
theorem MOk.ok{J:Job}{b os:List Nat}{c:List qw}(m:MOk J b os c):∀p∈zp c,p.1<J.ps.length/\p.2<J.fs.length:=fun p hp=>by
 unfold zp at hp;obtain⟨t,f,hp⟩:=Xw.mp hp;obtain⟨j,g,e1,e2,_⟩:=(m.po.tr t f).ok p hp;exact⟨(zK.mp e1).1,(zK.mp e2).1⟩
theorem MOk.brk{J:Job}{b os:List Nat}{c:List qw}(m:MOk J b os c):Brk J c:=by
 refine⟨?_,m.nd,m.ok,qL m.jo.fl (by decide)⟩
 have h:=Ju (m:=List.range J.ps.length) m.nd fun x hx=>by
  obtain⟨p,hp,rfl⟩:=zP.mp hx;exact jJ.mpr (m.ok p hp).1
 rw[zn,vd] at h;have:=m.jo.pl;omega
theorem JobOk.ain{J:Job}{c:List Nat}(b:JobOk J c):∀q∈asI J,InN J.ps.length q.1/\InN J.ps.length q.2:=fun q hq=>by
 unfold asI at hq;obtain⟨p,hp,rfl⟩:=zP.mp hq;have h1:=jJ.mp (b.op.mem_iff.mp (b.bo.mem1 hp));have f:=jJ.mp (b.op.mem_iff.mp (b.bo.mem2 hp));exact⟨⟨by show(0:Int)<=(p.1:Int);omega,by show(p.1:Int)<_;omega⟩,⟨by show(0:Int)<=(p.2:Int);omega,by show(p.2:Int)<_;omega⟩⟩
noncomputable def jX (J:Job) (st:Nat->Int) (b:List qw):Nat->Bool:=JZ (asI J) (jS (qK J st b))
theorem Brk.ky{J:Job}{c:List qw}(b:Brk J c)(st:Nat->Int):Ky2 st (zp c) (zp c) (P2 J st (zp c) (zp c)):=by
 have:=XR (J:=J) (st:=st) b.nd (i:=(zp c).length) (zC _);rwa[qW] at this
theorem Brk.keys{J:Job}{c:List qw}(b:Brk J c)(st:Nat->Int):((qK J st c).map (·.1)).Perm ((zp c).map (·.1)):=by
 have k:=b.ky st;refine(List.perm_ext_iff_of_nodup k.nd b.nd).mpr fun x=>⟨k.sub x,fun hx=>?_⟩
 obtain⟨p,hp,rfl⟩:=zP.mp hx;exact k.al p hp
theorem Brk.val{J:Job}{c:List qw}(b:Brk J c)(st:Nat->Int):∀p∈zp c,jX J st c p.1=false->lkF (qK J st c) p.1=some (some (fdN (qK J st c) p.1)):=fun p hp f=>by
 have hk:p.1∈(qK J st c).map (·.1):=(b.ky st).al p hp
 cases e:lkF (qK J st c) p.1 with
 | none=>exact absurd hk (yF.mp e)
 | some o=>
  cases o with
  | none=>
   have h1:=zbm.mpr (zem e);have g:jX J st c p.1=true:=Vq.mpr ⟨p.1,h1,0,rfl⟩;rw[g] at f;cases f
  | some k=>unfold fdN;rw[e];rfl
theorem vV{α β:Type}{f:β->Bool}{g:α->β}{l:List α}{i:Nat}{x:α}(h:l[i]? =some x):((l.take (i+1)).map g).filter f=((l.take i).map g).filter f++(if f (g x)=true then [g x] else []):=by
 rw[qr h,zQ,wB];cases b:f (g x)
 ·show _++[g x].filter f=_
  rw[QT (by rw[b];exact qO)];rfl
 ·show _++[g x].filter f=_
  rw[QU b];rfl
structure MTold(K:W.Frag)(H H':Hp)(q a1 a2 a3:Addr)(xs:List V)(fd:List (Nat×Option Nat))(ob:Nat->Bool)(ts:List qw):Prop where
 s:Same H H'
 q:SqT K H' q [.ref a1,.ref a2,.ref a3]
 f1:H a1=none
 f2:H a2=none
 f3:H a3=none
 n12:a1≠a2
 n13:a1≠a3
 n23:a2≠a3
 h1:H' a1=some (.lst xs)
 r1:Reps K H' ((xZ fd ob ts).map jm) xs
 h2:H' a2=some (.lst ((srt (nI (xw fd ob (zp ts)))).map V.int))
 h3:H' a3=some (.lst ((srt (nI (yW ob (zp ts)))).map V.int))
inductive zca(K:W.Frag)(s:List V)(H:Hp)(Q:VK):Prop
 | mk (j l c:Addr) (J:Job) (f os:List Nat) (A:List V) (b:List qw) (st:Nat->Int) (_:s=[.ref j,.ref l,.ref c]) (_:Rep K H (vw J) (.ref j)) (_:SqL K H l A) (_:Reps K H (b.map jm) A) (_:MOk J f os b) (_:SqL K H c (jf J.fs.length st)) (_:∀(q a1 a2 a3:Addr) (B:List V) g,MTold K H g q a1 a2 a3 B (qK J st b) (jX J st b) b->Q (.ref q) g):zca K s H Q
def zhd(K:W.Frag):Sp:=fun b H Q _=>zca K b H Q
theorem zhu:zy ["job","plan","stock","feeders","dropped","trips","moved"] ["job","plan","stock"] (zq (topL 38)):=u3
theorem zhY{f:Addr}{fd:FuncData}(F:Fun K "mended_plan" "mended_plan" (topL 38) f fd)(B:Blt I)(N:Dfn P w K I G "picks_in" 1 ["plan"] (zdR K))(M:Dfn P w K I G "new_feeders" 3 ["job","plan","stock"] (zhb K))(D:Dfn P w K I G "dropped_parts" 4 ["job","feeders"] (zhf K))(L:Dfn P w K I G "mended_trip" 1 ["trip","feeders","dropped"] (zhc K)):FnOk P w K I G CX0 5 f fd ["job","plan","stock"] (zhd K):=by
 have nd:=zhu.nd;refine F.ok zhu (fun vs H Q E h=>?_) (fun bt A bn s H vs Q E hr h=>?_)
 ·obtain⟨jp,l,c,J,bm,os,xs,g,st,rfl,_⟩:=h
  rfl
 ·obtain⟨jp,l,c,J,bm,os,xs,g,st,rfl,rj,hl,rl,mo,hc,k⟩:=h
  have bs:=bG1000000;have bd:=Zs hr;have bk:=mo.brk;have ky:=bk.ky st;have al:=bk.al;have tl:=mo.po.len;have ll:=rl.len;rw[zn] at ll;have be:=bk.keys st;have vl:=bk.val st;have fl:(qK J st g).length<=60:=qL ky.len al;have ba:∀q∈qK J st g,q.1<J.ps.length:=fun q hq=>by
   obtain⟨p,hp,e⟩:=zP.mp (ky.sub q.1 (zP.mpr ⟨q,hq,rfl⟩));rw[<- e];exact(bk.ok p hp).1
  refine⟨_,(ze (zA (i:=3) nd rfl (Or.inr rfl) (zg M hr.m rfl (za (pv 0) (za (pv 1) (za (pv 2) zb)))))
   (ze (zA (i:=4) nd rfl (Or.inr rfl) (zg D hr.m rfl (za (pv 0) (za (pv 3) zb))))
   (ze (JW ["feeders","dropped"] [3,4] rfl rfl (by kernel_rfl) (qH (pv 1)) (fun _ _ _ _=>qQ) (fun _ _ _ _=>(zg L hr.m rfl (za (pv 0) (za (pv 1) (za (pv 2) zb))))) (zu (i:=5) nd rfl (Or.inl rfl)))
   (ze (Wx ["dropped","feeders"] [4,3] rfl rfl (by kernel_rfl) (qH (zg N hr.m rfl (za (pv 1) zb))) (fun _ _ _ _=>(j5 (u8 (Z7 (zI (vo (K:=K) rfl) (pv 0) (pv 2) (by with_unfolding_all rfl)) (yy (zI Qh (yC bd (pv 3) (pv 0) (fun _ _=>rfl)) (pv 1) (zH _))))))) (fun _ _ _ _=>(pv 0)) (zu (i:=6) nd rfl (Or.inl rfl)))
   (zk (zw (qJ (za (jB [] [] rfl rfl (by kernel_rfl) (qH (pv 5)) (fun _ _ _ _=>(j5 (zdX (K:=K) rfl (zL (xm (K:=K) rfl) (pv 0) zi (fun _ _=>rfl))))) (fun _ _ _ _=>(pv 0))) (za (zo vT rfl B.sorted wv (za (pv 6) zb)) (za (pv 4) zb)))))))))),?_⟩
  refine⟨_,rfl,_,rfl,_,rfl,jp,l,c,J,xs,g,st,rfl,rj,hl,rl,bk,hc,fun d o H1 s1 d0 hd=>?_⟩
  refine⟨_,rfl,_,rfl,jp,d,o,J,qK J st g,rfl,rj.same s1,mo.jo.pl,mo.jo.ain,(qL mo.jo.al (by decide)),hd,fl,ba,fun dl ms H2 s2 aw a0 pm pw=>?_⟩
  have em:ms=srt (nI (yW (jX J st g) (zp g))):=by
   refine zbY (pm.trans ?_) pw
   unfold nI yW;exact(be.filter _).map _
  have ab:∀p∈zp g,((p.1:Int)∈ms↔jX J st g p.1=true):=fun p hp=>by
   rw[pm.mem_iff,WH,jD];exact⟨fun h=>h.2,fun h=>⟨ky.al p hp,h⟩⟩
  have Y:=s1.trans s2;have ah:=s2 _ _ hd;have ai:=Y.seq hl;have bq:=rl.same Y;refine⟨_,rfl,l,rfl,⟨_,ai⟩,jI (K:=K) (a:=l) (xs:=xs) (fun i T H3=>Reps K H3 (((g.take i).map (yE (qK J st g) (jX J st g))).map jm) T/\Same H2 H3) ⟨rfl,u6 _⟩ (fun i T H3 ⟨_,s3⟩=>s3.seq ai) ?_ ?_⟩
  ·rintro i x T H3 hx ⟨rz,s3⟩
   obtain⟨dd,ed,rd⟩:=(bq.same s3).get hx;rw[qm] at ed;obtain⟨t,et,rfl⟩:=qS.mp ed;have il:=(zK.mp et).1;have am:=zY et;have au:∀p∈t.pk,p∈zp g:=fun p hp=>Xw.mpr ⟨t,am,hp⟩
   have av:=mo.po.tr t am;have t4:=av.p2;have bu:=mo.jo.hd1;have zl:=rz.len;rw[zn,zn,qC] at zl;refine⟨rfl,_,rfl,_,rfl,_,rfl,x,d,dl,o,t,qK J st g,ms,jX J st g,rfl,rd,s3 _ _ ah,u4 (s3 _ _ a0),fun p hp=>ab p (au p hp),fun p hp=>vl p (au p hp),av.ly,by omega,fun a H4 s4 r4=>⟨by omega,?_,s3.trans s4⟩⟩
   rw[qr et,zQ,zQ];exact(rz.same s4).snoc r4
  rintro T H3 ⟨rz,s3⟩;rw[ll,qW] at rz;have zl:=rz.len;rw[zn,zn] at zl;refine⟨by omega,fun tp an=>?_⟩
  have T4:upd H3 tp (.lst T) tp=some (.lst T):=zc;have ap:=s3.trans (zd (H:=H3) (o:=.lst T) an);have r4:=rz.same (zd (H:=H3) (o:=.lst T) an);generalize upd H3 tp (.lst T)=H4 at *
  have ao:=Y.trans ap;refine⟨_,rfl,l,xs,g,rfl,ao.seq hl,rl.same ao,al,fun pk ys H5 s5 bv aj rp=>?_⟩
  have lp:=rp.len;rw[zn] at lp;have aa:=ap.trans s5;have bb:=aa _ _ ah;have ax:=aa _ _ a0;have ml:∀i,(xw (qK J st g) (jX J st g) ((zp g).take i)).length<=((zp g).take i).length:=fun i=>by
   unfold xw;rw[zn];exact jz _ _
  refine⟨pk,rfl,⟨_,u4 aj⟩,jI (K:=K) (a:=pk) (xs:=ys) (fun i T H6=>T=zB (xw (qK J st g) (jX J st g) ((zp g).take i))/\Same H5 H6) ⟨rfl,u6 _⟩ (fun i T H6 ⟨_,s6⟩=>u4 (s6 _ _ aj)) ?_ ?_⟩
  ·rintro i x ws H6 hx ⟨rfl,s6⟩
   obtain⟨dd,ed,rd⟩:=(rp.same s6).get hx;rw[qm] at ed;obtain⟨p,ep,rfl⟩:=qS.mp ed;obtain⟨pa,rfl,qp⟩:=j8 rd;have il:=(zK.mp ep).1;have ak:=zY ep;have hm:=ab p ak;have bg:=ml i;rw[qC] at bg;have ft:xw (qK J st g) (jX J st g) ((zp g).take (i+1))=xw (qK J st g) (jX J st g) ((zp g).take i)++(if(!jX J st g p.1&&decide (fdN (qK J st g) p.1≠p.2))=true then [p.1] else []):=by
    unfold xw;rw[xc _ ep,zQ];split<;>rfl
   refine⟨pa,_,rfl,qp,rfl,_,_,rfl,_,_,rfl,rfl,rfl,_,rfl,_,rfl,dl,_,rfl,.inl (u4 (s6 _ _ ax)),rfl,y6 _,_,rfl,?_⟩
   rw[zx rfl,VQ];cases e:jX J st g p.1 with
   | true=>
    refine ifF (by rw[zX (hm.mpr e)];rfl) (ifF rfl ⟨?_,s6⟩)
    rw[ft,e,zr (by simp),jZ]
   | false=>
    refine ifT (by rw[qZ (fun z=>by rw[hm.mp z] at e;cases e)];rfl) ?_
    refine⟨_,rfl,_,rfl,d,.int (fdN (qK J st g) p.1:Int),rfl,.inl ⟨_,Sum.inl (p.1:Int),.inr ⟨o,s6 _ _ bb⟩,rfl,by rw[wS,vl p ak e];rfl⟩,_,rfl,rfl,_,rfl,?_⟩
    by_cases e2:fdN (qK J st g) p.1=p.2
    ·refine ifF (by rw[e2,zX rfl];rfl) ⟨?_,s6⟩
     rw[ft,e,zr (by simp[e2]),jZ]
    ·refine ifT (by rw[qZ (show ¬V.int (fdN (qK J st g) p.1:Int)=V.int (p.2:Int) from fun z=>e2 (QG (V.int.inj z)))];rfl) ⟨_,rfl,?_,?_,s6⟩
     ·rw[zG];omega
     ·rw[ft,e,zx (by simp[e2]),xu]
  rintro ws H6 ⟨e6,s6⟩;rw[lp,qW] at e6;subst e6;have bf:=ml (zp g).length;rw[qW] at bf;refine⟨by rw[zG];omega,fun mv bc=>?_⟩
  have M7:upd H6 mv (.lst (zB (xw (qK J st g) (jX J st g) (zp g)))) mv=some (.lst (zB (xw (qK J st g) (jX J st g) (zp g)))):=zc;have af:=s6.trans (zd (H:=H6) (o:=.lst (zB (xw (qK J st g) (jX J st g) (zp g)))) bc);generalize upd H6 mv (.lst (zB (xw (qK J st g) (jX J st g) (zp g))))=H7 at *
  have ar:=s5.trans af;have T7:=ar _ _ T4;have r7:=r4.same ar;have br:T.length=g.length:=zl;refine⟨_,rfl,tp,rfl,⟨_,u4 T7⟩,jI (K:=K) (a:=tp) (xs:=T) (fun i ws H8=>An2 (Reps K H8 ((((g.take i).map (yE (qK J st g) (jX J st g))).filter fun t=>!t.pk.isEmpty).map jm) ws) (Same H7 H8)) ⟨rfl,u6 _⟩ (fun i ws H8 ⟨_,s8⟩=>u4 (s8 _ _ T7)) ?_ ?_⟩
  ·rintro i x ws H8 hx ⟨O,s8⟩
   obtain⟨dd,ed,rd⟩:=(r7.same s8).get hx;rw[qm,qm] at ed;obtain⟨t',ay,rfl⟩:=qS.mp ed;obtain⟨t,et,rfl⟩:=qS.mp ay;obtain⟨a,b,c',us,vs,rfl,qa,qb,rb,qc,rc⟩:=wO rd;have lb:=rb.len;rw[zn] at lb;have il:=(zK.mp et).1;have wl:=O.len;have az:=jz (fun t:qw=>!t.pk.isEmpty) ((g.take i).map (yE (qK J st g) (jX J st g)))
   rw[zn,qC] at az;rw[zn] at wl;have ee:(!us.isEmpty)=(!(yE (qK J st g) (jX J st g) t).pk.isEmpty):=by
    cases us with
    | nil=>
     rw[show(yE (qK J st g) (jX J st g) t).pk=[] from List.length_eq_zero_iff.mp lb.symm]
     rfl
    | cons u us=>
     cases h0:(yE (qK J st g) (jX J st g) t).pk with
     | nil=>rw[h0] at lb;cases lb
     | cons=>rfl
   refine⟨rfl,_,rfl,a,_,_,_,rfl,rfl,qa,jh (j:=0) rfl,b,us,rfl,qb,?_⟩
   rw[ee];refine xg (fun cc=>⟨_,rfl,by omega,?_,s8⟩) (fun cc=>⟨?_,s8⟩)
   ·rw[vV et,zx cc,zQ]
    exact O.snoc rd
   ·rw[vV et,zr cc,jZ]
    exact O
  rintro ws H8 ⟨O,s8⟩;rw[br,qW] at O;have wl:=O.len;rw[zn] at wl;have b0:=jz (fun t:qw=>!t.pk.isEmpty) (g.map (yE (qK J st g) (jX J st g)))
  rw[zn] at b0;refine⟨by omega,fun a1 ac=>?_⟩
  have A9:upd H8 a1 (.lst ws) a1=some (.lst ws):=zc;have as:=s8.trans (zd (H:=H8) (o:=.lst ws) ac);have r9:=O.same (zd (H:=H8) (o:=.lst ws) ac);have ae:=(aa.trans af).trans as;have ag:H2 a1=none:=((aa.trans af).trans s8).free ac;generalize upd H8 a1 (.lst ws)=H9 at *
  refine⟨_,rfl,mv,nI (xw (qK J st g) (jX J st g) (zp g)),rfl,by rw[zh4];exact u4 (as _ _ M7),by rw[Qk];omega,fun a2 m2 U bo bp=>?_⟩
  have aq:=ae.trans (zd (H:=H9) (o:=.lst (m2.map V.int)) U);refine⟨_,rfl,by show 3<=_;omega,fun q hq=>?_⟩
  have sq:=zd (H:=upd H9 a2 (.lst (m2.map V.int))) (o:=.tup [.ref a1,.ref a2,.ref dl]) hq;have bi:dl≠a1:=zj a0 ag;have bj:dl≠a2:=zj (ae _ _ a0) U;have bh:a1≠a2:=zj A9 U;refine k q a1 a2 dl ws _ ⟨Y.trans (aq.trans sq),u5 zc,Y.free ag,Y.free (ae.free U),?_,bh,zM bi,zM bj,sq _ _ ((zd U) _ _ A9),(r9.same (zd U)).same sq,?_,?_⟩
  ·exact s1.free aw
  ·rw[sq _ _ zc,zbY bo bp]
  ·rw[(aq.trans sq) _ _ a0,em]
theorem zba(n:Nat)(g:Nat->Int)(v:Int):jf (n+1) (upF g n v)=jf n g++[.int v]:=by
 unfold jf;rw[QI,zQ];congr 1
 ·refine List.map_congr_left fun k hk=>?_
  have:=jJ.mp hk;unfold upF;rw[zr (by omega)]
 ·show [V.int (upF g n v n)]=_
  unfold upF;rw[zx rfl]
theorem YD:∀{b:List Int},(∀z∈b,0<=z/\z<=4)->0<=b.sum/\b.sum<=4*(b.length:Int)
 | [],_=>⟨Zb _,Zb _⟩
 | a::r,h=>by
  have h1:=h a jb;have c:=YD fun z hz=>h z (jc _ hz)
  rw[List.sum_cons,jV];omega
inductive zb1(K:W.Frag)(A:List V)(H:Hp)(Q:VK):Prop
 | mk (b j l:Addr) (J:Job) (g os:List Nat) (B:List V) (s:List qw) (n:Int) (_:A=[.ref b,.ref j,.ref l]) (_:BoxAt H b n) (_:n<600000) (_:Rep K H (vw J) (.ref j)) (_:l≠b) (_:H l=some (.lst B)) (_:Reps K H (s.map jm) B) (_:MOk J g os s) (_:∀(c:Addr) (st:Nat->Int) f,SameB b H f->BoxAt f b (n+100)->c≠b->H c=none->f c=some (.lst (jf J.fs.length st))->(∀k,0<=st k/\st k<=400)->Q (.ref c) f):zb1 K A H Q
def zg9(K:W.Frag):Sp:=fun b H Q _=>zb1 K b H Q
theorem zhn:zy ["_law_box_here","_law_job_here","_law_plan_here","_law_found","_law_at","_law_feeder","_law_used","_law_some"] ["_law_box_here","_law_job_here","_law_plan_here"] (zq (topL 57)):=u3
def zaW(b:_)(g:_)(l:_)(c:_)(H:_)(n:_):=fun(i:Nat) (σ:St) (f:Hp)=>(Ex5 fun(j s A B:Option V) (st:Nat->Int)=>An5 (σ=[some (.ref b),some (.ref g),some (.ref l),some (.ref c),j,s,A,B]) (SameB b H f) (BoxAt f b (n+2*(i:Int))) (f c=some (.lst (jf i st))) ((∀k,0<=st k/\st k<=400)):Prop)
theorem zhQ{f:Addr}{fd:FuncData}(F:Fun K "_law_stock_now" "_law_stock_now" (topL 57) f fd)(B:Blt I)(M:Dfn P w K I G "_law_take" 1 ["_law_box_here","_law_size"] xI):FnOk P w K I G CX0 2 f fd ["_law_box_here","_law_job_here","_law_plan_here"] (zg9 K):=by
 have nd:=zhn.nd;refine F.ok zhn (fun vs H Q E h=>?_) (fun av A ao s H vs Q E hr h=>?_)
 ·obtain⟨b,jp,l,J,an,os,xs,ts,n,rfl,_⟩:=h
  rfl
 ·obtain⟨b,jp,l,J,an,os,xs,ts,n,rfl,B0,hn,rj,al,hl,rl,mo,k⟩:=h
  have au:=bG1000000;have tl:=mo.po.len;have ll:=rl.len;rw[zn] at ll;obtain⟨g,fs,ps,as,fv,px,qj,_,qf,rf,_,_,_⟩:=xV rj;have lf:=rf.len;rw[zn] at lf;have fl:=mo.jo.fl;refine⟨_,(ze (zA (i:=3) nd rfl (Or.inl rfl) (z7 zb))
   (ze (jA jU rfl (Qb rfl B.enumerate (za (zL jC (pv 1) zi (fun _ _=>rfl)) zb)) (jd rfl (zt (zu (i:=4) nd rfl (Or.inr rfl)) (zt (zu (i:=5) nd rfl (Or.inl rfl)) qA)))
   (ze (zA (i:=6) nd rfl (Or.inl rfl) (zo (zbD rfl) rfl B.sum boot_sum (za (vP ["_law_at"] [4] rfl rfl (by kernel_rfl) (qH (pv 2)) (fun _ _ _ _=>qQ) (fun _ _ _ _=>(zo (vy (K:=K) rfl) rfl B.len boot_len (za (jB ["_law_at"] [2] rfl rfl (by kernel_rfl) (zae (K:=K) rfl (pv 0)) (fun _ _ _ _=>(j5 (zI j9 (zL (xm (K:=K) rfl) (pv 0) zi (fun _ _=>rfl)) (pv 1) (zH _)))) (fun _ _ _ _=>(pv 0))) zb)))) zb)))
    (ze (zA (i:=7) nd rfl (Or.inl rfl) (z7 (pa7 zi (zo (JE rfl) rfl B.max V6 (za zi (za (zJ wg (pv 6) zi) zb))) (pv 6) (zJ qR (pv 6) zi) (zg M hr.m rfl (za (pv 0) (za zi zb))) (zL jC (pv 5) zi (fun _ _=>rfl)) zi)))
    (zk (qN (xo j4 vh vg qE (pv 3) (za (zL z9 (pv 7) (zg M hr.m rfl (za (pv 0) (za zi zb))) (fun _ _=>rfl)) zb)))))))
   (zk (zw (pv 3))))),?_⟩
  refine⟨le0,fun c hc=>?_⟩
  have a0:=B0.nne hc;have s0:=zd (H:=H) (o:=.lst []) hc;refine⟨_,rfl,jp,_,_,_,rfl,rfl,s0.sqT qj,jh (j:=2) rfl,fs,rfl,⟨_,s0.sqT qf⟩,zbv (K:=K) (a:=fs) (xs:=fv) (zaW b jp l c H n) ⟨_,_,_,_,fun _=>0,rfl,(u9 b H).new hc,(B0.new hc).mono (by omega),zc,fun _=>⟨Zb 0,show(0:Int)<=400 by decide⟩⟩ (fun i σ H1 _ ⟨_,_,_,_,_,_,S1,_,_,_⟩=>qf.keep (u7 B0 S1)) ?_ ?_⟩
  ·rintro i x σ H1 T hx ⟨v4,v5,v6,v7,st,rfl,S1,B1,U,aa⟩ hT
   have T1:=u7 B0 S1;obtain⟨d,ed,rd⟩:=(rf.keep T1 (xz _)).get hx;rw[qm] at ed;obtain⟨fe,ef,rfl⟩:=qS.mp ed;obtain⟨fa,fc,rfl,ap,_⟩:=xA rd;have il:=(zK.mp ef).1;have ax:=(mo.jo.fa fe (zY ef)).2.2;have sT:=zd (H:=H1) (o:=.tup [.int (i:Int),.ref fa]) hT;have S2:=S1.new (o:=.tup [.int (i:Int),.ref fa]) hT;have B2:=B1.new (o:=.tup [.int (i:Int),.ref fa]) hT;have ah:=sT _ _ U;have ae:=sT.sqT ap;refine⟨T,_,rfl,u5 zc,rfl,_,_,rfl,_,_,rfl,rfl,?_⟩
   generalize upd H1 T (.tup [.int (i:Int),.ref fa])=H2 at *
   have ac:=S2 _ _ hl al;have aq:=rl.keep (u7 B0 S2) (jF ts);refine⟨_,rfl,l,rfl,⟨_,u4 ac⟩,jI (K:=K) (a:=l) (xs:=xs) (fun j zs H3=>∃O:List Int,zs=O.map V.int/\O.length=j/\(∀z∈O,0<=z/\z<=4)/\Same H2 H3) ⟨[],rfl,rfl,(fun z hz=>nomatch hz),u6 _⟩ (fun j zs H3 ⟨_,_,_,_,s3⟩=>u4 (s3 _ _ ac)) ?_ ?_⟩
   ·rintro j x zs H3 hx ⟨O,rfl,nl,nb,s3⟩
    obtain⟨d,ed,rd⟩:=(aq.same s3).get hx;rw[qm] at ed;obtain⟨t,et,rfl⟩:=qS.mp ed;have jl:=(zK.mp et).1;have ar:=mo.po.tr t (zY et);have t4:=ar.p2;have aw:=mo.jo.hd1;obtain⟨a,pb,pc,us,vs,rfl,qa,qb,rb,qc,rc⟩:=wO rd;have lb:=rb.len;rw[zn] at lb;refine⟨a,_,rfl,qa,rfl,_,_,rfl,_,_,rfl,rfl,rfl,?_⟩
    refine⟨_,rfl,pb,rfl,⟨_,qb⟩,xx (K:=K) (a:=pb) (xs:=us) (fun m ws H4=>ws.length<=m/\Same H3 H4) ⟨zC _,u6 _⟩ (fun m ws H4 ⟨_,N⟩=>N.sqT qb) ?_ ?_⟩
    ·rintro m y ws H4 hy ⟨wl,N⟩
     obtain⟨d2,e2,r2⟩:=(rb.same N).get hy;rw[qm] at e2;obtain⟨p,ep,rfl⟩:=qS.mp e2;obtain⟨pa,rfl,qp⟩:=j8 r2;have ml:=(zK.mp ep).1;refine⟨rfl,_,rfl,pa,_,_,_,rfl,rfl,qp,jh (j:=1) rfl,_,rfl,rfl,_,rfl,xg (fun cc=>⟨_,rfl,by omega,by rw[zS];show _+1<=_;omega,N⟩) (fun cc=>⟨by omega,N⟩)⟩
    ·rintro ws H4 ⟨wl,N⟩
     refine⟨by omega,fun D hD=>⟨D,ws,rfl,.inl (u4 zc),by rw[zn];omega,O++[(ws.length:Int)],?_,?_,?_,s3.trans (N.trans (zd hD))⟩⟩
     ·rw[zQ];rfl
     ·rw[zS,nl];rfl
     ·intro z hz
      rcases qM.mp hz with hz | hz
      ·exact nb z hz
      ·rw[qg.mp hz]
       omega
   rintro zs H3 ⟨O,rfl,nl,nb,s3⟩;obtain⟨u0,u1⟩:=YD nb;refine⟨by rw[zn];omega,fun D hD=>⟨D,O,rfl,u4 zc,fun z hz=>by have:=nb z hz;omega,by omega,?_⟩⟩
   generalize O.sum=L at u0 u1;have N:=s3.trans (zd (H:=H3) (o:=.lst (O.map V.int)) hD);have S4:=S2.trans (ua N);have B4:=B2.same N;have ai:=N _ _ ah;have af:=N.sqT ae;generalize upd H3 D (.lst (O.map V.int))=H4 at *
   refine⟨_,rfl,_,_,rfl,rfl,_,_,rfl,_,rfl,_,rfl,_,_,rfl,rfl,_,rfl,b,5,_,rfl,B4,by omega,by decide,by decide,fun r H5 r0 r1 B5 S5=>?_⟩
   have ag:=af.keep (u7 B4 S5);have aj:=S5 _ _ ai a0;refine⟨_,rfl,fa,_,_,_,rfl,rfl,ag,jh (j:=2) rfl,by show 7<=_;omega,fun sm Y=>?_⟩
   have am:=B5.nne Y;have ab:=(zd (H:=H5) (o:=.lst [.int 0,.int (if L-1>0 then L-1 else 0),.int L,.int (L+1),.int r,.int fe.m,.int 400]) Y) _ _ aj
   have S6:=(S4.trans S5).new (o:=.lst [.int 0,.int (if L-1>0 then L-1 else 0),.int L,.int (L+1),.int r,.int fe.m,.int 400]) Y
   have B6:=B5.new (o:=.lst [.int 0,.int (if L-1>0 then L-1 else 0),.int L,.int (L+1),.int r,.int fe.m,.int 400]) Y
   refine⟨_,rfl,.inl ⟨rfl,_,u4 ab⟩,_,rfl,_,rfl,b,7,_,rfl,B6,by omega,by decide,by decide,fun r7 H7 ay az B7 S7=>?_⟩
   obtain⟨v,ev,v0,v1⟩:∃v,atI [V.int 0,.int (if L-1>0 then L-1 else 0),.int L,.int (L+1),.int r,.int fe.m,.int 400] r7=some (.int v)/\0<=v/\v<=400:=by
    have hc:r7=0\/r7=1\/r7=2\/r7=3\/r7=4\/r7=5\/r7=6:=by omega
    rcases hc with rfl | rfl | rfl | rfl | rfl | rfl | rfl
    ·exact⟨0,rfl,by omega,by omega⟩
    ·exact⟨_,rfl,by split<;>omega,by split<;>omega⟩
    ·exact⟨_,rfl,by omega,by omega⟩
    ·exact⟨_,rfl,by omega,by omega⟩
    ·exact⟨_,rfl,by omega,by omega⟩
    ·exact⟨_,rfl,by omega,by omega⟩
    ·exact⟨400,rfl,by omega,by omega⟩
   have ak:=S7 _ _ ab a0;refine⟨sm,_,_,_,rfl,rfl,u4 (S7 _ _ zc am),ev,c,_,_,rfl,rfl,ak,by rw[jK];omega,_,_,_,_,upF st i v,rfl,(S6.trans S7).put hc,(B7.other a0).mono (by omega),?_,fun k=>?_⟩
   ·rw[zc,zba]
   ·unfold upF
    by_cases e:k=i
    ·rw[zx e];exact⟨v0,v1⟩
    ·rw[zr e];exact aa k
  ·rintro σ H1 ⟨v4,v5,v6,v7,st,rfl,S1,B1,U,aa⟩
   rw[lf] at U B1;exact⟨_,rfl,k c st H1 S1 (B1.mono (by omega)) a0 hc U aa⟩
theorem MOk.t100{J:Job}{f os:List Nat}{j:List qw}(m:MOk J f os j):∀t∈j,t.pk.length<=4/\t.ly.length<=4/\(∀p∈t.pk,p.1<100/\p.2<100)/\∀k∈t.ly,k<100:=fun t g=>by
 have b:=m.po.tr t g;have A:=b.p2;have hd:=m.jo.hd1;have l:=b.ly.length_eq;rw[zn] at l;have B:=m.jo.pl;have s:=m.jo.fl;have c:∀p∈t.pk,p.1<100/\p.2<100:=fun p hp=>by
  have:=m.ok p (Xw.mpr ⟨t,g,hp⟩);omega
 refine⟨by omega,by omega,c,fun k hk=>?_⟩
 obtain⟨p,hp,rfl⟩:=zP.mp (b.ly.mem_iff.mp hk);exact(c p hp).1
theorem vD{H:Hp}:∀b:List Int,Reps K H (b.map Dat.int) (b.map V.int)
 | []=>rfl
 | m::b=>⟨_,_,rfl,rfl,vD b⟩
theorem MTold.rep{H b:Hp}{q a1 a2 a3:Addr}{j:List V}{c:List (Nat×Option Nat)}{f:Nat->Bool}{g:List qw}(m:MTold K H b q a1 a2 a3 j c f g):Rep K b (Jv c f g) (.ref q):=
 ⟨q,_,rfl,m.q,_,_,rfl,⟨a1,j,rfl,u4 m.h1,m.r1⟩,_,_,rfl,⟨a2,_,rfl,u4 m.h2,vD _⟩,_,_,rfl,⟨a3,_,rfl,u4 m.h3,vD _⟩,rfl⟩
inductive zcf(K:W.Frag)(A:List V)(H:Hp)(Q:VK):Prop
 | mk (b:Addr) (n:Int) (_:A=[.ref b]) (_:BoxAt H b n) (_:n<100000) (_:∀(q j l c:Addr) (J:Job) (g os:List Nat) (B:List V) (s:List qw) (st:Nat->Int) f,SameB b H f->BoxAt f b (n+6000)->SqT K f q [.ref j,.ref l,.ref c]->Rep K f (vw J) (.ref j)->f l=some (.lst B)->Reps K f (s.map jm) B->l≠b->c≠b->MOk J g os s->f c=some (.lst (jf J.fs.length st))->(∀k,0<=st k/\st k<=400)->Q (.ref q) f):zcf K A H Q
def zhg(K:W.Frag):Sp:=fun b H Q _=>zcf K b H Q
theorem zhx:zy ["_law_box_here","_law_few","_law_most","_law_job_here","_law_plan_here"] ["_law_box_here"] (zq (topL 58)):=u3
def zaV(b:_)(H:_)(n:_):=fun(j:St) (g:Hp)=>(Ex2 fun(f c:Int)=>An7 (j=[some (.ref b),some (.int f),some (.int c),none,none]) (0<=f) (f<=60) (0<=c) (c<=60) (SameB b H g) (BoxAt g b (n+1)):Prop)
theorem zh1{f:Addr}{fd:FuncData}(F:Fun K "_law_broken" "_law_broken" (topL 58) f fd)(B:Blt I)(j:Dfn P w K I G "_law_take" 1 ["_law_box_here","_law_size"] xI)(L:Dfn P w K I G "_law_job" 4 ["_law_box_here","_law_few","_law_most","_law_plenty"] (zeX K))(l:Dfn P w K I G "_law_plan" 4 ["_law_box_here","_law_job_here","_law_most"] (zb4 K))(g:Dfn P w K I G "_law_stock_now" 2 ["_law_box_here","_law_job_here","_law_plan_here"] (zg9 K)):FnOk P w K I G CX0 5 f fd ["_law_box_here"] (zhg K):=by
 have nd:=zhx.nd;refine F.ok zhx (fun vs H Q E h=>?_) (fun an A al s H vs Q E N h=>?_)
 ·obtain⟨b,n,rfl,_⟩:=h
  rfl
 ·obtain⟨b,n,rfl,B0,hn,k⟩:=h
  have am:=bG1000000;refine⟨_,(ze (wQ (xi (vG (zI j9 (zg j N.m rfl (za (pv 0) (za zi zb))) zi (zH _)) (qJ (za zi (za zi zb))) (qJ (za zi (za zi zb)))) (jd rfl (zt (zu (i:=1) nd rfl (Or.inl rfl)) (zt (zu (i:=2) nd rfl (Or.inl rfl)) qA)))))
   (ze (zA (i:=3) nd rfl (Or.inl rfl) (zg L N.m rfl (za (pv 0) (za (pv 1) (za (pv 2) (za (qB j9 (zg j N.m rfl (za (pv 0) (za zi zb))) zi (zH _)) zb))))))
   (ze (zA (i:=4) nd rfl (Or.inl rfl) (zg l N.m rfl (za (pv 0) (za (pv 3) (za (zL z9 (z7 (za zi (za zi (za zi zb)))) (zg j N.m rfl (za (pv 0) (za zi zb))) (fun _ _=>rfl)) zb)))))
   (zk (zw (qJ (za (pv 3) (za (pv 4) (za (zg g N.m rfl (za (pv 0) (za (pv 3) (za (pv 4) zb)))) zb))))))))),?_⟩
  refine⟨zaV b H n,?_,?_⟩
  ·refine⟨_,rfl,b,16,n,rfl,B0,by omega,by decide,by decide,fun r H1 r0 r1 B1 S1=>⟨rfl,_,rfl,xg (fun c=>⟨le2,fun T U=>⟨T,_,rfl,u5 zc,rfl,_,_,rfl,_,_,rfl,rfl,60,60,rfl,by decide,by decide,by decide,by decide,S1.new U,B1.new U⟩⟩) (fun c=>⟨le2,fun T U=>⟨T,_,rfl,u5 zc,rfl,_,_,rfl,_,_,rfl,rfl,8,24,rfl,by decide,by decide,by decide,by decide,S1.new U,B1.new U⟩⟩)⟩⟩
  rintro σ' H1 ⟨ah,aa,rfl,f0,f1,m0,m1,S1,B1⟩;refine⟨_,rfl,_,rfl,_,rfl,_,rfl,b,2,_,rfl,B1,by omega,by decide,by decide,fun r H2 r0 r1 B2 S2=>⟨rfl,b,ah,aa,_,_,rfl,B2,by omega,f0,f1,m0,m1,fun jp J D H3 S3 B3 rj jo=>?_⟩⟩
  have ae:=(S1.trans S2).trans S3;refine⟨_,rfl,_,rfl,by show 3<=_;omega,fun l1 h1=>⟨_,rfl,b,3,_,rfl,B3.new h1,by omega,by decide,by decide,fun r2 H4 ao ap B4 S4=>?_⟩⟩
  have n1:=B3.nne h1;have L4:=S4 l1 _ zc n1;have af:=(ae.new (o:=.lst [.int 0,.int 0,.int 5]) h1).trans S4;have ab:=(rj.same (zd (o:=.lst [.int 0,.int 0,.int 5]) h1)).keep (u7 (B3.new h1) S4) (wo J);obtain⟨Y,ag,aj,ak⟩:∃Y:Int,atI [V.int 0,V.int 0,V.int 5] r2=some (.int Y)/\0<=Y/\Y<=100:=by
   have hc:r2=0\/r2=1\/r2=2:=by omega
   rcases hc with rfl | rfl | rfl
   ·exact⟨0,rfl,by decide,by decide⟩
   ·exact⟨0,rfl,by decide,by decide⟩
   ·exact⟨5,rfl,by decide,by decide⟩
  refine⟨l1,_,_,_,rfl,rfl,u4 L4,ag,b,jp,J,D,Y,_,rfl,B4,by omega,ab,jo,aj,ak,fun lp os ts tr H5 S5 B5 M _ LP RT pm ob po=>?_⟩
  have ac:=ab.keep (u7 B4 S5) (wo J);have a0:MOk J D os ts:=⟨jo,po,pm⟩;refine⟨_,rfl,_,rfl,_,rfl,_,rfl,_,rfl,b,jp,lp,J,D,os,tr,ts,_,rfl,B5,by omega,ac,M,LP,RT,a0,fun c st H6 S6 B6 nc _ hc ai=>⟨by show 3<=_;omega,fun q hq=>?_⟩⟩
  have T6:=u7 B5 S6;have O:=zd (H:=H6) (o:=.tup [.ref jp,.ref lp,.ref c]) hq;exact k q jp lp c J D os tr ts st _ (((af.trans S5).trans S6).trans (ua O)) ((B6.same O).mono (by omega)) (u5 zc) ((ac.keep T6 (wo J)).same O) (O _ _ (S6 _ _ LP M)) ((RT.keep T6 (jF ts)).same O) M nc a0 (O _ _ hc) ai
end
def vU(J:Job)(st:Nat->Int):Job:={ J with fs:=J.fs.mapIdx fun k f=>{ f with m:=st k } }
theorem JV(J:Job)(st:Nat->Int)(k:Nat):(vU J st).fs[k]? =(J.fs[k]?).map fun f=>{ f with m:=st k }:=List.getElem?_mapIdx
theorem vC(J:Job)(st:Nat->Int):(vU J st).fs.length=J.fs.length:=List.length_mapIdx
theorem zcv{J:Job}{st:Nat->Int}{f:xn}(h:f∈(vU J st).fs):∃(k:Nat) (g:xn),J.fs[k]? =some g/\f={ g with m:=st k }:=by
 obtain⟨k,hk⟩:=XF.mp h;rw[JV] at hk;obtain⟨g,hg,rfl⟩:=qS.mp hk;exact⟨k,g,hg,rfl⟩
theorem zdV{J:Job}{c:List Nat}{st:Nat->Int}(b:JobOk J c)(s:∀k,0<=st k/\st k<=400):JobOk (vU J st) c:=by
 refine⟨b.gate,b.hd0,b.hd1,by rw[vC];exact b.fl,fun f l=>?_,b.pl,fun p hp=>?_,b.op,b.bo,b.al,by rw[vC];exact b.f0,b.pd⟩
 ·obtain⟨k,g,hg,rfl⟩:=zcv l
  obtain⟨h1,j,_⟩:=b.fa g (zY hg);exact⟨h1,j,(s k).1,(s k).2⟩
 ·obtain⟨h1,j,f,l,e⟩:=b.pa p hp
  refine⟨h1,j,?_⟩
  obtain⟨k,hk⟩:=XF.mp l;have:(vU J st).fs[k]? =some { f with m:=st k }:=by rw[JV,hk];rfl
  exact⟨_,zY this,e⟩
section
variable{X:Cx}
theorem zfR{a b c d y:Str}{O Q T U Y j tp up:Pos}{M N:Nat}{g2:TG}{f:Scope}{g l:Expr}{w:List Expr}{wi:TI}{tf:TT}{te:TE}{D:Pos}(B:List Str)(L:List Nat)(hc:X.calm=true)(hk:f.kind=.function)(hb:vz f.names X.env.scope.names X.N [a,b,c,d] B L=true)(hi:PI X (.Tuple [.Tuple [.Name a O,.Name b Q,.Name c T] N up,.Name d U] M tp) g wi)
  (hf:∀C s H A,PF (zD X ([a,b,c,d]++B) f C s H A) w tf) (he:∀C s H A,PE (zD X ([a,b,c,d]++B) f C s H A) l te)
  (I:PG X (.Name y Y) g2) (J:swapsWith (.ListComp l [⟨.Tuple [.Tuple [.Name a O,.Name b Q,.Name c T] N up,.Name d U] M tp,g,w,0⟩] f D) (some (.Name y Y)) j.line X.env=pure true:=by rfl)
  (hs:∀x,foldedSetIterable g X.env x=pure x:=by intro _;rfl):PS X (.Assign [.Name y Y] (.ListComp l [⟨.Tuple [.Tuple [.Name a O,.Name b Q,.Name c T] N up,.Name d U] M tp,g,w,0⟩] f D) j) (Wn (tLC wi 4 L (VT X.K 2 (xN (VT X.K 3 (xN (xa 0) (xN (xa 1) (xN (xa 2) WM)))) (xN (xa 3) WM))) tf te) g2):=by
 obtain⟨h1,E,G⟩:=xf hb;refine zac [a,b,c,d] B L hc hk h1 hi (fun C s H A=>?_) hf he I J hs
 exact jd (X:=zD X ([a,b,c,d]++B) f C s H A) hc (zt (jd (X:=zD X ([a,b,c,d]++B) f C s H A) hc (zt (jL (E a (by simp)) G rfl) (zt (jL (E b (by simp)) G rfl) (zt (jL (E c (by simp)) G rfl) qA)))) (zt (jL (E d (by simp)) G rfl) qA))
end
section
variable{P:Program}{w:World}{K:W.Frag}{G:Str->Option Value}{j:Heap}
inductive X6(K:W.Frag)(g:List V)(H:Hp)(Q:VK):Prop
 | mk (f c:Addr) (J:Job) (st:Nat->Int) (_:g=[.ref f,.ref c]) (_:Rep K H (vw J) (.ref f)) (_:J.fs.length<=1000) (_:SqL K H c (jf J.fs.length st)) (_:∀(p:Addr) b,Same H b->Rep K b (vw (vU J st)) (.ref p)->Q (.ref p) b):X6 K g H Q
def zb2(K:W.Frag):Sp:=fun b H Q _=>X6 K b H Q
theorem zco:zy ["job","stock","gate","heads","feeders","parts","aheads","changed"] ["job","stock"] (zq (topL 39)):=u3
theorem VR{J:Job}{st:Nat->Int}{i:Nat}{f:xn}(h:J.fs[i]? =some f):(vU J st).fs.take (i+1)=(vU J st).fs.take i++[{ f with m:=st i }]:=qr (by rw[JV,h];rfl)
theorem zec{f:Addr}{fd:FuncData}(F:Fun K "restocked_job" "restocked_job" (topL 39) f fd)(B:Blt G):FnOk P w K G j CX0 1 f fd ["job","stock"] (zb2 K):=by
 have I:=zco.nd;refine F.ok zco (fun vs H Q E h=>?_) (fun ac A U s H vs Q E hr h=>?_)
 ·obtain⟨jp,c,J,st,rfl,_⟩:=h
  rfl
 ·obtain⟨jp,c,J,st,rfl,rj,fl,hc,k⟩:=h
  have ab:=bG1000000;obtain⟨g,fs,ps,as,fv,px,qj,rg,qf,rf,qp,rp,ra⟩:=xV rj;have lf:=rf.len;rw[zn] at lf;refine⟨_,(ze (xi (pv 0) (jd rfl (zt (zu (i:=2) I rfl (Or.inl rfl)) (zt (zu (i:=3) I rfl (Or.inl rfl)) (zt (zu (i:=4) I rfl (Or.inl rfl)) (zt (zu (i:=5) I rfl (Or.inl rfl)) (zt (zu (i:=6) I rfl (Or.inl rfl)) qA)))))))
   (ze (zfR [] [] rfl rfl (by kernel_rfl) (WA rfl B.zip (za (pv 4) (za (pv 1) zb))) (fun _ _ _ _=>qQ) (fun _ _ _ _=>(qJ (za (pv 0) (za (pv 1) (za (pv 3) zb))))) (zu (i:=7) I rfl (Or.inl rfl)))
   (zk (zw (qJ (pa5 (pv 2) (pv 3) (zW qI rfl B.tuple qv (za (pv 7) zb)) (pv 5) (pv 6))))))),?_⟩
  refine⟨_,rfl,jp,_,rfl,qj,rfl,_,_,rfl,_,_,rfl,_,_,rfl,_,_,rfl,_,_,rfl,rfl,?_⟩
  refine⟨_,rfl,_,rfl,false,true,fs,c,rfl,⟨fv,qf⟩,⟨_,hc⟩,?_⟩
  refine J8 (K:=K) (k1:=false) (k2:=true) (xs:=fv) (ys:=jf J.fs.length st) (fun i b l=>Reps K l (((vU J st).fs.take i).map xF) b/\Same H l) ⟨rfl,u6 _⟩ (fun i b l ⟨_,M⟩=>⟨M.sqT qf,M.seq hc⟩) ?_ ?_
  ·rintro i x y b l T e1 e2 ⟨L,M⟩ hT
   have s4:=M.trans (zd (o:=.tup [x,y]) hT);have aa:=L.same (zd (o:=.tup [x,y]) hT);obtain⟨d,q1,r1⟩:=(rf.same s4).get e1;rw[qm] at q1;obtain⟨fe,w1,rfl⟩:=qS.mp q1;have hi:=(zK.mp w1).1;rw[xX hi] at e2;cases e2;obtain⟨fa,fc,rfl,Y,a0⟩:=xA r1;have zl:=L.len;rw[zn,qC] at zl;refine⟨T,_,rfl,u5 zc,rfl,_,_,rfl,⟨fa,_,rfl,Y,rfl,_,_,rfl,_,_,rfl,_,_,rfl,rfl,_,_,rfl,rfl,rfl,?_⟩⟩
   generalize upd l T (.tup [.ref fa,.int (st i)])=O at *
   refine⟨_,rfl,_,rfl,_,rfl,by show 3<=_;omega,fun q hq=>⟨by omega,?_,s4.trans (zd hq)⟩⟩
   rw[VR w1,zQ];have sq:=zd (H:=O) (o:=.tup [.str fe.k,.ref fc,.int (st i)]) hq;exact(aa.same sq).app ⟨_,_,rfl,⟨q,_,rfl,u5 zc,_,_,rfl,rfl,_,_,rfl,⟨fc,_,rfl,sq.sqT a0,_,_,rfl,rfl,_,_,rfl,rfl,rfl⟩,_,_,rfl,rfl,rfl⟩,rfl⟩
  ·rintro b l ⟨L,M⟩
   rw[jK,lf,Nat.min_self,<- vC J st,qW] at L;have zl:=L.len;rw[zn,vC] at zl;refine⟨by omega,fun D hD=>?_⟩
   have sD:=zd (H:=l) (o:=.lst b) hD;refine⟨_,rfl,_,rfl,_,rfl,D,b,rfl,.inl ⟨u4 zc,fun t ht=>?_⟩⟩
   have sT:=sD.trans (zd (o:=.tup b) ht);have qT:=zc (H:=upd l D (.lst b)) (a:=t) (o:=.tup b);generalize upd (upd l D (.lst b)) t (.tup b)=O at sT qT;refine⟨_,rfl,_,rfl,by show 5<=_;omega,fun p hp=>?_⟩
   have sp:=zd (H:=O) (o:=.tup [.ref g,.int J.hd,.ref t,.ref ps,.ref as]) hp;have N:=(M.trans sT).trans sp;exact k p _ N ⟨p,_,rfl,u5 zc,_,_,rfl,rg.same N,_,_,rfl,rfl,_,_,rfl,⟨t,b,rfl,u5 (sp _ _ qT),L.same (sT.trans sp)⟩,_,_,rfl,⟨ps,px,rfl,N.sqT qp,rp.same N⟩,_,_,rfl,ra.same N,rfl⟩
theorem wd{α:Type}{f:α->Dat}:∀{l:List α},(∀a∈l,(f a).shw=true)->Dat.shws (l.map f)=true
 | [],_=>rfl
 | a::l,h=>by
  show((f a).shw&&Dat.shws (l.map f))=true;rw[h a (by simp),wd fun b hb=>h b (jc _ hb)]
  rfl
theorem wx{α:Type}{f:α->Dat}{c:Nat}:∀{l:List α},(∀a∈l,(f a).blk<=c)->Dat.blks (l.map f)<=(c+1)*l.length
 | [],_=>qV _
 | a::l,h=>by
  show(f a).blk+1+Dat.blks (l.map f)<=_;have h1:=h a (by simp)
  have g:=wx (f:=f) (c:=c) (l:=l) fun b hb=>h b (jc _ hb)
  rw[jV,Nat.mul_succ];omega
theorem vI{α:Type}{f:α->Dat}{c:Nat}(h:∀a,(f a).py.depth<=c):∀l:List α,PyData.depthAll (Dat.pys (l.map f))<=c
 | []=>qV _
 | a::l=>by
  have h1:=h a;have b:=vI h l;show max (PyData.depth (f a).py) (PyData.depthAll (Dat.pys (l.map f)))<=c;omega
theorem ZQ{i:Int}(h:-1000000<=i)(b:i<=1000000):Dat.shw (.int i)=true:=zX (by omega)
theorem zet{J:Job}{s:List Nat}(l:JobOk J s):Dat.ok 4 (vw J):=by
 have D:=l.fl;have E:=l.pl;have B:=l.al;have c:∀{n:Nat} {a b:Dat},Dat.ok n a->Dat.ok n b->Dat.ok (n+1) (.tup [a,b]):=fun A hb=>⟨show 2<=1000000 by decide,fun d hd=>by
  rcases zR.mp hd with rfl | hd
  ·exact A
  ·rw[qg.mp hd];exact hb⟩
 refine⟨show 5<=1000000 by decide,fun d hd=>?_⟩
 rcases zR.mp hd with rfl | hd
 ·exact c trivial trivial
 rcases zR.mp hd with rfl | hd
 ·trivial
 rcases zR.mp hd with rfl | hd
 ·refine⟨by rw[zn];omega,fun e f=>?_⟩
  obtain⟨p,_,rfl⟩:=zP.mp f;refine⟨show 3<=1000000 by decide,fun g hg=>?_⟩
  rcases zR.mp hg with rfl | hg
  ·trivial
  rcases zR.mp hg with rfl | hg
  ·exact c trivial trivial
  ·rw[qg.mp hg];trivial
 rcases zR.mp hd with rfl | hd
 ·refine⟨by rw[zn];omega,fun e f=>?_⟩
  obtain⟨p,_,rfl⟩:=zP.mp f;exact c trivial (c trivial trivial)
 ·rw[qg.mp hd]
  refine⟨by rw[zn];omega,fun e f=>?_⟩
  obtain⟨p,_,rfl⟩:=zP.mp f;exact c trivial trivial
inductive zb3(K:W.Frag)(l:List V)(H:Hp)(Q:VK):Prop
 | mk (g c:Addr) (J:Job) (b:List Nat) (st:Nat->Int) (_:l=[.ref g,.ref c]) (_:Rep K H (vw J) (.ref g)) (_:JobOk J b) (_:SqL K H c (jf J.fs.length st)) (_:(∀k,0<=st k/\st k<=400)) (_:∀f,Same H f->Q (.bl true) f):zb3 K l H Q
def zha(K:W.Frag):Sp:=fun b H Q _=>zb3 K b H Q
theorem zhp:zy ["_law_job_here","_law_stock","_law_found","_law_feeders_here"] ["_law_job_here","_law_stock"] (zq (topL 59)):=u3
theorem zhR{f:Addr}{fd:FuncData}(F:Fun K "_law_restocked_right" "_law_restocked_right" (topL 59) f fd)(B:Blt G)(b:Dfn P w K G j "restocked_job" 1 ["job","stock"] (zb2 K))(O:Dfn P w K G j "_law_same" 5 ["_law_found","_law_due"] (spS K 5))(M:Dfn P w K G j "is_job" 6 ["thing"] (zeY K)):FnOk P w K G j CX0 7 f fd ["_law_job_here","_law_stock"] (zha K):=by
 have nd:=zhp.nd;refine F.ok zhp (fun vs H Q E h=>?_) (fun av A an s H vs Q E hr h=>?_)
 ·obtain⟨jp,c,J,am,st,rfl,_⟩:=h
  rfl
 ·obtain⟨jp,c,J,am,st,rfl,rj,jo,hc,ak,k⟩:=h
  have au:=bG1000000;have fl:=jo.fl;have aa:¬(HT.sIx 3 0 none=0/\HT.sIx 3 3 (some 2)=3):=by decide
  refine⟨_,(ze (zA (i:=2) nd rfl (Or.inl rfl) (zg b hr.m rfl (za (pv 0) (za (pv 1) zb))))
   (ze (Wx [] [] rfl rfl (by kernel_rfl) (WA rfl B.zip (za (zL jC (pv 0) zi (fun _ _=>rfl)) (za (pv 1) zb))) (fun _ _ _ _=>qQ) (fun _ _ _ _=>(zJ (zcS (K:=K) rfl) (vF (zdT (K:=K) rfl) (pv 0) yz (vO zi)) (qJ (za (pv 1) zb)))) (zu (i:=3) nd rfl (Or.inl rfl)))
   (zk (zw (j6 (zg O hr.m rfl (za (pv 2) (za (zJ J4 (zJ J4 (vF Wr (pv 0) yz (vO zi)) (qJ (za (zW qI rfl B.tuple qv (za (pv 3) zb)) zb))) (vF Wr (pv 0) (vO zi) yz)) zb))) (xj (qB zf7 (zg M hr.m rfl (za (pv 2) zb)) xM (zH _)))))))),?_⟩
  refine⟨_,rfl,_,rfl,jp,c,J,st,rfl,rj,by omega,hc,fun fp H1 s1 ag=>?_⟩
  obtain⟨g,fs,I,L,fv,px,qj,rg,qf,rf,qp,rp,ra⟩:=xV (rj.same s1);have ae:=s1.seq hc;have lf:=rf.len;rw[zn] at lf;refine⟨_,rfl,jp,_,_,_,rfl,rfl,qj,rfl,_,rfl,false,true,fs,c,rfl,⟨fv,qf⟩,⟨_,ae⟩,?_⟩
  refine J8 (K:=K) (k1:=false) (k2:=true) (xs:=fv) (ys:=jf J.fs.length st) (fun i l N=>Reps K N (((vU J st).fs.take i).map xF) l/\Same H1 N) ⟨rfl,u6 _⟩ (fun i l N ⟨_,sm⟩=>⟨sm.sqT qf,sm.seq ae⟩) ?_ ?_
  ·rintro i x y l N T e1 e2 ⟨rz,sm⟩ hT
   have s4:=sm.trans (zd (o:=.tup [x,y]) hT);have aq:=rz.same (zd (o:=.tup [x,y]) hT);obtain⟨d,q1,r1⟩:=(rf.same s4).get e1;rw[qm] at q1;obtain⟨fe,w1,rfl⟩:=qS.mp q1;have hi:=(zK.mp w1).1;rw[xX hi] at e2;cases e2;obtain⟨fa,fc,rfl,ao,ap⟩:=xA r1;have zl:=rz.len;rw[zn,qC] at zl;refine⟨T,_,rfl,u5 zc,rfl,_,_,rfl,_,_,rfl,rfl,rfl,?_⟩
   generalize upd N T (.tup [.ref fa,.int (st i)])=H4 at *
   refine⟨_,rfl,2,rfl,fa,_,rfl,ao,aa,fun Y a0=>?_⟩
   have T2:upd H4 Y (.tup (jY [V.str fe.k,V.ref fc,V.int fe.m] none (some 2))) Y=some (.tup [V.str fe.k,V.ref fc]):=zc;have s5:=zd (H:=H4) (o:=.tup (jY [V.str fe.k,V.ref fc,V.int fe.m] none (some 2))) a0;generalize upd H4 Y (.tup (jY [V.str fe.k,V.ref fc,V.int fe.m] none (some 2)))=H5 at *
   refine⟨_,rfl,le1,fun t1 U=>?_⟩
   have s6:=s5.trans (zd (o:=.tup [.int (st i)]) U);refine⟨Y,t1,_,_,rfl,rfl,u5 (zd U _ _ T2),u5 zc,(fun z=>nomatch z),(by show 2+1<=_;omega),(fun z=>nomatch z),fun _ r hr=>⟨by omega,?_,s4.trans (s6.trans (zd hr))⟩⟩
   have s7:=s6.trans (zd (o:=.tup ([V.str fe.k,V.ref fc]++[.int (st i)])) hr);rw[VR w1,zQ];exact(aq.same s7).app ⟨_,_,rfl,⟨r,_,rfl,u5 zc,_,_,rfl,rfl,_,_,rfl,⟨fc,_,rfl,s7.sqT ap,_,_,rfl,rfl,_,_,rfl,rfl,rfl⟩,_,_,rfl,rfl,rfl⟩,rfl⟩
  ·rintro l N ⟨rz,sm⟩
   rw[jK,lf,Nat.min_self,<- vC J st,qW] at rz;have zl:=rz.len;rw[zn,vC] at zl;refine⟨by omega,fun D hD=>?_⟩
   have sD:=sm.trans (zd (H:=N) (o:=.lst l) hD);have rz:=rz.same (zd (H:=N) (o:=.lst l) hD);have D3:upd N D (.lst l) D=some (.lst l):=zc;generalize upd N D (.lst l)=H4 at *
   have ab:¬(HT.sIx 5 0 none=0/\HT.sIx 5 5 (some 2)=5):=by decide
   refine⟨_,rfl,_,rfl,2,rfl,jp,_,rfl,sD.sqT qj,ab,fun Y a0=>?_⟩
   have T2:upd H4 Y (.tup (jY [V.ref g,.int J.hd,.ref fs,.ref I,.ref L] none (some 2))) Y=some (.tup [.ref g,.int J.hd]):=zc;have s5:=zd (H:=H4) (o:=.tup (jY [V.ref g,.int J.hd,.ref fs,.ref I,.ref L] none (some 2))) a0;generalize upd H4 Y (.tup (jY [V.ref g,.int J.hd,.ref fs,.ref I,.ref L] none (some 2)))=H5 at *
   refine⟨_,rfl,D,l,rfl,.inl ⟨u4 (s5 _ _ D3),fun t ht=>⟨le1,fun t1 U=>?_⟩⟩⟩
   have s6:=zd (H:=H5) (o:=.tup l) ht;have Q6:upd H5 t (.tup l) t=some (.tup l):=zc;generalize upd H5 t (.tup l)=H6 at *
   have s7:=zd (H:=H6) (o:=.tup [.ref t]) U;refine⟨Y,t1,_,_,rfl,rfl,u5 (s7 _ _ (s6 _ _ T2)),u5 zc,(fun z=>nomatch z),(by show 2+1<=_;omega),(fun z=>nomatch z),fun _ p3 aj=>?_⟩
   have s8:=s7.trans (zd (o:=.tup ([V.ref g,.int J.hd]++[.ref t])) aj);have P8:upd (upd H6 t1 (.tup [.ref t])) p3 (.tup ([V.ref g,.int J.hd]++[.ref t])) p3=some (.tup [.ref g,.int J.hd,.ref t]):=zc;generalize upd (upd H6 t1 (.tup [.ref t])) p3 (.tup ([V.ref g,.int J.hd]++[.ref t]))=H7 at s8 P8;have ai:=s5.trans (s6.trans s8);have ac:¬(HT.sIx 5 0 (some 3)=0/\HT.sIx 5 5 none=5):=by decide
   refine⟨_,rfl,3,rfl,jp,_,rfl,(sD.trans ai).sqT qj,ac,fun t4 al=>?_⟩
   have s9:=zd (H:=H7) (o:=.tup (jY [V.ref g,.int J.hd,.ref fs,.ref I,.ref L] (some 3) none)) al;have T9:upd H7 t4 (.tup (jY [V.ref g,.int J.hd,.ref fs,.ref I,.ref L] (some 3) none)) t4=some (.tup [.ref I,.ref L]):=zc;generalize upd H7 t4 (.tup (jY [V.ref g,.int J.hd,.ref fs,.ref I,.ref L] (some 3) none))=H8 at *
   refine⟨p3,t4,_,_,rfl,rfl,u5 (s9 _ _ P8),u5 T9,(fun z=>nomatch z),(by show 3+2<=_;omega),(fun z=>nomatch z),fun _ p5 af=>?_⟩
   have sA:=(ai.trans s9).trans (zd (o:=.tup ([V.ref g,.int J.hd,.ref t]++[.ref I,.ref L])) af);have PA:upd H8 p5 (.tup ([V.ref g,.int J.hd,.ref t]++[.ref I,.ref L])) p5=some (.tup [.ref g,.int J.hd,.ref t,.ref I,.ref L]):=zc;have QA:=(s8.trans (s9.trans (zd (o:=.tup ([V.ref g,.int J.hd,.ref t]++[.ref I,.ref L])) af))) _ _ Q6;generalize upd H8 p5 (.tup ([V.ref g,.int J.hd,.ref t]++[.ref I,.ref L]))=H9 at sA PA QA;have sB:=sD.trans sA;have ro:=zdV jo ak;refine⟨vw (vU J st),.ref fp,.ref p5,rfl,ag.same sB,⟨p5,_,rfl,u5 PA,_,_,rfl,rg.same sB,_,_,rfl,rfl,_,_,rfl,⟨t,l,rfl,u5 QA,rz.same sA⟩,_,_,rfl,⟨I,px,rfl,sB.sqT qp,rp.same sB⟩,_,_,rfl,ra.same sB,rfl⟩,zet ro,fun HB ah=>⟨_,rfl,ifT rfl ?_⟩⟩
   refine⟨_,rfl,fp,vU J st,rfl,ag.same (sB.trans ah),ro.rt,fun HC ar=>⟨true,true,rfl,rfl,k _ (s1.trans ((sB.trans ah).trans ar))⟩⟩
end
def Kd(J:Job)(l:List (Nat×Option Nat)):Prop:=∀q∈l,∀k,q.2=some k->yt J (q.1,k)
theorem zfL{J:Job}{p k:Nat}{b:Nat->Int}(hp:p<J.ps.length)(h:k∈rdy J p b):yt J (p,k):=by
 obtain⟨h1,_⟩:=jD.mp h;obtain⟨c,f⟩:=jD.mp h1;have hk:=jJ.mp c;have e:=ju f;refine⟨J.ps[p],J.fs[k],qP hp,qP hk,?_⟩
 rw[qP hk] at e;unfold zes at e;rw[qP hp] at e;exact jt e
theorem zgv{J:Job}{st:Nat->Int}{all:List (Nat×Nat)}(h:∀p∈all,yt J p):Kd J (P2 J st all all).2:=by
 have:∀(b:List (Nat×Nat)) s,(∀p∈b,yt J p)->Kd J s.2->Kd J (b.foldl (s2 J) s).2:=by
  intro b;induction b with
  | nil=>intro s _ h;exact h
  | cons p r l=>
   intro s h1 c;rw[W0];refine l _ (fun q hq=>h1 q (jc _ hq)) ?_
   unfold s2;split
   ·exact c
   ·obtain⟨w,_,j,_⟩:=h1 p jb
    have hp:=(zK.mp j).1;split
    ·intro q hq k e
     rcases qM.mp hq with hq | hq
     ·exact c q hq k e
     ·rw[qg.mp hq] at e;cases e
    ·rename_i f _ g
     intro q hq k e;rcases qM.mp hq with hq | hq
     ·exact c q hq k e
     ·rw[qg.mp hq] at e ⊢
      cases e;exact zfL hp (by rw[g];exact jb)
 refine this all _ h fun q hq k e=>?_
 obtain⟨p,hp,rfl⟩:=zP.mp (show q∈som (P1 st all).2 from hq)
 cases e;exact h p ((XS st all).subset hp)
theorem zgo{c:List (Nat×Option Nat)}{p k:Nat}(h:((lkF c p).getD none)=some k):(p,some k)∈c:=by
 unfold lkF at h;cases e:c.find? fun q=>decide (q.1=p) with
 | none=>rw[e] at h;cases h
 | some q=>
  rw[e] at h;have h1:=WZ e;have f:=Yu e;obtain⟨a,b⟩:=q;cases(show a=p from ju h1)
  cases(show b=some k from h)
  exact f
theorem MOk.fd{J:Job}{c os:List Nat}{b:List qw}(m:MOk J c os b)(st:Nat->Int)(p:Nat):fdN (qK J st b) p<100:=by
 unfold fdN;cases e:(lkF (qK J st b) p).getD none with
 | none=>exact Nat.zero_lt_succ _
 | some k=>
  have j:=zgv (J:=J) (st:=st) (all:=zp b) fun q hq=>by
   obtain⟨t,g,hp⟩:=Xw.mp hq;exact(m.po.tr t g).ok q hp
  obtain⟨_,l,_,f,_⟩:=j _ (zgo e) k rfl;have:=(zK.mp f).1;have:=m.jo.fl;show k<100;omega
theorem MOk.mt{J:Job}{c os:List Nat}{f:List qw}(m:MOk J c os f)(st:Nat->Int)(g:Nat->Bool):∀t∈xZ (qK J st f) g f,t.pk.length<=4/\t.ly.length<=4/\(∀p∈t.pk,p.1<100/\p.2<100)/\∀k∈t.ly,k<100:=fun A b=>by
 unfold xZ at b;obtain⟨t,w,rfl⟩:=zP.mp (jD.mp b).1;obtain⟨h1,j,l,s⟩:=m.t100 t w;refine⟨?_,qL (jz _ _) j,fun p hp=>?_,fun k hk=>s k (jD.mp hk).1⟩
 ·show((t.pk.filter fun p=>!g p.1).map fun p=>(p.1,fdN _ p.1)).length<=4
  rw[zn];exact qL (jz _ _) h1
 ·obtain⟨q,hq,rfl⟩:=zP.mp hp
  exact⟨(l q (jD.mp hq).1).1,m.fd st q.1⟩
theorem zfF{l:List Nat}{n:Nat}(h:∀k∈l,k<n):∀z∈srt (nI l),0<=z/\z<n:=fun z hz=>by
 obtain⟨k,hk,rfl⟩:=zP.mp ((wc (nI l)).mem_iff.mp hz);exact⟨Yc _,Int.ofNat_lt.mpr (h k hk)⟩
theorem MOk.p100{J:Job}{b os:List Nat}{c:List qw}(m:MOk J b os c):∀p∈zp c,p.1<100:=fun p hp=>by
 have:=(m.ok p hp).1;have:=m.jo.pl;omega
theorem VA{J:Job}{j os:List Nat}{f:List qw}(m:MOk J j os f)(st:Nat->Int)(g:Nat->Bool):(Jv (qK J st f) g f).shw=true:=by
 have c:∀l:List Nat,(∀k∈l,k<100)->Dat.shws ((srt (nI l)).map Dat.int)=true:=fun l h=>wd fun z hz=>by
  obtain⟨a,b⟩:=zfF h z hz;exact ZQ (by omega) (by omega)
 show(Dat.shws ((xZ (qK J st f) g f).map jm)&&(Dat.shws ((srt (nI (xw (qK J st f) g (zp f)))).map Dat.int)&&(Dat.shws ((srt (nI (yW g (zp f)))).map Dat.int)&&true)))=true;rw[wd fun t w=>?_,c,c]
 ·rfl
 ·intro k hk
  obtain⟨p,hp,rfl⟩:=zP.mp (jD.mp hk).1;exact m.p100 p hp
 ·intro k hk
  obtain⟨p,hp,rfl⟩:=zP.mp hk;exact m.p100 p (jD.mp hp).1
 ·obtain⟨_,_,h1,s⟩:=m.mt st g t w
  show(Dat.shws (t.pk.map jq)&&(Dat.shws (t.ly.map Qj)&&true))=true;rw[wd,wd]
  ·rfl
  ·intro k hk
   have:=s k hk;exact ZQ (by omega) (by omega)
  ·intro p hp
   have:=h1 p hp;show(Dat.shw (.int (p.1:Int))&&(Dat.shw (.int (p.2:Int))&&true))=true;rw[ZQ (by omega) (by omega),ZQ (by omega) (by omega)]
   rfl
theorem VC{J:Job}{s os:List Nat}{b:List qw}(m:MOk J s os b)(st:Nat->Int)(j:Nat->Bool):(Jv (qK J st b) j b).blk<=1048576:=by
 have E:=wx (f:=jm) (c:=100) (l:=xZ (qK J st b) j b) fun t B=>by
  obtain⟨G,H,_⟩:=m.mt st j t B;have w:=wx (f:=jq) (c:=5) (l:=t.pk) fun p hp=>by
   show 0+1+(0+1+0)<=5;omega
  have A:=wx (f:=Qj) (c:=1) (l:=t.ly) fun p hp=>by
   show 0<=1;omega
  show Dat.blks (t.pk.map jq)+1+(Dat.blks (t.ly.map Qj)+1+0)<=100;omega
 have M:(xZ (qK J st b) j b).length<=b.length:=by
  unfold xZ;exact qL (jz _ _) (by rw[zn];exact zC _)
 have g:∀l:List Nat,Dat.blks ((srt (nI l)).map Dat.int)<=2*l.length:=fun l=>by
  have:=wx (f:=Dat.int) (c:=1) (l:=srt (nI l)) fun p hp=>by
   show 0<=1;omega
  rw[(wc (nI l)).length_eq,Qk] at this;exact this
 have w:=g (xw (qK J st b) j (zp b));have A:=g (yW j (zp b));have I:(xw (qK J st b) j (zp b)).length<=(zp b).length:=by
  unfold xw;rw[zn];exact jz _ _
 have L:(yW j (zp b)).length<=(zp b).length:=by
  unfold yW;exact qL (jz _ _) (by rw[zn];exact zC _)
 have D:=m.brk.al;have N:=m.po.len;show Dat.blks ((xZ (qK J st b) j b).map jm)+1+(Dat.blks ((srt (nI (xw (qK J st b) j (zp b)))).map Dat.int)+1+(Dat.blks ((srt (nI (yW j (zp b)))).map Dat.int)+1+0))<=_;omega
theorem Je(b:List qw):PyData.depthAll (Dat.pys (b.map jm))<=20:=vI (fun t=>by
 have g:=vI (f:=jq) (c:=10) (fun p=>by
  show PyData.depth (.tuple [.int p.1,.int p.2])<=10;simp[PyData.depth,PyData.depthAll]) t.pk
 have j:=vI (f:=Qj) (c:=10) (fun p=>by
  show PyData.depth (.int p)<=10;simp[PyData.depth]) t.ly
 show PyData.depth (.tuple [.tuple (Dat.pys (t.pk.map jq)),.tuple (Dat.pys (t.ly.map Qj))])<=20;simp only[PyData.depth,PyData.depthAll];omega) b
theorem VO(l:List Int):PyData.depthAll (Dat.pys (l.map Dat.int))<=10:=vI (fun p=>by
 show PyData.depth (.int p)<=10;simp[PyData.depth]) l
theorem VB(f:List (Nat×Option Nat))(b:Nat->Bool)(c:List qw):(Jv f b c).py.depth<=60:=by
 have h1:=Je (xZ f b c);have g:=VO (srt (nI (xw f b (zp c))));have j:=VO (srt (nI (yW b (zp c))));show PyData.depth (.tuple [.list (Dat.pys ((xZ f b c).map jm)),.list (Dat.pys ((srt (nI (xw f b (zp c)))).map Dat.int)),.list (Dat.pys ((srt (nI (yW b (zp c)))).map Dat.int))])<=60;simp only[PyData.depth,PyData.depthAll];omega
section
variable{X:Cx}
theorem zfS{a b c y:Str}{N O Q T j U:Pos}{M:Nat}{Y:TG}{f:Scope}{g l:Expr}{w:List Expr}{wi:TI}{tf:TT}{te:TE}{D:Pos}(B:List Str)(L:List Nat)(hc:X.calm=true)(hk:f.kind=.function)(hb:vz f.names X.env.scope.names X.N [a,b,c] B L=true)(hi:PI X (.Tuple [.Name a N,.Name b O,.Name c Q] M U) g wi)
  (hf:∀C s H A,PF (zD X ([a,b,c]++B) f C s H A) w tf) (he:∀C s H A,PE (zD X ([a,b,c]++B) f C s H A) l te)
  (I:PG X (.Name y T) Y) (J:swapsWith (.ListComp l [⟨.Tuple [.Name a N,.Name b O,.Name c Q] M U,g,w,0⟩] f D) (some (.Name y T)) j.line X.env=pure true:=by rfl)
  (hs:∀x,foldedSetIterable g X.env x=pure x:=by intro _;rfl):PS X (.Assign [.Name y T] (.ListComp l [⟨.Tuple [.Name a N,.Name b O,.Name c Q] M U,g,w,0⟩] f D) j) (Wn (tLC wi 3 L (VT X.K 3 (xN (xa 0) (xN (xa 1) (xN (xa 2) WM)))) tf te) Y):=by
 obtain⟨h1,E,G⟩:=xf hb;refine zac [a,b,c] B L hc hk h1 hi (fun C s H A=>?_) hf he I J hs
 exact jd (X:=zD X ([a,b,c]++B) f C s H A) hc (zt (jL (E a (by simp)) G rfl) (zt (jL (E b (by simp)) G rfl) (zt (jL (E c (by simp)) G rfl) qA)))
theorem WO{K:W.Frag}(h:X.K=K)(hg:X.A.guards=some [])(hu:X.A.units+64<cLine):CallR X (.type "str") (wJ K):=by rw[<- h];exact JD hg hu
end
structure Cas where
 jp:Addr
 l:Addr
 c:Addr
 J:Job
 ord:List Nat
 os:List Nat
 xs:List V
 ts:List qw
 st:Nat->Int
structure CasAt(K:W.Frag)(b:Addr)(H:Hp)(q:Addr)(x:Cas):Prop where
 qq:SqT K H q [.ref x.jp,.ref x.l,.ref x.c]
 rj:Rep K H (vw x.J) (.ref x.jp)
 hl:H x.l=some (.lst x.xs)
 rl:Reps K H (x.ts.map jm) x.xs
 nl:x.l≠b
 nc:x.c≠b
 mo:MOk x.J x.ord x.os x.ts
 hc:H x.c=some (.lst (jf x.J.fs.length x.st))
 hst:∀k,0<=x.st k/\x.st k<=400
theorem CasAt.keep{K:W.Frag}{b:Addr}{H c:Hp}{q:Addr}{x:Cas}(h:CasAt K b H q x)(t:SameT H c)(s:SameB b H c):CasAt K b c q x:=
 ⟨h.qq.keep t,h.rj.keep t (wo _),s _ _ h.hl h.nl,Reps.keep t (jF _) h.rl,h.nl,h.nc,h.mo,s _ _ h.hc h.nc,h.hst⟩
theorem CasAt.same{K:W.Frag}{b:Addr}{H c:Hp}{q:Addr}{x:Cas}(h:CasAt K b H q x)(s:Same H c):CasAt K b c q x:=h.keep (.of s) (.of s)
noncomputable def zbX (x:Cas):Str:=(Jv (qK x.J x.st x.ts) (jX x.J x.st x.ts) x.ts).py.shown
section
variable{P:Program}{w:World}{K:W.Frag}{G:Str->Option Value}{g:Heap}
theorem ZZ{H:Hp}(st:Nat->Int):∀l:List Nat,Reps K H (l.map fun k=>Dat.int (st k)) (l.map fun k=>V.int (st k))
 | []=>rfl
 | k::l=>⟨_,_,rfl,rfl,ZZ st l⟩
inductive Jk(f:List V)(H:Hp)(Q:VK):Prop
 | mk (b:Addr) (n:Int) (_:f=[.ref b]) (_:BoxAt H b n) (_:n<50000) (_:∀c,SameB b H c->Q (.bl true) c):Jk  f H Q
def YI:Sp:=fun b H Q _=>Jk  b H Q
theorem zho:zy ["_law_box_here","_law_some","_law_dues","_law_turn","_law_at","_law_job_here","_law_plan_here","_law_stock","_law_handed","_law_rows","_law_found"] ["_law_box_here"] (zq (topL 60)):=u3
def zaU(b:_)(l:_)(dl:_)(j:_)(n:_):=fun(i:Nat) (σ:St) (f:Hp)=>(Ex8 fun(s A B D E H I c:Option V)=>An3 (σ=[some (.ref b),some (.ref l),some (.ref dl),s,A,B,D,E,H,I,c]) (SameB b j f) (BoxAt f b (n+6000+6000+i)):Prop)
theorem zhS{f:Addr}{fd:FuncData}(F:Fun K "_law_right" "_law_right" (topL 60) f fd)(B:Blt G)(aa:Dfn P w K G g "_law_take" 1 ["_law_box_here","_law_size"] xI)(J:Dfn P w K G g "_law_broken" 5 ["_law_box_here"] (zhg K))(l:Dfn P w K G g "mended_plan" 5 ["job","plan","stock"] (zhd K))(D:Dfn P w K G g "_law_restocked_right" 7 ["_law_job_here","_law_stock"] (zha K)):FnOk P w K G g CX0 8 f fd ["_law_box_here"] YI:=by
 have nd:=zho.nd;refine F.ok zho (fun vs H Q E h=>?_) (fun cj A c8 s H vs Q E hr h=>?_)
 ·obtain⟨b,n,rfl,_⟩:=h
  rfl
 ·obtain⟨b,n,rfl,B0,hn,k⟩:=h
  have ci:=bG1000000;have aq:=bGe;have U:=hr.units;have hg:=hr.gd;refine⟨_,(ze (zA (i:=1) nd rfl (Or.inl rfl) (z7 (za (zg J hr.m rfl (za (pv 0) zb)) (za (zg J hr.m rfl (za (pv 0) zb)) zb))))
   (ze (zfS [] [] rfl rfl (by kernel_rfl) (qH (pv 1)) (fun _ _ _ _=>qQ) (fun _ _ _ _=>(zW (WO (K:=K) rfl hg U) rfl B.str vJ (za (zg l hr.m rfl (za (pv 0) (za (pv 1) (za (pv 2) zb)))) zb))) (zu (i:=2) nd rfl (Or.inl rfl)))
   (ze (jA jU rfl (jx rfl B.range (za zi zb)) (zu (i:=3) nd rfl (Or.inl rfl))
   (ze (zA (i:=4) nd rfl (Or.inl rfl) (zg aa hr.m rfl (za (pv 0) (za zi zb))))
    (ze (xi (zL z9 (pv 1) (pv 4) (fun _ _=>rfl)) (jd rfl (zt (zu (i:=5) nd rfl (Or.inl rfl)) (zt (zu (i:=6) nd rfl (Or.inl rfl)) (zt (zu (i:=7) nd rfl (Or.inl rfl)) qA)))))
    (ze (Ww (i:=8) (j:=9) rfl nd rfl rfl (by decide) rfl rfl (za (zW xT rfl B.list jy (za (pv 7) zb)) (za (zW xT rfl B.list jy (za (pv 6) zb)) zb)) (by rfl))
    (ze (zA (i:=10) nd rfl (Or.inl rfl) (zg l hr.m rfl (za (pv 5) (za (pv 9) (za (pv 8) zb)))))
    (ze (jn (u8 (vE (jG (qY (zg D hr.m rfl (za (pv 5) (za (pv 8) zb))))) (vE (zI (zcQ U) (pv 8) (pv 7) (zH _)) (xJ (zI (zcQ U) (pv 9) (pv 6) (zH _))))))
    (zk (zw xM))
    zZ)
    (ze (qN (WB j4 Ys Yr Ql (pv 8)))
    (ze (qN (WB j4 Ys Yr Ql (pv 9)))
    (ze (jn (zI Qh (zW (JD hg U) rfl B.str vJ (za (pv 10) zb)) (zL z9 (pv 2) (pv 4) (fun _ _=>rfl)) (zH _))
    (zk (zw xM))
    zZ)
    (ze (qN (WB j4 Ys Yr Ql (zL jC (pv 10) zi (fun _ _=>rfl))))
    (ze (qN (xo j4 vh vg qE (zL jC (pv 10) zi (fun _ _=>rfl)) (za zi zb)))
    (zk (qN (xo j4 vh vg qE (zL jC (pv 10) zi (fun _ _=>rfl)) (za zi zb)))))))))))))))
   (zk (zw xM))))),?_⟩
  refine⟨_,rfl,b,n,rfl,B0,by omega,fun q1 bp l1 c1 J1 bb c6 cg cd ca H1 S1 B1 bd bf av bh c3 bw br ar ax=>?_⟩
  have k1:CasAt K b H1 q1 ⟨bp,l1,c1,J1,bb,c6,cg,cd,ca⟩:=⟨bd,bf,av,bh,c3,bw,br,ar,ax⟩;refine⟨_,rfl,b,_,rfl,B1,by omega,fun q2 bq l2 c2 J2 bc c7 ch ce cb H2 S2 B2 be bg aw bi ab bz bs au ay=>?_⟩
  have k2:CasAt K b H2 q2 ⟨bq,l2,c2,J2,bc,c7,ch,ce,cb⟩:=⟨be,bg,aw,bi,ab,bz,bs,au,ay⟩;have k1:=k1.keep (.draw B1 S2) S2;obtain⟨M,el,al⟩:∃M:List (Addr×Cas),M.map (fun p=>V.ref p.1)=[.ref q1,.ref q2]/\∀p∈M,CasAt K b H2 p.1 p.2:=⟨[(q1,_),(q2,_)],rfl,fun p hp=>by
   rcases zR.mp hp with rfl | hp
   ·exact k1
   ·rw[qg.mp hp];exact k2⟩
  refine⟨le2,fun sl ai=>?_⟩
  rw[<- el];have bl:M.length=2:=by have:=congrArg List.length el;rwa[zn] at this
  have s3:=zd (H:=H2) (o:=.lst (M.map fun p=>V.ref p.1)) ai
  have L3:upd H2 sl (.lst (M.map fun p=>V.ref p.1)) sl=some (.lst (M.map fun p=>V.ref p.1)):=zc
  have c4:=B2.nne ai;generalize upd H2 sl (.lst (M.map fun p=>V.ref p.1))=H3 at s3 L3
  have S3:=(S1.trans S2).trans (.of s3);have B3:=B2.same s3;have af:∀p∈M,CasAt K b H3 p.1 p.2:=fun p hp=>(al p hp).same s3
  clear k1 k2 al el bd be bf bg av aw bh bi ar au B1 B2 S1 S2 s3 ai;refine⟨_,rfl,sl,rfl,⟨_,u4 L3⟩,jI (K:=K) (a:=sl) (xs:=M.map fun p=>V.ref p.1) (fun i zs H4=>zs=((M.take i).map fun p=>zbX p.2).map V.str/\Same H3 H4) ⟨rfl,u6 _⟩ (fun i zs H4 ⟨_,s4⟩=>u4 (s4 _ _ L3)) ?_ ?_⟩
  ·rintro i x zs H4 hx ⟨rfl,s4⟩
   rw[qm] at hx;obtain⟨⟨q,x⟩,ex,rfl⟩:=qS.mp hx;have L:=(af _ (zY ex)).same s4;have hi:=(zK.mp ex).1;refine⟨q,_,rfl,L.qq,rfl,_,_,rfl,_,_,rfl,_,_,rfl,rfl,rfl,?_⟩
   refine⟨_,rfl,_,rfl,_,rfl,x.jp,x.l,x.c,x.J,x.ord,x.os,x.xs,x.ts,x.st,rfl,L.rj,u4 L.hl,L.rl,L.mo,u4 L.hc,fun fq a1 a2 a3 ws H5 mt=>?_⟩
   refine⟨fq,_,rfl,mt.rep,VA L.mo x.st _,VC L.mo x.st _,VB _ _ _,?_,?_,s4.trans mt.s⟩
   ·rw[zn,zn,qC];omega
   ·rw[qr ex,zQ,zQ];rfl
  rintro zs H4 ⟨rfl,s4⟩;rw[zn (as:=M),qW];refine⟨by rw[zn,zn];omega,fun dl ag=>?_⟩
  have ab:((M.map fun p=>zbX p.2).map V.str).length=2:=by rw[zn,zn,bl]
  generalize bo:(M.map fun p=>zbX p.2).map V.str=ds at ab
  have s5:=s4.trans (zd (o:=.lst ds) ag);have D5:upd H4 dl (.lst ds) dl=some (.lst ds):=zc;have c0:=(B3.same s4).nne ag;generalize upd H4 dl (.lst ds)=H5 at s5 D5;have S5:=S3.trans (.of s5);have B5:=B3.same s5;have L5:=s5 _ _ L3;have bj:∀p∈M,CasAt K b H5 p.1 p.2:=fun p hp=>(af p hp).same s5
  clear af L3 B3 S3 s5 s4 ag;refine⟨4,rfl,by rw[aq];decide,by rw[aq];decide,jR (zaU b sl dl H5 n) ⟨_,_,_,_,_,_,_,_,rfl,u9 _ _,B5.mono (by omega)⟩ ?_ ?_⟩
  ·rintro i σ H6 hi ⟨v3,v4,v5,v6,v7,v8,v9,cf,rfl,S6,B6⟩
   have ck:i<4:=hi;refine⟨_,rfl,b,2,_,rfl,B6,by omega,by decide,by decide,fun r H7 r0 r1 B7 S7=>?_⟩
   have O:=S6.trans S7;obtain⟨v,ev,hv⟩:=Qy (xs:=M.map fun p=>V.ref p.1) r0 (by rw[zn,bl];omega)
   obtain⟨u,eu,hu⟩:=Qy (xs:=ds) r0 (by rw[ab];omega)
   rw[qm] at hv;obtain⟨⟨q,x⟩,ex,rfl⟩:=qS.mp hv;rw[<- bo,qm,qm,ex] at hu;cases hu;have L:=(bj _ (zY ex)).keep (.draw B5 O) O;refine⟨_,rfl,_,rfl,sl,_,_,.ref q,rfl,rfl,u4 (O _ _ L5 c4),ev,q,_,rfl,L.qq,rfl,_,_,rfl,_,_,rfl,_,_,rfl,rfl,?_⟩
   have L:CasAt K b H7 q x:=L;refine⟨_,rfl,x.c,_,rfl,.inl (u4 L.hc),fun N ah=>?_⟩
   have b0:=B7.nne ah;have bn:=O.none ah b0;have sA:=zd (H:=H7) (o:=.lst (jf x.J.fs.length x.st)) ah;refine⟨_,rfl,x.l,_,rfl,.inl (u4 (sA _ _ L.hl)),fun rw a0=>?_⟩
   have sB:=sA.trans (zd (o:=.lst x.xs) a0);have A8:=zd (o:=.lst x.xs) a0 _ _ (zc (H:=H7) (a:=N) (o:=.lst (jf x.J.fs.length x.st)));have R8:upd (upd H7 N (.lst (jf x.J.fs.length x.st))) rw (.lst x.xs) rw=some (.lst x.xs):=zc;have ac:=sA.free a0;have ba:=B7.nne ac;have c9:=O.none ac ba;have az:N≠rw:=fun z=>by rw[<- z,zc] at a0;cases a0
   generalize upd (upd H7 N (.lst (jf x.J.fs.length x.st))) rw (.lst x.xs)=H8 at sB A8 R8;have k8:=L.same sB;refine⟨_,_,rfl,?_⟩
   refine⟨_,rfl,_,rfl,_,rfl,x.jp,rw,N,x.J,x.ord,x.os,x.xs,x.ts,x.st,rfl,k8.rj,u4 R8,k8.rl,k8.mo,u4 A8,fun fq a1 a2 a3 ws H9 mt=>?_⟩
   have k9:=k8.same mt.s;refine⟨_,rfl,_,rfl,x.jp,N,x.J,x.ord,x.st,rfl,k9.rj,k9.mo.jo,u4 (mt.s _ _ A8),k9.hst,fun HA I=>⟨_,rfl,ifF rfl ?_⟩⟩
   have kA:=k9.same I;have AA:=I _ _ (mt.s _ _ A8);have RA:=I _ _ (mt.s _ _ R8);have bm:PyData.depthAll (Dat.pys ((List.range x.J.fs.length).map fun k=>Dat.int (x.st k)))<=50:=qL (vI (f:=fun k=>Dat.int (x.st k)) (c:=10) (fun p=>by
    show PyData.depth (.int (x.st p))<=10;simp[PyData.depth]) _) (by decide)
   refine⟨_,rfl,_,rfl,N,x.c,_,rfl,rfl,⟨N,_,rfl,u4 AA,ZZ x.st _⟩,⟨x.c,_,rfl,u4 kA.hc,ZZ x.st _⟩,bm,_,rfl,ifF rfl ?_⟩
   refine⟨_,rfl,_,rfl,rw,x.l,_,rfl,rfl,⟨rw,_,rfl,u4 RA,kA.rl⟩,⟨x.l,_,rfl,u4 kA.hl,kA.rl⟩,qL (Je _) (by decide),_,rfl,ifF rfl ?_⟩
   have f1:=mt.f1;have f2:=mt.f2;have f3:=mt.f3;have c5:∀a,H8 a=none->a≠N/\a≠rw:=fun a h=>⟨(fun z=>by rw[z,A8] at h;cases h),(fun z=>by rw[z,R8] at h;cases h)⟩
   have p1:=I _ _ mt.h1;have p2:=I _ _ mt.h2;have Y:=I _ _ mt.h3;have ap:SameT HA (upd (upd HA N (.lst [])) rw (.lst [])):=(ub AA).trans (ub (by rw[zm (zM az)];exact RA))
   have RB:upd HA N (.lst []) rw=some (.lst x.xs):=by rw[zm (zM az)];exact RA
   refine⟨_,rfl,.inl ⟨rfl,_,u4 AA⟩,N,_,rfl,rfl,AA,?_⟩
   refine⟨_,rfl,.inl ⟨rfl,_,u4 RB⟩,rw,_,rfl,rfl,RB,?_⟩
   have ae:SameB b H5 (upd (upd HA N (.lst [])) rw (.lst [])):=(((O.trans (.of sB)).trans (.of (mt.s.trans I))).put bn).put c9;have aj:BoxAt (upd (upd HA N (.lst [])) rw (.lst [])) b (n+6000+6000+i+1):=(((B7.same (sB.trans (mt.s.trans I))).other b0).other ba);have T:∀a zs,H8 a=none->HA a=some (.lst zs)->upd (upd HA N (.lst [])) rw (.lst []) a=some (.lst zs):=fun a zs h e=>by
    obtain⟨n1,n2⟩:=c5 a h;rw[zm n2,zm n1];exact e
   have p1:=T _ _ f1 p1;have p2:=T _ _ f2 p2;have Y:=T _ _ f3 Y;have qf:=(I.sqT mt.q).keep ap;have rr:=Reps.keep ap (jF _) (mt.r1.same I);generalize upd (upd HA N (.lst [])) rw (.lst [])=HB at ae aj p1 p2 Y qf rr;refine⟨_,rfl,fq,Jv (qK x.J x.st x.ts) (jX x.J x.st x.ts) x.ts,rfl,⟨fq,_,rfl,qf,_,_,rfl,⟨a1,ws,rfl,u4 p1,rr⟩,_,_,rfl,⟨a2,_,rfl,u4 p2,vD _⟩,_,_,rfl,⟨a3,_,rfl,u4 Y,vD _⟩,rfl⟩,VA L.mo x.st _,VC L.mo x.st _,VB _ _ _,?_⟩
   have DB:HB dl=some (.lst ds):=ae _ _ D5 c0;have bt:=mt.n12;have bu:=mt.n13;have bv:=mt.n23;have f5:∀a,H8 a=none->H5 a=none/\a≠b:=fun a h=>by
    have e:=sB.free h;have z:=B7.nne e;exact⟨O.none e z,z⟩
   refine⟨_,rfl,_,rfl,dl,_,_,_,rfl,rfl,u4 DB,eu,rfl,_,rfl,ifF (show(!decide (V.str (zbX x)=V.str (zbX x)))=false from by rw[zX rfl];rfl) ?_⟩
   refine⟨_,rfl,fq,_,_,_,rfl,rfl,qf,rfl,.inl ⟨rfl,_,u4 p1⟩,a1,_,rfl,rfl,p1,?_⟩
   have T1:=ub (ys:=[]) p1;have an:=ae.put (o:=.lst []) (f5 _ f1).1;have ak:=aj.other (o:=.lst []) (f5 _ f1).2;have p2:upd HB a1 (.lst []) a2=some (.lst _):=(zm (zM bt)).trans p2;have Y:upd HB a1 (.lst []) a3=some (.lst _):=(zm (zM bu)).trans Y;have qf:=qf.keep T1;generalize upd HB a1 (.lst [])=HC at an ak p2 Y qf;refine⟨_,rfl,fq,_,_,_,rfl,rfl,qf,rfl,.inl ⟨rfl,_,u4 p2⟩,a2,_,_,rfl,rfl,p2,?_,?_⟩
   ·rw[zn,(wc _).length_eq,Qk]
    have al:=L.mo.brk.al;have:(xw (qK x.J x.st x.ts) (jX x.J x.st x.ts) (zp x.ts)).length<=(zp x.ts).length:=by
     unfold xw;rw[zn];exact jz _ _
    omega
   have T2:=ub (ys:=(srt (nI (xw (qK x.J x.st x.ts) (jX x.J x.st x.ts) (zp x.ts)))).map V.int++[.int 0]) p2;have ao:=an.put (o:=.lst ((srt (nI (xw (qK x.J x.st x.ts) (jX x.J x.st x.ts) (zp x.ts)))).map V.int++[.int 0])) (f5 _ f2).1;have am:=ak.other (o:=.lst ((srt (nI (xw (qK x.J x.st x.ts) (jX x.J x.st x.ts) (zp x.ts)))).map V.int++[.int 0])) (f5 _ f2).2;have Y:upd HC a2 (.lst ((srt (nI (xw (qK x.J x.st x.ts) (jX x.J x.st x.ts) (zp x.ts)))).map V.int++[.int 0])) a3=some (.lst _):=(zm (zM bv)).trans Y;have qf:=qf.keep T2;generalize upd HC a2 (.lst ((srt (nI (xw (qK x.J x.st x.ts) (jX x.J x.st x.ts) (zp x.ts)))).map V.int++[.int 0]))=HD at ao am Y qf;refine⟨_,rfl,fq,_,_,_,rfl,rfl,qf,rfl,.inl ⟨rfl,_,u4 Y⟩,a3,_,_,rfl,rfl,Y,?_,?_⟩
   ·rw[zn,(wc _).length_eq,Qk]
    have al:=L.mo.brk.al;have:(yW (jX x.J x.st x.ts) (zp x.ts)).length<=(zp x.ts).length:=by
     unfold yW;exact qL (jz _ _) (by rw[zn];exact zC _)
    omega
   exact⟨_,_,_,_,_,_,_,_,rfl,ao.put (f5 _ f3).1,(am.other (f5 _ f3).2).mono (by omega)⟩
  ·rintro σ H6 ⟨v3,v4,v5,v6,v7,v8,v9,cf,rfl,S6,B6⟩
   exact k _ (S5.trans S6)
inductive YQ(K:W.Frag)(c:List V)(H:Hp)(Q:VK):Prop
 | mk (a:Addr) (b:List Int) (_:c=[.ref a]) (_:SqL K H a (b.map V.int)) (_:b.length<=63) (_:∀f,Q (.bl true) f):YQ K c H Q
def spLaw(K:W.Frag):Sp:=fun b H Q _=>YQ K b H Q
theorem zfa:zy ["_law_script","_law_cells"] ["_law_script"] (zq (topL 61)):=u3
theorem zgd{f:Addr}{Y:FuncData}(F:Fun K "law" "law" (topL 61) f Y)(B:Blt G)(b:Dfn P w K G g "_law_folded" 1 ["_law_script","_law_size"] (zcb K))(I:Dfn P w K G g "_law_box" 1 ["_law_script","_law_k"] (ze1 K))
  (j:Dfn P w K G g "_law_right" 8 ["_law_box_here"] YI):FnOk P w K G g CX0 9 f Y ["_law_script"] (spLaw K):=by
 have nd:=zfa.nd;refine F.ok zfa (fun vs H Q E h=>?_) (fun aa A T s H vs Q E O h=>?_)
 ·obtain⟨a,ns,rfl,_⟩:=h
  rfl
 ·obtain⟨a,ns,rfl,hS,L,k⟩:=h
  refine⟨_,(ze (zA (i:=1) nd rfl (Or.inr rfl) (zg b O.m rfl (za (pv 0) (za zi zb))))
   (zk (zw (zo (xB rfl) rfl B.all boot_all (za (jB ["_law_cells"] [1] rfl rfl (by kernel_rfl) (jx rfl B.range (za (zo (JE rfl) rfl B.max V6 (za zi (za (zo zE rfl B.len boot_len (za (pv 1) zb)) zb))) zb)) (fun _ _ _ _=>qQ) (fun _ _ _ _=>(zg j O.m rfl (za (zg I O.m rfl (za (pv 1) (za (pv 0) zb))) zb)))) zb))))),?_⟩
  refine⟨_,rfl,a,ns,3,rfl,hS,L,by decide,by decide,fun p l H1 s1 hp hm=>?_⟩
  have J:=bGe;have hl:(l.map V.int).length<=3:=by rw[zn];exact hm
  refine⟨_,rfl,p,_,rfl,.inl hp,_,_,rfl,_,rfl,(by rw[J];split<;>omega),(by rw[J];split<;>omega),?_⟩
  have hN:(if((l.map V.int).length:Int)>2 then((l.map V.int).length:Int) else 2).toNat<=8:=by split<;>omega
  have a0:=bG100;refine VG (fun i U M=>U=List.replicate i (V.bl true)/\Same H1 M) ⟨rfl,u6 _⟩ ?_ ?_
  ·rintro i U M hi ⟨rfl,N⟩
   rw[Int.zero_add];refine⟨rfl,?_⟩
   refine⟨_,rfl,_,rfl,p,l,i,rfl,N.seq hp,by omega,fun q o hq Bq=>⟨q,0,rfl,Bq,by decide,fun H3 s3=>⟨?_,?_,fun c u e=>?_⟩⟩⟩
   ·rw[xP];omega
   ·rw[QC]
   ·exact s3 c u ((zd hq) c u (N c u e)) (zj (N c u e) hq)
  ·rintro U M ⟨rfl,N⟩
   refine⟨by rw[xP];omega,fun D hD=>⟨D,List.replicate (if((l.map V.int).length:Int)>2 then((l.map V.int).length:Int) else 2).toNat true,rfl,?_,?_⟩⟩
   ·refine u4 ?_
    rw[zc,Yd]
   ·have:=k (upd M D (.lst (List.replicate (if((l.map V.int).length:Int)>2 then((l.map V.int).length:Int) else 2).toNat (V.bl true))))
    simpa using this
end
theorem all_mk{l:PySem.W.OpenLaw}{w:World}{K:W.Frag}{h:Heap}{mg:Str->Option Value}{fa:Addr}(X:K.In h)(e:zbh WN zbH za1 zeD K=zbx WN zbH za1 zeD)(G:h.Ns mainGlobals mg)(br:mg "law" = some (.ref fa)) :
  ∃fd:FuncData,(∀(s:Shared) (v:Value),BindsTo s fd ⟨[v],[]⟩ [("_law_script",v)])/\∀bf:Heap,K.In bf->bf.Ns mainGlobals mg->FnOk l.prog w K mg bf CX0 9 fa fd ["_law_script"] (spLaw K):=by
 have Z0:Tp l.prog w K mg h h WN zbH za1:=⟨X,G,congrArg Prod.fst e⟩;have B:Blt mg:=⟨Z0.bl 0 rfl,Z0.bl 1 rfl,Z0.bl 2 rfl,Z0.bl 3 rfl,Z0.bl 4 rfl,Z0.bl 5 rfl,Z0.bl 6 rfl,Z0.bl 7 rfl,Z0.bl 8 rfl,Z0.bl 9 rfl,Z0.bl 10 rfl,Z0.bl 11 rfl,Z0.bl 12 rfl,Z0.bl 13 rfl,Z0.bl 14 rfl,Z0.bl 15 rfl,Z0.bl 16 rfl,Z0.bl 17 rfl,Z0.bl 18 rfl,Z0.bl 19 rfl,Z0.bl 20 rfl⟩;obtain⟨f,fd,a,F⟩:=Z0.fd 49 rfl;cases br.symm.trans (QH X G a);refine⟨fd,?_,fun bf _ _=>?_⟩
 ·obtain⟨_,_,_,_,_,_,_,_,_,rfl,_,_⟩:=F.ex
  exact fun s v=>.of_eq rfl
 have Z:Tp l.prog w K mg bf h WN zbH za1:=⟨X,G,congrArg Prod.fst e⟩;obtain⟨_,bp⟩:=cnS X G e 0 rfl;obtain⟨_,U⟩:=cnI X G e 1 rfl;obtain⟨_,bg⟩:=cnI X G e 2 rfl;obtain⟨_,ap⟩:=cnI X G e 3 rfl;obtain⟨_,Y⟩:=cnI X G e 4 rfl;obtain⟨_,M⟩:=cnI X G e 5 rfl;obtain⟨_,aq⟩:=cnI X G e 6 rfl;obtain⟨_,ai⟩:=cnI X G e 7 rfl;have ar:=Z.dfn 13 rfl fun _ _ F _ _=>zcT F B
 have ah:=Z.dfn 14 rfl fun _ _ F _ _=>zee F B
 have L:=Z.dfn 15 rfl fun _ _ F _ _=>zcU F B
 have ao:=Z.dfn 16 rfl fun _ _ F _ _=>zef F B
 have bn:=Z.dfn 17 rfl fun _ _ F _ _=>zbe F B ao
 have bo:=Z.dfn 18 rfl fun _ _ F _ _=>zbd F B ar ah L bn
 have av:=Z.dfn 0 rfl fun _ _ F _ _=>zgf F B
 have g:=Z.dfn 1 rfl fun _ _ F _ _=>zf9 F B av
 have bh:=Z.dfn 2 rfl fun _ _ F _ _=>zhW F B bp U
 have I:=Z.dfn 3 rfl fun _ _ F _ _=>zgb F B g bg
 have j:=Z.dfn 4 rfl fun _ _ F _ _=>zhO F B
 have A:=Z.dfn 5 rfl fun _ _ F _ _=>zhN F B
 have au:=Z.dfn 6 rfl fun _ _ F _ _=>zhZ F B j bh I g M
 have a0:=Z.dfn 7 rfl fun _ _ F _ _=>zgh F B A au Y
 have bi:=Z.dfn 8 rfl fun _ _ F _ _=>zhT F B j I
 have as:=Z.dfn 9 rfl fun _ _ F _ _=>zga F B A bi aq
 have ba:=Z.dfn 10 rfl fun _ _ F _ _=>zh2 F B j g
 have aj:=Z.dfn 11 rfl fun _ _ F _ _=>zgk F B A ba ai
 have bq:=Z.dfn 12 rfl fun _ _ F _ _=>zgg F B j I g a0 as aj bo ap
 have b0:=Z.dfn 19 rfl fun _ _ F _ _=>zgl F B L
 have az:=Z.dfn 20 rfl fun _ _ F _ _=>zcZ F B ar ah b0
 have aa:=Z.dfn 21 rfl fun _ _ F _ _=>zgi F B
 have J:=Z.dfn 22 rfl fun _ _ F _ _=>zhU F B
 have T:=Z.dfn 23 rfl fun _ _ F _ _=>zhP F B J
 have ag:=Z.dfn 24 rfl fun _ _ F _ _=>zhV F B J T aa
 have N:=Z.dfn 25 rfl fun _ _ F _ _=>zh0 F B az
 have af:=Z.dfn 26 rfl fun _ _ F _ _=>zhX F B
 have ae:=Z.dfn 27 rfl fun _ _ F _ _=>zhY F B J ag N af
 have Q:=Z.dfn 28 rfl fun _ _ F _ _=>zec F B
 have bj:=Z.dfn 29 rfl fun _ _ F _ _=>zgj F B
 have c:=Z.dfn 30 rfl fun _ _ F _ _=>zea F B
 have am:=Z.dfn 31 rfl fun _ _ F _ _=>zeg F B
 have ac:=Z.dfn 33 rfl fun _ _ F _ _=>zcV F B
 have bb:=Z.dfn 34 rfl fun _ _ F _ _=>zgc F B c ac
 have aw:=Z.dfn 35 rfl fun _ _ F _ _=>zcY F B bb
 have E:=Z.dfn 36 rfl fun _ _ F _ _=>zcW F B c
 have an:=Z.dfn 37 rfl fun _ _ F _ _=>zbf F B E
 have D:=Z.dfn 38 rfl fun _ _ F _ _=>zeb F B c
 have ab:=Z.dfn 39 rfl fun _ _ F _ _=>zeh F B c D E
 have ak:=Z.dfn 40 rfl fun _ _ F _ _=>zbg F B c D
 have bm:=Z.dfn 41 rfl fun _ _ F _ _=>zge F B c aw E an ab ak
 have ax:=Z.dfn 42 rfl fun _ _ F _ _=>zcX F B c
 have be:=Z.dfn 43 rfl fun _ _ F _ _=>zd9 F B D
 have bc:=Z.dfn 44 rfl fun _ _ F _ _=>zed F B c ax be
 have O:=Z.dfn 45 rfl fun _ _ F _ _=>zhQ F B c
 have al:=Z.dfn 46 rfl fun _ _ F _ _=>zh1 F B c bm bc O
 have bd:=Z.dfn 32 rfl fun _ _ F m b=>zah F B m b 5
 have H:=Z.dfn 47 rfl fun _ _ F _ _=>zhR F B Q bd bq
 have ay:=Z.dfn 48 rfl fun _ _ F _ _=>zhS F B c al ae H
 exact zgd F B am bj ay
end L2
open PySem PySem.W PyProof.Rows
set_option maxRecDepth 100000 in
set_option maxHeartbeats 0 in
theorem PySem.Challenge.cw_pickboard_k45_restocked_and_by_turns_holds : PySem.Challenge.rw_pickboard_k45_restocked_and_by_turns.Holds := by
 refine L2.ownHead (d:=L2.defRec "law" (L2.topL 61)) 9999 L2.head1 L2.head2 (by kernel_rfl) (by kernel_rfl) (by kernel_rfl) L2.head3 ⟨rfl,rfl,rfl,rfl,rfl,by decide +kernel⟩ (by w_witness2) ?_
 exact L2.walkS (n:=63) (k:=9) (x:= "_law_script") (sp:=L2.spLaw) rfl (by decide) (by kernel_rfl) ⟨rfl,by decide,by decide,rfl⟩ (fun _ _ _ _ _ X e G m=>L2.all_mk X e G m) fun _ _ a ns hl _ hS=>⟨a,ns,rfl,hS,hl,fun _=>rfl⟩
