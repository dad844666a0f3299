import PyProof.Rows.All
import Wide.All
import OpenK.AllK
import Wide.FinOn
import Lean
import PyProof.EqAt
import PyProof.EqKinds
import PyProof.TupleCall
import PyProof.NeKinds
import PyProof.ReprRoads
import PyProof.ReprBulk
import PyProof.SumWalk
import PyProof.FString5
import PyProof.StrBlock2
import PyProof.StrBlockI
import PyProof.StrBlockH
import PyProof.StrWalks
import PyProof.StrLawsIn
import PyProof.AutoListH
import PyProof.CompUse
import PyProof.ListRange
import PyProof.CallFns
import PyProof.ListTruth
import PyProof.Rows.Range3
import PyProof.SeqI3
import KE.KRevSl
import PyProof.DictIter
import PyProof.DictWalks
import PyProof.DictCompW
import PyProof.Cells
import OpenK.KOwn
import PyProof.ExcClass3
import PyProof.ExcInit
import PyProof.ExcBaseAll.ValueError
import PyProof.ExcArgsOwn
import PyProof.ExcAttrAll.ValueError
import PyProof.Rows.SortWalk
import PyProof.Rows.SortStr
import PyProof.MeetsDict
import PyProof.DictUpdate
import PyProof.FactsAll.dict_3
import KE.KDictList
import PyProof.FactsAll.dict_4
import KE.KDictSum
import PyProof.IsiH_list
import PyProof.Rows.Exc
import KE.KDictOf
import PyProof.SetKind
import PyProof.Rows.SetFrom
import PyProof.FactsAll.set_1
import PyProof.FactsAll.set_2
import KE.KSortTup
import KE.KItemsList
import PyProof.Rows.SortRev
import PyProof.Rows.StrCase
import PyProof.Rows.StrLen
import KE.KPairComp
import KE.KMinKey
import PyProof.CallStr
import PyProof.Ascii
import PySem.Challenge.RW_pickboard_k13_right_plans_or_not
set_option Elab.async false
set_option linter.all false
set_option maxRecDepth 100000
def zq:=@List.length_map
def zk:=@PySem.wpAny_bind
def zN:=@List.getElem?_eq_some_iff
def qx:=@PySem.Heap.get?_push_of_some
def zC:=@Nat.le_refl
def zD:=@PySem.wpAny_pure
def zW:=@List.map_append
def qJ:=@List.length_append
def qR:=@List.mem_singleton
def jl:=@List.mem_of_getElem?
def qA:=@PySem.Heap.get?_push_size
def z9:=@List.length_take
def qk:=@List.size_toArray
def qr:=@List.getElem?_map
def zL:=@PySem.Heap.lt_size
def qX:=@List.mem_append_right
def jc:=@Option.map_eq_some_iff
def jj:=@List.getElem?_eq_getElem
def qq:=@List.mem_cons
def qF:=@decide_eq_true
def qL:=@List.mem_append
def qW:=@of_decide_eq_true
def qw:=@Nat.ne_of_lt
def jf:=@Bool.false_ne_true
def qV:=@Bool.and_eq_true
def qo:=@Nat.zero_le
def jE:=@List.mem_cons_of_mem
def je:=@List.take_length
def jh:=@List.all_eq_true
def jD:=@List.mem_cons_self
def jV:=@Nat.lt_of_lt_of_le
def jB:=@PySem.PassesOwn.never
def xc:=@List.mem_append_left
def jK:=@List.lookup_cons
def xG:=@PySem.F.plainAttrs_list
def jJ:=@Option.some.inj
def jQ:=@decide_eq_false
def jt:=@Nat.le_trans
def vF:=@List.getElem?_append_right
def jP:=@List.map_cons
def jC:=@List.mem_map
def qH:=@Ne.symm
def vW:=@List.getElem?_append_left
def j4:=@PySem.Heap.size_push
def xF:=@List.length_drop
def wz:=@PySem.F.slot_list_append
def wx:=@PySem.F.type_list_append
def jI:=@PySem.wpAny_mono
def vE:=@Array.length_toList
def xL:=@List.append_nil
def vg:=@PySem.wpAny_newObj_type
def vf:=@Int.toNat_natCast
def vV:=@PySem.mem_of_lookup
def vd:=@List.length_cons
def y9:=@List.take_append_getElem
def xn:=@List.map_map
def w8:=@List.length_replicate
def w6:=@Nat.le_of_ble_eq_true
def vD:=@PySem.wpAny_call_entry
def y8:=@PySem.wpAny_callSpecial?_slot
def xE:=@Nat.ne_of_gt
def vU:=@List.append_assoc
def ZO:=@Array.getElem?_eq_getElem
def ww:=@decide_eq_true_iff
def QQ:=@PyProof.Rows.callWith_type1
def yZ:=@List.length_filter_le
def yY:=@List.mem_iff_getElem?
def xD:=@PySem.wpAny_field
def wv:=@Nat.lt_succ_of_lt
def vc:=@Nat.lt_irrefl
def vb:=@PySem.wpAny_holding
def vT:=@List.mem_filter
def wu:=@Bool.eq_iff_iff
def yX:=@Int.emod_lt_of_pos
def ZN:=@List.mem_of_mem_take
def yW:=@PySem.wpAny_truthy_bool
def QP:=@List.take_append_drop
def yV:=@Nat.lt_succ_self
def wZ:=@List.mem_range
def Wf:=@PySem.F.slot_dict_keyiterator_next
def QO:=@List.mem_of_mem_drop
def yU:=@Nat.not_lt_zero
def yT:=@Int.emod_nonneg
def QN:=@List.replicate_succ
def QM:=@PySem.Heap.SameBut.update
def wY:=@List.any_cons
def vC:=@beq_iff_eq
def ZM:=@PySem.wpAny_isInstance
def ZL:=@Bool.not_eq_true
def QL:=@PySem.Calls.spliced_cons
def JW:=@PySem.Heap.get?_update_self
def yS:=@PySem.wpAny_seqItems
def JV:=@Array.getElem?_toList
def QK:=@List.filter_append
def vS:=@PySem.wpAny_rule
def ZK:=@List.nil_append
def wX:=@Nat.le_of_eq
def QJ:=@List.length_range
def QI:=@List.count_append
def yR:=@PySem.wpAny_standAt
def vR:=@Bool.true_and
def wA:=@PySem.Value.type.inj
def yr:=@List.getElem_mem
def yq:=@List.not_mem_nil
def vo:=@Sum.inl.inj
def vn:=@Nat.le_succ
def Q3:=@List.take_of_length_le
def Zz:=@PySem.wpAny_setField_rec
def W1:=@PyProof.Rows.F.plain_set_update_loop
def yp:=@PySem.wpAny_passesOwn
def XZ:=@PySem.F.slot_tuple_iterator_next
def XY:=@Array.getElem?_eq_some_iff
def Zy:=@List.nodup_append
def Q2:=@List.mem_iff_getElem
def Zx:=@List.getElem_inj
def Zw:=@List.filter_cons
def XX:=@PySem.F.slot_list_getattribute
def Q0:=@List.length_pos_iff
def W0:=@PyProof.Rows.slot_tuple_getitem
def yo:=@PySem.wpAny_attempt
def Zv:=@List.length_nil
def QZ:=@PySem.Obj.data_mapFields
def Zu:=@Option.map_some
def Zt:=@List.find?_cons
def XW:=@PySem.Calls.callWith_builtin
def XV:=@List.singleton_sublist
def QY:=@PySem.Calls.spliced_nil
def Zs:=@Bool.false_and
def XU:=@PySem.F.slot_enumerate_next
def WZ:=@List.idxOf_lt_length_of_mem
def XT:=@PySem.Calls.evalArgs_plain
def QX:=@List.any_eq_true
def XS:=@PySem.Around.under_plainId
def XR:=@List.replicate_succ'
def QW:=@List.nodup_range
def XQ:=@List.getElem?_mapIdx
def XO:=@List.filterMap_cons
def XN:=@List.length_reverse
def XM:=@List.flatMap_append
def QV:=@List.nodup_cons
def QU:=@Bool.or_eq_true
def WY:=@List.count_singleton_self
def QT:=@List.isPerm_iff
def XL:=@List.mem_filterMap
def WW:=@PySem.F.args_tuple_add_2
def Zr:=@List.map_nil
def XJ:=@List.getElem?_drop
def XI:=@List.getElem?_take
def QS:=@Bool.and_false
def WV:=@PySem.F.entry_tuple_add
def WU:=@PySem.F.plainAttrs_dict
def XH:=@List.flatten_cons
def XG:=@Array.size_append
def WT:=@PySem.F.slot_tuple_add
def WS:=@PySem.Heap.get?_update_other
def WR:=@List.drop_eq_nil_of_le
def QR:=@List.map_take
def XF:=@Nat.le_max_right
namespace L2
open PySem PySem.Spec PyProof.Rows
abbrev Key:=Sum Int Str
def Qu:Key->Value->Bool
 | .inl k,v=>Value.isInt k v
 | .inr x,v=>Value.isStrOf x v
def zho(w:World):Key->Int
 | .inl k=>hashInt k
 | .inr x=>hashStr w x
theorem jd:∀{k:Key} {v:Value},Qu k v=true->(∃i t,k=Sum.inl i/\v=Value.int i t)\/(∃x t,k=Sum.inr x/\v=Value.str x t)
 | .inl i,v,h=>by
  obtain⟨t,e⟩:=Value.isInt_shape (k:=i) (v:=v) h
  exact .inl ⟨i,t,rfl,e⟩
 | .inr x,v,h=>by
  obtain⟨t,e⟩:=Value.isStrOf_shape (x:=x) (v:=v) h
  exact .inr ⟨x,t,rfl,e⟩
theorem za3(i:Int)(t:Tok):Qu (.inl i) (.int i t)=true:=by simp[Qu,Value.isInt]
theorem za2(x:Str)(t:Tok):Qu (.inr x) (.str x t)=true:=by simp[Qu,Value.isStrOf]
theorem zfv(a b:Int):decide ((Sum.inl a:Key)=Sum.inl b)=(a==b):=by
 by_cases e:a=b
 ·subst e;simp
 ·have h:¬(Sum.inl a:Key)=Sum.inl b:=fun q=>e (vo q)
  rw[jQ h]
  exact(beq_eq_false_iff_ne.mpr e).symm
theorem zfs(a b:Str):decide ((Sum.inr a:Key)=Sum.inr b)=decide (a=b):=by
 by_cases e:a=b
 ·subst e;simp
 ·have h:¬(Sum.inr a:Key)=Sum.inr b:=fun q=>e (Sum.inr.inj q)
  rw[jQ h,jQ e]
theorem zfu(a:Int)(b:Str):decide ((Sum.inl a:Key)=Sum.inr b)=false:=jQ (fun q=>nomatch q)
theorem zft(a:Str)(b:Int):decide ((Sum.inr a:Key)=Sum.inl b)=false:=jQ (fun q=>nomatch q)
def zV(prog:Program)(w:World):PySem.KeyKind prog w Key where
 is:=Qu
 hash:=zho w
 inj:=fun v a b ha hb=>by
  rcases jd ha with ⟨i,t,rfl,rfl⟩ | ⟨x,t,rfl,rfl⟩
  ·rcases jd hb with ⟨j,u,rfl,e⟩ | ⟨y,u,rfl,e⟩
   ·injection e with e1 _;rw[e1]
   ·exact nomatch e
  ·rcases jd hb with ⟨j,u,rfl,e⟩ | ⟨y,u,rfl,e⟩
   ·exact nomatch e
   ·injection e with e1 _;rw[e1]
 byValue:=fun k v h=>by
  rcases jd h with ⟨i,t,rfl,rfl⟩ | ⟨x,t,rfl,rfl⟩<;>rfl
 pyHash:=fun hv h=>by
  rcases jd hv with ⟨i,t,rfl,rfl⟩ | ⟨x,t,rfl,rfl⟩
  ·exact wpAny_pyHash_int h
  ·exact wpAny_pyHash_str h
 eqBool:=fun hu hv h=>by
  rcases jd hu with ⟨i,t,rfl,rfl⟩ | ⟨x,t,rfl,rfl⟩
  ·rcases jd hv with ⟨j,u,rfl,rfl⟩ | ⟨y,u,rfl,rfl⟩
   ·rw[zfv] at h;exact wpAny_eqBool_int h
   ·rw[zfu] at h;exact SeqAt.EqAt.int_str i t y u _ _ _ _ h
  ·rcases jd hv with ⟨j,u,rfl,rfl⟩ | ⟨y,u,rfl,rfl⟩
   ·rw[zft] at h;exact SeqAt.EqAt.str_int x t j u _ _ _ _ h
   ·rw[zfs] at h;exact wpAny_eqBool_str h
 «strs»:=fun k x t v h=>by
  rcases jd h with ⟨i,u,rfl,e⟩ | ⟨y,u,rfl,e⟩
  ·exact nomatch e
  ·injection e with e1 _
   subst e1
   cases v<;>rfl
theorem WC(prog:Program)(w:World)(k:Key)(v:Value):(zV prog w).is k v=Qu k v:=rfl
theorem VJ(prog:Program)(w:World)(i:Int)(t:Tok):(zV prog w).is (.inl i) (.int i t)=true:=za3 i t
theorem VI(prog:Program)(w:World)(x:Str)(t:Tok):(zV prog w).is (.inr x) (.str x t)=true:=za2 x t
inductive V where
 | non | bl (b:Bool) | int (i:Int) | str (x:Str) | byt (b:Array UInt8) | flt (b:UInt64) | ref (a:Addr) | ty (n:String)
 deriving DecidableEq
def RelV:V->Value->Prop
 | .non,u=>u=Value.none
 | .bl b,u=>u=Value.bool b
 | .int i,u=>∃t,u=Value.int i t
 | .str x,u=>∃t,u=Value.str x t
 | .byt b,u=>∃t,u=Value.bytes b t
 | .flt b,u=>∃t,u=Value.float b t
 | .ref a,u=>u=Value.ref a
 | .ty n,u=>u=Value.type n
abbrev Vals:List V->List Value->Prop:=Paired RelV
theorem Vals.length{xs:List V}{us:List Value}(r:Vals xs us):xs.length=us.length:=Paired.length r
theorem Vals.get:∀{xs:List V} {us:List Value} {i:Nat} {x:V},Vals xs us->xs[i]? =some x->∃u,us[i]? =some u/\RelV x u
 | _,_,_,_,.nil,e=>by simp at e
 | _,_,0,_,.cons r _,e=>by simp at e;subst e;exact⟨_,rfl,r⟩
 | _,_,i+1,x,.cons _ t,e=>by
  obtain⟨u,h1,h2⟩:=Vals.get (i:=i) (x:=x) t (by simpa using e)
  exact⟨u,by simpa using h1,h2⟩
theorem Vals.set{x:V}{u:Value}(r:RelV x u):∀{xs:List V} {us:List Value} (i:Nat),Vals xs us->Vals (xs.set i x) (us.set i u)
 | _,_,_,.nil=>.nil
 | _,_,0,.cons _ t=>.cons r t
 | _,_,i+1,.cons q t=>.cons q (Vals.set r i t)
theorem Vals.append:∀{xs ys:List V} {us ws:List Value},Vals xs us->Vals ys ws->Vals (xs++ys) (us++ws)
 | _,_,_,_,.nil,s=>s
 | _,_,_,_,.cons r t,s=>.cons r (Vals.append t s)
theorem Vals.take:∀{xs:List V} {us:List Value} (n:Nat),Vals xs us->Vals (xs.take n) (us.take n)
 | _,_,0,_=>.nil
 | _,_,_+1,.nil=>.nil
 | _,_,n+1,.cons r t=>.cons r (Vals.take n t)
theorem Vals.drop:∀{xs:List V} {us:List Value} (n:Nat),Vals xs us->Vals (xs.drop n) (us.drop n)
 | _,_,0,r=>r
 | _,_,_+1,.nil=>.nil
 | _,_,n+1,.cons _ t=>Vals.drop n t
def RelO:Option V->Option Value->Prop
 | some v,some u=>RelV v u
 | none,none=>True
 | _,_=>False
def KV{κ:Type}:List (κ×V)->List (κ×Value)->Prop:=Paired fun(p:κ×V) (q:κ×Value)=>p.1=q.1/\RelV p.2 q.2
def kV:Key->V
 | .inl i=>.int i
 | .inr x=>.str x
inductive HO where
  | lst (xs:List V)
  | tup (xs:List V)
  | dK (kvs:List (Key×V)) | dT (kvs:List (List Key×V))
  | set (S:Int->Bool) (n:Nat)
  | ins (C dx:Addr) (fs:List (Str×V))
  | own (x:Addr)
  | xd (fs:List (Str×V))
  | met (f x:Addr)
  | rng (lo hi:Int)
  | frz (o:Obj) (u:HO)
  | tbl (ps:Array Value)
  | ext (φ:Heap->Prop)
abbrev Hp:=Addr->Option HO
def upd(H:Hp)(a:Addr)(o:HO):Hp:=fun b=>if b=a then some o else H b
theorem zb{H:Hp}{a:Addr}{o:HO}:upd H a o a=some o:=by unfold upd;rw[if_pos rfl]
theorem zo{H:Hp}{a b:Addr}{o:HO}(h:b≠a):upd H a o b=H b:=by unfold upd;rw[if_neg h]
theorem YV{H:Hp}{a b:Addr}{o u:HO}(h:H a=some o)(h':H b=some u)(d:o≠u):a≠b:=by
 intro e;subst e;rw[h] at h';exact d (jJ h')
theorem zn{H:Hp}{a b:Addr}{o:HO}(h:H a=some o)(h':H b=none):a≠b:=by
 intro e;subst e;rw[h] at h';cases h'
section
variable(P:Program)(w:World)
def TupX(h:Heap)(a:Addr)(its:Array Value):Prop:=IsTup h a its/\∃o,h.get? a=some o/\o.dict=none
theorem TupX.by{h:Heap}{a:Addr}{its:Array Value}{n:Nat}(e:h.get? a=some { cls:=.type "tuple",data:=.seq its n }):TupX h a its:=⟨⟨_,e,rfl,n,rfl⟩,_,e,rfl⟩
def ObjOk(H:Hp)(h:Heap)(a:Addr):HO->Prop
 | .lst xs=>xs.length<=sizeLine/\∃(its:List Value) (n:Nat),Vals xs its/\h.get? a=some { cls:=.type "list",data:=.seq its.toArray n }
 | .tup xs=>xs.length<=sizeLine/\∃its:List Value,Vals xs its/\TupX h a its.toArray
 | .dK kvs=>kvs.length<=sizeLine/\(a==sysModules)=false/\∃vs,KV kvs vs/\h.DictOf (zV P w) a vs
 | .dT kvs=>kvs.length<=sizeLine/\(a==sysModules)=false/\∃xs:List (List Key×Addr×Value),
   Paired (fun(p:List Key×V) (q:List Key×Addr×Value)=>p.1=q.1/\H q.2.1=some (.tup (p.1.map kV))/\RelV p.2 q.2.2) kvs xs /\
   ∃o es ep,h.get? a=some o/\o.ExactDict/\o.data=.dict es ep/\es.toList=xs.map (entryOfKey (tupleKind (zV P w)))/\(xs.map (·.1)).Nodup
 | .set S n=>h.SetOf (intKind P w) a S n
 | .ins C dx fs=>H dx=some (.own a)/\fs.length<=1000/\dx≠a/\h.get? a=some (PySem.W.instObj C dx) /\
   ∃mA,h.Ns1 dx mA/\(∀f,RelO (fs.lookup f) (mA f))/\PySem.Within mA (fs.map (·.1))
 | .own _=>∃o,h.get? a=some o
 | .xd fs=>∃mA,h.Ns1 a mA/\∀f,RelO (fs.lookup f) (mA f)
 | .rng lo hi=>∃t u v,h.get? a=some { cls:=.type "range",data:=.fields #[.int lo t,.int hi u,.int 1 v] }
 | .frz o u=>h.get? a=some o/\ObjOk H h a u
 | .tbl ps=>h.get? a=some { cls:=.none,data:=.fields ps }
 | .met f x=>h.get? a=some (PySem.W.methodObj (.ref f) (.ref x))
 | .ext φ=>φ h/\(∃o,h.get? a=some o)/\∀h1 h2:Heap,φ h1->(∀o,h1.get? a=some o->h2.get? a=some o)->φ h2
def HOk(H:Hp)(h:Heap):Prop:=∀a o,H a=some o->ObjOk P w H h a o
end
section
variable{P:Program}{w:World}{H H':Hp}{h h':Heap}{a:Addr}{o:HO}
theorem ObjOk.lt(x:ObjOk P w H h a o):a<h.objs.size:=by
 cases o with
 | lst xs=>obtain⟨_,_,_,_,e⟩:=x;exact zL e
 | tup xs=>obtain⟨_,_,_,p⟩:=x;exact p.1.lt
 | dK kvs=>obtain⟨_,_,_,_,o,_,_,e,_⟩:=x;exact zL e
 | dT kvs=>obtain⟨_,_,_,_,o,_,_,e,_⟩:=x;exact zL e
 | set S n=>obtain⟨o,_,_,_,e,_⟩:=x;exact zL e
 | ins C dx fs=>obtain⟨_,_,_,e,_⟩:=x;exact zL e
 | own y=>obtain⟨_,e⟩:=x;exact zL e
 | xd fs=>obtain⟨_,⟨_,_,_,e,_⟩,_⟩:=x;exact zL e
 | rng lo hi=>obtain⟨_,_,_,e⟩:=x;exact zL e
 | frz ob u=>obtain⟨e,_⟩:=x;exact zL e
 | tbl ps=>exact zL (show h.get? a=some _ from x)
 | met f y=>exact zL (show h.get? a=some _ from x)
 | ext φ=>obtain⟨_,⟨_,e⟩,_⟩:=x;exact zL e
theorem Paired.mapP{α β:Type}{F G:α->β->Prop}:∀{l₁:List α} {l₂:List β},Paired F l₁ l₂->(∀a b,F a b->G a b)->Paired G l₁ l₂
 | _,_,.nil,_=>.nil
 | _,_,.cons r t,f=>.cons (f _ _ r) (Paired.mapP t f)
theorem ObjOk.stay(x:ObjOk P w H h a o)(k:∀b u,(b=a\/H b=some (.own a))->h.get? b=some u->h'.get? b=some u)
  (ho:∀b,H b=some (.own a)->H' b=some (.own a)) (ht:∀b xs,H b=some (.tup xs)->H' b=some (.tup xs)):ObjOk P w H' h' a o:=by
 induction o with
 | lst xs=>obtain⟨z,its,n,r,e⟩:=x;exact⟨z,its,n,r,k _ _ (.inl rfl) e⟩
 | tup xs=>obtain⟨z,its,r,⟨ob,e,c⟩,o2,e2,dn⟩:=x;exact⟨z,its,r,⟨ob,k _ _ (.inl rfl) e,c⟩,o2,k _ _ (.inl rfl) e2,dn⟩
 | dK kvs=>obtain⟨z,y,vs,r,ob,es,ep,e,c⟩:=x;exact⟨z,y,vs,r,ob,es,ep,k _ _ (.inl rfl) e,c⟩
 | dT kvs=>
  obtain⟨z,y,xs,r,ob,es,ep,e,c⟩:=x
  exact⟨z,y,xs,Paired.mapP r fun p q z=>⟨z.1,ht _ _ z.2.1,z.2.2⟩,ob,es,ep,k _ _ (.inl rfl) e,c⟩
 | set S n=>obtain⟨ob,es,ep,t,e,c⟩:=x;exact⟨ob,es,ep,t,k _ _ (.inl rfl) e,c⟩
 | ins C dx fs=>
  obtain⟨d,z,ne,e,mA,⟨od,es,ep,e2,c⟩,r⟩:=x
  exact⟨ho _ d,z,ne,k _ _ (.inl rfl) e,mA,⟨od,es,ep,k _ _ (.inr d) e2,c⟩,r⟩
 | own y=>obtain⟨ob,e⟩:=x;exact⟨ob,k _ _ (.inl rfl) e⟩
 | xd fs=>obtain⟨mA,⟨od,es,ep,e,c⟩,r⟩:=x;exact⟨mA,⟨od,es,ep,k _ _ (.inl rfl) e,c⟩,r⟩
 | rng lo hi=>obtain⟨t,u,v,e⟩:=x;exact⟨t,u,v,k _ _ (.inl rfl) e⟩
 | frz ob u ih=>obtain⟨e,q⟩:=x;exact⟨k _ _ (.inl rfl) e,ih q⟩
 | tbl ps=>
  have e:h.get? a=some { cls:=.none,data:=.fields ps }:=x
  show h'.get? a=some { cls:=.none,data:=.fields ps }
  exact k a _ (.inl rfl) e
 | met f y=>
  have e:h.get? a=some (PySem.W.methodObj (.ref f) (.ref y)):=x
  show h'.get? a=some (PySem.W.methodObj (.ref f) (.ref y))
  exact k a _ (.inl rfl) e
 | ext φ=>obtain⟨p,⟨o,e⟩,st⟩:=x;exact⟨st _ _ p fun o q=>k _ _ (.inl rfl) q,⟨o,k _ _ (.inl rfl) e⟩,st⟩
theorem HOk.lt(x:HOk P w H h)(e:H a=some o):a<h.objs.size:=(x a o e).lt
theorem HOk.fresh(x:HOk P w H h)(e:h.objs.size<=a):H a=none:=by
 cases q:H a with
 | none=>rfl
 | some u=>exact absurd (jV (x.lt q) e) (vc _)
theorem HOk.kept(x:HOk P w H h)(k:∀b u,h.get? b=some u->h'.get? b=some u):HOk P w H h':=fun a o e=>
 (x a o e).stay (fun b u _ q=>k b u q) (fun _ q=>q) fun _ _ q=>q
theorem HOk.laid(x:HOk P w H h)(k:∀b u,h.get? b=some u->h'.get? b=some u)(hp:h.objs.size<=a)(new:ObjOk P w (upd H a o) h' a o):HOk P w (upd H a o) h':=fun b u e=>by
 have hn:=x.fresh hp
 by_cases hb:b=a
 ·subst hb;rw[zb] at e;cases e;exact new
 ·rw[zo hb] at e
  exact(x b u e).stay (fun c v _ q=>k c v q) (fun c q=>by rw[zo (zn q hn)];exact q) fun c xs q=>by rw[zo (zn q hn)];exact q
end
def Rd(H:Hp)(a:Addr)(u:HO):Prop:=H a=some u\/∃o,H a=some (.frz o u)
theorem Rd.ok{P:Program}{w:World}{H:Hp}{h:Heap}{a:Addr}{u:HO}(r:Rd H a u)(x:HOk P w H h):ObjOk P w H h a u:=by
 rcases r with r | ⟨o,r⟩
 ·exact x a u r
 ·obtain⟨_,q⟩:=x a _ r
  exact q
def Mut:Option HO->Prop
 | some (.lst _)=>True
 | some (.dK _)=>True
 | some (.dT _)=>True
 | some (.set _ _)=>True
 | some (.ins _ _ _)=>True
 | some (.ext _)=>True
 | _=>False
section
variable{P:Program}{w:World}{H:Hp}{h h':Heap}{x e:Addr}{o':HO}
theorem HOk.write(ok:HOk P w H h)(mu:Mut (H x))(he:e=x\/H e=some (.own x))(k:∀b u,b≠e->h.get? b=some u->h'.get? b=some u)(heo:∃u,h'.get? e=some u)
  (new:ObjOk P w (upd H x o') h' x o'):HOk P w (upd H x o') h':=fun b u q=>by
 have nown:∀c y,H c=some (.own y)->c≠x:=fun c y r z=>by subst z;rw[r] at mu;exact mu
 have ntup:∀c xs,H c=some (.tup xs)->c≠x:=fun c xs r z=>by subst z;rw[r] at mu;exact mu
 by_cases hb:b=x
 ·subst hb;rw[zb] at q;cases q;exact new
 ·rw[zo hb] at q
  by_cases hbe:b=e
  ·have q':H b=some (.own x):=by
    rcases he with z | z
    ·exact absurd (hbe.trans z) hb
    ·rw[hbe];exact z
   rw[q] at q';cases q'
   obtain⟨v,hv⟩:=heo
   exact⟨v,by rw[hbe];exact hv⟩
  ·refine(ok b u q).stay (fun c v hc r=>k c v ?_ r) (fun c r=>by rw[zo (nown c b r)];exact r) fun c xs r=>by rw[zo (ntup c xs r)];exact r
   rcases hc with rfl | hc
   ·exact hbe
   ·rintro rfl
    rcases he with z | z
    ·exact nown c b hc z
    ·rw[hc] at z;cases z;exact hb rfl
end
structure Un(fs ex:List Addr)(H H':Hp)(h h':Heap):Prop where
 keep:∀b o,h.get? b=some o->H b=none->b∉fs->b∉ex->h'.get? b=some o
 slot:∀b o,h.get? b=some o->H b=none->b∈fs->b∉ex->∃sl,h'.get? b=some { o with slots:=sl }
 free:∀b o,h.get? b=some o->H b=none->b∉ex->H' b=none
 there:∀b o,h.get? b=some o->b∉ex->∃o',h'.get? b=some o'
 tups:∀b xs,H b=some (.tup xs)->H' b=some (.tup xs)
 frzs:∀b o u,H b=some (.frz o u)->H' b=some (.frz o u)
 tbls:∀b ps,H b=some (.tbl ps)->∃more,H' b=some (.tbl (ps++more))
section
variable{fs fs' ex ex':List Addr}{H H1 H2:Hp}{h h1 h2 h':Heap}{a x e:Addr}{o:HO}
theorem Un.any(u:Un fs ex H H1 h h1){b:Addr}{ob:Obj}(q:h.get? b=some ob)(n:H b=none)(hx:b∉ex):∃sl,h1.get? b=some { ob with slots:=sl }:=by
 by_cases hb:b∈fs
 ·exact u.slot b ob q n hb hx
 ·exact⟨ob.slots,u.keep b ob q n hb hx⟩
theorem Un.kept(k:∀b u,h.get? b=some u->h'.get? b=some u):Un fs ex H H h h':=
 ⟨fun b ob q _ _ _=>k b ob q,fun b ob q _ _ _=>⟨ob.slots,k b ob q⟩,fun _ _ _ n _=>n,fun b ob q _=>⟨ob,k b ob q⟩,fun _ _ q=>q,fun _ _ _ q=>q,fun _ ps q=>⟨#[],by rw[q];simp⟩⟩
theorem Un.refl:Un fs ex H H h h:=Un.kept fun _ _ q=>q
theorem Un.laid(k:∀b u,h.get? b=some u->h'.get? b=some u)(hp:h.objs.size<=a)(hn:H a=none):Un fs ex H (upd H a o) h h' where
 keep:=fun b u q _ _ _=>k b u q
 slot:=fun b u q _ _ _=>⟨u.slots,k b u q⟩
 free:=fun b u q n _=>by rw[zo (qw (jV (zL q) hp))];exact n
 there:=fun b u q _=>⟨u,k b u q⟩
 tups:=fun b xs q=>by rw[zo (zn q hn)];exact q
 frzs:=fun b u xs q=>by rw[zo (zn q hn)];exact q
 tbls:=fun b ps q=>⟨#[],by rw[zo (zn q hn),q];simp⟩
theorem Un.write(mu:Mut (H x))(he:e=x\/H e=some (.own x))(k:∀b u,b≠e->h.get? b=some u->h'.get? b=some u)(heo:∃u,h'.get? e=some u):Un fs ex H (upd H x o) h h':=by
 have hx:∀b,H b=none->b≠x:=fun b n z=>by subst z;rw[n] at mu;exact mu
 have hb:∀b,H b=none->b≠e:=fun b n z=>by
  subst z
  rcases he with r | r
  ·exact hx b n r
  ·rw[n] at r;cases r
 have hm:∀b u,H b=some u->¬Mut (some u)->b≠x:=fun b u q nm z=>by subst z;rw[q] at mu;exact nm mu
 refine⟨fun b u q n _ _=>k b u (hb b n) q,fun b u q n _ _=>⟨u.slots,k b u (hb b n) q⟩,fun b u q n _=>by rw[zo (hx b n)];exact n,fun b u q _=>?_,
  fun b xs q=>by rw[zo (hm b _ q fun z=>z)];exact q,fun b u xs q=>by rw[zo (hm b _ q fun z=>z)];exact q,fun b ps q=>⟨#[],by rw[zo (hm b _ q fun z=>z),q];simp⟩⟩
 by_cases hbe:b=e
 ·subst hbe;exact heo
 ·exact⟨u,k b u hbe q⟩
end
def trk(h:Heap)(H:Hp):List Addr:=(List.range h.objs.size).filter fun a=>(H a).isSome
def Xq(h:Heap)(H:Hp):Heap:=PySem.W.hideAll h (trk h H)
theorem za5(h:Heap)(H:Hp):(Xq h H).objs.size=h.objs.size:=PySem.W.hideAll_size _ _
theorem zcP{h:Heap}{H:Hp}{b:Addr}{o:Obj}(e:h.get? b=some o)(n:H b=none):(Xq h H).get? b=some o:=
 PySem.W.hideAll_get _ e fun hm=>by
  have q:(H b).isSome=true:=(vT.mp hm).2
  rw[n] at q;simp at q
theorem zdQ{h:Heap}{H:Hp}{b:Addr}{o:Obj}(e:(Xq h H).get? b=some o):h.get? b=some o/\H b=none:=by
 have e':h.get? b=some o:=PySem.W.of_hideAll (trk h H) e
 refine⟨e',?_⟩
 cases q:H b with
 | none=>rfl
 | some x=>
  have hm:b∈trk h H:=vT.mpr ⟨wZ.mpr (zL e'),by simp[q]⟩
  have z:(Xq h H).get? b=none:=PySem.W.hideAll_none (trk h H) hm
  rw[z] at e;cases e
def zee(g h:Heap)(L:Addr):List (Addr×Obj):=(List.range h.objs.size).filterMap fun a=>if a=L\/(g.get? a).isSome=true then none else(h.get? a).map fun o=>(a,o)
def rest(g h:Heap)(L d:Addr):List (Addr×Obj):=(zee g h L).filter fun p=>decide (p.1≠d)
structure Mod(K:PySem.W.Frag)(mg:Str->Option Value)(base:Heap):Prop where
 kin:K.In base
 glob:base.Ns mainGlobals mg
 blt:∃mb,base.Ns builtinsNs mb/\∀x:Str,x ≠ "__name__" -> mb x=bootBuiltins x
 nolimit:base.NoLimit
structure Cx where
 prog:Program
 w:World
 K:PySem.W.Frag
 mg:Str->Option Value
 base:Heap
 A:Around
 N:List Str
 s₀:Shared
 H₀:Hp
 env:Env
 outer:List Env
 stack:List Env
 ex:List Addr
 fn:Str->Bool
 calm:Bool
 pn:List (Addr×Obj)
 xe:Value->Shared->Prop
def frs(l:List Env):List Addr:=l.filterMap (·.frame)
abbrev Cx.fs(X:Cx):List Addr:=frs X.outer
def Vis(sc:Scope)(x:Str):Prop:=sc.names.lookup x=some .local\/sc.names.lookup x=some .cell\/sc.names.lookup x=some .free
def Loc(sc:Scope)(x:Str):Prop:=sc.names.lookup x=some .local\/sc.names.lookup x=some .cell
def zhv(env:Env)(h:Heap)(m:Str->Option Value)(x:Str)(u:Value):Prop:=
 (env.kindOf x=some .local/\m x=some u)\/((env.kindOf x=some .cell\/env.kindOf x=some .free)/\∃c,env.cells.lookup x=some c/\h.IsCell c (some u))
structure Cx.Ok(X:Cx):Prop where
 mod:Mod X.K X.mg X.base
 kind:X.env.scope.kind=.function
 glob:X.env.globals=mainGlobals
 blt:X.env.builtins=builtinsNs
 above:X.s₀.heap.objs.size<=X.env.locals
 inj:∀x y c,X.env.cells.lookup x=some c->X.env.cells.lookup y=some c->x=y
 has:∀x,(X.env.kindOf x=some .cell\/X.env.kindOf x=some .free)->∃c,X.env.cells.lookup x=some c
 cab:∀x c,X.fn x=true->X.env.cells.lookup x=some c->X.s₀.heap.objs.size<=c
 hd:X.calm=true->X.A.handled=none
 frames:X.A.frames=some X.stack
 stk:X.stack=X.outer\/(X.stack=X.env::X.outer/\X.env.frame=some X.env.locals)
 exf:∀b∈X.ex,b≠X.env.locals/\∀x c,X.env.cells.lookup x=some c->c≠b
 bs:∀b o,X.base.get? b=some o->X.s₀.heap.get? b=some o/\X.H₀ b=none
 bsz:X.base.objs.size<=X.s₀.heap.objs.size
 noex:∀b o,X.base.get? b=some o->b∉X.ex
 exfs:∀b∈X.ex,b∉X.fs
 funs:X.s₀.heap.FunFrames X.base X.outer
 frf:∀b∈X.fs,X.H₀ b=none
structure Inv(X:Cx)(pins:List (Addr×Obj))(σ:List (Option V))(H:Hp)(s:Shared):Prop where
 ok:X.Ok
 os:s.os=X.s₀.os
 bare:AllBare s.gens
 base:Un X.fs X.ex X.H₀ H X.s₀.heap s.heap
 loc:∃m,s.heap.Ns X.env.locals m/\∀(i:Nat) (x:Str) (v:V),X.N[i]? =some x->σ[i]? =some (some v)->Vis X.env.scope x->∃u,RelV v u/\zhv X.env s.heap m x u
 cell:∀x c,X.env.cells.lookup x=some c->∃v,s.heap.IsCell c v
 free:H X.env.locals=none
 freeC:∀x c,X.env.cells.lookup x=some c->H c=none
 pin:∀p∈X.pn++pins,s.heap.get? p.1=some p.2/\H p.1=none/\p.1≠X.env.locals/\p.1∉X.fs/\∀v,p.2.data≠.cell v
 hok:HOk X.prog X.w H s.heap
 len:σ.length=X.N.length
section
variable{X:Cx}{pins:List (Addr×Obj)}{σ:List (Option V)}{H H':Hp}{s:Shared}{h':Heap}
theorem Cx.Ok.nofr(ok:X.Ok){b:Addr}{o:Obj}(e:X.base.get? b=some o):b∉X.fs:=fun hb=>by
 have:=(ok.funs.mem hb).1
 rw[e] at this;cases this
theorem Inv.bs(I:Inv X pins σ H s):∀b o,X.base.get? b=some o->s.heap.get? b=some o/\H b=none:=fun b o e=>
 ⟨I.base.keep b o (I.ok.bs b o e).1 (I.ok.bs b o e).2 (I.ok.nofr e) (I.ok.noex b o e),I.base.free b o (I.ok.bs b o e).1 (I.ok.bs b o e).2 (I.ok.noex b o e)⟩
theorem Inv.bk(I:Inv X pins σ H s):∀b o,X.base.get? b=some o->s.heap.get? b=some o:=fun b o e=>(I.bs b o e).1
theorem Inv.mod(I:Inv X pins σ H s):Mod X.K X.mg X.base:=I.ok.mod
theorem Inv.kIn(I:Inv X pins σ H s):X.K.In s.heap:=I.ok.mod.kin.keeps I.bk
theorem Inv.lt(I:Inv X pins σ H s):X.env.locals<s.heap.objs.size:=let ⟨_,hn,_⟩:=I.loc;hn.lt
theorem Inv.sz(I:Inv X pins σ H s):X.s₀.heap.objs.size<=s.heap.objs.size:=jt I.ok.above (Nat.le_of_lt I.lt)
theorem Inv.nofs(I:Inv X pins σ H s){a:Addr}(h:s.heap.objs.size<=a):a∉X.fs:=fun hb=>by
 obtain⟨_,o,ho,_⟩:=I.ok.funs.mem hb
 exact absurd (jV (zL ho) (jt I.sz h)) (vc _)
theorem Inv.cne(I:Inv X pins σ H s):∀x c,X.env.cells.lookup x=some c->c≠X.env.locals:=fun x c e z=>by
 obtain⟨v,o,ho,hd⟩:=I.cell x c e
 obtain⟨m,⟨o',es,ep,ho',hd',_⟩,_⟩:=I.loc
 rw[z,ho'] at ho;cases ho;rw[hd'] at hd;cases hd
theorem Inv.funs(I:Inv X pins σ H s):s.heap.FunFrames X.base X.outer:=by
 have all:∀(l:List Env),(∀b∈frs l,b∈X.fs)->X.s₀.heap.FunFrames X.base l->s.heap.FunFrames X.base l:=by
  intro l
  induction l with
  | nil=>intro _ _;trivial
  | cons env r ih=>
   intro hs hl
   obtain⟨hk,⟨L,o,hf,hn,ho,hd⟩,hr⟩:=hl
   have hL:L∈X.fs:=hs L (by unfold frs;rw[XO,hf];exact jD)
   obtain⟨sl,e⟩:=I.base.slot L o ho (I.ok.frf L hL) hL fun z=>I.ok.exfs L z hL
   exact⟨hk,⟨L,_,hf,hn,e,hd⟩,ih (fun b hb=>hs b (by unfold frs;rw[XO,hf];exact jE _ hb)) hr⟩
 exact all X.outer (fun _ hb=>hb) I.ok.funs
theorem Inv.stack(I:Inv X pins σ H s):s.heap.FunFrames X.base X.stack:=by
 rcases I.ok.stk with e | ⟨e,hf⟩
 ·rw[e];exact I.funs
 ·rw[e]
  obtain⟨m,hn,_⟩:=I.loc
  refine .cons (by rw[I.ok.kind];decide) hf hn ?_ I.funs
  exact Heap.get?_none_of_le (jt I.ok.bsz I.ok.above)
theorem Inv.stkSub(I:Inv X pins σ H s):∀b∈frs X.stack,b∈X.env.locals::X.fs:=fun b hb=>by
 rcases I.ok.stk with e | ⟨e,hf⟩
 ·rw[e] at hb;exact jE _ hb
 ·rw[e] at hb
  unfold frs at hb
  rw[XO,hf] at hb
  exact hb
theorem Inv.stkFree(I:Inv X pins σ H s):∀b∈frs X.stack,H b=none:=fun b hb=>by
 rcases qq.mp (I.stkSub b hb) with e | hb
 ·rw[e];exact I.free
 ·obtain⟨_,o,ho,_⟩:=I.ok.funs.mem hb
  exact I.base.free b o ho (I.ok.frf b hb) fun z=>I.ok.exfs b z hb
theorem Inv.step{g':Array GenState}{t':Nat}{d':Drawn}{ch:List Addr}(I:Inv X pins σ H s)
  (hch:∀b∈ch,(b∈X.ex\/X.s₀.heap.objs.size<=b)/\b≠X.env.locals/\(∀x c,X.env.cells.lookup x=some c->c≠b)/\∀p∈X.pn++pins,p.1≠b)
  (keep:∀b o,b≠X.env.locals->b∉X.fs->b∉ch->s.heap.get? b=some o->H b=none->h'.get? b=some o)
  (slot:∀b o,b≠X.env.locals->b∈X.fs->b∉ch->s.heap.get? b=some o->H b=none->∃sl,h'.get? b=some { o with slots:=sl }) (free:∀b o,b∉ch->s.heap.get? b=some o->H b=none->H' b=none)
  (there:∀b o,b∉ch->s.heap.get? b=some o->∃o',h'.get? b=some o')
  (tups:∀b xs,H b=some (.tup xs)->H' b=some (.tup xs)) (frzs:∀b o u,H b=some (.frz o u)->H' b=some (.frz o u)) (tbls:∀b ps,H b=some (.tbl ps)->∃more,H' b=some (.tbl (ps++more)))
  (ns:∀m,s.heap.Ns X.env.locals m->h'.Ns X.env.locals m) (hok:HOk X.prog X.w H' h') (hg:AllBare g') :
  Inv X pins σ H' { s with heap:=h',gens:=g',drawn:=d',toks:=t' }:=by
 have neL:∀b o,X.s₀.heap.get? b=some o->b≠X.env.locals:=fun b o e=>qw (jV (zL e) I.ok.above)
 have neC:∀b o,X.s₀.heap.get? b=some o->b∉X.ex->b∉ch:=fun b o e hx hb=>by
  rcases(hch b hb).1 with z | z
  ·exact hx z
  ·exact absurd (jV (zL e) z) (vc _)
 have cellK:∀x c,X.env.cells.lookup x=some c->∀v,s.heap.IsCell c v->h'.IsCell c v:=fun x c e v ⟨o,ho,hd⟩=>by
  have nch:c∉ch:=fun z=>(hch c z).2.2.1 x c e rfl
  by_cases hc:c∈X.fs
  ·obtain⟨sl,q⟩:=slot c o (I.cne x c e) hc nch ho (I.freeC x c e)
   exact⟨_,q,hd⟩
  ·exact⟨o,keep c o (I.cne x c e) hc nch ho (I.freeC x c e),hd⟩
 refine⟨I.ok,I.os,hg,⟨fun b o e n hb hx=>?_,fun b o e n hb hx=>?_,fun b o e n hx=>?_,fun b o e hx=>?_,fun b xs e=>tups b xs (I.base.tups b xs e),fun b o xs e=>frzs b o xs (I.base.frzs b o xs e),fun b ps e=>?_⟩,?_,fun x c e=>?_,?_,fun x c e=>?_,fun p hp=>?_,hok,I.len⟩
 ·exact keep b o (neL b o e) hb (neC b o e hx) (I.base.keep b o e n hb hx) (I.base.free b o e n hx)
 ·obtain⟨sl,e1⟩:=I.base.slot b o e n hb hx
  obtain⟨sl',e2⟩:=slot b _ (neL b o e) hb (neC b o e hx) e1 (I.base.free b o e n hx)
  exact⟨sl',e2⟩
 ·obtain⟨o',e1⟩:=I.base.there b o e hx
  exact free b o' (neC b o e hx) e1 (I.base.free b o e n hx)
 ·obtain⟨o',e1⟩:=I.base.there b o e hx
  exact there b o' (neC b o e hx) e1
 ·obtain⟨m1,e1⟩:=I.base.tbls b ps e
  obtain⟨m2,e2⟩:=tbls b _ e1
  exact⟨m1++m2,by rw[e2,Array.append_assoc]⟩
 ·obtain⟨m,hn,hl⟩:=I.loc
  refine⟨m,ns m hn,fun i x v e1 e2 e3=>?_⟩
  obtain⟨u,r,l⟩:=hl i x v e1 e2 e3
  refine⟨u,r,?_⟩
  rcases l with l | ⟨k,c,e,z⟩
  ·exact .inl l
  ·exact .inr ⟨k,c,e,cellK x c e _ z⟩
 ·obtain⟨v,z⟩:=I.cell x c e
  exact⟨v,cellK x c e v z⟩
 ·obtain⟨m,⟨o,_,_,ho,_⟩,_⟩:=I.loc
  exact free _ o (fun z=>(hch _ z).2.1 rfl) ho I.free
 ·obtain⟨v,o,ho,hd⟩:=I.cell x c e
  exact free c o (fun z=>(hch c z).2.2.1 x c e rfl) ho (I.freeC x c e)
 ·obtain⟨e,n,ne,nf,d⟩:=I.pin p hp
  have nch:p.1∉ch:=fun z=>(hch p.1 z).2.2.2 p hp rfl
  exact⟨keep p.1 p.2 ne nf nch e n,free p.1 p.2 nch e n,ne,nf,d⟩
theorem Inv.un{t':Nat}(I:Inv X pins σ H s)(u:Un X.fs [] H H' s.heap h')(hok:HOk X.prog X.w H' h'):Inv X pins σ H' { s with heap:=h',toks:=t' }:=by
 obtain⟨m,⟨o,es,ep,ho,r⟩,_⟩:=id I.loc
 obtain⟨sl,hL⟩:=u.any ho I.free (by simp)
 exact I.step (g':=s.gens) (d':=s.drawn) (ch:=[]) (fun _ z=>nomatch z) (fun b o _ hb _ e n=>u.keep b o e n hb (by simp)) (fun b o _ hb _ e n=>u.slot b o e n hb (by simp)) (fun b o _ e n=>u.free b o e n (by simp)) (fun b o _ e=>u.there b o e (by simp)) u.tups u.frzs u.tbls (fun m' hm=>by
  obtain⟨o',es',ep',ho',r'⟩:=hm
  rw[ho] at ho';cases ho'
  exact⟨_,es',ep',hL,r'⟩) hok I.bare
theorem Inv.call{g':Array GenState}{t':Nat}{d':Drawn}{ch:List Addr}(I:Inv X pins σ H s)(u:Un (frs X.stack) ch H H' s.heap h')(hok:HOk X.prog X.w H' h')(hg:AllBare g')
  (hch:∀b∈ch,(b∈X.ex\/X.s₀.heap.objs.size<=b)/\b≠X.env.locals/\(∀x c,X.env.cells.lookup x=some c->c≠b)/\∀p∈X.pn++pins,p.1≠b) :
  Inv X pins σ H' { s with heap:=h',gens:=g',drawn:=d',toks:=t' }:=by
 obtain⟨m,⟨o,es,ep,ho,r⟩,_⟩:=id I.loc
 obtain⟨sl,hL⟩:=u.any ho I.free fun z=>(hch _ z).2.1 rfl
 exact I.step (ch:=ch) hch (fun b o hL hb hc e n=>u.keep b o e n (fun z=>(qq.mp (I.stkSub b z)).elim hL hb) hc) (fun b o _ _ hc e n=>u.any e n hc) (fun b o hc e n=>u.free b o e n hc) (fun b o hc e=>u.there b o e hc) u.tups u.frzs u.tbls (fun m' hm=>by
  obtain⟨o',es',ep',ho',r'⟩:=hm
  rw[ho] at ho';cases ho'
  exact⟨_,es',ep',hL,r'⟩) hok hg
theorem Inv.turned{t':Nat}{it:Addr}(I:Inv X pins σ H s)(k:∀b o,b≠it->s.heap.get? b=some o->h'.get? b=some o)(hn:H it=none)(hL:it≠X.env.locals)
  (h1:it∈X.ex\/X.s₀.heap.objs.size<=it) (h2:∀x c,X.env.cells.lookup x=some c->c≠it) (h3:∀p∈X.pn++pins,p.1≠it):Inv X pins σ H { s with heap:=h',toks:=t' }:=by
 have nit:∀b u,H b=some u->b≠it:=fun b u e z=>by rw[z,hn] at e;cases e
 refine I.step (g':=s.gens) (d':=s.drawn) (ch:=[it]) (fun b hb=>?_) (fun b o _ _ hc e _=>k b o (fun z=>hc (by simp[z])) e) (fun b o _ _ hc e _=>⟨o.slots,k b o (fun z=>hc (by simp[z])) e⟩) (fun _ _ _ _ n=>n)
  (fun b o hc e=>⟨o,k b o (fun z=>hc (by simp[z])) e⟩) (fun _ _ e=>e) (fun _ _ _ e=>e) (fun b ps e=>⟨#[],by rw[e];simp⟩) (fun m hm=>?_) (fun b u e=>?_) I.bare
 ·have e:b=it:=by simpa using hb
  subst e
  exact⟨h1,hL,h2,h3⟩
 ·obtain⟨o,es,ep,ho,r⟩:=hm
  exact⟨o,es,ep,k _ o (qH hL) ho,r⟩
 ·refine(I.hok b u e).stay (fun c v hc q=>k c v ?_ q) (fun _ q=>q) fun _ _ q=>q
  rcases hc with z | z
  ·rw[z];exact nit b u e
  ·exact nit c _ z
theorem Inv.tok(I:Inv X pins σ H s)(t:Nat):Inv X pins σ H { s with toks:=t }:=I.un (h':=s.heap) (t':=t) Un.refl I.hok
theorem Inv.kept{t':Nat}(I:Inv X pins σ H s)(k:∀b u,s.heap.get? b=some u->h'.get? b=some u):Inv X pins σ H { s with heap:=h',toks:=t' }:=I.un (Un.kept k) (I.hok.kept k)
theorem Inv.laid{a:Addr}{o:HO}{t':Nat}(I:Inv X pins σ H s)(k:∀b u,s.heap.get? b=some u->h'.get? b=some u)(hp:s.heap.objs.size<=a)(new:ObjOk X.prog X.w (upd H a o) h' a o) :
  Inv X pins σ (upd H a o) { s with heap:=h',toks:=t' }:=I.un (Un.laid k hp (I.hok.fresh hp)) (I.hok.laid k hp new)
theorem Inv.write{x e:Addr}{o:HO}{t':Nat}(I:Inv X pins σ H s)(mu:Mut (H x))(he:e=x\/H e=some (.own x))(k:∀b u,b≠e->s.heap.get? b=some u->h'.get? b=some u)(heo:∃u,h'.get? e=some u)
  (new:ObjOk X.prog X.w (upd H x o) h' x o):Inv X pins σ (upd H x o) { s with heap:=h',toks:=t' }:=I.un (Un.write mu he k heo) (I.hok.write mu he k heo new)
theorem Inv.weak{σ':List (Option V)}(I:Inv X pins σ H s)(hl:σ'.length=σ.length)(w:∀(i:Nat) v,σ'[i]? =some (some v)->σ[i]? =some (some v)):Inv X pins σ' H s:=
 ⟨I.ok,I.os,I.bare,I.base,let ⟨m,hn,hl'⟩:=I.loc;⟨m,hn,fun i x v e1 e2 e3=>hl' i x v e1 (w i v e2) e3⟩,I.cell,I.free,I.freeC,I.pin,I.hok,hl.trans I.len⟩
theorem Inv.pins_of{pins':List (Addr×Obj)}(I:Inv X pins σ H s)(h:∀p∈pins',s.heap.get? p.1=some p.2/\H p.1=none/\p.1≠X.env.locals/\p.1∉X.fs/\∀v,p.2.data≠.cell v):Inv X pins' σ H s:=
 ⟨I.ok,I.os,I.bare,I.base,I.loc,I.cell,I.free,I.freeC,fun p hp=>(qL.mp hp).elim (fun z=>I.pin p (xc _ z)) (h p),I.hok,I.len⟩
theorem VE{N:List Str}(hN:N.Nodup){i j:Nat}{x:Str}(a:N[i]? =some x)(b:N[j]? =some x):i=j:=by
 obtain⟨h1,e1⟩:=zN.mp a
 obtain⟨h2,e2⟩:=zN.mp b
 exact(Zx hN).mp (e1.trans e2.symm)
theorem zaL{M:Model}{A:Around}{E:Value->Shared->Prop}{i:Nat}{x:Str}{v:V}{u:Value}{Q:Unit->Shared->Prop}(I:Inv X pins σ H s)(hN:X.N.Nodup)(hi:X.N[i]? =some x)(hx:Loc X.env.scope x)(r:RelV v u)
  (h:∀s',Inv X pins (σ.set i (some v)) H s'->(∃a,Heap.SameBut a s.heap s'.heap/\(a=X.env.locals\/X.env.cells.lookup x=some a))->Q () s') (hf:X.fn x=true\/X.env.scope.names.lookup x=some .local:=by first| exact .inl rfl | exact .inr rfl | assumption):wpAny M A (storeName X.env x u) Q E s:=by
 obtain⟨m,hn,hl⟩:=id I.loc
 have hcls:(X.env.scope.kind==.class||(X.env.scope.kind==.module&&X.env.locals != X.env.globals))=false:=by rw[I.ok.kind];rfl
 have hiσ:i<σ.length:=by rw[I.len];exact(zN.mp hi).1
 have cne:=I.cne
 have tracked:∀{a:Addr} {h':Heap},(∃o,s.heap.get? a=some o/\H a=none)->Heap.SameBut a s.heap h'->HOk X.prog X.w H h':=fun {a h'} ha hs b ob e=>by
  obtain⟨_,_,hfree⟩:=ha
  refine(I.hok b ob e).stay (fun c w' hc q=>(hs.2 c ?_).trans q) (fun _ q=>q) fun _ _ q=>q
  rintro rfl
  rcases hc with rfl | hc
  ·rw[hfree] at e;cases e
  ·rw[hfree] at hc;cases hc
 rcases hx with hk | hk
 ·refine wpAny_storeName_local hk hn (fun h' hn' hs=>?_) hcls
  obtain⟨oL,_,_,hoL,_⟩:=id hn
  refine h _ ⟨I.ok,I.os,I.bare,⟨fun b o e n hb hx=>?_,fun b o e n hb hx=>?_,I.base.free,fun b o e hx=>?_,I.base.tups,I.base.frzs,I.base.tbls⟩,⟨_,hn',fun j y v' e1 e2 e3=>?_⟩,fun y c e=>?_,I.free,I.freeC,fun p hp=>?_,tracked ⟨oL,hoL,I.free⟩ hs,by simpa using I.len⟩ ⟨_,hs,.inl rfl⟩
  ·exact(hs.2 b (qw (jV (zL e) I.ok.above))).trans (I.base.keep b o e n hb hx)
  ·obtain⟨sl,e1⟩:=I.base.slot b o e n hb hx
   exact⟨sl,(hs.2 b (qw (jV (zL e) I.ok.above))).trans e1⟩
  ·obtain⟨o',e1⟩:=I.base.there b o e hx
   exact⟨o',(hs.2 b (qw (jV (zL e) I.ok.above))).trans e1⟩
  ·by_cases hj:j=i
   ·subst hj
    rw[hi] at e1;cases e1
    rw[List.getElem?_set_self hiσ] at e2
    cases e2
    exact⟨u,r,.inl ⟨hk,by simp⟩⟩
   ·rw[List.getElem?_set_ne (qH hj)] at e2
    obtain⟨u',r',q⟩:=hl j y v' e1 e2 e3
    refine⟨u',r',?_⟩
    rcases q with ⟨k,e⟩ | ⟨k,c,e,z⟩
    ·refine .inl ⟨k,?_⟩
     have:y≠x:=fun e=>hj (VE hN e1 (e▸hi))
     simp[this,e]
    ·exact .inr ⟨k,c,e,z.sameBut hs (cne y c e)⟩
  ·obtain⟨w',z⟩:=I.cell y c e
   exact⟨w',z.sameBut hs (cne y c e)⟩
  ·obtain⟨e,n,ne,nf,d⟩:=I.pin p hp
   exact⟨(hs.2 p.1 ne).trans e,n,ne,nf,d⟩
 ·have hfn:X.fn x=true:=by
   rcases hf with z | z
   ·exact z
   ·rw[z] at hk;cases hk
  obtain⟨c,hc⟩:=I.ok.has x (.inl hk)
  obtain⟨w',z⟩:=I.cell x c hc
  refine wpAny_storeName_cell I.ok.kind hk hc z (fun h' hc' hs=>?_)
  obtain⟨oc,hoc,hocd⟩:=id z
  refine h { s with heap:=h' } ⟨I.ok,I.os,I.bare,⟨fun b o e n hb hx=>?_,fun b o e n hb hx=>?_,I.base.free,fun b o e hx=>?_,I.base.tups,I.base.frzs,I.base.tbls⟩,⟨m,hn.sameBut hs (qH (cne x c hc)),fun j y v' e1 e2 e3=>?_⟩,fun y c' e=>?_,I.free,I.freeC,fun p hp=>?_,tracked ⟨oc,hoc,I.freeC x c hc⟩ hs,by simpa using I.len⟩ ⟨c,hs,.inr hc⟩
  ·exact(hs.2 b (qw (jV (zL e) (I.ok.cab x c hfn hc)))).trans (I.base.keep b o e n hb hx)
  ·obtain⟨sl,e1⟩:=I.base.slot b o e n hb hx
   exact⟨sl,(hs.2 b (qw (jV (zL e) (I.ok.cab x c hfn hc)))).trans e1⟩
  ·obtain⟨o',e1⟩:=I.base.there b o e hx
   exact⟨o',(hs.2 b (qw (jV (zL e) (I.ok.cab x c hfn hc)))).trans e1⟩
  ·by_cases hj:j=i
   ·subst hj
    rw[hi] at e1;cases e1
    rw[List.getElem?_set_self hiσ] at e2
    cases e2
    exact⟨u,r,.inr ⟨.inl hk,c,hc,hc'⟩⟩
   ·rw[List.getElem?_set_ne (qH hj)] at e2
    obtain⟨u',r',q⟩:=hl j y v' e1 e2 e3
    refine⟨u',r',?_⟩
    rcases q with q | ⟨k,c',e,z'⟩
    ·exact .inl q
    ·refine .inr ⟨k,c',e,z'.sameBut hs ?_⟩
     rintro rfl
     exact hj (VE hN e1 (I.ok.inj _ _ _ e hc▸hi))
  ·by_cases hcc:c'=c
   ·subst hcc;exact⟨_,hc'⟩
   ·obtain⟨w2,z2⟩:=I.cell y c' e
    exact⟨w2,z2.sameBut hs hcc⟩
  ·obtain⟨e,n,ne,nf,d⟩:=I.pin p hp
   refine⟨(hs.2 p.1 ?_).trans e,n,ne,nf,d⟩
   intro q
   rw[q,hoc] at e
   have q':oc=p.2:=jJ e
   exact d w' (by rw[<- q'];exact hocd)
theorem yB{M:Model}{A:Around}{E:Value->Shared->Prop}{i:Nat}{x:Str}{v:V}{u:Value}{Q:Unit->Shared->Prop}(I:Inv X pins σ H s)(hN:X.N.Nodup)(hi:X.N[i]? =some x)(hx:Loc X.env.scope x)(r:RelV v u)
  (h:∀s',Inv X pins (σ.set i (some v)) H s'->Q () s') (hf:X.fn x=true\/X.env.scope.names.lookup x=some .local:=by first| exact .inl rfl | exact .inr rfl | assumption):wpAny M A (storeName X.env x u) Q E s:=
 zaL I hN hi hx r (fun s' I' _=>h s' I') hf
theorem Inv.call'{s':Shared}{ch:List Addr}(I:Inv X pins σ H s)(ho:s'.os=s.os)(u:Un (frs X.stack) ch H H' s.heap s'.heap)(hok:HOk X.prog X.w H' s'.heap)(hg:AllBare s'.gens)
  (hch:∀b∈ch,(b∈X.ex\/X.s₀.heap.objs.size<=b)/\b≠X.env.locals/\(∀x c,X.env.cells.lookup x=some c->c≠b)/\∀p∈X.pn++pins,p.1≠b):Inv X pins σ H' s':=by
 obtain⟨h',g',d',t',o'⟩:=s'
 have e:o'=s.os:=ho
 subst e
 exact I.call (g':=g') (t':=t') (d':=d') u hok hg hch
end
abbrev XK:=Value->Option Addr->Hp->Prop
abbrev St:=List (Option V)
abbrev VK:=V->Hp->Prop
abbrev TE:=St->Hp->VK->Prop
abbrev TT:=St->Hp->(Bool->Hp->Prop)->Prop
abbrev TA:=St->Hp->(List V->Hp->Prop)->Prop
structure Jg where
 nx:St->Hp->Prop
 rt:VK
 bk:St->Hp->Prop:=fun _ _=>False
 ct:St->Hp->Prop:=fun _ _=>False
abbrev TS:=Jg->St->Hp->Prop
def EP(X:Cx)(pins:List (Addr×Obj))(σ:St)(Q:VK)(u:Value)(s':Shared):Prop:=∃v H',Inv X pins σ H' s'/\RelV v u/\Q v H'
def TP(X:Cx)(pins:List (Addr×Obj))(σ:St)(Q:Bool->Hp->Prop)(b:Bool)(s':Shared):Prop:=∃H',Inv X pins σ H' s'/\Q b H'
def AP(X:Cx)(pins:List (Addr×Obj))(σ:St)(Q:List V->Hp->Prop)(us:List Value)(s':Shared):Prop:=∃vs H',Inv X pins σ H' s'/\Vals vs us/\Q vs H'
def SP(X:Cx)(pins:List (Addr×Obj))(D:Jg)(f:Flow)(s':Shared):Prop:=
 match f with
 | .next=>∃σ' H',Inv X pins σ' H' s'/\D.nx σ' H'
 | .brk=>∃σ' H',Inv X pins σ' H' s'/\D.bk σ' H'
 | .cont=>∃σ' H',Inv X pins σ' H' s'/\D.ct σ' H'
 | .ret u=>∃v σ' H',Inv X pins σ' H' s'/\RelV v u/\D.rt v H'
def PE(X:Cx)(e:Expr)(t:TE):Prop:=
 ∀(pins:List (Addr×Obj)) (s:Shared) (σ:St) (H:Hp) (Q:VK),Inv X pins σ H s->t σ H Q->wpAny (model X.prog X.w) X.A (eval e X.env) (EP X pins σ Q) X.xe s
def PT(X:Cx)(e:Expr)(t:TT):Prop:=
 ∀(pins:List (Addr×Obj)) (s:Shared) (σ:St) (H:Hp) (Q:Bool->Hp->Prop),Inv X pins σ H s->t σ H Q->wpAny (model X.prog X.w) X.A (isTrue e X.env (eval e X.env)) (TP X pins σ Q) X.xe s
def PW(X:Cx)(e:Expr)(t:TT):Prop:=
 ∀(whole:Sem Value) (pins:List (Addr×Obj)) (s:Shared) (σ:St) (H:Hp) (Q:Bool->Hp->Prop),Inv X pins σ H s->t σ H Q->wpAny (model X.prog X.w) X.A (isTrue e X.env whole) (TP X pins σ Q) X.xe s
theorem PW.pt{X:Cx}{e:Expr}{t:TT}(h:PW X e t):PT X e t:=h _
def PA(X:Cx)(es:List Expr)(t:TA):Prop:=
 ∀(pos:Pos) (pins:List (Addr×Obj)) (s:Shared) (σ:St) (H:Hp) (Q:List V->Hp->Prop),Inv X pins σ H s->t σ H Q->wpAny (model X.prog X.w) X.A (spliced (backTo pos (starEach es X.env))) (AP X pins σ Q) X.xe s
def PS(X:Cx)(st:Stmt)(t:TS):Prop:=
 ∀(pins:List (Addr×Obj)) (s:Shared) (σ:St) (H:Hp) (D:Jg),Inv X pins σ H s->t D σ H->wpAny (model X.prog X.w) X.A (exec st X.env) (SP X pins D) X.xe s
def PSs(X:Cx)(st:List Stmt)(t:TS):Prop:=
 ∀(pins:List (Addr×Obj)) (s:Shared) (σ:St) (H:Hp) (D:Jg),Inv X pins σ H s->t D σ H->wpAny (model X.prog X.w) X.A (execs st X.env) (SP X pins D) X.xe s
theorem thn{α:Type}{t:Sem α}{Q Q':α->Shared->Prop}{M:Model}{A:Around}{E:Value->Shared->Prop}{s:Shared}(h:wpAny M A t Q E s)(hQ:∀a s,Q a s->Q' a s):wpAny M A t Q' E s:=jI h hQ fun _ _ x=>x
section
variable{X:Cx}
inductive IsB(x:V)(H:Hp)(Q:Bool->Hp->Prop):Prop
 | mk (c:Bool) (h:x=.bl c) (q:Q c H):IsB x H Q
inductive IsI(x:V)(H:Hp)(Q:Int->Hp->Prop):Prop
 | mk (i:Int) (h:x=.int i) (q:Q i H):IsI x H Q
inductive zg3(vs:List V)(H:Hp)(Q:V->V->Hp->Prop):Prop
 | mk (v w:V) (h:vs=[v,w]) (q:Q v w H):zg3 vs H Q
inductive zbx(i:Nat)(σ:St)(H:Hp)(Q:VK):Prop
 | mk (v:_) (_:σ[i]? =some (some v)) (_:Q v H):zbx i σ H Q
def tC(v:V):TE:=fun _ H Q=>Q v H
theorem ze9{i:Nat}{x:Str}{pos:Pos}(hN:X.N[i]? =some x)(hv:Vis X.env.scope x)(hd:(x==("__debug__" : Str))=false:=by decide)(hcd:(x==("__classdict__" : Str))=false:=by decide):PE X (.Name x pos) (zbx i):=by
 intro pins s σ H Q I h
 obtain⟨v,e,h⟩:=h
 obtain⟨m,hn,hl⟩:=I.loc
 obtain⟨u,r,l⟩:=hl i x v hN e hv
 have fin:EP X pins σ Q u s:=⟨v,H,I,r,h⟩
 rcases l with ⟨hk,hm⟩ | ⟨hk,c,hc,hcell⟩
 ·exact wpAny_Name (wpAny_loadName_local I.ok.kind hk hn hm fin) hd
 ·rcases hk with hk | hk
  ·exact wpAny_Name (wpAny_loadName_cell I.ok.kind hk hc hcell fin) hd
  ·exact wpAny_Name (wpAny_loadName_free I.ok.kind hk hc hcell fin hcd) hd
theorem ze{i j pos}:PE X (.Constant (.int i) j pos) (tC (.int i)):=fun _ _ _ H _ I h=>wpAny_Constant_int ⟨.int i,H,I.tok _,⟨_,rfl⟩,h⟩
theorem jW{b j pos}:PE X (.Constant (.bool b) j pos) (tC (.bl b)):=fun _ _ _ H _ I h=>Constant_bool ⟨.bl b,H,I,rfl,h⟩
theorem jY{j pos}:PE X (.Constant .none j pos) (tC .non):=fun _ _ _ H _ I h=>Constant_none ⟨.non,H,I,rfl,h⟩
theorem jR{x j pos}:PE X (.Constant (.str x) j pos) (tC (.str x)):=fun _ _ _ H _ I h=>Calls.Constant_str ⟨.str x,H,I.tok _,⟨_,rfl⟩,h⟩
def Gl(X:Cx)(x:Str):Prop:=X.env.kindOf x=some .globalImplicit
theorem zdZ{E:Value->Shared->Prop}{pins:List (Addr×Obj)}{s:Shared}{σ:St}{H:Hp}{x:Str}{u:Value}{pos:Pos}{Q:Value->Shared->Prop}(I:Inv X pins σ H s)(hg:Gl X x)(hm:X.mg x=some u)(h:Q u s)
  (hd:(x==("__debug__" : Str))=false:=by decide):wpAny (model X.prog X.w) X.A (eval (.Name x pos) X.env) Q E s:=
 Calls.Name_function_global I.ok.kind hg (Calls.loadGlobal_global (by rw[I.ok.glob];exact I.mod.glob.keeps I.bk) hm h) hd
theorem vO{E:Value->Shared->Prop}{pins:List (Addr×Obj)}{s:Shared}{σ:St}{H:Hp}{x:Str}{u:Value}{pos:Pos}{Q:Value->Shared->Prop}(I:Inv X pins σ H s)(hg:Gl X x)(hm:X.mg x=none)(hv:bootBuiltins x=some u)(h:Q u s)
  (hn:x ≠ "__name__" :=by decide) (hd:(x==("__debug__" : Str))=false:=by decide):wpAny (model X.prog X.w) X.A (eval (.Name x pos) X.env) Q E s:=by
 obtain⟨mb,h1,h2⟩:=I.mod.blt
 exact Calls.Name_function_global I.ok.kind hg (Calls.loadGlobal_builtin (by rw[I.ok.glob];exact I.mod.glob.keeps I.bk) hm (by rw[I.ok.blt];exact h1.keeps I.bk) ((h2 x hn).trans hv) h) hd
theorem qh{x:Str}{v:V}{u:Value}{pos:Pos}(hg:Gl X x)(hm:X.mg x=none)(hv:bootBuiltins x=some u)(r:RelV v u)(hn:x ≠ "__name__" :=by decide)(hd:(x==("__debug__" : Str))=false:=by decide):PE X (.Name x pos) (tC v):=
 fun _ _ _ H _ I h=>vO I hg hm hv ⟨v,H,I,r,h⟩ hn hd
variable{a b:Expr}{ta tb:TE}{pos:Pos}
def PC(X:Cx)(op:CmpOp)(a b:Expr)(t:TE):Prop:=
 ∀(pins:List (Addr×Obj)) (s:Shared) (σ:St) (H:Hp) (Q:VK),Inv X pins σ H s->t σ H Q ->
  wpAny (model X.prog X.w) X.A (eval a X.env) (fun v s₁=>wpAny (model X.prog X.w) X.A (eval b X.env) (fun u s₂=>wpAny (model X.prog X.w) X.A (compareOp op v u) (EP X pins σ Q) X.xe s₂) X.xe s₁) X.xe s
def tB(t:TE):TT:=fun σ H Q=>t σ H fun x H1=>IsB x H1 Q
theorem ze3{op:CmpOp}{t:TE}(h:PC X op a b t)(h1:behindInMarks op b=false:=by first| exact nobehind _ (by decide) (by decide) | rfl):PT X (.Compare a [op] [b] pos) (tB t):=by
 intro pins s σ H Q I hw
 refine wpAny_isTrue_Compare1 (thn (h pins s σ H _ I hw) fun v s1 h1=>thn h1 fun u s2 h2=>thn h2 fun c s3 ⟨x,H1,I1,r1,q1⟩=>?_) h1
 obtain⟨d,rfl,q⟩:=q1
 cases r1
 exact yW ⟨H1,I1,q⟩
theorem qG{e:Expr}{t:TE}(h:PE X e t)(he:∀whole,isTrue e X.env whole=(do let v<-whole;standAt e.pos;holding [v] (truthy v)):=by intro _;rfl):PT X e (tB t):=by
 intro pins s σ H Q I hw
 refine isTrue_plain (thn (h pins s σ H _ I hw) fun v s1 ⟨x,H1,I1,r1,q1⟩=>?_) (he _)
 obtain⟨d,rfl,q⟩:=q1
 cases r1
 exact yW ⟨H1,I1,q⟩
variable{tA tB':TT}{rest:List Expr}
def zhh(t u:TT):TT:=fun σ H Q=>t σ H fun c H1=>if c=true then u σ H1 Q else Q false H1
def tOr(t u:TT):TT:=fun σ H Q=>t σ H fun c H1=>if c=true then Q true H1 else u σ H1 Q
def zhd(t:TT):TT:=fun σ H Q=>t σ H fun c H1=>Q (!c) H1
theorem Xa(ha:PT X a tA):PW X (.BoolOp .And [a] pos) tA:=by
 intro wh pins s σ H Q I h
 refine isTrue_and (thn (ha pins s σ H Q I h) fun c s1 e=>?_)
 cases c with
 | true=>exact isTrue_and_nil e
 | false=>exact e
theorem j5(ha:PT X a tA):PW X (.BoolOp .Or [a] pos) tA:=by
 intro wh pins s σ H Q I h
 refine isTrue_or (thn (ha pins s σ H Q I h) fun c s1 e=>?_)
 cases c with
 | false=>exact isTrue_or_nil e
 | true=>exact e
theorem Wu(ha:PT X a tA)(hb:PW X (.BoolOp .And (b::rest) pos) tB'):PW X (.BoolOp .And (a::b::rest) pos) (zhh tA tB'):=by
 intro wh pins s σ H Q I h
 refine isTrue_and (thn (ha pins s σ H _ I h) fun c s1 ⟨H1,I1,q1⟩=>?_)
 cases c with
 | true=>exact hb wh pins s1 σ H1 Q I1 q1
 | false=>exact⟨H1,I1,q1⟩
theorem xf(ha:PT X a tA)(hb:PW X (.BoolOp .Or (b::rest) pos) tB'):PW X (.BoolOp .Or (a::b::rest) pos) (tOr tA tB'):=by
 intro wh pins s σ H Q I h
 refine isTrue_or (thn (ha pins s σ H _ I h) fun c s1 ⟨H1,I1,q1⟩=>?_)
 cases c with
 | true=>exact⟨H1,I1,q1⟩
 | false=>exact hb wh pins s1 σ H1 Q I1 q1
theorem ju(ha:PT X a tA):PT X (.UnaryOp .Not a pos) (zhd tA):=by
 intro pins s σ H Q I h
 exact isTrue_not (ha pins s σ H (fun c H1=>Q (!c) H1) I h)
def zfZ(ta tb:TE):TE:=fun σ H Q=>ta σ H fun x H1=>IsB x H1 fun c H1=>if c=true then tb σ H1 Q else Q (.bl false) H1
def zhc(ta tb:TE):TE:=fun σ H Q=>ta σ H fun x H1=>IsB x H1 fun c H1=>if c=true then Q (.bl true) H1 else tb σ H1 Q
def zfT(ta:TE):TE:=fun σ H Q=>ta σ H fun x H1=>IsB x H1 fun c H1=>Q (.bl (!c)) H1
theorem xo{op}{t:TE}(h:PE X a t):PE X (.BoolOp op [a] pos) t:=fun pins s σ H Q I hw=>BoolOp_one (h pins s σ H Q I hw)
theorem xg(ha:PE X a ta)(hb:PE X (.BoolOp .And (b::rest) pos) tb):PE X (.BoolOp .And (a::b::rest) pos) (zfZ ta tb):=by
 intro pins s σ H Q I h
 refine BoolOp_and (thn (ha pins s σ H _ I h) fun v s1 ⟨x,H1,I1,r1,q1⟩=>?_)
 obtain⟨c,rfl,q1⟩:=q1
 cases r1
 refine yW ?_
 cases c with
 | true=>exact hb pins s1 σ H1 Q I1 q1
 | false=>exact⟨.bl false,H1,I1,rfl,q1⟩
theorem zgs(ha:PE X a ta)(hb:PE X (.BoolOp .Or (b::rest) pos) tb):PE X (.BoolOp .Or (a::b::rest) pos) (zhc ta tb):=by
 intro pins s σ H Q I h
 refine BoolOp_or (thn (ha pins s σ H _ I h) fun v s1 ⟨x,H1,I1,r1,q1⟩=>?_)
 obtain⟨c,rfl,q1⟩:=q1
 cases r1
 refine yW ?_
 cases c with
 | false=>exact hb pins s1 σ H1 Q I1 q1
 | true=>exact⟨.bl true,H1,I1,rfl,q1⟩
theorem zck(ha:PE X a ta):PE X (.UnaryOp .Not a pos) (zfT ta):=by
 intro pins s σ H Q I h
 refine UnaryOp_ (thn (ha pins s σ H _ I h) fun v s1 ⟨x,H1,I1,r1,q1⟩=>?_)
 obtain⟨c,rfl,q1⟩:=q1
 cases r1
 exact not_of (yW ⟨.bl (!c),H1,I1,rfl,q1⟩)
def tIf(t:TT)(ta tb:TE):TE:=fun σ H Q=>t σ H fun c H1=>if c=true then ta σ H1 Q else tb σ H1 Q
theorem jT{c:Expr}(hc:PT X c tA)(ha:PE X a ta)(hb:PE X b tb):PE X (.IfExp c a b pos) (tIf tA ta tb):=by
 intro pins s σ H Q I h
 refine wpAny_IfExp (thn (hc pins s σ H _ I h) fun d s1 ⟨H1,I1,q1⟩=>?_)
 cases d with
 | true=>exact ha pins s1 σ H1 Q I1 q1
 | false=>exact hb pins s1 σ H1 Q I1 q1
end
def SqL(K:PySem.W.Frag)(H:Hp)(a:Addr)(xs:List V):Prop:=
 Rd H a (.lst xs) \/
  ∃(o:Obj) (its:Array Value) (n:Nat),K.lookup a=some o/\o.cls=.type "list" /\ o.dict=none/\o.data=.seq its n/\its.size<=sizeLine/\Vals xs its.toList
def SqT(K:PySem.W.Frag)(H:Hp)(a:Addr)(xs:List V):Prop:=
 Rd H a (.tup xs) \/
  ∃(o:Obj) (its:Array Value) (n:Nat),K.lookup a=some o/\o.cls=.type "tuple" /\ o.data=.seq its n/\its.size<=sizeLine/\Vals xs its.toList
def zhu:Value->Option V
 | .none=>some .non
 | .bool b=>some (.bl b)
 | .int i _=>some (.int i)
 | .str x _=>some (.str x)
 | .bytes b _=>some (.byt b)
 | .float b _=>some (.flt b)
 | .ref a=>some (.ref a)
 | .type n=>some (.ty n)
 | _=>none
theorem RelV.abs{x:V}{u:Value}(r:RelV x u):zhu u=some x:=by
 cases x with
 | non=>cases r;rfl
 | bl _=>cases r;rfl
 | int _=>obtain⟨t,rfl⟩:=r;rfl
 | str _=>obtain⟨t,rfl⟩:=r;rfl
 | byt _=>obtain⟨t,rfl⟩:=r;rfl
 | flt _=>obtain⟨t,rfl⟩:=r;rfl
 | ref _=>cases r;rfl
 | ty _=>cases r;rfl
theorem RelV.inj{x y:V}{u:Value}(r:RelV x u)(q:RelV y u):x=y:=jJ (r.abs.symm.trans q.abs)
theorem Vals.inj:∀{xs ys:List V} {us:List Value},Vals xs us->Vals ys us->xs=ys
 | _,_,_,.nil,.nil=>rfl
 | _,_,_,.cons r t,.cons r' t'=>by rw[r.inj r',Vals.inj t t']
section
variable{X:Cx}{pins:List (Addr×Obj)}{σ:St}{H:Hp}{s:Shared}{a:Addr}{xs ys:List V}
theorem SqL.of{K:PySem.W.Frag}(h:H a=some (.lst xs)):SqL K H a xs:=.inl (.inl h)
theorem SqT.of{K:PySem.W.Frag}(h:H a=some (.tup xs)):SqT K H a xs:=.inl (.inl h)
theorem Inv.list(I:Inv X pins σ H s)(h:SqL X.K H a xs):∃its:List Value,Vals xs its/\PlainL s.heap a its.toArray/\xs.length<=sizeLine:=by
 rcases h with h | ⟨o,its,n,hk,hc,hd,hs,hz,r⟩
 ·obtain⟨z,its,n,r,e⟩:=h.ok I.hok
  exact⟨its,r,⟨_,n,e,rfl,rfl,rfl⟩,z⟩
 ·refine⟨its.toList,r,⟨o,n,I.kIn a o hk,hc,hd,by simpa using hs⟩,?_⟩
  have e:=r.length
  simp only[vE] at e
  omega
theorem Inv.tuple(I:Inv X pins σ H s)(h:SqT X.K H a xs):∃its:List Value,Vals xs its/\IsTup s.heap a its.toArray/\xs.length<=sizeLine:=by
 rcases h with h | ⟨o,its,n,hk,hc,hs,hz,r⟩
 ·obtain⟨z,its,r,p⟩:=h.ok I.hok
  exact⟨its,r,p.1,z⟩
 ·refine⟨its.toList,r,⟨o,I.kIn a o hk,hc,n,by simpa using hs⟩,?_⟩
  have e:=r.length
  simp only[vE] at e
  omega
theorem Inv.list_inj(I:Inv X pins σ H s)(h:SqL X.K H a xs)(h':SqL X.K H a ys):xs=ys:=by
 obtain⟨its,r,⟨o,n,e,_,_,d⟩,_⟩:=I.list h
 obtain⟨its',r',⟨o',n',e',_,_,d'⟩,_⟩:=I.list h'
 rw[e] at e';cases e'
 rw[d] at d'
 injection d' with d1 _
 have:its=its':=by simpa using congrArg Array.toList d1
 subst this
 exact r.inj r'
theorem Inv.tuple_inj(I:Inv X pins σ H s)(h:SqT X.K H a xs)(h':SqT X.K H a ys):xs=ys:=by
 obtain⟨its,r,⟨o,e,_,n,d⟩,_⟩:=I.tuple h
 obtain⟨its',r',⟨o',e',_,n',d'⟩,_⟩:=I.tuple h'
 rw[e] at e';cases e'
 rw[d] at d'
 injection d' with d1 _
 have:its=its':=by simpa using congrArg Array.toList d1
 subst this
 exact r.inj r'
end
abbrev Cx.wish(X:Cx)(E:Value->Shared->Prop):Cx:={ X with xe:=E }
abbrev Cx.nox(X:Cx):Cx:=X.wish fun _ _=>False
theorem Cx.Ok.wish{X:Cx}(ok:X.Ok)(E:Value->Shared->Prop):(X.wish E).Ok:=
 ⟨ok.mod,ok.kind,ok.glob,ok.blt,ok.above,ok.inj,ok.has,ok.cab,ok.hd,ok.frames,ok.stk,ok.exf,ok.bs,ok.bsz,ok.noex,ok.exfs,ok.funs,ok.frf⟩
theorem Cx.Ok.unwish{X:Cx}{E:Value->Shared->Prop}(ok:(X.wish E).Ok):X.Ok:=
 ⟨ok.mod,ok.kind,ok.glob,ok.blt,ok.above,ok.inj,ok.has,ok.cab,ok.hd,ok.frames,ok.stk,ok.exf,ok.bs,ok.bsz,ok.noex,ok.exfs,ok.funs,ok.frf⟩
section
variable{X:Cx}{pins:List (Addr×Obj)}{σ:St}{H:Hp}{s:Shared}{E:Value->Shared->Prop}
theorem Inv.wish(I:Inv X pins σ H s)(E:Value->Shared->Prop):Inv (X.wish E) pins σ H s:=⟨I.ok.wish E,I.os,I.bare,I.base,I.loc,I.cell,I.free,I.freeC,I.pin,I.hok,I.len⟩
theorem Inv.unwish(I:Inv (X.wish E) pins σ H s):Inv X pins σ H s:=⟨I.ok.unwish,I.os,I.bare,I.base,I.loc,I.cell,I.free,I.freeC,I.pin,I.hok,I.len⟩
theorem SP.unwish{D:Jg}{f:Flow}{s':Shared}(h:SP (X.wish E) pins D f s'):SP X pins D f s':=by
 cases f with
 | next=>obtain⟨σ',H',I,q⟩:=h;exact⟨σ',H',I.unwish,q⟩
 | brk=>obtain⟨σ',H',I,q⟩:=h;exact⟨σ',H',I.unwish,q⟩
 | cont=>obtain⟨σ',H',I,q⟩:=h;exact⟨σ',H',I.unwish,q⟩
 | ret u=>obtain⟨v,σ',H',I,r,q⟩:=h;exact⟨v,σ',H',I.unwish,r,q⟩
theorem PSs.nox{st:List Stmt}{t:TS}(h:PSs X.nox st t):PSs X st t:=fun pins s σ H D I hw=>
 jI (h pins s σ H D (I.wish _) hw) (fun _ _ q=>q.unwish) fun _ _ z=>False.elim z
end
section
variable{X:Cx}{st:Stmt}{rest:List Stmt}{t u:TS}{e:Expr}{te:TE}{pos:Pos}
def zfU:TS:=fun D σ H=>D.nx σ H
def zda(t u:TS):TS:=fun D σ H=>t { D with nx:=u D } σ H
theorem zJ:PSs X [] zfU:=fun _ _ σ H _ I h=>wpAny_execs_nil ⟨σ,H,I,h⟩
theorem zf(h1:PS X st t)(h2:PSs X rest u):PSs X (st::rest) (zda t u):=by
 intro pins s σ H D I h
 refine wpAny_execs_cons (thn (h1 pins s σ H { D with nx:=u D } I h) fun f s1 q=>?_)
 cases f with
 | next=>
  obtain⟨σ',H',I',q⟩:=q
  exact h2 pins s1 σ' H' D I' q
 | ret v=>exact q
 | brk=>exact q
 | cont=>exact q
theorem zi(h1:PS X st t):PSs X [st] t:=by
 intro pins s σ H D I h
 refine wpAny_execs_cons (thn (h1 pins s σ H D I h) fun f s1 q=>?_)
 cases f with
 | next=>exact wpAny_execs_nil q
 | ret v=>exact q
 | brk=>exact q
 | cont=>exact q
theorem Inv.quiet{pins:List (Addr×Obj)}{σ:St}{H:Hp}{s:Shared}(I:Inv X pins σ H s):interactive X.env=false:=by simp[interactive,I.ok.kind]
def zfV(te:TE):TS:=fun D σ H=>te σ H fun _ H1=>D.nx σ H1
theorem jn(he:PE X e te)(hs:swapsWith e none pos.line X.env=pure false:=by rfl):PS X (.Expr e pos) (zfV te):=by
 intro pins s σ H D I h
 exact wpAny_Expr_any (thn (he pins s σ H _ I h) fun v s1 ⟨x,H1,I1,r1,q1⟩=>⟨σ,H1,I1,q1⟩) I.quiet hs
def zha(te:TE):TS:=fun D σ H=>te σ H D.rt
theorem zt(he:PE X e te):PS X (.Return (some e) pos) (zha te):=by
 intro pins s σ H D I h
 exact wpAny_Return_some (thn (he pins s σ H _ I h) fun v s1 ⟨x,H1,I1,r1,q1⟩=>⟨x,σ,H1,I1,r1,q1⟩)
def zhe(c:TT)(t u:TS):TS:=fun D σ H=>c σ H fun b H1=>if b=true then t D σ H1 else u D σ H1
theorem qe{c:Expr}{a b:List Stmt}{tc:TT}(hc:PT X c tc)(ha:PSs X a t)(hb:PSs X b u):PS X (.If c a b pos) (zhe tc t u):=by
 intro pins s σ H D I h
 refine wpAny_If (thn (hc pins s σ H _ I h) fun d s1 ⟨H1,I1,q1⟩=>?_)
 cases d with
 | true=>exact ha pins s1 σ H1 D I1 q1
 | false=>exact hb pins s1 σ H1 D I1 q1
end
abbrev TG:=V->St->Hp->(St->Hp->Prop)->Prop
abbrev TGs:=List V->St->Hp->(St->Hp->Prop)->Prop
def PG(X:Cx)(target:Expr)(t:TG):Prop:=
 ∀(pins:List (Addr×Obj)) (s:Shared) (σ:St) (H:Hp) (v:V) (u:Value) (Q:St->Hp->Prop),Inv X pins σ H s->RelV v u->t v σ H Q ->
  wpAny (model X.prog X.w) X.A (assign target X.env u) (fun _ s'=>∃σ' H',Inv X pins σ' H' s'/\Q σ' H') X.xe s
def PGs(X:Cx)(ts:List Expr)(t:TGs):Prop:=
 ∀(pins:List (Addr×Obj)) (s:Shared) (σ:St) (H:Hp) (vs:List V) (us:List Value) (Q:St->Hp->Prop),Inv X pins σ H s->Vals vs us->t vs σ H Q ->
  wpAny (model X.prog X.w) X.A (assignInOrder ((assignEach ts X.env).map (·.2)) us) (fun _ s'=>∃σ' H',Inv X pins σ' H' s'/\Q σ' H') X.xe s
abbrev zfK:=V->V->V->Hp->(Hp->Prop)->Prop
def zgZ(X:Cx)(t:zfK):Prop:=
 ∀(pins:List (Addr×Obj)) (s:Shared) (σ:St) (H:Hp) (o i v:V) (ov iv u:Value) (Q:Hp->Prop),Inv X pins σ H s->RelV o ov->RelV i iv->RelV v u->t o i v H Q ->
  wpAny (model X.prog X.w) X.A (setItem ov iv u) (fun _ s'=>∃H',Inv X pins σ H' s'/\Q H') X.xe s
section
variable{X:Cx}{pos:Pos}
def xY(i:Nat):TG:=fun v σ H Q=>Q (σ.set i (some v)) H
theorem zr{i:Nat}{x:Str}(hN:X.N.Nodup)(hi:X.N[i]? =some x)(hx:Loc X.env.scope x)(hf:X.fn x=true\/X.env.scope.names.lookup x=some .local:=by first| exact .inl rfl | exact .inr rfl | assumption):PG X (.Name x pos) (xY i):=by
 intro pins s σ H v u Q I r h
 exact wpAny_assign_Name (yB I hN hi hx r (fun s' I'=>⟨_,H,I',h⟩) hf)
def zcQ:TGs:=fun vs σ H Q=>vs=[]/\Q σ H
inductive wU(t:TG)(u:TGs)(vs:List V)(σ:St)(H:Hp)(Q:St->Hp->Prop):Prop
 | mk (v r:_) (_:vs=v::r) (_:t v σ H fun σ' H'=>u r σ' H' Q):wU t u vs σ H Q
theorem qB:PGs X [] zcQ:=by
 intro pins s σ H vs us Q I r h
 obtain⟨e,h⟩:=h
 subst e
 cases r
 exact assignInOrder_nil ⟨σ,H,I,h⟩
theorem zx{e:Expr}{es:List Expr}{t:TG}{u:TGs}(h1:PG X e t)(h2:PGs X es u)
  (hs:(assignEach (e::es) X.env).map (·.2)=assign e X.env::(assignEach es X.env).map (·.2):=by rfl):PGs X (e::es) (wU t u):=by
 intro pins s σ H vs us Q I r h
 obtain⟨v,vr,e1,h⟩:=h
 subst e1
 cases r with
 | cons r rr=>
  rw[hs]
  refine assignInOrder_cons (thn (h1 pins s σ H _ _ _ I r h) fun _ s1 ⟨σ1,H1,I1,q1⟩=>?_)
  exact h2 pins s1 σ1 H1 _ _ Q I1 rr q1
inductive za6(K:PySem.W.Frag)(n:Nat)(t:TGs)(v:V)(σ:St)(H:Hp)(Q:St->Hp->Prop):Prop
 | mk (a xs:_) (_:v=.ref a) (_:SqT K H a xs) (_:xs.length=n) (_:t xs σ H Q):za6 K n t v σ H Q
theorem qT{es:List Expr}{k:Nat}{t:TGs}{n:Nat}(hc:X.calm=true)(h:PGs X es t)
  (hn:(assignEach es X.env).length=n:=by rfl) (hst:(assignEach es X.env).findIdx? (·.1)=none:=by rfl):PG X (.Tuple es k pos) (za6 X.K n t):=by
 intro pins s σ H v u Q I r hw
 obtain⟨a,xs,e1,hq,hl,hw⟩:=hw
 subst e1
 cases r
 obtain⟨its,rv,ht,hz⟩:=I.tuple hq
 refine assign_Tuple_tuple (I.ok.hd hc) ht (by simp[hn,<- hl,rv.length]) hst fun h' hx=>?_
 have I1:Inv X pins σ H { s with heap:=h' }:=I.kept (t':=s.toks) fun b o e=>hx b o (qw (zL e)) e
 exact h pins _ σ H xs _ Q I1 (by simpa using rv) hw
def zhr(to ti:TE)(t:zfK):TG:=fun v σ H Q=>to σ H fun o H1=>ti σ H1 fun i H2=>t o i v H2 fun H3=>Q σ H3
theorem Zi{o i:Expr}{to ti:TE}{t:zfK}(ho:PE X o to)(hi:PE X i ti)(hs:zgZ X t)
  (ha:∀v,assign (.Subscript o i pos) X.env v=(do
   let ov<-holding [v] (eval o X.env)
   let iv<-holding [v,ov] (eval i X.env)
   standAt pos
   holding [v,ov,iv] (setItem ov iv v)
   release [v,ov,iv] []):=by intro _;rfl):PG X (.Subscript o i pos) (zhr to ti t):=by
 intro pins s σ H v u Q I r h
 rw[ha]
 refine zk (vb (thn (ho pins s σ H _ I h) fun ov s1 ⟨x,H1,I1,r1,q1⟩=>?_))
 refine zk (vb (thn (hi pins s1 σ H1 _ I1 q1) fun iv s2 ⟨y,H2,I2,r2,q2⟩=>?_))
 refine zk (yR (zk (vb (thn (hs pins s2 σ H2 x y v ov iv u _ I2 r1 r2 r q2) fun _ s3 ⟨H3,I3,q3⟩=>?_))))
 exact wpAny_release ⟨σ,H3,I3,q3⟩
def J6(te:TE)(g:TG):TS:=fun D σ H=>te σ H fun x H1=>g x σ H1 D.nx
theorem jH{tg e:Expr}{te:TE}{g:TG}(he:PE X e te)(hg:PG X tg g)(hs:swapsWithSole [tg] e pos.line X.env=pure false:=by rfl)(hw:swappedStores [tg] e X.env=pure none:=by rfl)
  (h1:(assignEach [tg] X.env).map (·.2)=[assign tg X.env]:=by rfl):PS X (.Assign [tg] e pos) (J6 te g):=by
 intro pins s σ H D I h
 refine wpAny_Assign_stores (thn (he pins s σ H _ I h) fun v s1 ⟨x,H1,I1,r1,q1⟩=>?_) hs hw
 rw[h1]
 exact thn (hg pins s1 σ H1 x v _ I1 r1 q1) fun _ s2 q=>q
theorem zF{i:Nat}{x:Str}{e:Expr}{te:TE}{pos':Pos}(hN:X.N.Nodup)(hi:X.N[i]? =some x)(hx:Loc X.env.scope x)(he:PE X e te)(hs:swapsWith e (some (.Name x pos')) pos.line X.env=pure false:=by rfl)(hf:X.fn x=true\/X.env.scope.names.lookup x=some .local:=by first| exact .inl rfl | exact .inr rfl | assumption) :
  PS X (.Assign [.Name x pos'] e pos) (J6 te (xY i)):=by
 intro pins s σ H D I h
 refine wpAny_Assign_Name (thn (he pins s σ H _ I h) fun v s1 ⟨y,H1,I1,r1,q1⟩=>?_) hs
 exact yB I1 hN hi hx r1 (fun s2 I2=>⟨_,H1,I2,q1⟩) hf
def zhb(i j:Nat)(ta:TA):TS:=fun D σ H=>ta σ H fun vs H1=>zg3 vs H1 fun v w H1=>D.nx ((σ.set i (some v)).set j (some w)) H1
theorem Xb{i j:Nat}{x y:Str}{a b:Expr}{ta:TA}{px py pt:Pos}{kt k2 pt2}(hc:X.calm=true)(hN:X.N.Nodup)(hi:X.N[i]? =some x)(hj:X.N[j]? =some y)(hij:i≠j)
  (hx:X.env.scope.names.lookup x=some .local) (hy:X.env.scope.names.lookup y=some .local) (ha:PA X [a,b] ta)
  (hw:swappedStores [.Tuple [.Name x px,.Name y py] kt pt] (.Tuple [a,b] k2 pt2) X.env=pure (some [x,y]))
  (hs:swapsWithSole [.Tuple [.Name x px,.Name y py] kt pt] (.Tuple [a,b] k2 pt2) pos.line X.env=pure false:=by rfl) :
  PS X (.Assign [.Tuple [.Name x px,.Name y py] kt pt] (.Tuple [a,b] k2 pt2) pos) (zhb i j ta):=by
 intro pins s σ H D I h
 rw[exec_Assign_arm]
 refine zk (yR ?_)
 rw[hs]
 refine zk (zD ?_)
 rw[if_neg (by decide)]
 refine zk (Tuple_ (thn (ha _ pins s σ H _ I h) fun us s1 ⟨vs,H1,I1,r1,q1⟩=>?_))
 obtain⟨v,w,e1,q1⟩:=q1
 subst e1
 obtain⟨u1,u2,rfl,rv,rw'⟩:∃u1 u2,us=[u1,u2]/\RelV v u1/\RelV w u2:=by
  cases r1 with
  | cons p q=>
   cases q with
   | cons p' q'=>
    cases q'
    exact⟨_,_,rfl,p,p'⟩
 refine vg ?_ (by show 2<=sizeLine;decide)
 have I2:Inv X pins σ H1 { s1 with heap:=s1.heap.push { cls:=.type "tuple",data:=.seq [u1,u2].toArray } }:=I1.kept (t':=s1.toks) fun b o e=>qx _ e
 rw[hw]
 refine zk (zD ?_)
 show wpAny (model X.prog X.w) X.A (do rule "assign.swapped-stores";let items<-unpackItems (.ref s1.heap.objs.size) 2 none;assignInOrder [fun v=>bindName X.env y v,fun v=>bindName X.env x v] items.reverse;pure Flow.next) _ _ _
 refine zk (vS (zk (unpackItems_tuple (items:=#[u1,u2]) (I.ok.hd hc) (IsTup.new s1.heap _) fun h' hx'=>?_)))
 have I3:=I2.kept (h':=h') (t':=s1.toks) fun b o e=>hx' b o (qw (zL e)) e
 show wpAny _ _ (assignInOrder [fun v=>bindName X.env y v,fun v=>bindName X.env x v] [u2,u1] >>= fun _=>pure Flow.next) _ _ _
 refine zk (assignInOrder_cons (wpAny_bindName (yB I3 hN hj (.inl hy) rw' (fun s2 I4=>?_) (.inr hy))))
 refine assignInOrder_cons (wpAny_bindName (yB I4 hN hi (.inl hx) rv (fun s3 I5=>assignInOrder_nil (zD ?_)) (.inr hx)))
 rw[List.set_comm _ _ (qH hij)] at I5
 exact⟨_,H1,I5,q1⟩
def zeO(c:TT)(tb:TS):TS:=fun D σ H=>∃W:Nat->St->Hp->Prop,(∃m,W m σ H)/\∀m σ H,W m σ H ->
 c σ H fun b H1=>if b=true then ∃N:St->Hp->Prop,(∀σ' H',N σ' H'->∃m',m'<m/\W m' σ' H')/\tb { D with nx:=N,ct:=N,bk:=D.nx } σ H1 else D.nx σ H1
theorem Vx{c:Expr}{body:List Stmt}{tc:TT}{tb:TS}(hp:PassesOwn (model X.prog X.w) X.A X.env X.xe)(hc:PT X c tc)(hb:PSs X body tb):PS X (.While c body [] pos) (zeO tc tb):=by
 intro pins s σ H D I h
 obtain⟨W,⟨m0,w0⟩,turn⟩:=h
 refine wpAny_While (codeAny_whileLoop (fun n s'=>∃σ' H',Inv X pins σ' H' s'/\W n σ' H') ?_ m0 ⟨σ,H,I,w0⟩)
 rintro n s1 ⟨σ1,H1,I1,w1⟩
 refine yp hp (thn (hc pins s1 σ1 H1 _ I1 (turn n σ1 H1 w1)) fun b s2 ⟨H2,I2,q2⟩=>?_)
 cases b with
 | true=>
  obtain⟨N,hN,q2⟩:=q2
  rw[if_pos rfl]
  refine yp hp (thn (hb pins s2 σ1 H2 _ I2 q2) fun f s3 q3=>?_)
  cases f with
  | next=>
   obtain⟨σ3,H3,I3,n3⟩:=q3
   obtain⟨m',hm,w3⟩:=hN σ3 H3 n3
   exact⟨m',hm,σ3,H3,I3,w3⟩
  | cont=>
   obtain⟨σ3,H3,I3,n3⟩:=q3
   obtain⟨m',hm,w3⟩:=hN σ3 H3 n3
   exact⟨m',hm,σ3,H3,I3,w3⟩
  | brk=>exact q3
  | ret v=>exact q3
 | false=>
  rw[if_neg jf]
  exact wpAny_execs_nil ⟨σ1,H2,I2,q2⟩
end
structure It where
 go:Nat->Hp->Prop
 yld:Nat->Hp->V->Hp->Prop
 stop:Nat->Hp->Prop
def xt(X:Cx)(pins:List (Addr×Obj))(H:Hp)(b:Addr):Prop:=
 H b=none/\b≠X.env.locals/\b∉X.fs/\(b∈X.ex\/X.s₀.heap.objs.size<=b)/\(∀x c,X.env.cells.lookup x=some c->c≠b)/\∀p∈X.pn++pins,p.1≠b
theorem Inv.fpOk{X:Cx}{pins:List (Addr×Obj)}{σ:St}{H H':Hp}{s:Shared}{b:Addr}(I:Inv X pins σ H s)(hb:s.heap.objs.size<=b)(hn:H' b=none):xt X pins H' b:=by
 refine⟨hn,xE (jV I.lt hb),I.nofs hb,.inr (jt I.sz hb),fun x c e z=>?_,fun p hp z=>?_⟩
 ·obtain⟨v,q⟩:=I.cell x c e
  exact absurd (jV q.lt (by rw[z];exact hb)) (vc _)
 ·exact absurd (jV (zL (I.pin p hp).1) (by rw[z];exact hb)) (vc _)
structure Q5(P:Program)(w:World)(K:PySem.W.Frag)(tg:Expr)(J:It)(fp:List Addr)(it:Addr)(tn:Nat->Heap->Prop):Prop where
 mem:it∈fp
 obj:∀i h,tn i h->∀b∈fp,∃o,h.get? b=some o/\∀v,o.data≠.cell v
 keep:∀i h h',tn i h->(∀b∈fp,∀o,h.get? b=some o->h'.get? b=some o)->tn i h'
 item:∀(X:Cx),X.prog=P->X.w=w->X.K=K->X.calm=true->∀(i:Nat) (pins:List (Addr×Obj)) (s:Shared) (σ:St) (H:Hp) (E:Value->Shared->Prop),Inv X pins σ H s->(∀b∈fp,xt X pins H b)->tn i s.heap->J.go i H ->
  wpAny (model P w) X.A (pyNext (.ref it)) (fun r s1=>∃u,r=some u /\
   wpAny (model P w) X.A (letOwnedTupleGo tg (.ref it) u) (fun _ s2=>∃x H',Inv X pins σ H' s2/\RelV x u/\J.yld i H x H'/\tn (i+1) s2.heap/\∀b∈fp,H' b=none) E s1) E s
 done:∀(X:Cx),X.prog=P->X.w=w->X.K=K->X.calm=true->∀(i:Nat) (pins:List (Addr×Obj)) (s:Shared) (σ:St) (H:Hp) (E:Value->Shared->Prop),Inv X pins σ H s->(∀b∈fp,xt X pins H b)->tn i s.heap->J.stop i H ->
  wpAny (model P w) X.A (pyNext (.ref it)) (fun r s1=>r=none/\Inv X pins σ H s1) E s
 self:∀(A:Around) (i:Nat) (s:Shared) (Q:Value->Shared->Prop) (E:Value->Shared->Prop),tn i s.heap->Q (.ref it) s->wpAny (model P w) A (pyIter (.ref it)) Q E s
abbrev TI:=St->Hp->(It->Hp->Prop)->Prop
def PIE(X:Cx)(pins:List (Addr×Obj))(σ:St)(tg:Expr)(R:It->Hp->Prop)(itv:Value)(s2:Shared):Prop:=
 ∃(it:Addr) (fp:List Addr) (tn:Nat->Heap->Prop) (J:It) (H':Hp),itv=.ref it/\Inv X pins σ H' s2/\Q5 X.prog X.w X.K tg J fp it tn/\tn 0 s2.heap/\(∀b∈fp,xt X pins H' b)/\R J H'
def PI(X:Cx)(tg iter:Expr)(wi:TI):Prop:=
 ∀(pins:List (Addr×Obj)) (s:Shared) (σ:St) (H:Hp) (R:It->Hp->Prop),Inv X pins σ H s->wi σ H R ->
  wpAny (model X.prog X.w) X.A (eval iter X.env) (fun v s1=>wpAny (model X.prog X.w) X.A (pyIter v) (PIE X pins σ tg R) X.xe s1) X.xe s
theorem Y2{M:Model}{A:Around}{E:Value->Shared->Prop}{s:Shared}{tg:Expr}{it:Addr}{u:Value}{o:Obj}{n:String}{vs:Array Value}{Q:Unit->Shared->Prop}(ho:s.heap.get? it=some o)(hc:o.cls=.type n)(hd:o.data=.fields vs)
  (hn:["enumerate", "zip", "dict_itemiterator", "dict_reverseitemiterator", "odict_iterator", "itertools.zip_longest", "itertools.pairwise"].contains n=false) (hQ:Q () s):wpAny M A (letOwnedTupleGo tg (.ref it) u) Q E s:=by
 unfold letOwnedTupleGo
 cases tg<;>first
  | exact zD hQ
  | (cases u<;>first
    | exact zD hQ
    | (refine zk (wpAny_load ho ?_)
       rw[hc,hd]
       show wpAny M A (if(["enumerate", "zip", "dict_itemiterator", "dict_reverseitemiterator", "odict_iterator", "itertools.zip_longest", "itertools.pairwise"].contains n&&vs[0]? ==some (rawInt _))=true then _ else _) Q E s
       rw[if_neg (by intro h;rw[hn,Zs] at h;cases h)]
       exact zD hQ))
def Itl(K:PySem.W.Frag)(a:Addr):It:=
 ⟨fun i H=>∃xs x,SqL K H a xs/\xs[i]? =some x,fun i H x H'=>H'=H/\∀xs,SqL K H a xs->xs[i]? =some x,fun i H=>∃xs,SqL K H a xs/\xs.length<=i⟩
def Itt(K:PySem.W.Frag)(a:Addr):It:=
 ⟨fun i H=>∃xs x,SqT K H a xs/\xs[i]? =some x,fun i H x H'=>H'=H/\∀xs,SqT K H a xs->xs[i]? =some x,fun i H=>∃xs,SqT K H a xs/\xs.length<=i⟩
def Itr(lo:Int)(n:Nat):It:=⟨fun i _=>i<n,fun i H x H'=>H'=H/\x=.int (lo+i),fun i _=>n<=i⟩
theorem Jl{P:Program}{w:World}{K:PySem.W.Frag}{tg:Expr}(a it:Addr):Q5 P w K tg (Itl K a) [it] it (fun i h=>h.IsListIter it a i) where
 mem:=by simp
 obj:=fun i h st b hb=>by
  have e:b=it:=by simpa using hb
  subst e
  obtain⟨o,e,c,d⟩:=st
  exact⟨o,e,fun v z=>by rw[d] at z;cases z⟩
 keep:=fun i h h' st k=>st.at fun o e=>k it (by simp) o e
 item:=by
  intro X hP hw hK hc i pins s σ H E I hf st hg
  subst hP hw hK
  obtain⟨xs,x,hq,hx⟩:=hg
  obtain⟨its,rv,p,hz⟩:=I.list hq
  obtain⟨u,hu,ru⟩:=rv.get hx
  obtain⟨f0,f1,f2,f3,f4,f5⟩:=hf it (by simp)
  refine wpAny_pyNext_list_item st p.isList (x:=u) (by simpa using hu) fun h' st' sb=>?_
  have I1:Inv X pins σ H { s with heap:=h' }:=I.turned (t':=s.toks) (fun b o hb e=>(sb.2 b hb).trans e) f0 f1 f3 f4 f5
  obtain⟨o,e,c,d⟩:=id st'
  exact⟨u,rfl,Y2 (s:={ s with heap:=h' }) e c d (by decide) ⟨x,H,I1,ru,⟨rfl,fun ys hy=>by rw[I.list_inj hy hq];exact hx⟩,st',fun b hb=>(hf b hb).1⟩⟩
 done:=by
  intro X hP hw hK hc i pins s σ H E I hf st hg
  subst hP hw hK
  obtain⟨xs,hq,hx⟩:=hg
  obtain⟨its,rv,p,hz⟩:=I.list hq
  obtain⟨f0,f1,f2,f3,f4,f5⟩:=hf it (by simp)
  have hl:=rv.length
  exact wpAny_pyNext_list_end (I.ok.hd hc) st p.isList (by simp;omega) fun h' eb=>⟨rfl,I.turned (t':=s.toks) (fun b o hb e=>eb b o hb e) f0 f1 f3 f4 f5⟩
 self:=fun _ _ _ _ _ st h=>wpAny_pyIter_listiter st h
theorem Qd{P:Program}{w:World}{K:PySem.W.Frag}{tg:Expr}(a it:Addr):Q5 P w K tg (Itt K a) [it] it (fun i h=>h.IsTupleIter it a i) where
 mem:=by simp
 obj:=fun i h st b hb=>by
  have e:b=it:=by simpa using hb
  subst e
  obtain⟨o,e,c,d⟩:=st
  exact⟨o,e,fun v z=>by rw[d] at z;cases z⟩
 keep:=fun i h h' st k=>st.at fun o e=>k it (by simp) o e
 item:=by
  intro X hP hw hK hc i pins s σ H E I hf st hg
  subst hP hw hK
  obtain⟨xs,x,hq,hx⟩:=hg
  obtain⟨its,rv,p,hz⟩:=I.tuple hq
  obtain⟨u,hu,ru⟩:=rv.get hx
  obtain⟨f0,f1,f2,f3,f4,f5⟩:=hf it (by simp)
  refine wpAny_pyNext_tuple_item st (show s.heap.IsTuple a its.toArray from p) (x:=u) (by simpa using hu) fun h' st' sb=>?_
  have I1:Inv X pins σ H { s with heap:=h' }:=I.turned (t':=s.toks) (fun b o hb e=>(sb.2 b hb).trans e) f0 f1 f3 f4 f5
  obtain⟨o,e,c,d⟩:=id st'
  exact⟨u,rfl,Y2 (s:={ s with heap:=h' }) e c d (by decide) ⟨x,H,I1,ru,⟨rfl,fun ys hy=>by rw[I.tuple_inj hy hq];exact hx⟩,st',fun b hb=>(hf b hb).1⟩⟩
 done:=by
  intro X hP hw hK hc i pins s σ H E I hf st hg
  subst hP hw hK
  obtain⟨xs,hq,hx⟩:=hg
  obtain⟨its,rv,p,hz⟩:=I.tuple hq
  obtain⟨f0,f1,f2,f3,f4,f5⟩:=hf it (by simp)
  have hl:=rv.length
  exact wpAny_pyNext_tuple_end (I.ok.hd hc) st (show s.heap.IsTuple a its.toArray from p) (by simp;omega) fun h' eb=>⟨rfl,I.turned (t':=s.toks) (fun b o hb e=>eb b o hb e) f0 f1 f3 f4 f5⟩
 self:=fun _ _ _ _ _ st h=>wpAny_pyIter_tupleiter st h
theorem Wj{P:Program}{w:World}{K:PySem.W.Frag}{tg:Expr}(it:Addr)(lo:Int)(n:Nat):Q5 P w K tg (Itr lo n) [it] it (fun i h=>IsRangeIter h it (lo+(i:Nat)*1) ((n:Int)-(i:Nat)) 1) where
 mem:=by simp
 obj:=fun i h st b hb=>by
  have e:b=it:=by simpa using hb
  subst e
  exact⟨_,st,fun v z=>by
   have z':Data.fields _=Data.cell v:=z
   cases z'⟩
 keep:=fun i h h' st k=>k it (by simp) _ st
 item:=by
  intro X hP hw hK hc i pins s σ H E I hf st hg
  subst hP hw hK
  obtain⟨f0,f1,f2,f3,f4,f5⟩:=hf it (by simp)
  have W:=Walks.range (prog:=X.prog) (w:=X.w) (I.ok.hd hc) it lo 1 n
  refine W.item i s _ _ hg st fun v h' tk hv st' kk=>?_
  obtain⟨t,rfl⟩:=hv
  have I1:Inv X pins σ H { s with heap:=h',toks:=tk }:=I.turned (fun b o hb e=>kk b o (by simpa using hb) e) f0 f1 f3 f4 f5
  refine⟨_,rfl,Y2 (s:={ s with heap:=h',toks:=tk }) (n:= "range_iterator") st' rfl rfl (by decide) ⟨.int (lo+i),H,I1,⟨t,?_⟩,⟨rfl,rfl⟩,st',fun b hb=>(hf b hb).1⟩⟩
  rw[Int.mul_one]
 done:=by
  intro X hP hw hK hc i pins s σ H E I hf st hg
  subst hP hw hK
  obtain⟨f0,f1,f2,f3,f4,f5⟩:=hf it (by simp)
  exact wpAny_pyNext_range_end (I.ok.hd hc) st (by have:n<=i:=hg;omega) fun h' eb=>⟨rfl,I.turned (t':=s.toks) (fun b o hb e=>eb b o hb e) f0 f1 f3 f4 f5⟩
 self:=fun _ _ _ _ _ st h=>wpAny_pyIter_rangeiter st h
section
variable{X:Cx}{tg:Expr}
inductive InL(K:PySem.W.Frag)(x:V)(H:Hp)(R:It->Hp->Prop):Prop
 | mk (a:Addr) (h:x=.ref a) (e:∃xs,SqL K H a xs) (r:R (Itl K a) H):InL K x H R
inductive InT(K:PySem.W.Frag)(x:V)(H:Hp)(R:It->Hp->Prop):Prop
 | mk (a:Addr) (h:x=.ref a) (e:∃xs,SqT K H a xs) (r:R (Itt K a) H):InT K x H R
def zgP(K:PySem.W.Frag)(tl:TE):TI:=fun σ H R=>tl σ H fun x H1=>InL K x H1 R
def zhq(K:PySem.W.Frag)(tl:TE):TI:=fun σ H R=>tl σ H fun x H1=>InT K x H1 R
theorem jO{l:Expr}{tl:TE}(hl:PE X l tl):PI X tg l (zgP X.K tl):=by
 intro pins s σ H R I h
 refine thn (hl pins s σ H _ I h) fun v s1 ⟨x,H1,I1,r1,q1⟩=>?_
 obtain⟨a,e,⟨xs,hq⟩,q⟩:=q1
 subst e
 cases r1
 obtain⟨its,rv,p,hz⟩:=I1.list hq
 refine wpAny_pyIter_list p.isList ?_
 refine⟨s1.heap.objs.size,[s1.heap.objs.size],_,_,H1,rfl,I1.kept (t':=s1.toks) fun b o e=>qx _ e,Jl a _,⟨_,qA _ rfl,rfl,rfl⟩,fun b hb=>?_,q⟩
 have e:b=s1.heap.objs.size:=by simpa using hb
 subst e
 exact I1.fpOk (zC _) (I1.hok.fresh (zC _))
theorem jX{l:Expr}{tl:TE}(hl:PE X l tl):PI X tg l (zhq X.K tl):=by
 intro pins s σ H R I h
 refine thn (hl pins s σ H _ I h) fun v s1 ⟨x,H1,I1,r1,q1⟩=>?_
 obtain⟨a,e,⟨xs,hq⟩,q⟩:=q1
 subst e
 cases r1
 obtain⟨its,rv,p,hz⟩:=I1.tuple hq
 refine wpAny_pyIter_tuple (show s1.heap.IsTuple a its.toArray from p) ?_
 refine⟨s1.heap.objs.size,[s1.heap.objs.size],_,_,H1,rfl,I1.kept (t':=s1.toks) fun b o e=>qx _ e,Qd a _,⟨_,qA _ rfl,rfl,rfl⟩,fun b hb=>?_,q⟩
 have e:b=s1.heap.objs.size:=by simpa using hb
 subst e
 exact I1.fpOk (zC _) (I1.hok.fresh (zC _))
theorem zcb{pins:List (Addr×Obj)}{σ:St}{H:Hp}{s:Shared}{R:It->Hp->Prop}{E:Value->Shared->Prop}{lo hi:Int}{t u v:Tok}{tk:Nat}(I:Inv X pins σ H s)(h1:-(2^62)<=lo)(h2:lo<2^62)(h3:-(2^62)<=hi)(h4:hi<2^62)
  (q:R (Itr lo (hi-lo).toNat) H):wpAny (model X.prog X.w) X.A (pyIter (.ref s.heap.objs.size)) (PIE X pins σ tg R) E { s with heap:=s.heap.push { cls:=.type "range",data:=.fields #[.int lo t,.int hi u,.int 1 v] },toks:=tk }:=by
 refine wpAny_pyIter_range (IsRange.new ..) (small_one h1 h2 h3 h4) ?_
 have I1:Inv X pins σ H { s with heap:=s.heap.push { cls:=.type "range",data:=.fields #[.int lo t,.int hi u,.int 1 v] },toks:=tk }:=I.kept fun b o e=>qx _ e
 refine⟨(s.heap.push { cls:=.type "range",data:=.fields #[.int lo t,.int hi u,.int 1 v] }).objs.size,[(s.heap.push { cls:=.type "range",data:=.fields #[.int lo t,.int hi u,.int 1 v] }).objs.size],_,_,H,rfl,
  I1.kept (t':=tk) fun b o e=>qx _ e,Wj _ lo (hi-lo).toNat,?_,fun b hb=>?_,q⟩
 ·have e1:lo+((0:Nat):Int)*1=lo:=by simp
  have e2:(((hi-lo).toNat:Nat):Int)-((0:Nat):Int)=Builtin.Range.rangeSize lo hi 1:=by rw[rangeSize_one];split<;>omega
  show IsRangeIter _ _ (lo+((0:Nat):Int)*1) ((((hi-lo).toNat:Nat):Int)-((0:Nat):Int)) 1
  rw[e1,e2]
  exact qA _ rfl
 ·have e:b=(s.heap.push { cls:=.type "range",data:=.fields #[.int lo t,.int hi u,.int 1 v] }).objs.size:=by simpa using hb
  subst e
  exact I1.fpOk (zC _) (I1.hok.fresh (zC _))
inductive zg4(vs:List V)(H:Hp)(R:It->Hp->Prop):Prop
 | mk (j:Int) (h:vs=[.int j]) (h1:-(2^62)<=j) (h2:j<2^62) (r:R (Itr 0 j.toNat) H):zg4 vs H R
def zgO(ta:TA):TI:=fun σ H R=>ta σ H fun vs H1=>zg4 vs H1 R
theorem qY{a:Expr}{ta:TA}{p pos:Pos}(hg:Gl X "range")(hm:X.mg "range" = none)(ha:PA X [a] ta)(hs:starEach [a] X.env=[(false,eval a X.env)]:=by rfl):PI X tg (.Call (.Name "range" p) [a] [] pos) (zgO ta):=by
 intro pins s σ H R I h
 refine Call_ (vO I hg hm boot_range (QQ (thn (ha pos pins s σ H _ I h) fun us s1 ⟨vs,H1,I1,r1,q1⟩=>?_) hs rfl))
 obtain⟨j,e,q1,q2,q⟩:=q1
 subst e
 cases r1 with
 | cons r rr=>
  cases rr
  obtain⟨t,rfl⟩:=r
  exact call_range_1 (zcb I1 (by omega) (by omega) q1 q2 (by simpa using q))
def zhf(wi:TI)(g:TG)(tb:TS):TS:=fun D σ H=>wi σ H fun J H1=>∃W:Nat->Nat->St->Hp->Prop,(∃m,W 0 m σ H1)/\∀i m σ H,W i m σ H ->
 (J.stop i H/\D.nx σ H)\/(J.go i H/\∃N:St->Hp->Prop,(∀σ' H',N σ' H'->∃m',m'<m/\W (i+1) m' σ' H')/\∀x H',J.yld i H x H'->g x σ H' fun σ2 H2=>tb { D with nx:=N,ct:=N,bk:=D.nx } σ2 H2)
def qC(fp:List Addr)(h:Heap):List (Addr×Obj):=fp.filterMap fun b=>(h.get? b).map fun o=>(b,o)
theorem jw{fp:List Addr}{h:Heap}{b:Addr}{o:Obj}(hb:b∈fp)(e:h.get? b=some o):(b,o)∈qC fp h:=XL.mpr ⟨b,hb,by rw[e];rfl⟩
theorem wK{fp:List Addr}{h:Heap}{p:Addr×Obj}(hp:p∈qC fp h):p.1∈fp/\h.get? p.1=some p.2:=by
 obtain⟨b,hb,e⟩:=XL.mp hp
 cases q:h.get? b with
 | none=>rw[q] at e;cases e
 | some o=>
  rw[q] at e
  have e':(b,o)=p:=jJ e
  subst e'
  exact⟨hb,q⟩
theorem Inv.pinned{pins:List (Addr×Obj)}{σ:St}{H:Hp}{s:Shared}{fp:List Addr}(I:Inv X pins σ H s)(hf:∀b∈fp,xt X pins H b)(ho:∀b∈fp,∃o,s.heap.get? b=some o/\∀v,o.data≠.cell v):Inv X (pins++qC fp s.heap) σ H s:=
 I.pins_of fun p hp=>(qL.mp hp).elim (fun z=>I.pin p (qX _ z)) fun z=>by
  obtain⟨hb,e⟩:=wK z
  obtain⟨f0,f1,f2,_⟩:=hf p.1 hb
  obtain⟨o,e',d⟩:=ho p.1 hb
  rw[e] at e';cases e'
  exact⟨e,f0,f1,f2,d⟩
theorem Inv.unpinned{pins pl:List (Addr×Obj)}{σ:St}{H:Hp}{s:Shared}(I:Inv X (pins++pl) σ H s):Inv X pins σ H s:=I.pins_of fun p hp=>I.pin p (qX _ (xc _ hp))
theorem ja{iter:Expr}{body:List Stmt}{wi:TI}{g:TG}{tb:TS}{pos:Pos}(hp:PassesOwn (model X.prog X.w) X.A X.env X.xe)(hc:X.calm=true)(hi:PI X tg iter wi)(hg:PG X tg g)(hb:PSs X body tb)
  (hs:∀x,foldedSetIterable iter X.env x=pure x:=by intro _;rfl):PS X (.For tg iter body [] pos) (zhf wi g tb):=by
 intro pins s σ H D I h
 refine wpAny_For (thn (hi pins s σ H _ I h) fun v s1 h1=>thn h1 fun itv s2 h2=>?_) hs
 obtain⟨it,fp,tn,J,H2,e,I2,T,st2,f2,W,⟨m0,w0⟩,turn⟩:=h2
 subst e
 have stat:∀{H':Hp},(∀b∈fp,H' b=none)->∀b∈fp,xt X pins H' b:=fun hn b hb=>⟨hn b hb,(f2 b hb).2⟩
 refine codeAny_forLoop_any (fun n s'=>∃i σ' H',Inv X pins σ' H' s'/\tn i s'.heap/\(∀b∈fp,H' b=none)/\W i n σ' H') ?_ m0 ⟨0,σ,H2,I2,st2,fun b hb=>(f2 b hb).1,w0⟩
 rintro n s3 ⟨i,σ3,H3,I3,st3,fr3,w3⟩
 rcases turn i n σ3 H3 w3 with ⟨stop,qn⟩ | ⟨go,N,hN,step⟩
 ·refine yp hp (thn (T.done X rfl rfl rfl hc i pins s3 σ3 H3 X.xe I3 (stat fr3) st3 stop) fun r s4 ⟨hr,I4⟩=>?_)
  subst hr
  exact wpAny_execs_nil ⟨σ3,H3,I4,qn⟩
 ·refine yp hp (thn (T.item X rfl rfl rfl hc i pins s3 σ3 H3 X.xe I3 (stat fr3) st3 go) fun r s4 ⟨u,hr,h4⟩=>?_)
  subst hr
  refine yp hp (thn h4 fun _ s5 ⟨x,H5,I5,r5,y5,st5,fr5⟩=>?_)
  have I5':=I5.pinned (stat fr5) (T.obj _ _ st5)
  refine yp hp (thn (hg _ s5 σ3 H5 x u _ I5' r5 (step x H5 y5)) fun _ s6 ⟨σ6,H6,I6,q6⟩=>?_)
  refine yp hp (thn (hb _ s6 σ6 H6 _ I6 q6) fun f s7 q7=>?_)
  have again:∀{σ7:St} {H7:Hp},Inv X (pins++qC fp s5.heap) σ7 H7 s7->N σ7 H7->∃m,m<n/\∃i σ' H',Inv X pins σ' H' s7/\tn i s7.heap/\(∀b∈fp,H' b=none)/\W i m σ' H':=fun {σ7 H7} I7 n7=>by
   obtain⟨m',hm,w7⟩:=hN σ7 H7 n7
   refine⟨m',hm,i+1,σ7,H7,I7.unpinned,T.keep _ _ _ st5 fun b hb o e=>(I7.pin (b,o) (qX _ (qX _ (jw hb e)))).1,fun b hb=>?_,w7⟩
   obtain⟨o,e,d⟩:=T.obj _ _ st5 b hb
   exact(I7.pin (b,o) (qX _ (qX _ (jw hb e)))).2.1
  cases f with
  | next=>obtain⟨σ7,H7,I7,n7⟩:=q7;exact again I7 n7
  | cont=>obtain⟨σ7,H7,I7,n7⟩:=q7;exact again I7 n7
  | brk=>obtain⟨σ7,H7,I7,q7⟩:=q7;exact⟨σ7,H7,I7.unpinned,q7⟩
  | ret v=>obtain⟨x7,σ7,H7,I7,r7,q7⟩:=q7;exact⟨x7,σ7,H7,I7.unpinned,r7,q7⟩
end
theorem xZ{K:PySem.W.Frag}{a:Addr}{xs:List V}{g:TG}{tb:TS}{D:Jg}{σ:St}{H:Hp}(Pv:Nat->St->Hp->Prop)(h0:Pv 0 σ H)(hl:∀i σ H,i<=xs.length->Pv i σ H->SqL K H a xs)
  (hs:∀i x σ H,xs[i]? =some x->Pv i σ H->g x σ H fun σ2 H2=>tb { D with nx:=Pv (i+1),ct:=Pv (i+1),bk:=D.nx } σ2 H2) (hd:∀σ H,Pv xs.length σ H->D.nx σ H) :
  ∃W:Nat->Nat->St->Hp->Prop,(∃m,W 0 m σ H)/\∀i m σ H,W i m σ H ->
   ((Itl K a).stop i H/\D.nx σ H)\/((Itl K a).go i H/\∃N:St->Hp->Prop,(∀σ' H',N σ' H'->∃m',m'<m/\W (i+1) m' σ' H')/\∀x H',(Itl K a).yld i H x H'->g x σ H' fun σ2 H2=>tb { D with nx:=N,ct:=N,bk:=D.nx } σ2 H2):=by
 refine⟨fun i m σ H=>m=xs.length-i/\i<=xs.length/\Pv i σ H,⟨xs.length,by simp,qo _,h0⟩,?_⟩
 rintro i m σ H ⟨rfl,hi,p⟩
 have q:=hl i σ H hi p
 by_cases hlt:i<xs.length
 ·refine .inr ⟨⟨xs,xs[i],q,by simp[hlt]⟩,Pv (i+1),fun σ' H' p'=>⟨xs.length-(i+1),by omega,rfl,hlt,p'⟩,fun x H' y=>?_⟩
  obtain⟨e,y⟩:=y
  subst e
  exact hs i x σ _ (y xs q) p
 ·have e:i=xs.length:=by omega
  subst e
  exact .inl ⟨⟨xs,q,zC _⟩,hd σ H p⟩
theorem Xu{K:PySem.W.Frag}{a:Addr}{xs:List V}{g:TG}{tb:TS}{D:Jg}{σ:St}{H:Hp}(Pv:Nat->St->Hp->Prop)(h0:Pv 0 σ H)(hl:∀i σ H,i<=xs.length->Pv i σ H->SqT K H a xs)
  (hs:∀i x σ H,xs[i]? =some x->Pv i σ H->g x σ H fun σ2 H2=>tb { D with nx:=Pv (i+1),ct:=Pv (i+1),bk:=D.nx } σ2 H2) (hd:∀σ H,Pv xs.length σ H->D.nx σ H) :
  ∃W:Nat->Nat->St->Hp->Prop,(∃m,W 0 m σ H)/\∀i m σ H,W i m σ H ->
   ((Itt K a).stop i H/\D.nx σ H)\/((Itt K a).go i H/\∃N:St->Hp->Prop,(∀σ' H',N σ' H'->∃m',m'<m/\W (i+1) m' σ' H')/\∀x H',(Itt K a).yld i H x H'->g x σ H' fun σ2 H2=>tb { D with nx:=N,ct:=N,bk:=D.nx } σ2 H2):=by
 refine⟨fun i m σ H=>m=xs.length-i/\i<=xs.length/\Pv i σ H,⟨xs.length,by simp,qo _,h0⟩,?_⟩
 rintro i m σ H ⟨rfl,hi,p⟩
 have q:=hl i σ H hi p
 by_cases hlt:i<xs.length
 ·refine .inr ⟨⟨xs,xs[i],q,by simp[hlt]⟩,Pv (i+1),fun σ' H' p'=>⟨xs.length-(i+1),by omega,rfl,hlt,p'⟩,fun x H' y=>?_⟩
  obtain⟨e,y⟩:=y
  subst e
  exact hs i x σ _ (y xs q) p
 ·have e:i=xs.length:=by omega
  subst e
  exact .inl ⟨⟨xs,q,zC _⟩,hd σ H p⟩
theorem jL{lo:Int}{n:Nat}{g:TG}{tb:TS}{D:Jg}{σ:St}{H:Hp}(Pv:Nat->St->Hp->Prop)(h0:Pv 0 σ H)
  (hs:∀i σ H,i<n->Pv i σ H->g (.int (lo+i)) σ H fun σ2 H2=>tb { D with nx:=Pv (i+1),ct:=Pv (i+1),bk:=D.nx } σ2 H2) (hd:∀σ H,Pv n σ H->D.nx σ H) :
  ∃W:Nat->Nat->St->Hp->Prop,(∃m,W 0 m σ H)/\∀i m σ H,W i m σ H ->
   ((Itr lo n).stop i H/\D.nx σ H)\/((Itr lo n).go i H/\∃N:St->Hp->Prop,(∀σ' H',N σ' H'->∃m',m'<m/\W (i+1) m' σ' H')/\∀x H',(Itr lo n).yld i H x H'->g x σ H' fun σ2 H2=>tb { D with nx:=N,ct:=N,bk:=D.nx } σ2 H2):=by
 refine⟨fun i m σ H=>m=n-i/\i<=n/\Pv i σ H,⟨n,by simp,qo _,h0⟩,?_⟩
 rintro i m σ H ⟨rfl,hi,p⟩
 by_cases hlt:i<n
 ·refine .inr ⟨hlt,Pv (i+1),fun σ' H' p'=>⟨n-(i+1),by omega,rfl,hlt,p'⟩,fun x H' y=>?_⟩
  obtain⟨e,y⟩:=y
  subst e y
  exact hs i σ _ hlt p
 ·have e:i=n:=by omega
  subst e
  exact .inl ⟨zC _,hd σ H p⟩
abbrev R2:=V->V->Hp->VK->Prop
def OpR(X:Cx)(f:Value->Value->Sem Value)(r:R2):Prop:=
 ∀(pins:List (Addr×Obj)) (s:Shared) (σ:St) (H:Hp) (x y:V) (v u:Value) (Q:VK),Inv X pins σ H s->RelV x v->RelV y u->r x y H Q ->
  wpAny (model X.prog X.w) X.A (f v u) (EP X pins σ Q) X.xe s
def UnR(X:Cx)(f:Value->Sem Value)(r:V->Hp->VK->Prop):Prop:=
 ∀(pins:List (Addr×Obj)) (s:Shared) (σ:St) (H:Hp) (x:V) (v:Value) (Q:VK),Inv X pins σ H s->RelV x v->r x H Q ->
  wpAny (model X.prog X.w) X.A (f v) (EP X pins σ Q) X.xe s
def jF(X:Cx)(f:Value)(r:List V->Hp->VK->Prop):Prop:=
 ∀(pins:List (Addr×Obj)) (s:Shared) (σ:St) (H:Hp) (xs:List V) (us:List Value) (Q:VK),Inv X pins σ H s->Vals xs us->r xs H Q ->
  wpAny (model X.prog X.w) X.A (call f us) (EP X pins σ Q) X.xe s
def tOp(r:R2)(ta tb:TE):TE:=fun σ H Q=>ta σ H fun x H1=>tb σ H1 fun y H2=>r x y H2 Q
def tUn(r:V->Hp->VK->Prop)(ta:TE):TE:=fun σ H Q=>ta σ H fun x H1=>r x H1 Q
inductive rI(C:Int->Int->Prop)(g:Int->Int->V)(x:V)(y:V)(H:Hp)(Q:VK):Prop
 | mk (i j:_) (_:x=.int i) (_:y=.int j) (_:C i j) (_:Q (g i j) H):rI C g x y H Q
inductive rI0(g:Int->Int->V)(x:V)(y:V)(H:Hp)(Q:VK):Prop
 | mk (i j:_) (_:x=.int i) (_:y=.int j) (_:Q (g i j) H):rI0 g x y H Q
inductive rU(g:Int->V)(x:V)(H:Hp)(Q:VK):Prop
 | mk (i:_) (_:x=.int i) (_:Q (g i) H):rU g x H Q
section
variable{X:Cx}{a b c:Expr}{ta tb tc:TE}{pos:Pos}
theorem zfG(ha:PE X a ta)(hb:PE X b tb){pins:List (Addr×Obj)}{s:Shared}{σ:St}{H:Hp}{R:V->V->Hp->Prop}(I:Inv X pins σ H s)
  (h:ta σ H fun x H1=>tb σ H1 fun y H2=>R x y H2) {Q:Value->Shared->Prop} {f:Value->Value->Sem Value}
  (hf:∀v u s2 x y H2,Inv X pins σ H2 s2->RelV x v->RelV y u->R x y H2->wpAny (model X.prog X.w) X.A (f v u) Q X.xe s2) :
  wpAny (model X.prog X.w) X.A (eval a X.env) (fun v s₁=>wpAny (model X.prog X.w) X.A (eval b X.env) (fun u s₂=>wpAny (model X.prog X.w) X.A (f v u) Q X.xe s₂) X.xe s₁) X.xe s:=by
 refine thn (ha pins s σ H _ I h) fun v s1 ⟨x,H1,I1,r1,q1⟩=>?_
 refine thn (hb pins s1 σ H1 _ I1 q1) fun u s2 ⟨y,H2,I2,r2,q2⟩=>?_
 exact hf v u s2 x y H2 I2 r1 r2 q2
theorem zw{op:Operator}{r:R2}(ho:OpR X (binaryOp op) r)(ha:PE X a ta)(hb:PE X b tb):PE X (.BinOp a op b pos) (tOp r ta tb):=by
 intro pins s σ H Q I h
 exact wpAny_BinOp (zfG ha hb I h fun v u s2 x y H2 I2 rx ry q=>ho pins s2 σ H2 x y v u Q I2 rx ry q)
theorem Vy{op:UnaryOp}{r:V->Hp->VK->Prop}(ho:UnR X (unaryOp op) r)(ha:PE X a ta):PE X (.UnaryOp op a pos) (tUn r ta):=by
 intro pins s σ H Q I h
 exact UnaryOp_ (thn (ha pins s σ H _ I h) fun v s1 ⟨x,H1,I1,r1,q1⟩=>ho pins s1 σ H1 x v Q I1 r1 q1)
theorem opI{f:Value->Value->Sem Value}{C:Int->Int->Prop}{g:Int->Int->Int}
  (rule:∀(i j:Int) (t u:Tok) (s:Shared) (Q:Value->Shared->Prop) (E:Value->Shared->Prop),C i j->Q (.int (g i j) s.toks) { s with toks:=s.toks+1 }->wpAny (model X.prog X.w) X.A (f (.int i t) (.int j u)) Q E s) :
  OpR X f (rI C fun i j=>.int (g i j)):=by
 intro pins s σ H x y v u Q I rx ry h
 obtain⟨i,j,rfl,rfl,hc,q⟩:=h
 obtain⟨t,rfl⟩:=rx
 obtain⟨t',rfl⟩:=ry
 exact rule i j t t' s _ _ hc ⟨.int (g i j),H,I.tok _,⟨_,rfl⟩,q⟩
theorem zgv{f:Value->Value->Sem Value}{g:Int->Int->Int}
  (rule:∀(i j:Int) (t u:Tok) (s:Shared) (Q:Value->Shared->Prop) (E:Value->Shared->Prop),Q (.int (g i j) s.toks) { s with toks:=s.toks+1 }->wpAny (model X.prog X.w) X.A (f (.int i t) (.int j u)) Q E s) :
  OpR X f (rI0 fun i j=>.int (g i j)):=by
 intro pins s σ H x y v u Q I rx ry h
 obtain⟨i,j,rfl,rfl,q⟩:=h
 obtain⟨t,rfl⟩:=rx
 obtain⟨t',rfl⟩:=ry
 exact rule i j t t' s _ _ ⟨.int (g i j),H,I.tok _,⟨_,rfl⟩,q⟩
theorem zdC{f:Value->Value->Sem Value}{g:Int->Int->Bool}
  (rule:∀(i j:Int) (t u:Tok) (s:Shared) (Q:Value->Shared->Prop) (E:Value->Shared->Prop),Q (.bool (g i j)) s->wpAny (model X.prog X.w) X.A (f (.int i t) (.int j u)) Q E s) :
  OpR X f (rI0 fun i j=>.bl (g i j)):=by
 intro pins s σ H x y v u Q I rx ry h
 obtain⟨i,j,rfl,rfl,q⟩:=h
 obtain⟨t,rfl⟩:=rx
 obtain⟨t',rfl⟩:=ry
 exact rule i j t t' s _ _ ⟨.bl (g i j),H,I,rfl,q⟩
def zg7(i j:Int):Prop:=0<j/\j<1073741824
def zhx(i j:Int):Prop:=0<=j/\j<=1000000/\i.natAbs<2^64
def CMul(i j:Int):Prop:=(-(2^64)<i/\i<2^64)\/(-(2^64)<j/\j<2^64)
theorem CMul.ok{i j:Int}(h:CMul i j):IntMulOk i j:=by
 rcases h with ⟨h1,h2⟩ | ⟨h1,h2⟩
 ·exact .of_left (intBits_le_64 h1 h2)
 ·exact .of_right (intBits_le_64 h1 h2)
theorem zU:OpR X (binaryOp .Add) (rI0 fun i j=>.int (i+j)):=zgv fun _ _ _ _ _ _ _ q=>add_int q
theorem jZ:OpR X (binaryOp .Sub) (rI0 fun i j=>.int (i-j)):=zgv fun _ _ _ _ _ _ _ q=>sub_int q
theorem xW:OpR X (binaryOp .Mult) (rI CMul fun i j=>.int (i*j)):=opI fun _ _ _ _ _ _ _ hc q=>mul_int q hc.ok
theorem YQ:OpR X (binaryOp .FloorDiv) (rI zg7 fun i j=>.int (i/j)):=opI fun i j _ _ _ _ _ hc q=>by
 have h1:(0:Int)<j:=hc.1
 have h2:j<1073741824:=hc.2
 exact floordiv_int (by omega) (by rw[Int.fdiv_eq_ediv_of_nonneg i (by omega)];exact q) (.inl (PyProof.noPylong_small (by omega)))
theorem xH:OpR X (binaryOp .Mod) (rI (fun _ j=>0<j) fun i j=>.int (i % j)):=opI fun i j _ _ _ _ _ hc q=>by
 have h1:(0:Int)<j:=hc
 exact mod_int' (by omega) (by rw[Int.fmod_eq_emod_of_nonneg i (by omega)];exact q)
theorem zco:OpR X (binaryOp .Pow) (rI zhx fun i j=>.int (i^j.toNat)):=opI fun _ _ _ _ _ _ _ hc q=>pow_int_small hc.1 hc.2.1 hc.2.2 q
theorem unI{f:Value->Sem Value}{g:Int->Int}
  (rule:∀(i:Int) (t:Tok) (s:Shared) (Q:Value->Shared->Prop) (E:Value->Shared->Prop),Q (.int (g i) s.toks) { s with toks:=s.toks+1 }->wpAny (model X.prog X.w) X.A (f (.int i t)) Q E s) :
  UnR X f (rU fun i=>.int (g i)):=by
 intro pins s σ H x v Q I rx h
 obtain⟨i,rfl,q⟩:=h
 obtain⟨t,rfl⟩:=rx
 exact rule i t s _ _ ⟨.int (g i),H,I.tok _,⟨_,rfl⟩,q⟩
theorem Qc:UnR X (unaryOp .USub) (rU fun i=>.int (-i)):=unI fun _ _ _ _ _ q=>neg_int q
end
def zf6:V->V->Bool
 | .non,.non=>true | .non,.int _=>true | .int _,.non=>true | .non,.bl _=>true | .bl _,.non=>true | .non,.str _=>true | .str _,.non=>true
 | .int _,.int _=>true | .bl _,.bl _=>true | .str _,.str _=>true | .byt _,.byt _=>true
 | .int _,.str _=>true | .str _,.int _=>true | .bl _,.str _=>true | .str _,.bl _=>true
 | _,_=>false
def rEq:R2:=fun x y H Q=>zf6 x y=true/\Q (.bl (decide (x=y))) H
def rNe:R2:=fun x y H Q=>zf6 x y=true/\Q (.bl (!decide (x=y))) H
theorem zaa{i j:Int}:decide (V.int i=V.int j)=(i==j):=by
 rw[wu]
 simp
theorem zcT{i j:Bool}:decide (V.bl i=V.bl j)=(i==j):=by
 rw[wu]
 simp
theorem Y9{i j:Str}:decide (V.str i=V.str j)=(i==j):=by
 rw[wu]
 simp
theorem zab{i j:Array UInt8}:decide (V.byt i=V.byt j)=(i.toList==j.toList):=by
 rw[wu]
 cases i
 cases j
 simp
section
variable{X:Cx}{a b c:Expr}{ta tb tc:TE}{pos:Pos}
theorem qE{pins:List (Addr×Obj)}{σ:St}{H:Hp}{s:Shared}{Q:VK}{k k':Bool}(I:Inv X pins σ H s)(q:Q (.bl k) H)(e:k=k'):EP X pins σ Q (.bool k') s:=by
 subst e
 exact⟨.bl k,H,I,rfl,q⟩
theorem qQ:OpR X (compareOp .Eq) rEq:=by
 intro pins s σ H x y v u Q I rx ry h
 obtain⟨hs,q⟩:=h
 cases x with
 | non=>
  cases rx
  cases y with
  | non=>cases ry;exact PySem.EqNone.eq_none_none (qE I q (by simp))
  | bl j=>cases ry;exact PySem.EqNone.eq_none_bool (qE I q (by simp))
  | int j=>obtain⟨t',rfl⟩:=ry;exact PySem.EqNone.eq_none_int (qE I q (by simp))
  | str j=>obtain⟨t',rfl⟩:=ry;exact PySem.EqNone.eq_none_str (qE I q (by simp))
  | _=>exact absurd (show false=true from hs) jf
 | bl i=>
  cases rx
  cases y with
  | non=>cases ry;exact PySem.EqNone.eq_bool_none (qE I q (by simp))
  | bl j=>cases ry;exact eq_bool (qE I q zcT)
  | str j=>obtain⟨t',rfl⟩:=ry;exact PySem.EqMixed.eq_bool_str (qE I q (by simp))
  | _=>exact absurd (show false=true from hs) jf
 | int i=>
  obtain⟨t,rfl⟩:=rx
  cases y with
  | non=>cases ry;exact PySem.EqNone.eq_int_none (qE I q (by simp))
  | int j=>obtain⟨t',rfl⟩:=ry;exact eq_int (qE I q zaa)
  | str j=>obtain⟨t',rfl⟩:=ry;exact PySem.EqMixed.eq_int_str (qE I q (by simp))
  | _=>exact absurd (show false=true from hs) jf
 | str i=>
  obtain⟨t,rfl⟩:=rx
  cases y with
  | non=>cases ry;exact PySem.EqNone.eq_str_none (qE I q (by simp))
  | bl j=>cases ry;exact PySem.EqMixed.eq_str_bool (qE I q (by simp))
  | int j=>obtain⟨t',rfl⟩:=ry;exact PySem.EqMixed.eq_str_int (qE I q (by simp))
  | str j=>obtain⟨t',rfl⟩:=ry;exact eq_str (qE I q Y9)
  | _=>exact absurd (show false=true from hs) jf
 | byt i=>
  obtain⟨t,rfl⟩:=rx
  cases y with
  | byt j=>obtain⟨t',rfl⟩:=ry;exact PySem.W.eq_bytes (qE I q zab)
  | _=>exact absurd (show false=true from hs) jf
 | _=>cases y<;>exact absurd (show false=true from hs) jf
theorem ZC:OpR X (compareOp .NotEq) rNe:=by
 intro pins s σ H x y v u Q I rx ry h
 obtain⟨hs,q⟩:=h
 cases x with
 | non=>
  cases rx
  cases y with
  | non=>cases ry;exact PySem.EqNone.ne_none_none (qE I q (by simp))
  | bl j=>cases ry;exact PySem.EqNone.ne_none_bool (qE I q (by simp))
  | int j=>obtain⟨t',rfl⟩:=ry;exact PySem.EqNone.ne_none_int (qE I q (by simp))
  | str j=>obtain⟨t',rfl⟩:=ry;exact PySem.EqNone.ne_none_str (qE I q (by simp))
  | _=>exact absurd (show false=true from hs) jf
 | bl i=>
  cases rx
  cases y with
  | non=>cases ry;exact PySem.EqNone.ne_bool_none (qE I q (by simp))
  | bl j=>cases ry;exact ne_bool (qE I q (congrArg not zcT))
  | str j=>obtain⟨t',rfl⟩:=ry;exact PySem.EqMixed.ne_bool_str (qE I q (by simp))
  | _=>exact absurd (show false=true from hs) jf
 | int i=>
  obtain⟨t,rfl⟩:=rx
  cases y with
  | non=>cases ry;exact PySem.EqNone.ne_int_none (qE I q (by simp))
  | int j=>obtain⟨t',rfl⟩:=ry;exact ne_int (qE I q (congrArg not zaa))
  | str j=>obtain⟨t',rfl⟩:=ry;exact PySem.EqMixed.ne_int_str (qE I q (by simp))
  | _=>exact absurd (show false=true from hs) jf
 | str i=>
  obtain⟨t,rfl⟩:=rx
  cases y with
  | non=>cases ry;exact PySem.EqNone.ne_str_none (qE I q (by simp))
  | bl j=>cases ry;exact PySem.EqMixed.ne_str_bool (qE I q (by simp))
  | int j=>obtain⟨t',rfl⟩:=ry;exact PySem.EqMixed.ne_str_int (qE I q (by simp))
  | str j=>obtain⟨t',rfl⟩:=ry;exact ne_str (qE I q (congrArg not Y9))
  | _=>exact absurd (show false=true from hs) jf
 | byt i=>
  obtain⟨t,rfl⟩:=rx
  cases y with
  | byt j=>obtain⟨t',rfl⟩:=ry;exact PySem.W.ne_bytes (qE I q (congrArg not zab))
  | _=>exact absurd (show false=true from hs) jf
 | _=>cases y<;>exact absurd (show false=true from hs) jf
theorem YO:OpR X (compareOp .Lt) (rI0 fun i j=>.bl (decide (i<j))):=zdC fun _ _ _ _ _ _ _ q=>lt_int q
theorem JA:OpR X (compareOp .LtE) (rI0 fun i j=>.bl (decide (i<=j))):=zdC fun _ _ _ _ _ _ _ q=>le_int q
theorem VC:OpR X (compareOp .Gt) (rI0 fun i j=>.bl (decide (j<i))):=zdC fun _ _ _ _ _ _ _ q=>gt_int q
theorem zeH:OpR X (compareOp .GtE) (rI0 fun i j=>.bl (decide (j<=i))):=zdC fun _ _ _ _ _ _ _ q=>ge_int q
theorem Xg:OpR X (compareOp .Is) (fun x y H Q=>y=.non/\Q (.bl (decide (x=.non))) H):=by
 intro pins s σ H x y v u Q I rx ry h
 obtain⟨rfl,q⟩:=h
 cases ry
 refine is_none_gen (qE I q ?_)
 cases x<;>first
  | (cases rx;rfl)
  | (obtain⟨t,rfl⟩:=rx;rfl)
theorem Xe:OpR X (compareOp .IsNot) (fun x y H Q=>y=.non/\Q (.bl (!decide (x=.non))) H):=by
 intro pins s σ H x y v u Q I rx ry h
 obtain⟨rfl,q⟩:=h
 cases ry
 refine isnot_none_gen (qE I q ?_)
 cases x<;>first
  | (cases rx;rfl)
  | (obtain⟨t,rfl⟩:=rx;rfl)
theorem zB(b:Expr){op:CmpOp}(h:op≠.In:=by decide)(h2:op≠.NotIn:=by decide):behindInMarks op b=false:=by
 have e1:(op==CmpOp.In)=false:=by cases op<;>first| rfl | exact absurd rfl h
 have e2:(op==CmpOp.NotIn)=false:=by cases op<;>first| rfl | exact absurd rfl h2
 cases b<;>simp[behindInMarks,e1,e2]
theorem qK{op:CmpOp}{r:R2}(ho:OpR X (compareOp op) r)(ha:PE X a ta)(hb:PE X b tb)(hm:behindInMarks op b=false):PE X (.Compare a [op] [b] pos) (tOp r ta tb):=by
 intro pins s σ H Q I h
 exact wpAny_Compare1 (zfG ha hb I h fun v u s2 x y H2 I2 rx ry q=>ho pins s2 σ H2 x y v u Q I2 rx ry q) hm
def zfR(t:TE):TT:=fun σ H Q=>t σ H fun x H'=>IsB x H' Q
theorem zA{op:CmpOp}{r:R2}(ho:OpR X (compareOp op) r)(ha:PE X a ta)(hb:PE X b tb)(hm:behindInMarks op b=false):PT X (.Compare a [op] [b] pos) (zfR (tOp r ta tb)):=by
 intro pins s σ H Q I h
 refine wpAny_isTrue_Compare1 (thn (ha pins s σ H _ I h) fun v s1 ⟨x,H1,I1,r1,q1⟩=>thn (hb pins s1 σ H1 _ I1 q1) fun u s2 ⟨y,H2,I2,r2,q2⟩=>
  thn (ho pins s2 σ H2 x y v u _ I2 r1 r2 q2) fun c s3 ⟨z,H3,I3,r3,k,e,q3⟩=>?_) hm
 subst e
 cases r3
 exact yW ⟨H3,I3,q3⟩
def zeS(r r':R2)(ta tb tc:TE):TE:=fun σ H Q=>ta σ H fun x H1=>tb σ H1 fun y H2=>r x y H2 fun z H3=>∃k,z=.bl k /\
 (if k=true then tc σ H3 fun w' H4=>r' y w' H4 Q else Q (.bl false) H3)
theorem Vz{op op':CmpOp}{r r':R2}(ho:OpR X (compareOp op) r)(ho':OpR X (compareOp op') r')(ha:PE X a ta)(hb:PE X b tb)(hc:PE X c tc)
  (hm:lastMarks [op,op'] [b,c]=false:=by with_unfolding_all rfl):PE X (.Compare a [op,op'] [b,c] pos) (zeS r r' ta tb tc):=by
 intro pins s σ H Q I h
 refine Compare_chain (thn (ha pins s σ H _ I h) fun v s1 ⟨x,H1,I1,r1,q1⟩=>chain_link (thn (hb pins s1 σ H1 _ I1 q1) fun u s2 ⟨y,H2,I2,r2,q2⟩=>
  thn (ho pins s2 σ H2 x y v u _ I2 r1 r2 q2) fun d s3 ⟨z,H3,I3,r3,k,e,q3⟩=>?_)) hm
 subst e
 cases r3
 refine yW ?_
 cases k with
 | false=>exact ite_ff ⟨.bl false,H3,I3,rfl,q3⟩
 | true=>exact ite_tt (chain_last (thn (hc pins s3 σ H3 _ I3 q3) fun w' s4 ⟨z',H4,I4,r4,q4⟩=>ho' pins s4 σ H4 y z' u w' Q I4 r2 r4 q4))
theorem Zj:(sizeLine:Nat)<2^63:=by rw[sizeLine_eq];decide
inductive Zb(x:V)(y:V)(H:Hp)(Q:VK):Prop
 | mk (i j:_) (_:x=.str i) (_:y=.str j) (_:i.length+j.length<=sizeLine) (_:Q (.str (i++j)) H):Zb x y H Q
theorem xr:OpR X (binaryOp .Add) (Zb):=by
 intro pins s σ H x y v u Q I rx ry h
 obtain⟨i,j,rfl,rfl,hz,q⟩:=h
 obtain⟨t,rfl⟩:=rx
 obtain⟨t',rfl⟩:=ry
 exact add_str (fun t' tk=>⟨.str (i++j),H,I.tok _,⟨_,rfl⟩,q⟩) hz
theorem xJ{x:V}{us:List Value}(r:Vals [x] us):∃u,us=[u]/\RelV x u:=by
 cases r with
 | cons r1 r2=>cases r2;exact⟨_,rfl,r1⟩
theorem Jj{x y:V}{us:List Value}(r:Vals [x,y] us):∃u w',us=[u,w']/\RelV x u/\RelV y w':=by
 cases r with
 | cons r1 r2=>
  cases r2 with
  | cons r3 r4=>cases r4;exact⟨_,_,rfl,r1,r3⟩
inductive Q8(xs:List V)(H:Hp)(Q:VK):Prop
 | mk (i:_) (_:xs=[.int i]) (_:Q (.int (if i<0 then -i else i)) H):Q8 xs H Q
theorem V8:jF X (.builtin "abs") (Q8):=by
 intro pins s σ H xs us Q I r h
 obtain⟨i,rfl,q⟩:=h
 obtain⟨u,rfl,t,rfl⟩:=xJ r
 exact call_abs_int fun u tk=>⟨.int (if i<0 then -i else i),H,I.tok _,⟨_,rfl⟩,q⟩
inductive ZS(xs:List V)(H:Hp)(Q:VK):Prop
 | mk (i j:_) (_:xs=[.int i,.int j]) (_:Q (.int (if j>i then j else i)) H):ZS xs H Q
theorem zbf(hc:X.calm=true):jF X (.builtin "max") (ZS):=by
 intro pins s σ H xs us Q I r h
 obtain⟨i,j,rfl,q⟩:=h
 obtain⟨u,w',rfl,⟨t,rfl⟩,⟨t',rfl⟩⟩:=Jj r
 refine max_two_ints (I.ok.hd hc) fun h' tk k=>⟨_,H,I.kept k,?_,q⟩
 by_cases hj:j>i
 ·rw[if_pos hj,if_pos hj];exact⟨_,rfl⟩
 ·rw[if_neg hj,if_neg hj];exact⟨_,rfl⟩
theorem Zp:jF X (.type "int") (fun xs H Q=>(∃i,xs=[.int i]/\Q (.int i) H)\/∃k,xs=[.bl k]/\Q (.int (if k then 1 else 0)) H):=by
 intro pins s σ H xs us Q I r h
 rcases h with ⟨i,rfl,q⟩ | ⟨k,rfl,q⟩
 ·obtain⟨u,rfl,t,rfl⟩:=xJ r
  exact call_int_int ⟨.int i,H,I,⟨_,rfl⟩,q⟩
 ·obtain⟨u,rfl,r1⟩:=xJ r
  cases r1
  exact call_int_bool ⟨.int (if k then 1 else 0),H,I.tok _,⟨_,rfl⟩,q⟩
inductive wB(xs:List V)(H:Hp)(Q:VK):Prop
 | mk (i:_) (_:xs=[.int i]) (_:i.natAbs.log2<1920) (_:Q (.str (toString i)) H):wB xs H Q
theorem yO:jF X (.type "str") (wB):=by
 intro pins s σ H xs us Q I r h
 obtain⟨i,rfl,hz,q⟩:=h
 obtain⟨u,rfl,t,rfl⟩:=xJ r
 exact PySem.P.str_of_int hz ⟨.str _,H,I.tok _,⟨_,rfl⟩,q⟩
inductive yd(xs:List V)(H:Hp)(Q:VK):Prop
 | mk (i j:_) (_:xs=[.int i,.int j]) (_:zg7 i j) (_:∀p,H p=none->Q (.ref p) (upd H p (.tup [.int (i/j),.int (i % j)]))):yd xs H Q
theorem V7:jF X (.builtin "divmod") (yd):=by
 intro pins s σ H xs us Q I r h
 obtain⟨i,j,rfl,⟨h1,h2⟩,q⟩:=h
 obtain⟨u,w',rfl,⟨t,rfl⟩,⟨t',rfl⟩⟩:=Jj r
 refine divmod_int (by omega) ?_ (.inl (PyProof.noPylong_small (by omega)))
 rw[Int.fdiv_eq_ediv_of_nonneg i (by omega),Int.fmod_eq_emod_of_nonneg i (by omega)]
 have hn:H s.heap.objs.size=none:=I.hok.fresh (zC _)
 refine⟨.ref s.heap.objs.size,_,?_,rfl,q _ hn⟩
 refine I.laid (fun b o e=>qx _ e) (zC _) ⟨by simp only[vd,Zv];rw[sizeLine_eq];decide,[.int (i/j) s.toks,.int (i % j) (s.toks+1)],.cons ⟨_,rfl⟩ (.cons ⟨_,rfl⟩ .nil),?_⟩
 exact⟨⟨_,qA s.heap rfl,rfl,0,rfl⟩,_,qA s.heap rfl,rfl⟩
end
structure ObjM(h:Heap)(x dx C:Addr)(mA:Str->Option Value):Prop where
 obj:h.get? x=some (PySem.W.instObj C dx)
 ns:h.Ns1 dx mA
 ne:dx≠x
section
variable{prog:Program}{w:World}{A:Around}{E:Value->Shared->Prop}{s:Shared}{K:PySem.W.Frag}{x dx C f:Addr}{mA:Str->Option Value}{name:Str}{v:Value}
end
def putF(f:Str)(v:V):List (Str×V)->List (Str×V)
 | []=>[(f,v)]
 | (g,x)::r=>if g=f then(g,v)::r else(g,x)::putF f v r
theorem RelO.some_of{v:V}{o:Option Value}(r:RelO (some v) o):∃u,o=some u/\RelV v u:=by
 cases o with
 | none=>exact(show False from r).elim
 | some u=>exact⟨u,rfl,r⟩
section
variable{P:Program}{w:World}{H H':Hp}{h h':Heap}{a C dx:Addr}{fs fs':List (Str×V)}
end
structure Cls(K:PySem.W.Frag)(C:Addr):Prop where
 pg:PySem.W.plainGet K C Str.empty=true
 hd:PySem.W.hasDictIn K C=true
 po:PySem.W.plainOver K C=true
 sa:PySem.W.findIn K (.ref C) "__setattr__" = some (some (.builtin "object.__setattr__"))
structure Con(K:PySem.W.Frag)(C:Addr)(f:Str)(v:V)(u:Value):Prop where
 at_:PySem.W.findIn K (.ref C) f=some (some u)
 rel:RelV v u
 get:PySem.W.specialIn K u "__get__" = some none
 cp:PySem.W.copiedNames.contains f=false
structure Meth(K:PySem.W.Frag)(C:Addr)(m:Str)(f:Addr):Prop where
 at_:PySem.W.findIn K (.ref C) m=some (some (.ref f))
 fn:PySem.W.isFn K (.ref f)=true
 kp:PySem.W.keepIn K (.ref f)=true
section
variable{X:Cx}{pins:List (Addr×Obj)}{σ:St}{H:Hp}{s:Shared}{a C dx:Addr}{fs:List (Str×V)}{f:Str}{v:V}{A:Around}{E:Value->Shared->Prop}
end
section
variable{X:Cx}{o e value:Expr}{f:Str}{pos pos' tpos:Pos}{ta tv:TE}
end
section
variable{X:Cx}{pins:List (Addr×Obj)}{σ:St}{H:Hp}{s:Shared}{A:Around}{E:Value->Shared->Prop}{Q:Value->Shared->Prop}{c:Value}{b:Bool}
inductive Q4(K:PySem.W.Frag)(H:Hp):V->Value->Prop where
 | non:Q4 K H .non (.type "NoneType")
 | bl (x:Bool):Q4 K H (.bl x) (.type "bool")
 | int (i:Int):Q4 K H (.int i) (.type "int")
 | str (x:Str):Q4 K H (.str x) (.type "str")
 | flt (x:UInt64):Q4 K H (.flt x) (.type "float")
 | lst {a:Addr} {xs:List V} (e:H a=some (.lst xs)):Q4 K H (.ref a) (.type "list")
 | frz {a:Addr} {o:Obj} {xs:List V} (e:H a=some (.frz o (.lst xs))):Q4 K H (.ref a) (.type "list")
 | tup {a:Addr} {xs:List V} (e:H a=some (.tup xs)):Q4 K H (.ref a) (.type "tuple")
 | dK {a:Addr} {kvs:List (Key×V)} (e:H a=some (.dK kvs)):Q4 K H (.ref a) (.type "dict")
 | dT {a:Addr} {kvs:List (List Key×V)} (e:H a=some (.dT kvs)):Q4 K H (.ref a) (.type "dict")
 | ins {a C dx:Addr} {fs:List (Str×V)} (e:H a=some (.ins C dx fs)) (cl:Cls K C) (ha:PySem.W.findIn K (.ref C) "__class__" = some (some (.builtin "object.__class__")))
   (hn:PySem.W.specialIn K (.builtin "object.__class__") "__get__" = some (some (.builtin "getset_descriptor.__get__"))) (htk:PySem.W.takesIn K (.builtin "object.__class__")=some true)
   (hm:PySem.W.mroIn K C (.type "object")=some true):Q4 K H (.ref a) (.ref C)
end
structure Room(k:Nat)(A:Around):Prop where
 hd:A.handled=none
 dp:A.depth+3*k+5<recursionLimit
 un:A.units+16*k+200<cLine
 gd:A.guards=some []
theorem Room.mono{j k:Nat}{A:Around}(r:Room k A)(h:j<=k):Room j A:=⟨r.hd,by have:=r.dp;omega,by have:=r.un;omega,r.gd⟩
theorem Room.deeper{k:Nat}{A:Around}(r:Room (k+1) A)(env:Env):Room k (A.deeper env):=
 ⟨r.hd,by have:=r.dp;show A.depth+1+3*k+5<_;omega,by have:=r.un;show A.units+3+16*k+200<_;omega,r.gd⟩
theorem Room.depth{k:Nat}{A:Around}(r:Room k A):A.depth<recursionLimit:=by have:=r.dp;omega
theorem Room.units{k:Nat}{A:Around}(r:Room k A):A.units+64<cLine:=by have:=r.un;omega
theorem Room.units0{k:Nat}{A:Around}(r:Room k A):A.units<cLine:=by have:=r.un;omega
def Wo:TA:=fun _ H Q=>Q [] H
def qz(ta:TE)(tr:TA):TA:=fun σ H Q=>ta σ H fun x H1=>tr σ H1 fun xs H2=>Q (x::xs) H2
section
variable{X:Cx}{e:Expr}{es:List Expr}{te:TE}{t:TA}{pos:Pos}
theorem zc:PA X [] Wo:=fun _ _ _ _ H Q I h=>QY ⟨[],H,I,.nil,h⟩
theorem za(ha:PE X e te)(hr:PA X es t)(hs:starEach (e::es) X.env=(false,eval e X.env)::starEach es X.env:=by rfl):PA X (e::es) (qz te t):=by
 intro pos pins s σ H Q I h
 rw[hs]
 show wpAny _ _ (spliced ((false,eval e X.env)::backTo pos (starEach es X.env))) _ _ s
 refine QL (thn (ha pins s σ H _ I h) fun u s1 ⟨x,H1,I1,r1,q1⟩=>?_)
 exact thn (hr pos pins s1 σ H1 _ I1 q1) fun us s2 ⟨xs,H2,I2,r2,q2⟩=>⟨x::xs,H2,I2,.cons r1 r2,q2⟩
def zfQ(t:TA):TE:=fun σ H Q=>t σ H fun xs H1=>xs.length<=sizeLine/\∀p,H1 p=none->Q (.ref p) (upd H1 p (.tup xs))
def zeP(t:TA):TE:=fun σ H Q=>t σ H fun xs H1=>xs.length<=sizeLine/\∀p,H1 p=none->Q (.ref p) (upd H1 p (.lst xs))
theorem zX{x1}(h:PA X es t):PE X (.Tuple es x1 pos) (zfQ t):=by
 intro pins s σ H Q I hq
 refine wpAny_Tuple_spliced (thn (h pos pins s σ H _ I hq) fun us s1 ⟨xs,H1,I1,r,z,q⟩=>⟨by rw[<- r.length];exact z,?_⟩)
 have hf:H1 s1.heap.objs.size=none:=I1.hok.fresh (zC _)
 refine⟨.ref s1.heap.objs.size,upd H1 s1.heap.objs.size (.tup xs),I1.laid (t':=s1.toks) (fun b u e=>qx _ e) (zC _) ?_,rfl,q _ hf⟩
 exact⟨z,us,r,⟨_,qA _ rfl,rfl,_,rfl⟩,_,qA _ rfl,rfl⟩
theorem zO(h:PA X es t):PE X (.List es pos) (zeP t):=by
 intro pins s σ H Q I hq
 refine wpAny_List_spliced (thn (h pos pins s σ H _ I hq) fun us s1 ⟨xs,H1,I1,r,z,q⟩=>⟨by rw[<- r.length];exact z,?_⟩)
 have hf:H1 s1.heap.objs.size=none:=I1.hok.fresh (zC _)
 refine⟨.ref s1.heap.objs.size,upd H1 s1.heap.objs.size (.lst xs),I1.laid (t':=s1.toks) (fun b u e=>qx _ e) (zC _) ?_,rfl,q _ hf⟩
 exact⟨z,us,0,r,qA _ rfl⟩
end
abbrev Sp:=List V->Hp->VK->XK->Prop
abbrev CXT:=List Env->Hp->Shared->XK->Value->Shared->Prop
structure zeh(P:Program)(w:World)(K:PySem.W.Frag)(mg:Str->Option Value)(base:Heap)(A:Around)(outer:List Env)(s:Shared)(H:Hp):Prop where
 frames:A.frames=some outer
 mod:Mod K mg base
 bs:∀b o,base.get? b=some o->s.heap.get? b=some o/\H b=none
 bsz:base.objs.size<=s.heap.objs.size
 funs:s.heap.FunFrames base outer
 frf:∀b∈frs outer,H b=none
 hok:HOk P w H s.heap
 bare:AllBare s.gens
def CE(outer:List Env)(P:Program)(w:World)(H:Hp)(s:Shared)(Q:VK)(u:Value)(s':Shared):Prop:=
 ∃v H',s'.os=s.os/\AllBare s'.gens/\Un (frs outer) [] H H' s.heap s'.heap/\HOk P w H' s'.heap/\RelV v u/\Q v H'
def CR(CX:CXT)(outer:List Env)(P:Program)(w:World)(H:Hp)(s:Shared)(Q:VK)(E:XK)(r:Result)(s':Shared):Prop:=
 match r with
 | .ok (.ret u)=>CE outer P w H s Q u s'
 | .ok _=>False
 | .error e=>CX outer H s E e s'
structure qS(P:Program)(w:World)(K:PySem.W.Frag)(mg:Str->Option Value)(base:Heap)(CX:CXT)(k:Nat)(f:Addr)(fd:FuncData)(ps:List Str)(sp:Sp):Prop where
 len:∀vs H Q E,sp vs H Q E->vs.length=ps.length
 run:∀(A:Around) (outer:List Env) (s:Shared) (H:Hp) (args:Args) (us:List Value) (vs:List V) (Q:VK) (E:XK),Room k A->zeh P w K mg base A outer s H->BindsTo s fd args (ps.zip us)->Vals vs us->sp vs H Q E ->
  codeAny (model P w) A (.call (.ref f) args) (CR CX outer P w H s Q E) s
section
variable{X:Cx}{pins:List (Addr×Obj)}{σ:St}{H:Hp}{s s':Shared}
theorem Inv.env0(I:Inv X pins σ H s):zeh X.prog X.w X.K X.mg X.base X.A X.stack s H:=
 ⟨I.ok.frames,I.ok.mod,I.bs,jt I.ok.bsz I.sz,I.stack,I.stkFree,I.hok,I.bare⟩
theorem Inv.after{Q:VK}{u:Value}(I:Inv X pins σ H s)(h:CE X.stack X.prog X.w H s Q u s'):EP X pins σ Q u s':=by
 obtain⟨v,H',os,bare,un,hok,r,q⟩:=h
 obtain⟨hh,g,d,t,os'⟩:=s'
 obtain rfl:os'=s.os:=os
 exact⟨v,H',I.call (h':=hh) (g':=g) (d':=d) (t':=t) (ch:=[]) un hok bare (fun b z=>absurd z (by simp)),r,q⟩
end
def zek(sp:Sp)(dvs:List V)(E:XK)(t:TA):TE:=fun σ H Q=>t σ H fun vs H1=>sp (vs++dvs) H1 Q E
def Binds(K:PySem.W.Frag)(fd:FuncData)(ps:List Str)(ds:List Value):Prop:=
 ∀(s:Shared) (us:List Value),K.In s.heap->(us++ds).length=ps.length->BindsTo s fd ⟨us,[]⟩ (ps.zip (us++ds))
theorem Binds.all{K:PySem.W.Frag}{fd:FuncData}{ps:List Str}(h:∀us:List Value,us.length=ps.length->bindArgs fd ⟨us,[]⟩=pure (ps.zip us)):Binds K fd ps []:=fun s us _ hl=>by
 rw[xL] at hl ⊢
 exact .of_eq (h us hl)
def W5(CX:CXT)(X:Cx)(E:XK):Prop:=∀(pins:List (Addr×Obj)) (σ:St) (H:Hp) (s:Shared) (e:Value) (s':Shared),Inv X pins σ H s->CX X.stack H s E e s'->X.xe e s'
section
variable{X:Cx}{CX:CXT}{k:Nat}{f C:Addr}{fd:FuncData}{ps:List Str}{sp:Sp}{dvs:List V}{ds:List Value}{E:XK}{x m:Str}{p pos apos:Pos}{e o:Expr}{es:List Expr}{ta:TE}{t:TA}
theorem zeX{pins:List (Addr×Obj)}{σ:St}{H:Hp}{s:Shared}{Q:VK}{us:List Value}{vs:List V}(F:qS X.prog X.w X.K X.mg X.base CX k f fd ps sp)(hr:Room k X.A)(hb:Binds X.K fd ps ds)(hd:Vals dvs ds)(hx:W5 CX X E)
  (I:Inv X pins σ H s) (r:Vals vs us) (h:sp (vs++dvs) H Q E):wpAny (model X.prog X.w) X.A (call (.ref f) us) (EP X pins σ Q) X.xe s:=by
 have r2:Vals (vs++dvs) (us++ds):=r.append hd
 have hl:(us++ds).length=ps.length:=by rw[<- r2.length];exact F.len _ _ _ _ h
 refine wpAny_call (codeAny_mono (F.run X.A X.stack s H ⟨us,[]⟩ (us++ds) (vs++dvs) Q E hr I.env0 (hb s us I.kIn hl) r2 h) fun r s' hq=>?_)
 cases r with
 | error e=>exact hx pins σ H s e s' I hq
 | ok fl=>
  cases fl with
  | ret u=>exact I.after hq
  | next=>exact False.elim hq
  | brk=>exact False.elim hq
  | cont=>exact False.elim hq
theorem zdz(F:qS X.prog X.w X.K X.mg X.base CX k f fd ps sp)(hr:Room k X.A)(hg:Gl X x)(hm:X.mg x=some (.ref f))(hk:PySem.W.keepIn X.K (.ref f)=true)(hb:Binds X.K fd ps ds)(hd:Vals dvs ds)(hx:W5 CX X E)
  (ha:PA X (e::es) t) (hdb:(x==("__debug__" : Str))=false:=by decide) (he:starEach (e::es) X.env=(false,eval e X.env)::starEach es X.env:=by rfl) (hpl:(backTo pos (starEach es X.env)).any (·.1)=false:=by rfl) :
  PE X (.Call (.Name x p) (e::es) [] pos) (zek sp dvs E t):=by
 intro pins s σ H Q I h
 refine wpAny_Call_Name_kw (zdZ I hg hm ?_ hdb)
 refine PySem.W.callWith_K (h₀:=X.base) I.ok.mod.kin hk (thn (ha pos pins s σ H _ I h) fun us s1 ⟨vs,H1,I1,r,q⟩=>⟨I1.kIn,?_⟩) he hpl
 exact zeX F hr hb hd hx I1 r q
structure Mk(K:PySem.W.Frag)(C f:Addr):Prop where
 makes:PySem.W.makesIn K C=true
 init:PySem.W.findIn K (.ref C) "__init__" = some (some (.ref f))
 fn:PySem.W.isFn K (.ref f)=true
 kp:PySem.W.keepIn K (.ref C)=true
end
section
variable{X:Cx}{CX:CXT}{k:Nat}{f C:Addr}{fd:FuncData}{ps ks:List Str}{sp:Sp}{E:XK}{x m:Str}{p pos apos kpos:Pos}{e o:Expr}{es:List Expr}{kws:List Keyword}{te ta:TE}{t tk:TA}{nm:Option Str}
structure KBinds(K:PySem.W.Frag)(fd:FuncData)(ps ks:List Str)(g:List Value->List Value->List Value)(gV:List V->List V->List V):Prop where
 to:∀(s:Shared) (us ws:List Value),K.In s.heap->(g us ws).length=ps.length->BindsTo s fd ⟨us,ks.zip ws⟩ (ps.zip (g us ws))
 rel:∀{vs:List V} {us:List Value} {zs:List V} {ws:List Value},Vals vs us->Vals zs ws->Vals (gV vs zs) (g us ws)
variable{g:List Value->List Value->List Value}{gV:List V->List V->List V}
end
structure zI(N P:List Str)(sc:Scope):Prop where
 kind:sc.kind=.function
 co:sc.isCoroutine=false
 gen:sc.isGenerator=false
 nd:N.Nodup
 pre:N.take P.length=P
 par:∀x∈P,sc.names.lookup x=some .local\/sc.names.lookup x=some .cell
 nofree:∀y∈sc.names,y.2≠.free
theorem JR{kindOf:Str->Option NameKind}{x:Str}:∀{binds:List (Str×Value)} {m:Str->Option Value},(∀v,(x,v)∉binds)->bindL kindOf binds m x=m x
 | [],_,_=>rfl
 | (n,v)::r,m,h=>by
  unfold bindL
  rw[JR fun w hw=>h w (jE _ hw)]
  split
  ·have:x≠n:=by rintro rfl;exact h v jD
   simp[this]
  ·rfl
theorem JT{kindOf:Str->Option NameKind}{x:Str}:∀{binds:List (Str×Value)} {m:Str->Option Value},(∀v,(x,v)∉binds)->bindC kindOf binds m x=m x
 | [],_,_=>rfl
 | (n,v)::r,m,h=>by
  unfold bindC
  rw[JT fun w hw=>h w (jE _ hw)]
  split
  ·rfl
  ·have:x≠n:=by rintro rfl;exact h v jD
   simp[this]
theorem JS{kindOf:Str->Option NameKind}{x:Str}{v:Value}:∀{P:List Str} {vs:List Value} {i:Nat} {m:Str->Option Value},P.Nodup->P[i]? =some x->vs[i]? =some v->kindOf x=some .local ->
  bindL kindOf (P.zip vs) m x=some v
 | [],_,_,_,_,h,_,_=>by simp at h
 | _::_,[],_,_,_,_,h,_=>by simp at h
 | p::P,w::vs,0,m,nd,h1,h2,hk=>by
  simp at h1 h2;subst h1;subst h2
  show bindL kindOf ((p,w)::P.zip vs) m p=_
  unfold bindL
  rw[JR fun v hv=>(QV.mp nd).1 (List.of_mem_zip hv).1,if_pos hk]
  simp
 | p::P,w::vs,i+1,m,nd,h1,h2,hk=>by
  show bindL kindOf ((p,w)::P.zip vs) m x=_
  unfold bindL
  exact JS (i:=i) (QV.mp nd).2 (by simpa using h1) (by simpa using h2) hk
theorem JU{kindOf:Str->Option NameKind}{x:Str}{v:Value}:∀{P:List Str} {vs:List Value} {i:Nat} {m:Str->Option Value},P.Nodup->P[i]? =some x->vs[i]? =some v->kindOf x≠some .local ->
  bindC kindOf (P.zip vs) m x=some v
 | [],_,_,_,_,h,_,_=>by simp at h
 | _::_,[],_,_,_,_,h,_=>by simp at h
 | p::P,w::vs,0,m,nd,h1,h2,hk=>by
  simp at h1 h2;subst h1;subst h2
  show bindC kindOf ((p,w)::P.zip vs) m p=_
  unfold bindC
  rw[JT fun v hv=>(QV.mp nd).1 (List.of_mem_zip hv).1,if_neg hk]
  simp
 | p::P,w::vs,i+1,m,nd,h1,h2,hk=>by
  show bindC kindOf ((p,w)::P.zip vs) m x=_
  unfold bindC
  exact JU (i:=i) (QV.mp nd).2 (by simpa using h1) (by simpa using h2) hk
def ZA(N:List Str)(vs:List V):St:=vs.map some++List.replicate (N.length-vs.length) none
def V4(CX:CXT)(P:Program)(w:World)(K:PySem.W.Frag)(mg:Str->Option Value)(base:Heap)(N:List Str)(qual:Str)(scope:Scope)(f:Addr)(cd:Value)(A:Around)(outer:List Env)(s:Shared)(H:Hp)(E:XK):Cx where
 prog:=P
 w:=w
 K:=K
 mg:=mg
 base:=base
 A:=A.deeper (envOfC qual scope s.heap.objs.size f cd)
 N:=N
 s₀:=s
 H₀:=H
 env:=envOfC qual scope s.heap.objs.size f cd
 outer:=outer
 stack:=envOfC qual scope s.heap.objs.size f cd::outer
 ex:=[]
 calm:=true
 fn:=fun _=>true
 pn:=[]
 xe:=fun e s'=>wpAny (model P w) (A.deeper (envOfC qual scope s.heap.objs.size f cd)) (leaving (envOfC qual scope s.heap.objs.size f cd) e) (fun _ s''=>CX outer H s E e s'') (fun e' s''=>CX outer H s E e' s'') s'
theorem V5{sc:Scope}{n:Nat}{x:Str}(h:sc.names.lookup x=some .cell):∃c,(cellsFrom n sc.names []).lookup x=some c:=by
 have q:=PySem.W.cellsFrom_some sc.names n [] (.inl h)
 exact Option.isSome_iff_exists.mp q
theorem za4{CX:CXT}{P:Program}{w:World}{K:PySem.W.Frag}{mg:Str->Option Value}{base:Heap}{N ps:List Str}{qual:Str}{scope:Scope}{f:Addr}{cd:Value}{A:Around}{outer:List Env}{s s1:Shared}{H:Hp}{E:XK}{us:List Value}{vs:List V}
  (S:zI N ps scope) (hd:A.handled=none) (e0:zeh P w K mg base A outer s H) (hl:vs.length=ps.length) (r:Vals vs us)
  (x:InCallC s s.heap.objs.size (bindL (envOfC qual scope s.heap.objs.size f cd).kindOf (ps.zip us) fun _=>none) (cellsFrom (s.heap.objs.size+1) scope.names []) (bindC (envOfC qual scope s.heap.objs.size f cd).kindOf (ps.zip us) fun _=>none) s1) :
  Inv (V4 CX P w K mg base N qual scope f cd A outer s H E) [] (ZA N vs) H s1:=by
 have hpl:ps.length<=N.length:=by have:=congrArg List.length S.pre;rw[z9] at this;omega
 obtain⟨h1,tk,rfl,hk⟩:=x.done
 have noA:∀b:Addr,b∉(V4 CX P w K mg base N qual scope f cd A outer s H E).ex:=fun b z=>absurd (show b∈([]:List Addr) from z) (by simp)
 refine⟨⟨e0.mod,S.kind,rfl,rfl,zC _,fun y z c h1 h2=>?_,fun y hy=>?_,fun y c _ h=>?_,fun _=>hd,Around.frames_deeper e0.frames,.inr ⟨rfl,rfl⟩,fun b z=>absurd z (noA b),e0.bs,e0.bsz,fun b _ _=>noA b,fun b z=>absurd z (noA b),e0.funs,e0.frf⟩,
  rfl,e0.bare,Un.kept hk,⟨_,x.toInCall.ns,fun i y v h1 h2 h3=>?_⟩,fun y c h=>⟨_,x.cell y c h⟩,e0.hok.fresh (zC _),fun y c h=>?_,fun p hp=>absurd (show p∈([]:List (Addr×Obj)) from hp) (by simp),e0.hok.kept hk,?_⟩
 ·exact name_of_addr x.apart (vV h1) (vV h2)
 ·have hy:scope.names.lookup y=some .cell\/scope.names.lookup y=some .free:=hy
  rcases hy with hy | hy
  ·exact V5 hy
  ·exact absurd rfl (S.nofree _ (vV hy))
 ·exact Nat.le_of_lt (x.above y c (vV h))
 ·have hi:i<vs.length:=by
   unfold ZA at h2
   by_cases hi:i<vs.length
   ·exact hi
   ·rw[vF (by simpa using hi)] at h2
    rw[List.getElem?_replicate] at h2
    split at h2<;>cases h2
  have ha:vs[i]? =some v:=by
   unfold ZA at h2
   rw[vW (by simpa using hi),qr] at h2
   cases e:vs[i]? with
   | none=>rw[e] at h2;cases h2
   | some a=>rw[e] at h2;cases h2;rfl
  obtain⟨u,hu,rv⟩:=r.get ha
  have hp:ps[i]? =some y:=by
   rw[<- S.pre,List.getElem?_take_of_lt (by omega)];exact h1
  have ndP:ps.Nodup:=by rw[<- S.pre];exact S.nd.sublist (List.take_sublist _ _)
  refine⟨u,rv,?_⟩
  rcases S.par y (jl hp) with k | k
  ·exact .inl ⟨k,JS ndP hp hu k⟩
  ·obtain⟨c,e⟩:=V5 (n:=s.heap.objs.size+1) k
   refine .inr ⟨.inl k,c,e,?_⟩
   have q:=x.cell y c e
   rw[JU ndP hp hu (by show scope.names.lookup y≠_;rw[k];decide)] at q
   exact q
 ·exact e0.hok.fresh (Nat.le_of_lt (x.above y c (vV h)))
 ·unfold ZA
  show _=N.length
  rw[qJ,zq,w8]
  omega
theorem zgT{CX:CXT}{P:Program}{w:World}{K:PySem.W.Frag}{mg:Str->Option Value}{base:Heap}{k:Nat}{f:Addr}{name qual:Str}{params:Arguments}{body:List Stmt}{scope:Scope}{dV kV doc pm cdv ct oc:Value}{an od:Option Addr}
  {osl:Array (Option Value)} {N ps:List Str} {sp:Sp} (lk:K.lookup f=some ⟨oc,od,.func (PySem.W.fnOf name qual params body scope dV kV doc pm an cdv ct),osl⟩) (hcd:PySem.W.codeIn K cdv qual=true) (S:zI N ps scope)
  (len:∀vs H Q E,sp vs H Q E->vs.length=ps.length)
  (hbody:∀(A:Around) (outer:List Env) (s:Shared) (H:Hp) (vs:List V) (Q:VK) (E:XK),Room k (A.deeper (envOfC qual scope s.heap.objs.size f cdv))->sp vs H Q E ->
   ∃t,PSs (V4 CX P w K mg base N qual scope f cdv A outer s H E) body t/\t { nx:=fun _ H'=>Q .non H',rt:=Q } (ZA N vs) H) :
  qS P w K mg base CX (k+1) f (PySem.W.fnOf name qual params body scope dV kV doc pm an cdv ct) ps sp:=by
 refine⟨len,fun A outer s H args us vs Q E hr e0 hb r hsp=>?_⟩
 have hl:=len _ _ _ _ hsp
 have KX:K.In s.heap:=e0.mod.kin.keeps fun b o e=>(e0.bs b o e).1
 have lim:s.heap.NoLimit:=e0.mod.nolimit.keeps fun b o e=>(e0.bs b o e).1
 have hkind:∀y∈ps.zip us,scope.names.lookup y.1=some .local\/(scope.names.lookup y.1=some .cell/\((cellsFrom (s.heap.objs.size+1) scope.names []).lookup y.1).isSome=true):=fun ⟨n,v⟩ hy=>by
  rcases S.par n (List.of_mem_zip hy).1 with q | q
  ·exact .inl q
  ·exact .inr ⟨q,PySem.W.cellsFrom_some _ _ _ (.inl q)⟩
 refine codeAny_call_function hr.depth (KX _ _ lk) rfl S.co S.gen rfl (PySem.W.codeRec_of KX hcd) (hb _ _ _ _ ?_)
 refine wpAny_newFunctionEnv_cells S.kind hkind fun env he s1 x=>?_
 subst he
 refine⟨lim.keeps x.toInCall.keep,codeAny_func ?_⟩
 obtain⟨t,ht,hq⟩:=hbody A outer s H vs Q E (hr.deeper _) hsp
 have I:Inv (V4 CX P w K mg base N qual scope f cdv A outer s H E) [] (ZA N vs) H s1:=za4 S hr.hd e0 hl r x
 refine jI (ht [] s1 (ZA N vs) H _ I hq) (fun fl s' hs=>?_) fun e s' hs=>hs
 have fin:∀{σ':St} {H':Hp} {v:V} {u:Value},Inv (V4 CX P w K mg base N qual scope f cdv A outer s H E) [] σ' H' s'->RelV v u->Q v H'->CE outer P w H s Q u s':=
  fun {σ' H' v u} J rv q=>⟨v,H',J.os,J.bare,J.base,J.hok,rv,q⟩
 cases fl with
 | ret u=>
  obtain⟨v,σ',H',J,rv,q⟩:=hs
  exact fin J rv q
 | next=>
  obtain⟨σ',H',J,q⟩:=hs
  exact fin (v:=V.non) (u:=Value.none) J rfl q
 | brk=>
  obtain⟨_,_,_,q⟩:=hs
  exact False.elim q
 | cont=>
  obtain⟨_,_,_,q⟩:=hs
  exact False.elim q
section
variable{X:Cx}{x:Str}{p pos:Pos}{e:Expr}{es:List Expr}{t:TA}{id T:String}{r:List V->Hp->VK->Prop}
def tCB(r:List V->Hp->VK->Prop)(t:TA):TE:=fun σ H Q=>t σ H fun vs H1=>r vs H1 Q
theorem zj(hc:jF X (.builtin id) r)(hg:Gl X x)(hm:X.mg x=none)(hv:bootBuiltins x=some (.builtin id))(ha:PA X (e::es) t)(hn:x ≠ "__name__" :=by decide)(hdb:(x==("__debug__" : Str))=false:=by decide)
  (he:starEach (e::es) X.env=(false,eval e X.env)::starEach es X.env:=by rfl) (hpl:(backTo pos (starEach es X.env)).any (·.1)=false:=by rfl):PE X (.Call (.Name x p) (e::es) [] pos) (tCB r t):=by
 intro pins s σ H Q I h
 refine wpAny_Call_Name_kw (vO I hg hm hv ?_ hn hdb)
 exact PyProof.Rows.callWith_builtin1 (thn (ha pos pins s σ H _ I h) fun us s1 ⟨vs,H1,I1,r1,q1⟩=>hc pins s1 σ H1 vs us Q I1 r1 q1) he hpl
theorem zY(hc:jF X (.type T) r)(hg:Gl X x)(hm:X.mg x=none)(hv:bootBuiltins x=some (.type T))(ha:PA X (e::es) t)(hn:x ≠ "__name__" :=by decide)(hdb:(x==("__debug__" : Str))=false:=by decide)
  (he:starEach (e::es) X.env=(false,eval e X.env)::starEach es X.env:=by rfl) (hpl:(backTo pos (starEach es X.env)).any (·.1)=false:=by rfl):PE X (.Call (.Name x p) (e::es) [] pos) (tCB r t):=by
 intro pins s σ H Q I h
 refine wpAny_Call_Name_kw (vO I hg hm hv ?_ hn hdb)
 exact QQ (thn (ha pos pins s σ H _ I h) fun us s1 ⟨vs,H1,I1,r1,q1⟩=>hc pins s1 σ H1 vs us Q I1 r1 q1) he hpl
end
end L2
namespace HT
open PySem PyProof.Rows
section
open PySem.SeqAt
open PySem.AutoSeq1 (wpAny_loadPart')
open PySem.MeetsSeq PySem.MeetsSeq2 PySem.MeetsSeq3
end
section
variable{prog:Program}{w:World}{A:Around}{E:Value->Shared->Prop}{s:Shared}
theorem cat_tup{t b:Addr}{vs ws:List Value}{Q:Value->Shared->Prop}(ht:IsTup s.heap t vs.toArray)(hb:IsTup s.heap b ws.toArray)(hv:vs≠[])
  (h1:ws=[]->Q (.ref t) s) (h2:ws≠[]->Q (.ref s.heap.objs.size) { s with heap:=s.heap.push { cls:=.type "tuple",data:=.seq (vs++ws).toArray } })
  (hsz:vs.length+ws.length<=sizeLine):wpAny (model prog w) A (binaryOp .Add (.ref t) (.ref b)) Q E s:=by
 obtain⟨⟨cls,dd,data,sl⟩,ho,hc,n,hd⟩:=id ht
 obtain⟨⟨cls2,dd2,data2,sl2⟩,ho2,hc2,n2,hd2⟩:=id hb
 simp only at hc hd hc2 hd2
 subst hc hd hc2 hd2
 have e:vs.toArray++ws.toArray=(vs++ws).toArray:=by simp
 by_cases hw:ws=[]
 ·exact concat_meets ⟨_,ho,rfl⟩ ⟨_,ho2,rfl⟩ noFill_tuple_add seq_tuple_add WT WV (WW _ _)
   (tuple_addW1 t b vs.toArray ws.toArray n n2 dd dd2 sl sl2 (by simpa using hv) (by simp[hw])) ⟨ho,ho2,h1 hw⟩
 ·refine concat_meets ⟨_,ho,rfl⟩ ⟨_,ho2,rfl⟩ noFill_tuple_add seq_tuple_add WT WV (WW _ _)
   (tuple_addW2 t b vs.toArray ws.toArray n n2 dd dd2 sl sl2 (by simpa using hv) (by simpa using hw) (by rw[qk,qk];exact hsz)) ⟨ho,ho2,?_⟩
  rw[e]
  exact h2 hw
def sIx(n d:Nat):Option Int->Nat
 | none=>d
 | some v=>if v<0 then(v+(n:Int)).toNat else min v.toNat n
theorem sIx_none(n d:Nat):sIx n d none=d:=rfl
theorem sIx_nat(n d k:Nat):sIx n d (some (k:Int))=min k n:=by
 show(if(k:Int)<0 then((k:Int)+(n:Int)).toNat else min (k:Int).toNat n)=min k n
 rw[if_neg (by omega),vf]
theorem zeW(n d:Nat)(hd:d<=n)(o:Option Int):sIx n d o<=n:=by
 cases o with
 | none=>exact hd
 | some v=>
  show(if v<0 then(v+(n:Int)).toNat else min v.toNat n)<=n
  by_cases hv:v<0
  ·rw[if_pos hv];omega
  ·rw[if_neg hv];exact Nat.min_le_right _ _
theorem zac(v:Int)(n d:Nat):(if v<0 then max (v+(n:Int)) 0 else min v (n:Int))=((sIx n d (some v):Nat):Int):=by
 show(if v<0 then max (v+(n:Int)) 0 else min v (n:Int))=(((if v<0 then(v+(n:Int)).toNat else min v.toNat n):Nat):Int)
 by_cases hv:v<0
 ·simp only[if_pos hv];omega
 ·simp only[if_neg hv];omega
theorem W2(lo hi:Option Int)(n:Nat):Builtin.Slice.sliceAdjust lo hi 1 (n:Int)=(((sIx n 0 lo:Nat):Int),((sIx n n hi:Nat):Int)):=by
 have h1:¬((1:Int)<0):=by omega
 unfold Builtin.Slice.sliceAdjust
 simp only[h1,if_false]
 refine Prod.ext ?_ ?_
 ·cases lo with
  | none=>rfl
  | some v=>exact zac v n 0
 ·cases hi with
  | none=>rfl
  | some v=>exact zac v n n
theorem Ww(i j:Nat):Builtin.Slice.slicePlaces (i:Int) (j:Int) 1=j-i:=by
 unfold Builtin.Slice.slicePlaces
 have h1:(1:Int)>0:=by omega
 simp only[h1,if_true,Int.ediv_one]
 split<;>omega
theorem Qh{v:Value}{o:Option Int}{Q:Option Int->Shared->Prop}(p:IsPart v o)(h:Q o s):wpAny (model prog w) A (Builtin.Slice.slicePartIndex v) Q E s:=by
 cases p with
 | none=>exact slicePart_none h
 | int i t=>exact slicePart_int h
theorem Zh{sl:Addr}{vl vu:Value}{lo hi:Option Int}{n:Nat}{Q:Int×Int×Nat->Shared->Prop}(hs:s.heap.IsSliceOf sl vl vu .none)(pl:IsPart vl lo)(pu:IsPart vu hi)
  (h:Q (((sIx n 0 lo:Nat):Int),1,sIx n n hi-sIx n 0 lo) s):wpAny (model prog w) A (Builtin.Slice.sliceApplied (.ref sl) (pure (n:Int))) Q E s:=by
 obtain⟨os,hos,hcs,hds⟩:=id hs
 unfold Builtin.Slice.sliceApplied Builtin.Slice.sliceFields
 refine zk (zk (xD hos hds (x:=vl) rfl (zk (xD hos hds (x:=vu) rfl (zk (xD hos hds (x:=.none) rfl (zD ?_)))))))
 refine zk (slicePart_none ?_)
 show wpAny _ _ (if((1:Int)==0)=true then _ else _) _ _ s
 rw[if_neg (by decide)]
 refine zk (Qh pl (zk (Qh pu (zk (zD ?_)))))
 show wpAny _ _ (match Builtin.Slice.sliceAdjust lo hi 1 (n:Int) with | (lo,hi)=>pure (lo,(1:Int),Builtin.Slice.slicePlaces lo hi 1)) _ _ s
 rw[W2 lo hi n]
 show wpAny _ _ (pure (((sIx n 0 lo:Nat):Int),(1:Int),Builtin.Slice.slicePlaces ((sIx n 0 lo:Nat):Int) ((sIx n n hi:Nat):Int) 1)) _ _ s
 rw[Ww]
 exact zD h
theorem zcg(xs:Array Value)(i k:Nat):((List.range k).filterMap fun(m:Nat)=>xs[((i:Int)+(m:Int)*1).toNat]?).toArray=((xs.toList.drop i).take k).toArray:=by
 have e:(fun(m:Nat)=>xs[((i:Int)+(m:Int)*1).toNat]?)=fun m=>xs[i+m]?:=by
  funext m
  have:((i:Int)+(m:Int)*1).toNat=i+m:=by omega
  rw[this]
 rw[e]
 have:=pick_run xs i k
 rw[List.filterMap_map] at this
 have e2:((fun x=>xs[x]?)∘fun x=>i+x)=fun m=>xs[i+m]?:=rfl
 rw[e2] at this
 rw[this]
theorem getItem_tuple_cut{t sl:Addr}{items:Array Value}{vl vu:Value}{lo hi:Option Int}{Q:Value->Shared->Prop}(ht:IsTup s.heap t items)(hs:s.heap.IsSliceOf sl vl vu .none)(pl:IsPart vl lo)(pu:IsPart vu hi)
  (hw:¬(sIx items.size 0 lo=0/\sIx items.size items.size hi=items.size))
  (h:Q (.ref s.heap.objs.size) { s with heap:=s.heap.push { cls:=.type "tuple",data:=.seq ((items.toList.drop (sIx items.size 0 lo)).take (sIx items.size items.size hi-sIx items.size 0 lo)).toArray } })
  (hsz:items.size<=sizeLine):wpAny (model prog w) A (getItem (.ref t) (.ref sl)) Q E s:=by
 have htake:sizeOk (.seq ((items.toList.drop (sIx items.size 0 lo)).take (sIx items.size items.size hi-sIx items.size 0 lo)).toArray):=by
  show((items.toList.drop (sIx items.size 0 lo)).take (sIx items.size items.size hi-sIx items.size 0 lo)).toArray.size<=sizeLine
  rw[qk,z9,xF,vE]
  omega
 have hj:sIx items.size items.size hi<=items.size:=zeW _ _ (zC _) hi
 obtain⟨os,hos,hcs,hds⟩:=id hs
 have hTs:s.TypeIs (.ref sl) "slice" :=⟨os,hos,hcs⟩
 unfold getItem
 try with_reducible refine vb ?_
 first| refine zk (zD ?_) | skip
 refine zk (wpAny_sequenceKey ht.typeIs (by decide) ?_)
 refine zk (y8 (name:=Str.ofString "__getitem__") ht.typeIs W0
  (vD W0 ht.typeIs entry_tuple_getitem ?_ (args_tuple_getitem _ _)))
 show wpAny _ _ (Builtin.Tuple.tupleItemsOf (.ref t) >>= _) _ _ s
 refine zk (tupleItemsOf_ ht ?_)
 refine zk (wpAny_typeOf hTs ?_)
 rw[if_pos (by decide)]
 refine zk (Zh hs pl pu ?_)
 have hno:¬((((sIx items.size 0 lo:Nat):Int)==0&&(1:Int)==1&&(sIx items.size items.size hi-sIx items.size 0 lo)==items.size)=true):=by
  intro q
  rw[qV,qV] at q
  have q1:((sIx items.size 0 lo:Nat):Int)=0:=eq_of_beq q.1.1
  have q2:sIx items.size items.size hi-sIx items.size 0 lo=items.size:=eq_of_beq q.2
  exact hw ⟨by omega,by omega⟩
 show wpAny _ _ (if(((sIx items.size 0 lo:Nat):Int)==0&&(1:Int)==1&&(sIx items.size items.size hi-sIx items.size 0 lo)==items.size)=true then _ else _) _ _ s
 rw[if_neg hno,zcg]
 first
  | exact zk (m:=Builtin.Tuple.tupleExact _) (vg (zD ⟨_,rfl,zD h⟩) htake)
  | exact zk (m:=Builtin.Tuple.tupleExact _) (vg (zk (zD (zD ⟨_,rfl,zD h⟩))) htake)
  | exact zk (zk (m:=Builtin.Tuple.tupleExact _) (vg (zD (zD ⟨_,rfl,zD h⟩)) htake))
  | exact zk (zk (m:=Builtin.Tuple.tupleExact _) (vg (zD ⟨_,rfl,zD h⟩) htake))
end
end HT
namespace L2
open PySem PySem.Spec PyProof.Rows
abbrev TO:=St->Hp->(Option Int->Hp->Prop)->Prop
def PO(X:Cx)(e:Option Expr)(t:TO):Prop:=
 ∀(pins:List (Addr×Obj)) (s:Shared) (σ:St) (H:Hp) (Q:Option Int->Hp->Prop),Inv X pins σ H s->t σ H Q ->
  wpAny (model X.prog X.w) X.A (evalPart e X.env) (fun u s'=>∃o H',Inv X pins σ H' s'/\IsPart u o/\Q o H') X.xe s
def zdb:TO:=fun _ H Q=>Q none H
def zfS(t:TE):TO:=fun σ H Q=>t σ H fun x H1=>IsI x H1 fun i H1=>Q (some i) H1
theorem Qz{ns:List Int}:∀{us:List Value},Vals (ns.map V.int) us->IntsAre us ns:=by
 induction ns with
 | nil=>intro us r;rw[Zr] at r;cases r;exact .nil
 | cons n ns ih=>
  intro us r
  rw[jP] at r
  cases r with
  | cons r1 r2=>
   obtain⟨t,e⟩:=r1
   subst e
   exact .cons n t (ih r2)
section
variable{X:Cx}{e:Expr}{te:TE}{lo hi:Option Expr}{tl th:TO}{pos p2:Pos}
theorem qy:PO X none zdb:=by
 intro pins s σ H Q I h
 rw[evalPart_none]
 exact zD ⟨none,H,I,.none,h⟩
theorem zP(h:PE X e te):PO X (some e) (zfS te):=by
 intro pins s σ H Q I hw
 rw[evalPart_some]
 refine thn (h pins s σ H _ I hw) fun u s1 ⟨x,H1,I1,r1,q1⟩=>?_
 obtain⟨i,rfl,q⟩:=q1
 obtain⟨t,rfl⟩:=r1
 exact⟨some i,H1,I1,.int i t,q⟩
def SlR(X:Cx)(r:V->Option Int->Option Int->Hp->VK->Prop):Prop:=
 ∀(pins:List (Addr×Obj)) (s:Shared) (σ:St) (H:Hp) (x:V) (v vl vu:Value) (lo hi:Option Int) (sl:Addr) (Q:VK),Inv X pins σ H s->RelV x v->s.heap.IsSliceOf sl vl vu .none->IsPart vl lo->IsPart vu hi->r x lo hi H Q ->
  ∃T id,typeLookup (.type T) "__getitem__" = pure (some (.builtin id))/\s.TypeIs v T/\wpAny (model X.prog X.w) X.A (getItem v (.ref sl)) (EP X pins σ Q) X.xe s
def tSl(r:V->Option Int->Option Int->Hp->VK->Prop)(te:TE)(tl th:TO):TE:=fun σ H Q=>te σ H fun x H1=>tl σ H1 fun l H2=>th σ H2 fun u H3=>r x l u H3 Q
theorem zM{r:V->Option Int->Option Int->Hp->VK->Prop}(hr:SlR X r)(he:PE X e te)(hl:PO X lo tl)(hu:PO X hi th):PE X (.Subscript e (.Slice lo hi none p2) pos) (tSl r te tl th):=by
 intro pins s σ H Q I h
 refine Subscript_ (thn (he pins s σ H _ I h) fun v s1 ⟨x,H1,I1,r1,q1⟩=>?_)
 refine wpAny_Slice (thn (hl pins s1 σ H1 _ I1 q1) fun vl s2 ⟨l,H2,I2,pl,q2⟩=>thn (hu pins s2 σ H2 _ I2 q2) fun vu s3 ⟨u,H3,I3,pu,q3⟩=>?_)
 rw[evalPart_none]
 refine zD ?_
 have I4:Inv X pins σ H3 { s3 with heap:=s3.heap.push { cls:=.type "slice",data:=.fields #[vl,vu,.none] } }:=I3.kept (t':=s3.toks) fun b ob q=>qx _ q
 obtain⟨T,id,hT,ht,hg⟩:=hr pins { s3 with heap:=s3.heap.push { cls:=.type "slice",data:=.fields #[vl,vu,.none] } } σ H3 x v vl vu l u s3.heap.objs.size Q I4 r1 (Heap.IsSliceOf.new ..) pl pu q3
 show wpAny (model X.prog X.w) X.A (subscriptTail e (.Slice lo hi none p2) v (.ref s3.heap.objs.size)) (EP X pins σ Q) X.xe { s3 with heap:=s3.heap.push { cls:=.type "slice",data:=.fields #[vl,vu,.none] } }
 exact tail_any (ops:=[.ref s3.heap.objs.size,v]) ht hT hg (by with_unfolding_all rfl)
def zQ(xs:List V)(lo hi:Option Int):List V:=(xs.drop (HT.sIx xs.length 0 lo)).take (HT.sIx xs.length xs.length hi-HT.sIx xs.length 0 lo)
theorem wn(xs:List V)(lo hi:Option Int):(zQ xs lo hi).length<=xs.length:=by
 unfold zQ
 rw[z9,xF]
 omega
inductive zgk(K:PySem.W.Frag)(x:V)(lo:Option Int)(hi:Option Int)(H:Hp)(Q:VK):Prop
 | mk (a xs:_) (_:x=.ref a) (_:SqT K H a xs) (_:¬(HT.sIx xs.length 0 lo=0/\HT.sIx xs.length xs.length hi=xs.length)) (_:∀p,H p=none->Q (.ref p) (upd H p (.tup (zQ xs lo hi)))):zgk K x lo hi H Q
theorem Ws:SlR X (zgk X.K):=by
 intro pins s σ H x v vl vu lo hi sl Q I rx hs pl pu h
 obtain⟨a,xs,rfl,hx,hw,q⟩:=h
 cases rx
 obtain⟨its,r,ht,hz⟩:=I.tuple hx
 have hlen:its.toArray.size=xs.length:=by rw[qk];exact r.length.symm
 refine⟨"tuple",_,W0.lookup,ht.typeIs,?_⟩
 refine HT.getItem_tuple_cut ht hs pl pu (by rw[hlen];exact hw) ?_ (by rw[hlen];exact hz)
 rw[hlen]
 refine⟨.ref s.heap.objs.size,_,I.laid (t':=s.toks) (o:=.tup (zQ xs lo hi)) (fun b ob q=>qx _ q) (zC _) ?_,rfl,q _ (I.hok.fresh (zC _))⟩
 exact⟨jt (wn xs lo hi) hz,_,(r.drop (HT.sIx xs.length 0 lo)).take (HT.sIx xs.length xs.length hi-HT.sIx xs.length 0 lo),⟨IsTup.new _ _,_,qA _ rfl,rfl⟩⟩
inductive zeE(K:PySem.W.Frag)(x:V)(y:V)(H:Hp)(Q:VK):Prop
 | mk (a b xs ys:_) (_:x=.ref a) (_:y=.ref b) (_:SqT K H a xs) (_:SqT K H b ys) (_:xs≠[]) (_:xs.length+ys.length<=sizeLine) (_:(ys=[]->Q (.ref a) H)) (_:(ys≠[]->∀p,H p=none->Q (.ref p) (upd H p (.tup (xs++ys))))):zeE K x y H Q
theorem Vals.nil_iff{xs:List V}{us:List Value}(r:Vals xs us):us=[]↔xs=[]:=by
 cases r with
 | nil=>simp
 | cons _ _=>simp
theorem zdB:OpR X (binaryOp .Add) (zeE X.K):=by
 intro pins s σ H x y v u Q I rx ry h
 obtain⟨a,b,xs,ys,rfl,rfl,ha,hb,hx,hz,q1,q2⟩:=h
 cases rx
 cases ry
 obtain⟨its,r1,p1,_⟩:=I.tuple ha
 obtain⟨its2,r2,p2,_⟩:=I.tuple hb
 refine HT.cat_tup p1 p2 (fun z=>hx (r1.nil_iff.mp z)) (fun z=>⟨.ref a,H,I,rfl,q1 (r2.nil_iff.mp z)⟩) (fun z=>?_) (by rw[<- r1.length,<- r2.length];exact hz)
 refine⟨.ref s.heap.objs.size,_,I.laid (t':=s.toks) (o:=.tup (xs++ys)) (fun b ob q=>qx _ q) (zC _) ?_,rfl,q2 (fun w=>z (r2.nil_iff.mpr w)) _ (I.hok.fresh (zC _))⟩
 exact⟨by rw[qJ];exact hz,_,r1.append r2,⟨IsTup.new _ _,_,qA _ rfl,rfl⟩⟩
end
def ixN(n:Nat)(i:Int):Option Nat:=if 0<=i then(if i<n then some i.toNat else none) else if -(n:Int)<=i then some (i+n).toNat else none
def atI{α:Type}(xs:List α)(i:Int):Option α:=(ixN xs.length i).bind fun j=>xs[j]?
theorem Y0{n:Nat}{i:Int}{j:Nat}(h:ixN n i=some j):seqIndex? i n=some j/\j<n/\ -(n:Int)<=i/\i<n:=by
 unfold ixN at h
 by_cases h0:0<=i
 ·rw[if_pos h0] at h
  by_cases h1:i<n
  ·rw[if_pos h1] at h
   have e:i.toNat=j:=jJ h
   exact⟨by rw[seqIndex_of h0 h1,e],by omega,by omega,h1⟩
  ·rw[if_neg h1] at h;cases h
 ·rw[if_neg h0] at h
  by_cases h1:-(n:Int)<=i
  ·rw[if_pos h1] at h
   have e:(i+n).toNat=j:=jJ h
   exact⟨by rw[seqIndex_neg (by omega) h1,e],by omega,h1,by omega⟩
  ·rw[if_neg h1] at h;cases h
theorem XE{α:Type}{xs:List α}{i:Int}{v:α}(h:atI xs i=some v):∃j,seqIndex? i xs.length=some j/\xs[j]? =some v/\j<xs.length/\ -(xs.length:Int)<=i/\i<xs.length:=by
 unfold atI at h
 cases e:ixN xs.length i with
 | none=>rw[e] at h;cases h
 | some j=>
  rw[e] at h
  obtain⟨h1,h2,h3,h4⟩:=Y0 e
  exact⟨j,h1,h,h2,h3,h4⟩
theorem qI{α:Type}{xs:List α}{j:Nat}{v:α}(h:xs[j]? =some v):atI xs (j:Int)=some v:=by
 have hj:j<xs.length:=(zN.mp h).1
 have e:ixN xs.length (j:Int)=some j:=by
  unfold ixN
  rw[if_pos (by omega),if_pos (by omega)];simp
 unfold atI;rw[e];exact h
theorem zc4{α:Type}(xs:List α)(v:α):atI (xs++[v]) (-1)=some v:=by
 have hl:(xs++[v]).length=xs.length+1:=by simp
 have e:ixN (xs++[v]).length (-1)=some xs.length:=by
  unfold ixN
  rw[hl,if_neg (by decide),if_pos (by omega)]
  congr 1
  omega
 unfold atI
 rw[e]
 show(xs++[v])[xs.length]? =some v
 simp
def zef(b:Expr):Prop:=∀o i,subscripted b false o i=operate [o,i] (getItem o i)
def IxR(X:Cx)(r:R2):Prop:=
 ∀(value slice:Expr) (pins:List (Addr×Obj)) (s:Shared) (σ:St) (H:Hp) (x y:V) (v u:Value) (Q:VK),Inv X pins σ H s->RelV x v->RelV y u->r x y H Q ->
  subscripted slice false v u=operate [v,u] (getItem v u)->wpAny (model X.prog X.w) X.A (subscriptTail value slice v u) (EP X pins σ Q) X.xe s
def MtR(X:Cx)(id:String)(r:V->List V->Hp->VK->Prop):Prop:=
 ∀(pins:List (Addr×Obj)) (s:Shared) (σ:St) (H:Hp) (x:V) (xs:List V) (v:Value) (us:List Value) (Q:VK),Inv X pins σ H s->RelV x v->Vals xs us->r x xs H Q ->
  wpAny (model X.prog X.w) X.A (call (.builtin id) (v::us)) (EP X pins σ Q) X.xe s
section
variable{X:Cx}{a b:Expr}{ta tb:TE}{pos:Pos}
theorem zE{r:R2}(hr:IxR X r)(ha:PE X a ta)(hb:PE X b tb)(hs:zef b):PE X (.Subscript a b pos) (tOp r ta tb):=by
 intro pins s σ H Q I h
 exact Subscript_ (zfG ha hb I h fun v u s2 x y H2 I2 rx ry q=>hr a b pins s2 σ H2 x y v u Q I2 rx ry q (hs _ _))
inductive ze2(K:PySem.W.Frag)(x:V)(y:V)(H:Hp)(Q:VK):Prop
 | mk (p xs i v:_) (_:x=.ref p) (_:y=.int i) (_:SqL K H p xs) (_:atI xs i=some v) (_:Q v H):ze2 K x y H Q
inductive ze1(K:PySem.W.Frag)(x:V)(y:V)(H:Hp)(Q:VK):Prop
 | mk (p xs i v:_) (_:x=.ref p) (_:y=.int i) (_:SqT K H p xs) (_:atI xs i=some v) (_:Q v H):ze1 K x y H Q
inductive zgm(x:V)(y:V)(H:Hp)(Q:VK):Prop
 | mk (z i c:_) (_:x=.str z) (_:y=.int i) (_:z.length<=sizeLine) (_:atI z.cps.toList i=some c) (_:Q (.str ⟨#[c]⟩) H):zgm  x y H Q
theorem zS:IxR X (ze2 X.K):=by
 intro value slice pins s σ H x y v u Q I rx ry h hs
 obtain⟨p,xs,i,z,rfl,rfl,hq,he,q⟩:=h
 cases rx
 obtain⟨t,rfl⟩:=ry
 obtain⟨its,r,pl,hz⟩:=I.list hq
 obtain⟨j,h1,h2,h3,h4,h5⟩:=XE he
 obtain⟨w,ew,rw'⟩:=r.get h2
 have hl:=r.length
 have hn:=Zj
 have fin:EP X pins σ Q w s:=⟨z,H,I,rw',q⟩
 by_cases h0:0<=i
 ·have hj:i.toNat=j:=by
   rw[seqIndex_of h0 h5] at h1
   exact jJ h1
  exact item_listR pl.isList h0 (by omega) (by rw[hj];simpa using ew) fin hs
 ·have hj:(i+(its.toArray.size:Int)).toNat=j:=by
   rw[seqIndex_neg (by omega) h4] at h1
   rw[qk,<- hl]
   exact jJ h1
  exact subscriptTail_builtinR (x:=w) pl.isList.typeIs slot_list_getitem.lookup
   (wpAny_getItem_list_neg (Q:=fun r s'=>r=w/\EP X pins σ Q r s') pl.isList (by omega) (by rw[qk]<;>omega) (by omega) (by rw[hj];simpa using ew) ⟨rfl,fin⟩) hs
theorem qD:IxR X (ze1 X.K):=by
 intro value slice pins s σ H x y v u Q I rx ry h hs
 obtain⟨p,xs,i,z,rfl,rfl,hq,he,q⟩:=h
 cases rx
 obtain⟨t,rfl⟩:=ry
 obtain⟨its,r,pl,hz⟩:=I.tuple hq
 obtain⟨j,h1,h2,h3,h4,h5⟩:=XE he
 obtain⟨w,ew,rw'⟩:=r.get h2
 have hl:=r.length
 have hn:=Zj
 have fin:EP X pins σ Q w s:=⟨z,H,I,rw',q⟩
 exact subscriptTail_builtinR (x:=w) pl.typeIs slot_tuple_getitem.lookup
  (getItem_tuple (j:=j) (Q:=fun r s'=>r=w/\EP X pins σ Q r s') pl (by omega) (by omega) (by rw[qk,<- hl];exact h1) (by simpa using ew) ⟨rfl,fin⟩) hs
theorem zcM:IxR X zgm:=by
 intro value slice pins s σ H x y v u Q I rx ry h hs
 obtain⟨z,i,c,rfl,rfl,hz,he,q⟩:=h
 obtain⟨t,rfl⟩:=rx
 obtain⟨t',rfl⟩:=ry
 obtain⟨j,h1,h2,h3,h4,h5⟩:=XE he
 have hl:z.cps.toList.length=z.length:=by simp[Str.length]
 rw[hl] at h1 h4 h5
 have hn:=Zj
 exact tail_any (typeIs_str s z t) slot_str_getitem.lookup (getItem_str (c:=c) (by
  have e1:decide (i< -(2^63:Int))=false:=jQ (by omega)
  have e2:decide (i≥2^63)=false:=jQ (by omega)
  rw[e1,e2,Bool.or_false]) (by rw[h1];simpa using h2) ⟨.str ⟨#[c]⟩,H,I.tok _,⟨_,rfl⟩,q⟩) hs
theorem WD(its:List Value)(n j:Nat)(u:Value):Obj.mapSeq (·.setIfInBounds j u) { cls:=.type "list",data:=.seq its.toArray n }={ cls:=.type "list",data:=.seq (its.set j u).toArray n }:=by
 simp[Obj.mapSeq]
theorem Inv.lst{pins:List (Addr×Obj)}{σ:St}{H:Hp}{s:Shared}{p:Addr}{xs:List V}(I:Inv X pins σ H s)(h:H p=some (.lst xs)) :
  ∃(its:List Value) (n:Nat),Vals xs its/\s.heap.get? p=some { cls:=.type "list",data:=.seq its.toArray n }/\xs.length<=sizeLine:=by
 obtain⟨z,its,n,r,e⟩:=I.hok p _ h
 exact⟨its,n,r,e,z⟩
theorem Inv.lstUpd{pins:List (Addr×Obj)}{σ:St}{H:Hp}{s:Shared}{p:Addr}{xs ys:List V}{its its':List Value}{n n':Nat}{f:Obj->Obj}(I:Inv X pins σ H s)(h:H p=some (.lst xs))
  (ho:s.heap.get? p=some { cls:=.type "list",data:=.seq its.toArray n }) (hf:f { cls:=.type "list",data:=.seq its.toArray n }={ cls:=.type "list",data:=.seq its'.toArray n' }) (r:Vals ys its') (hz:ys.length<=sizeLine) (t:Nat) :
  Inv X pins σ (upd H p (.lst ys)) { s with heap:=s.heap.update p f,toks:=t }:=by
 have e:(s.heap.update p f).get? p=some { cls:=.type "list",data:=.seq its'.toArray n' }:=by
  rw[JW f ho (by rw[hf]<;>rfl),hf]
 refine I.write (x:=p) (e:=p) (by rw[h];trivial) (.inl rfl) (fun b u hb q=>(WS _ _ (qH hb)).trans q) ⟨_,e⟩ ?_
 exact⟨hz,its',n',r,e⟩
inductive zeB(o:V)(i:V)(v:V)(H:Hp)(Q:Hp->Prop):Prop
 | mk (p xs k j:_) (_:o=.ref p) (_:i=.int k) (_:H p=some (.lst xs)) (_:ixN xs.length k=some j) (_:Q (upd H p (.lst (xs.set j v)))):zeB  o i v H Q
theorem vt:zgZ X zeB:=by
 intro pins s σ H o i v ov iv u Q I ro ri rv h
 obtain⟨p,xs,k,j,rfl,rfl,hp,hj,q⟩:=h
 cases ro
 obtain⟨t,rfl⟩:=ri
 obtain⟨its,n,r,ho,hz⟩:=I.lst hp
 obtain⟨h1,h2,h3,h4⟩:=Y0 hj
 have hl:=r.length
 have hn:=Zj
 have I':Inv X pins σ (upd H p (.lst (xs.set j v))) { s with heap:=s.heap.update p (Obj.mapSeq (·.setIfInBounds j u)) }:=
  I.lstUpd hp ho (WD its n j u) (r.set rv j) (by rw[List.length_set];exact hz) s.toks
 by_cases h0:0<=k
 ·have hk:k.toNat=j:=by
   rw[seqIndex_of h0 h4] at h1
   exact jJ h1
  exact PySem.W.ki_setAt ho h0 (by omega) (by rw[qk,<- hl];exact h4) (by rw[hk];exact⟨_,I',q⟩)
 ·have hk:(k+(its.toArray.size:Int)).toNat=j:=by
   rw[seqIndex_neg (by omega) h3] at h1
   rw[qk,<- hl]
   exact jJ h1
  exact PySem.W.ki_setBack ho (by omega) (by rw[qk,<- hl];exact h3) (by omega) (by rw[hk];exact⟨_,I',q⟩)
theorem J9(lo hi:Option Int)(n:Nat):(sliceBounds lo hi none n).1=((HT.sIx n 0 lo:Nat):Int)/\(sliceBounds lo hi none n).2.1=((HT.sIx n n hi:Nat):Int)/\(sliceBounds lo hi none n).2.2=1:=by
 refine⟨?_,?_,rfl⟩
 ·cases lo with
  | none=>simp[sliceBounds,HT.sIx]
  | some i=>
   simp only[sliceBounds,HT.sIx,Option.getD_none,show(1:Int)>0 by decide,if_true]
   by_cases h:i<0
   ·simp only[h,if_true]<;>omega
   ·simp only[h,if_false]<;>omega
 ·cases hi with
  | none=>simp[sliceBounds,HT.sIx]
  | some i=>
   simp only[sliceBounds,HT.sIx,Option.getD_none,show(1:Int)>0 by decide,if_true]
   by_cases h:i<0
   ·simp only[h,if_true]<;>omega
   ·simp only[h,if_false]<;>omega
theorem Jb(its:List Value)(lo hi:Option Int):slicePick its.toArray lo hi none=((its.drop (HT.sIx its.length 0 lo)).take (HT.sIx its.length its.length hi-HT.sIx its.length 0 lo)).toArray:=by
 obtain⟨h1,h2,h3⟩:=J9 lo hi its.toArray.size
 unfold slicePick
 rw[h1,h2,h3]
 simp only[sliceRange_one,pick_run,qk]<;>rfl
inductive ze0(K:PySem.W.Frag)(x:V)(lo:Option Int)(hi:Option Int)(H:Hp)(Q:VK):Prop
 | mk (a xs:_) (_:x=.ref a) (_:SqL K H a xs) (_:∀p,H p=none->Q (.ref p) (upd H p (.lst (zQ xs lo hi)))):ze0 K x lo hi H Q
theorem qO:SlR X (ze0 X.K):=by
 intro pins s σ H x v vl vu lo hi sl Q I rx hs pl pu h
 obtain⟨a,xs,rfl,hx,q⟩:=h
 cases rx
 obtain⟨its,r,ht,hz⟩:=I.list hx
 have hlen:=r.length
 refine⟨"list",_,slot_list_getitem.lookup,ht.isList.typeIs,?_⟩
 refine wpAny_getItem_list_slice ht.isList hs pl pu .none (by simp) ?_ (by rw[qk]<;>omega)
 rw[Jb,<- hlen]
 refine⟨.ref s.heap.objs.size,_,I.laid (t':=s.toks) (o:=.lst (zQ xs lo hi)) (fun b ob q=>qx _ q) (zC _) ?_,rfl,q _ (I.hok.fresh (zC _))⟩
 exact⟨jt (wn xs lo hi) hz,_,0,(r.drop (HT.sIx xs.length 0 lo)).take (HT.sIx xs.length xs.length hi-HT.sIx xs.length 0 lo),qA _ rfl⟩
def xK:V->Bool
 | .non=>true
 | .bl _=>true
 | .int _=>true
 | .str _=>true
 | _=>false
def eqV:V->V->Bool
 | .non,.non=>true
 | .bl a,.bl b=>a==b
 | .bl a,.int b=>(if a then 1 else 0)==b
 | .int a,.bl b=>a==(if b then 1 else 0)
 | .int a,.int b=>a==b
 | .str a,.str b=>a==b
 | _,_=>false
theorem WL{A:Around}{s:Shared}{y x:V}{u v:Value}(ry:RelV y u)(rx:RelV x v)(fy:xK y=true)(fx:xK x=true):SeqAt.EqAt A s u v (eqV y x):=by
 cases y with
 | non=>
  cases ry
  cases x with
  | non=>cases rx;exact SeqAt.EqAt.same _
  | bl b=>cases rx;exact SeqAt.EqAt.none_bool b
  | int b=>obtain⟨t,rfl⟩:=rx;exact SeqAt.EqAt.none_int b t
  | str b=>obtain⟨t,rfl⟩:=rx;exact SeqAt.EqAt.none_str b t
  | _=>exact absurd (show false=true from fx) jf
 | bl a=>
  cases ry
  cases x with
  | non=>cases rx;exact SeqAt.EqAt.bool_none a
  | bl b=>cases rx;exact SeqAt.EqAt.bool_bool a b
  | int b=>obtain⟨t,rfl⟩:=rx;exact SeqAt.EqAt.bool_int a b t
  | str b=>obtain⟨t,rfl⟩:=rx;exact SeqAt.EqAt.bool_str a b t
  | _=>exact absurd (show false=true from fx) jf
 | int a=>
  obtain⟨t',rfl⟩:=ry
  cases x with
  | non=>cases rx;exact SeqAt.EqAt.int_none a t'
  | bl b=>cases rx;exact SeqAt.EqAt.int_bool a t' b
  | int b=>obtain⟨t,rfl⟩:=rx;exact SeqAt.EqAt.int_int a t' b t
  | str b=>obtain⟨t,rfl⟩:=rx;exact SeqAt.EqAt.int_str a t' b t
  | _=>exact absurd (show false=true from fx) jf
 | str a=>
  obtain⟨t',rfl⟩:=ry
  cases x with
  | non=>cases rx;exact SeqAt.EqAt.str_none a t'
  | bl b=>cases rx;exact SeqAt.EqAt.str_bool a t' b
  | int b=>obtain⟨t,rfl⟩:=rx;exact SeqAt.EqAt.str_int a t' b t
  | str b=>obtain⟨t,rfl⟩:=rx;exact SeqAt.EqAt.str_str a t' b t
  | _=>exact absurd (show false=true from fx) jf
 | _=>exact absurd (show false=true from fy) jf
def eqU(x:V)(u:Value):Bool:=match u with
 | .none=>eqV .non x
 | .bool b=>eqV (.bl b) x
 | .int i _=>eqV (.int i) x
 | .str z _=>eqV (.str z) x
 | _=>false
theorem zcS{x y:V}{u:Value}(r:RelV y u)(f:xK y=true):eqU x u=eqV y x:=by
 cases y with
 | non=>cases r;rfl
 | bl b=>cases r;rfl
 | int i=>obtain⟨t,rfl⟩:=r;rfl
 | str z=>obtain⟨t,rfl⟩:=r;rfl
 | _=>exact absurd (show false=true from f) jf
theorem yQ{x:V}:∀{xs:List V} {us:List Value},Vals xs us->xs.all xK=true->us.any (eqU x)=xs.any fun y=>eqV y x
 | _,_,.nil,_=>rfl
 | y::xs,u::us,.cons r t,f=>by
  rw[List.all_cons,qV] at f
  rw[wY,wY,zcS r f.1,yQ t f.2]
theorem wc{A:Around}{s:Shared}{x:V}{v:Value}(rx:RelV x v)(fx:xK x=true):∀{xs:List V} {us:List Value},Vals xs us->xs.all xK=true->∀u∈us,SeqAt.EqAt A s u v (eqU x u)
 | _,_,.nil,_=>fun u hu=>by cases hu
 | y::xs,u::us,.cons r t,f=>fun u' hu=>by
  rw[List.all_cons,qV] at f
  rcases qq.mp hu with rfl | hu
  ·rw[zcS r f.1];exact WL r rx f.1 fx
  ·exact wc rx fx t f.2 u' hu
def inV(x:V)(xs:List V):Bool:=xs.any fun y=>eqV y x
inductive rIn(K:PySem.W.Frag)(neg:Bool)(x:V)(y:V)(H:Hp)(Q:VK):Prop
 | mk (p xs:_) (_:y=.ref p) (_:(SqL K H p xs\/SqT K H p xs)) (_:xK x=true) (_:xs.all xK=true) (_:Q (.bl (if neg then !inV x xs else inV x xs)) H):rIn K neg x y H Q
theorem wJ:OpR X (compareOp .In) (rIn X.K false):=by
 intro pins s σ H x y v u Q I rx ry h
 obtain⟨p,xs,rfl,hq,fx,fs,q⟩:=h
 cases ry
 rcases hq with hq | hq
 ·obtain⟨its,r,pl,hz⟩:=I.list hq
  refine SeqAt.in_listAt (eqU x) pl.isList (fun w hw=>wc rx fx r fs w (by simpa using hw)) ⟨.bl _,H,I,rfl,?_⟩
  rw[show its.toArray.any (eqU x)=its.any (eqU x) by simp,yQ r fs]
  exact q
 ·obtain⟨its,r,pl,hz⟩:=I.tuple hq
  refine SeqAt.in_tupleAt (eqU x) pl (fun w hw=>wc rx fx r fs w (by simpa using hw)) ⟨.bl _,H,I,rfl,?_⟩
  rw[show its.toArray.any (eqU x)=its.any (eqU x) by simp,yQ r fs]
  exact q
theorem Xf:OpR X (compareOp .NotIn) (rIn X.K true):=by
 intro pins s σ H x y v u Q I rx ry h
 obtain⟨p,xs,rfl,hq,fx,fs,q⟩:=h
 cases ry
 rcases hq with hq | hq
 ·obtain⟨its,r,pl,hz⟩:=I.list hq
  refine SeqAt.notIn_listAt (eqU x) pl.isList (fun w hw=>wc rx fx r fs w (by simpa using hw)) ⟨.bl _,H,I,rfl,?_⟩
  rw[show its.toArray.any (eqU x)=its.any (eqU x) by simp,yQ r fs]
  exact q
 ·obtain⟨its,r,pl,hz⟩:=I.tuple hq
  refine SeqAt.notIn_tupleAt (eqU x) pl (fun w hw=>wc rx fx r fs w (by simpa using hw)) ⟨.bl _,H,I,rfl,?_⟩
  rw[show its.toArray.any (eqU x)=its.any (eqU x) by simp,yQ r fs]
  exact q
inductive x8(K:PySem.W.Frag)(xs:List V)(H:Hp)(Q:VK):Prop
 | mk (p ys:_) (_:xs=[.ref p]) (_:(SqL K H p ys\/SqT K H p ys)) (_:Q (.int ys.length) H):x8 K xs H Q
theorem zp:jF X (.builtin "len") (x8 X.K):=by
 intro pins s σ H xs us Q I r h
 obtain⟨p,ys,rfl,hq,q⟩:=h
 obtain⟨u,rfl,rx⟩:=xJ r
 cases rx
 have hn:=Zj
 rcases hq with hq | hq
 ·obtain⟨its,r',pl,hz⟩:=I.list hq
  have hlen:=r'.length
  exact Calls.call_len_list pl.isList (by simp only[qk]<;>omega) ⟨.int ys.length,H,I.tok _,⟨s.toks+1,by rw[qk,hlen]⟩,q⟩
 ·obtain⟨its,r',pl,hz⟩:=I.tuple hq
  have hlen:=r'.length
  exact len_tuple pl (by simp only[qk]<;>omega) ⟨.int ys.length,H,I.tok _,⟨s.toks+1,by rw[qk,hlen]⟩,q⟩
inductive wE(xs:List V)(H:Hp)(Q:VK):Prop
 | mk (z:_) (_:xs=[.str z]) (_:z.length<=sizeLine) (_:Q (.int z.length) H):wE xs H Q
theorem XA:jF X (.builtin "len") (wE):=by
 intro pins s σ H xs us Q I r h
 obtain⟨z,rfl,hz,q⟩:=h
 obtain⟨u,rfl,t,rfl⟩:=xJ r
 have hn:=Zj
 exact len_str (by omega) ⟨.int z.length,H,I.tok _,⟨_,rfl⟩,q⟩
inductive wD(K:PySem.W.Frag)(xs:List V)(H:Hp)(Q:VK):Prop
 | mk (p ys:_) (_:xs=[.ref p]) (_:(SqL K H p ys\/SqT K H p ys)) (_:∀l,H l=none->Q (.ref l) (upd H l (.lst ys))):wD K xs H Q
theorem xO:jF X (.type "list") (wD X.K):=by
 intro pins s σ H xs us Q I r h
 obtain⟨p,ys,rfl,hq,q⟩:=h
 obtain⟨u,rfl,rx⟩:=xJ r
 cases rx
 have fin:∀(its:List Value),Vals ys its->ys.length<=sizeLine->∀(h':Heap) (c':Nat),(∀b o',s.heap.get? b=some o'->h'.get? b=some o') ->
   h'.get? s.heap.objs.size=some { cls:=.type "list",dict:=none,data:=.seq its.toArray c',slots:=#[] }->EP X pins σ Q (.ref s.heap.objs.size) { s with heap:=h' }:=fun its r' hz h' c' kp e=>
  ⟨.ref s.heap.objs.size,_,I.laid (t':=s.toks) kp (zC _) (show ObjOk X.prog X.w _ h' _ (.lst ys) from ⟨hz,its,c',r',e⟩),rfl,q _ (I.hok.fresh (zC _))⟩
 rcases hq with hq | hq
 ·obtain⟨its,r',pl,hz⟩:=I.list hq
  have hlen:=r'.length
  obtain⟨o,ho,hc,n,hd⟩:=pl.isList
  exact call_list_seq p (.inl rfl) ho hc hd (fun h' c' kp e=>fin its r' hz h' c' kp e) (by simp only[qk]<;>omega)
 ·obtain⟨its,r',pl,hz⟩:=I.tuple hq
  have hlen:=r'.length
  obtain⟨o,ho,hc,n,hd⟩:=pl
  exact call_list_seq p (.inr rfl) ho hc hd (fun h' c' kp e=>fin its r' hz h' c' kp e) (by simp only[qk]<;>omega)
inductive xI(K:PySem.W.Frag)(xs:List V)(H:Hp)(Q:VK):Prop
 | mk (p ys:_) (_:xs=[.ref p]) (_:((SqL K H p ys/\∀l,H l=none->Q (.ref l) (upd H l (.tup ys)))\/(SqT K H p ys/\Q (.ref p) H))):xI K xs H Q
theorem qN:jF X (.type "tuple") (xI X.K):=by
 intro pins s σ H xs us Q I r h
 obtain⟨p,ys,rfl,h⟩:=h
 obtain⟨u,rfl,rx⟩:=xJ r
 cases rx
 rcases h with ⟨hq,q⟩ | ⟨hq,q⟩
 ·obtain⟨its,r',pl,hz⟩:=I.list hq
  have hlen:=r'.length
  refine call_tuple_list pl.isList (fun h' kp=>?_) (by simp only[qk]<;>omega)
  have I1:Inv X pins σ H { s with heap:=h' }:=I.kept (t':=s.toks) kp
  have I2:Inv X pins σ (upd H h'.objs.size (.tup ys)) { s with heap:=h'.push { cls:=.type "tuple",data:=.seq its.toArray } }:=
   I1.laid (t':=s.toks) (fun b o e=>qx _ e) (zC _) (show ObjOk X.prog X.w _ _ _ (.tup ys) from ⟨hz,its,r',⟨IsTup.new _ _,_,qA _ rfl,rfl⟩⟩)
  exact⟨.ref h'.objs.size,_,I2,rfl,q _ (I1.hok.fresh (zC _))⟩
 ·obtain⟨its,r',pl,hz⟩:=I.tuple hq
  exact call_tuple_same pl ⟨.ref p,H,I,rfl,q⟩
def tyV(K:PySem.W.Frag)(T:String)(x:V)(H:Hp):Prop:=match x with
 | .str _=>T = "str"
 | .int _=>T = "int"
 | .ref p=>(T = "list" /\ ∃xs,SqL K H p xs)\/(T = "tuple" /\ ∃o,K.lookup p=some o/\o.cls=.type "tuple" /\ o.dict=none) \/
   (T = "dict" /\ ((∃kvs,H p=some (.dK kvs))\/∃kvs,H p=some (.dT kvs)))\/(T = "set" /\ ∃S n,H p=some (.set S n))
 | _=>False
theorem zeM{pins:List (Addr×Obj)}{σ:St}{H:Hp}{s:Shared}{T:String}{x:V}{v:Value}(I:Inv X pins σ H s)(r:RelV x v)(ty:tyV X.K T x H) :
  s.TypeIs v T/\∀a,v=.ref a->∃ob,s.heap.get? a=some ob/\ob.dict=none:=by
 cases x with
 | str z=>
  obtain⟨t,rfl⟩:=r
  cases(show T = "str" from ty)
  exact⟨typeIs_str s z t,fun _ e=>nomatch e⟩
 | int i=>
  obtain⟨t,rfl⟩:=r
  cases(show T = "int" from ty)
  exact⟨typeIs_int s i t,fun _ e=>nomatch e⟩
 | ref p=>
  cases r
  rcases ty with ⟨rfl,xs,hq⟩ | ⟨rfl,o,hk,hc,hd⟩ | ⟨rfl,hk⟩ | ⟨rfl,S,n,hk⟩
  ·obtain⟨its,_,pl,_⟩:=I.list hq
   refine⟨pl.isList.typeIs,fun a e=>?_⟩
   cases e
   obtain⟨o,n,e,c,hd,_⟩:=pl
   exact⟨o,e,hd⟩
  ·refine⟨⟨o,I.kIn p o hk,hc⟩,fun a e=>?_⟩
   cases e
   exact⟨o,I.kIn _ o hk,hd⟩
  ·have z:∃o,s.heap.get? p=some o/\o.ExactDict:=by
    rcases hk with ⟨kvs,hk⟩ | ⟨kvs,hk⟩
    ·obtain⟨_,_,_,_,o,_,_,e,ex,_⟩:=I.hok p _ hk
     exact⟨o,e,ex⟩
    ·obtain⟨_,_,_,_,o,_,_,e,ex,_⟩:=I.hok p _ hk
     exact⟨o,e,ex⟩
   obtain⟨o,e,ex⟩:=z
   refine⟨⟨o,e,ex.1⟩,fun a e2=>?_⟩
   cases e2
   exact⟨o,e,ex.2.1⟩
  ·obtain⟨o,_,_,_,e,ex,_⟩:=I.hok p _ hk
   refine⟨⟨o,e,ex.1⟩,fun a e2=>?_⟩
   cases e2
   exact⟨o,e,ex.2.1⟩
 | _=>exact False.elim ty
def tBM(K:PySem.W.Frag)(T:String)(r:V->List V->Hp->VK->Prop)(to:TE)(t:TA):TE:=fun σ H Q=>to σ H fun x H1=>tyV K T x H1/\t σ H1 fun xs H2=>r x xs H2 Q
variable{o e:Expr}{es:List Expr}{to:TE}{t:TA}{name:Str}{apos cpos:Pos}{T id:String}{r:V->List V->Hp->VK->Prop}
theorem xz(pa:PlainAttrs T)(slot:Slot T name id)(hty:typeOf (.builtin id)=pure (.type "method_descriptor"))(hm:MtR X id r)(ho:PE X o to)(ha:PA X (e::es) t)
  (hbase:attributeBase o name X.env (eval o X.env)=eval o X.env:=by rfl)
  (hfew:((backTo cpos (starEach (e::es) X.env)).all (fun x=>!x.1)&&(backToKw cpos (keywordEach [] X.env)).all (fun x=>x.1.isSome)
   && decide ((e::es).length+([]:List Keyword).length+(if([]:List Keyword).isEmpty then 0 else 1)<30))=true:=by rfl)
  (hline:(apos.endLine==cpos.line)=true:=by rfl) (hs:starEach (e::es) X.env=(false,eval e X.env)::starEach es X.env:=by rfl) (hplain:(backTo cpos (starEach es X.env)).any (·.1)=false:=by rfl) :
  PE X (.Call (.Attribute o name apos) (e::es) [] cpos) (tBM X.K T r to t):=by
 intro pins s σ H Q I h
 refine wpAny_Call_method_late hbase hfew hline rfl (thn (ho pins s σ H _ I h) fun v s1 ⟨x,H1,I1,r1,ty,q1⟩=>?_)
 obtain⟨h1,h2⟩:=zeM I1 r1 ty
 refine⟨T,id,pa,slot,hty,h1,h2,?_⟩
 have hA:=ha cpos pins s1 σ H1 _ I1 q1
 rw[hs] at hA ⊢
 refine XW (by show(false||(backTo cpos (starEach es X.env)).any (·.1))=false;rw[hplain]<;>rfl) (XT ?_)
 exact thn hA fun us s2 ⟨vs,H2,I2,r2,q2⟩=>hm pins s2 σ H2 x vs v us Q I2 r1 r2 q2
end
def MtM(X:Cx)(id:String)(r:V->List V->Hp->VK->Prop):Prop:=
 ∀(pins:List (Addr×Obj)) (s:Shared) (σ:St) (H:Hp) (x:V) (xs:List V) (v:Value) (us:List Value) (Q:VK),Inv X pins σ H s->RelV x v->Vals xs us->r x xs H Q ->
  wpAny (model X.prog X.w) X.A (call (.builtin id) (v::us)) (EP X pins σ Q) X.xe s
theorem Vals.one:∀{x:V} {us:List Value},Vals [x] us->∃u,us=[u]/\RelV x u
 | _,_,.cons r .nil=>⟨_,rfl,r⟩
theorem Vals.two:∀{x y:V} {us:List Value},Vals [x,y] us->∃u v,us=[u,v]/\RelV x u/\RelV y v
 | _,_,_,.cons r (.cons q .nil)=>⟨_,_,rfl,r,q⟩
theorem Vals.eraseIdx:∀{xs:List V} {us:List Value} (i:Nat),Vals xs us->Vals (xs.eraseIdx i) (us.eraseIdx i)
 | _,_,_,.nil=>.nil
 | _,_,0,.cons _ t=>t
 | _,_,i+1,.cons r t=>.cons r (Vals.eraseIdx i t)
theorem Vals.rep{xs:List V}{us:List Value}(h:Vals xs us):∀k:Nat,Vals (List.replicate k xs).flatten (List.replicate k us).flatten
 | 0=>.nil
 | k+1=>by
  rw[QN,QN,XH,XH]
  exact Vals.append h (Vals.rep h k)
theorem JI(its:List Value):∀(k:Nat) (acc:List Value),
  List.foldl (fun x1 x2=>x1++x2) acc.toArray (List.replicate k its.toArray)=(acc++(List.replicate k its).flatten).toArray
 | 0,acc=>by simp
 | k+1,acc=>by
  have e:acc.toArray++its.toArray=(acc++its).toArray:=by simp
  have e2:(acc++its)++(List.replicate k its).flatten=acc++(List.replicate (k+1) its).flatten:=by
   rw[QN,XH,vU]
  rw[<- e2,<- JI its k (acc++its),<- e,QN,List.foldl_cons]
section
variable{X:Cx}{pins:List (Addr×Obj)}{σ:St}{H:Hp}{s:Shared}{l b:Addr}{xs ys zs:List V}
theorem Inv.lset{its its':List Value}{n:Nat}{f:Array Value->Array Value}{t':Nat}(I:Inv X pins σ H s)(hH:H l=some (.lst xs))
  (e:s.heap.get? l=some { cls:=.type "list",data:=.seq its.toArray n }) (hf:f its.toArray=its'.toArray) (hv:Vals ys its') (hz:ys.length<=sizeLine) :
  Inv X pins σ (upd H l (.lst ys)) { s with heap:=s.heap.update l (Obj.mapSeq f),toks:=t' }:=by
 have q:=PySem.IsL.update e f
 rw[hf] at q
 refine I.write (x:=l) (e:=l) (by rw[hH];exact trivial) (.inl rfl) (fun b' u hb hu=>(WS s.heap (Obj.mapSeq f) (qH hb)).trans hu) ⟨_,q⟩ ?_
 exact⟨hz,its',_,hv,q⟩
theorem Inv.lnew{its:List Value}{t':Nat}(I:Inv X pins σ H s)(hv:Vals ys its)(hz:ys.length<=sizeLine) :
  Inv X pins σ (upd H s.heap.objs.size (.lst ys)) { s with heap:=s.heap.push { cls:=.type "list",data:=.seq its.toArray },toks:=t' }:=
 I.laid (fun _ _ q=>qx _ q) (zC _) ⟨hz,its,0,hv,qA _ rfl⟩
theorem Inv.fresh(I:Inv X pins σ H s):H s.heap.objs.size=none:=I.hok.fresh (zC _)
theorem Inv.lstM(I:Inv X pins σ H s)(hH:H l=some (.lst xs)):xs.length<=sizeLine/\∃(its:List Value) (n:Nat),Vals xs its/\xs.length=its.length/\s.heap.get? l=some { cls:=.type "list",data:=.seq its.toArray n }:=by
 obtain⟨z,its,n,r,e⟩:=I.hok l _ hH
 exact⟨z,its,n,r,r.length,e⟩
theorem Qq{n:Nat}(h:n<=sizeLine):Builtin.List.listTooLong n=false:=by
 unfold Builtin.List.listTooLong
 exact jQ (by omega)
end
section
variable{X:Cx}
inductive YL(x:V)(vs:List V)(H:Hp)(Q:VK):Prop
 | mk (l xs y:_) (_:x=.ref l) (_:vs=[y]) (_:H l=some (.lst xs)) (_:xs.length<sizeLine) (_:Q .non (upd H l (.lst (xs++[y])))):YL  x vs H Q
theorem jz:MtM X "list.append" YL:=by
 intro pins s σ H x vs v us Q I rx rv h
 obtain⟨l,xs,y,rfl,rfl,hH,hz,q⟩:=h
 cases rx
 obtain⟨u,rfl,ru⟩:=rv.one
 obtain⟨z,its,n,r,hl,e⟩:=I.lstM hH
 refine call_meets F.slot_list_append ⟨_,e,rfl⟩ F.entry_list_append (F.args_list_append_2 _ _) (PySem.list_append l its.toArray n u (by rw[qk];omega)) ⟨e,?_⟩
 refine⟨.non,_,I.lset (its':=its++[u]) hH e (by simp) (r.append (.cons ru .nil)) ?_,rfl,q⟩
 rw[qJ,List.length_singleton]
 omega
inductive YJ(x:V)(vs:List V)(H:Hp)(Q:VK):Prop
 | mk (l b xs zs:_) (_:x=.ref l) (_:vs=[.ref b]) (_:H l=some (.lst xs)) (_:H b=some (.lst zs)) (_:xs.length+zs.length<=sizeLine) (_:Q .non (upd H l (.lst (xs++zs)))):YJ  x vs H Q
theorem za0:MtM X "list.extend" YJ:=by
 intro pins s σ H x vs v us Q I rx rv h
 obtain⟨l,b,xs,zs,rfl,rfl,hH,hB,hz,q⟩:=h
 cases rx
 obtain⟨u,rfl,ru⟩:=rv.one
 cases ru
 obtain⟨z,its,n,r,hl,e⟩:=I.lstM hH
 obtain⟨z2,its2,n2,r2,hl2,e2⟩:=I.lstM hB
 have hsz:its.toArray.size+its2.toArray.size<=sizeLine:=by rw[qk,qk];omega
 have hlong:¬(!its.toArray.isEmpty&&Builtin.List.listTooLong (its.toArray.size+its2.toArray.size))=true:=by
  rw[Qq hsz,QS]
  exact jf
 refine call_meets F.slot_list_extend ⟨_,e,rfl⟩ F.entry_list_extend (F.args_list_extend_2 _ _)
  (AutoSeq1.list_extend_list_list_0 l its.toArray n b its2.toArray n2 hlong (by rw[qk];omega) (by omega)) ⟨e,e2,?_⟩
 refine⟨.non,_,I.lset (its':=its++its2) hH e (by simp) (r.append r2) ?_,rfl,q⟩
 rw[qJ]
 omega
inductive zdm(x:V)(y:V)(H:Hp)(Q:VK):Prop
 | mk (l b xs zs:_) (_:x=.ref l) (_:y=.ref b) (_:H l=some (.lst xs)) (_:H b=some (.lst zs)) (_:xs.length+zs.length<=sizeLine) (_:∀p,H p=none->Q (.ref p) (upd H p (.lst (xs++zs)))):zdm  x y H Q
theorem jv:OpR X (binaryOp .Add) zdm:=by
 intro pins s σ H x y v u Q I rx ry h
 obtain⟨l,b,xs,zs,rfl,rfl,hH,hB,hz,q⟩:=h
 cases rx
 cases ry
 obtain⟨z,its,n,r,hl,e⟩:=I.lstM hH
 obtain⟨z2,its2,n2,r2,hl2,e2⟩:=I.lstM hB
 refine PySem.P.add_list e e2 ?_ (by rw[qk,qk];omega)
 have ea:its.toArray++its2.toArray=(its++its2).toArray:=by simp
 rw[ea]
 exact⟨.ref _,_,I.lnew (t':=s.toks) (r.append r2) (by rw[qJ];omega),rfl,q _ I.fresh⟩
inductive zgl(x:V)(y:V)(H:Hp)(Q:VK):Prop
 | mk (l k xs:_) (_:x=.ref l) (_:y=.int k) (_:H l=some (.lst xs)) (_:-(2^63)<=k) (_:k<2^63) (_:xs.length*k.toNat<=sizeLine) (_:∀p,H p=none->Q (.ref p) (upd H p (.lst (List.replicate k.toNat xs).flatten))):zgl  x y H Q
theorem zdX{α:Type}(xs:List α)(k:Nat):(List.replicate k xs).flatten.length=k*xs.length:=by
 induction k with
 | zero=>simp
 | succ k ih=>rw[QN,XH,qJ,ih,Nat.succ_mul,Nat.add_comm]
theorem zfd:OpR X (binaryOp .Mult) zgl:=by
 intro pins s σ H x y v u Q I rx ry h
 obtain⟨l,k,xs,rfl,rfl,hH,h1,h2,hz,q⟩:=h
 cases rx
 obtain⟨t,rfl⟩:=ry
 obtain⟨z,its,n,r,hl,e⟩:=I.lstM hH
 have hlen:its.toArray.size*k.toNat<=sizeLine:=by rw[qk,<- hl];exact hz
 have hcap:¬its.toArray.size*k.toNat>(2^63-1)/8:=by
  have:(sizeLine:Nat)<=(2^63-1)/8:=by decide
  omega
 have hfit:¬(!Builtin.List.listFitsIndex k)=true:=by
  rw[fitsIndex_both h1 h2]
  exact jf
 have hlong:¬Builtin.List.listTooLong (its.toArray.size*k.toNat)=true:=by
  rw[Qq hlen]
  exact jf
 have hnew:List.foldl (fun x1 x2=>x1++x2) #[] (List.replicate (if its.toArray.isEmpty=true then 0 else k.toNat) its.toArray)=(List.replicate k.toNat its).flatten.toArray:=by
  have f0:∀m:Nat,List.foldl (fun x1 x2=>x1++x2) #[] (List.replicate m its.toArray)=(List.replicate m its).flatten.toArray:=fun m=>by
   have:=JI its m []
   rw[ZK] at this
   exact this
  rw[f0]
  cases its with
  | nil=>simp
  | cons a r'=>rw[if_neg (by simp)]
 refine wpAny_binaryOp_repeat_ref (T:= "list") (U:= "int") (by decide) ⟨_,e,rfl⟩ (fun s'=>typeIs_int s' k t) noFill_list_mul F.fills_int_mul F.slot_int_rmul repeat_list F.slot_int_index.lookup
  (call_meets F.slot_int_rmul (typeIs_int s k t) F.entry_int_rmul (F.args_int_rmul_2 _ _) (int___rmul___int_list k t l its.toArray n)
   ⟨e,rfl,⟨_,e,rfl⟩,call_meets F.slot_list_mul ⟨_,e,rfl⟩ F.entry_list_mul (F.args_list_mul_2 _ _) (AutoListH.list___mul___list_int_3 l its.toArray n k t hfit hcap hlong) ⟨e,?_⟩⟩)
 rw[hnew]
 exact⟨.ref _,_,I.lnew (t':=s.toks) (r.rep k.toNat) (by rw[zdX,Nat.mul_comm];exact hz),rfl,q _ I.fresh⟩
end
section
variable{prog:Program}{w:World}{A:Around}{E:Value->Shared->Prop}{s:Shared}
end
section
variable{X:Cx}
end
end L2
namespace Att
open PySem PySem.W PySem.Calls PyProof.Rows
theorem ZY{P:Params}{h:Heap}:∀(ns:List Int) (vs:List Value),WellAll P h vs (ns.map WData.int)->IntsAre vs ns:=by
 intro ns
 induction ns with
 | nil=>
  intro vs w
  rw[Zr] at w
  cases w
  exact .nil
 | cons n ns ih=>
  intro vs w
  rw[jP] at w
  cases w with
  | cons a b=>
   cases a
   exact .cons _ _ (ih _ b)
theorem zaQ{l:OpenLaw}{n:Nat}(hn:l.most=some n){P:Params}{h:Heap}{args:List WData}{vals:List Value}
  (hpre:l.row.toRowW.claim.pre args=true) (hwl:WellAll P h vals args) :
  ∃a vs ns,vals=[Value.ref a]/\args=[WData.list (ns.map WData.int)]/\h.get? a=some { cls:=.type "list",data:=.seq vs.toArray }/\IntsAre vs ns/\ns.length<=n:=by
 have hsh:WShape.hasAll [] args [.list .int]=true:=(pre_splitW hpre).1
 have hc:l.pre.holds [] { args:=args }=true:=(pre_splitW hpre).2
 obtain⟨d,r,rfl,h1,h2⟩:=hasAllW_cons hsh
 obtain rfl:=hasAllW_nil h2
 obtain⟨xs,rfl,h3⟩:=hasW_list h1
 obtain⟨ns,rfl⟩:=items_int h3
 have hlen:ns.length<=n:=by
  unfold OpenLaw.pre at hc
  have h4:(WTm.not (.lt (.lit (.int (n:Int))) (.len (.arg 0)))).holds [] { args:=[.list (ns.map .int)] }=true:=by
   have h4:=(holds_andW hc).1
   rw[hn] at h4
   exact h4
  have h5:=condW_of h4 (w_not (w_lt w_lit (w_len_list (w_arg rfl))))
  rw[zq] at h5
  refine Nat.le_of_not_lt fun q=>?_
  have q':(n:Int)<((ns.length:Nat):Int):=by omega
  first
   | (rw[qF q'] at h5;exact absurd h5 (by decide))
   | (simp at h5;omega)
 cases hwl with
 | cons w1 w2=>
  cases w2
  cases w1 with
  | list ho hall=>exact⟨_,_,ns,rfl,rfl,ho,ZY ns _ hall,hlen⟩
theorem zaT(l:OpenLaw)(args:List WData):l.row.toRowW.claim.post args (.bool true) args=true:=
 postW_of (r:=l.row.toRowW) (X:=(true==true))
  (show WShape.has [] (.bool true) .bool=true by first| rfl | decide | simp[WShape.has,WShape.arms,WShape.armsAll])
  (show(WTm.eq .res (.lit (.bool true))).value [] { args:=args,res:=some (.bool true),after:=args }=some (.bool (true==true)) from w_eq_bool (w_res rfl) w_lit) rfl
theorem attach_call{l:OpenLaw}{n:Nat}{q:Program}{loose:List Str}{XP:(Str->Option Value)->Heap->Prop}{YP:World->Heap->Prop}{d:DefRec}
  (hn:l.most=some n) (hdf:d.params.defaults=[])
  (call:∀(w:World) (s₀ s₁:Shared) (mg mb:Str->Option Value) (fa:Addr) (o:Obj) (pm cd doc:Value) (a:Addr) (vs:List Value) (ns:List Int),
   Ground q loose [] XP w s₀ mg mb s₁.heap->YP w s₁.heap ->
   s₁.heap.get? fa=some o->o.data=.func (docDef d.name d.params d.body d.scope pm cd doc)->s₁.heap.CodeRec cd d.name->mg d.name=some (.ref fa) ->
   s₁.heap.get? a=some { cls:=.type "list",data:=.seq vs.toArray }->IntsAre vs ns->ns.length<=n->s₁.gens=#[] ->
   codeAny (model l.prog w) callerA (.call (.ref fa) ⟨[.ref a],[]⟩) (fun r s'=>r=.ok (.ret (.bool true))/\OldK s₁.heap s'.heap/\s'.os=s₁.os/\AllBare s'.gens) s₁) :
  WalkO q loose XP YP l.row.toRowW d [] (fun f vs=>PySem.call f vs):=by
 intro w s₀ s₁ mg mb G Y fa o pm cd doc dV kV ho hd hcd hD hmg hg args vals as hpre hlay hrd hwl hlo
 obtain rfl:dV=.none:=Dflts.none hD hdf
 obtain rfl:kV=.none:=Dflts.noKw hD
 obtain⟨a,vs,ns,rfl,rfl,hobj,hints,hlen⟩:=zaQ hn hpre hwl
 refine enter_call (codeAny_mono (call w s₀ s₁ mg mb fa o pm cd doc a vs ns G Y ho (fd_plain hd) hcd hmg hobj hints hlen hg) fun r s' hq=>?_)
 obtain⟨rfl,h2,h3,h4⟩:=hq
 exact⟨.inl ⟨.bool true,.bool true,[],rfl,fun _=>rfl,.bool true,zaT l _,fun _=>⟨List.Pairwise.nil,fun _ hm=>(nomatch hm)⟩⟩,h2,h3,h4⟩
section
variable{prog:Program}{w:World}{A:Around}{E:Value->Shared->Prop}{s:Shared}{K:Frag}
def ledger(h:Heap)(L d:Addr):List (Addr×Obj):=(List.range h.objs.size).filterMap fun a=>if a=L\/a=d then none else(h.get? a).map fun o=>(a,o)
end
end Att
namespace L2
open PySem PySem.Spec PyProof.Rows
theorem Ji:∀{vs:List Value} {ns:List Int},IntsAre vs ns->Vals (ns.map V.int) vs
 | _,_,.nil=>.nil
 | _,_,.cons n t h=>.cons ⟨t,rfl⟩ (Ji h)
def zfL(H:Hp):Prop:=∀b,H b=none\/∃o xs,H b=some (.frz o (.lst xs))
theorem zcJ{P:Program}{w:World}{K:PySem.W.Frag}{mg mb:Str->Option Value}{CX:CXT}{k:Nat}{fa a:Addr}{fd:FuncData}{x:Str}{sp:Sp}{s₁:Shared}{vs:List Value}{ns:List Int}
  (KX:K.In s₁.heap) (hns:s₁.heap.Ns mainGlobals mg) (hb:s₁.heap.Ns builtinsNs mb) (hbb:∀x:Str,x ≠ "__name__" -> mb x=bootBuiltins x) (hlim:s₁.heap.NoLimit) (hg:s₁.gens=#[])
  (ha:s₁.heap.get? a=some { cls:=.type "list",data:=.seq vs.toArray }) (hi:IntsAre vs ns) (hl:ns.length<=sizeLine) (hr:Room k callerA)
  (F:∀base:Heap,K.In base->base.Ns mainGlobals mg->qS P w K mg base CX k fa fd [x] sp) (hbind:∀(s:Shared) (u:Value),BindsTo s fd ⟨[u],[]⟩ [(x,u)])
  (hsp:∀H:Hp,zfL H->SqL K H a (ns.map V.int)->sp [.ref a] H (fun v _=>v=.bl true) fun _ _ _=>False)
  (hCX:∀H e s',CX [] H s₁ (fun _ _ _=>False) e s'->False) :
  codeAny (model P w) callerA (.call (.ref fa) ⟨[.ref a],[]⟩) (fun r s'=>r=.ok (.ret (.bool true))/\OldK s₁.heap s'.heap/\s'.os=s₁.os/\AllBare s'.gens) s₁:=by
 have rv:=Ji hi
 have lenV:=hi.length
 have core:∀H:Hp,zfL H->SqL K H a (ns.map V.int)->HOk P w H s₁.heap->(∀b,H b≠none->b=a)->(H a≠none->K.lookup a=none) ->
   codeAny (model P w) callerA (.call (.ref fa) ⟨[.ref a],[]⟩) (fun r s'=>r=.ok (.ret (.bool true))/\OldK s₁.heap s'.heap/\s'.os=s₁.os/\AllBare s'.gens) s₁:=by
  intro H hO hS hok hA hK
  have base_of:∀{b:Addr} {o:Obj},s₁.heap.get? b=some o->H b=none->(Xq s₁.heap H).get? b=some o:=fun e n=>zcP e n
  have noA:∀{b:Addr} {o:Obj} {es:Array DictEntry} {ep:Nat},s₁.heap.get? b=some o->o.data=.dict es ep->H b=none:=fun {b o es ep} e d=>by
   cases q:H b with
   | none=>rfl
   | some u=>
    have e':b=a:=hA b (by rw[q];simp)
    subst e'
    rw[ha] at e;cases e
    have d':Data.seq vs.toArray _=Data.dict es ep:=d
    cases d'
  have nsK:∀{b:Addr} {m:Str->Option Value},s₁.heap.Ns b m->(Xq s₁.heap H).Ns b m:=fun {b m} ⟨o,es,ep,e,d,r⟩=>⟨o,es,ep,base_of e (noA e d),d,r⟩
  have hKb:K.In (Xq s₁.heap H):=fun b o e=>base_of (KX b o e) (by
   cases q:H b with
   | none=>rfl
   | some u=>
    have e':b=a:=hA b (by rw[q];simp)
    subst e'
    rw[hK (by rw[q];simp)] at e;cases e)
  have hM:Mod K mg (Xq s₁.heap H):=⟨hKb,nsK hns,⟨mb,nsK hb,hbb⟩,let ⟨mc,h1,h2⟩:=hlim;⟨mc,nsK h1,h2⟩⟩
  have e0:zeh P w K mg (Xq s₁.heap H) callerA [] s₁ H:=⟨rfl,hM,fun b o e=>zdQ e,wX (za5 _ _),trivial,fun b hb=>absurd (show b∈([]:List Addr) from hb) (by simp),hok,.of_eq hg⟩
  refine codeAny_mono ((F _ hKb (nsK hns)).run callerA [] s₁ H ⟨[.ref a],[]⟩ [.ref a] [.ref a] _ _ hr e0 (hbind s₁ (.ref a)) (.cons rfl .nil) (hsp H hO hS)) fun r s' h=>?_
  cases r with
  | error e=>exact(hCX H e s' h).elim
  | ok fl=>
   cases fl with
   | next=>exact False.elim h
   | brk=>exact False.elim h
   | cont=>exact False.elim h
   | ret u=>
    obtain⟨v,H',os,bare,un,hok',r',q⟩:=h
    have q':v=.bl true:=q
    subst q'
    obtain rfl:u=Value.bool true:=r'
    refine⟨rfl,OldK.of_keep fun b o e=>?_,os,bare⟩
    cases q:H b with
    | none=>exact un.keep b o e q (by intro z;exact absurd (show b∈([]:List Addr) from z) (by simp)) (by simp)
    | some u=>
     rcases hO b with z | ⟨ob,xs,z⟩
     ·rw[q] at z;cases z
     ·have z2:=un.frzs b ob _ z
      obtain⟨e1,_⟩:=hok b _ z
      obtain⟨e2,_⟩:=hok' b _ z2
      rw[e] at e1;cases e1
      exact e2
 cases hk:K.lookup a with
 | some o=>
  have e:=KX a o hk
  rw[ha] at e
  cases e
  refine core (fun _=>none) (fun _=>.inl rfl) (.inr ⟨_,vs.toArray,_,hk,rfl,rfl,rfl,by rw[qk,lenV];exact hl,by simpa using rv⟩) (fun b u z=>by have z':(none:Option HO)=some u:=z;cases z') (fun b z=>absurd rfl z) fun z=>absurd rfl z
 | none=>
  refine core (fun b=>if b=a then some (.frz { cls:=.type "list",data:=.seq vs.toArray } (.lst (ns.map V.int))) else none) (fun b=>?_) (.inl (.inr ⟨{ cls:=.type "list",data:=.seq vs.toArray },if_pos rfl⟩)) (fun b u z=>?_) (fun b z=>?_) fun _=>hk
  ·by_cases hb:b=a
   ·exact .inr ⟨_,_,if_pos hb⟩
   ·exact .inl (if_neg hb)
  ·by_cases hb:b=a
   ·have z':=(if_pos hb).symm.trans z
    cases z'
    subst hb
    exact⟨ha,by rw[zq];exact hl,vs,_,rv,ha⟩
   ·have z':=(if_neg hb).symm.trans z
    cases z'
  ·by_cases hb:b=a
   ·exact hb
   ·exact absurd (if_neg hb) z
abbrev KOf{K:PySem.W.Frag}{h:Heap}(_:K.In h):PySem.W.Frag:=K
def yL(s:Stmt):Arguments:=match s with
 | .FunctionDef _ a _ _ _ _ _ _ _ _=>a
 | _=>{ posonlyargs:=[],args:=[],vararg:=none,kwonlyargs:=[],kw_defaults:=[],kwarg:=none,defaults:=[] }
def va(s:Stmt):List Stmt:=match s with
 | .FunctionDef _ _ b _ _ _ _ _ _ _=>b
 | _=>[]
def zv(s:Stmt):Scope:=match s with
 | .FunctionDef _ _ _ _ _ _ sc _ _ _=>sc
 | _=>{ kind:=.function,names:=[],isGenerator:=false,isCoroutine:=false }
abbrev CX0:CXT:=fun _ _ _ _ _ _=>False
abbrev E0:XK:=fun _ _ _=>False
theorem zgt{X:Cx}:W5 CX0 X E0:=fun _ _ _ _ _ _ _ h=>h.elim
structure Fun(K:PySem.W.Frag)(x qual:Str)(st:Stmt)(f:Addr)(fd:FuncData):Prop where
 ex:∃(oc:Value) (od:Option Addr) (kV doc pm:Value) (an:Option Addr) (cdv ct:Value) (osl:Array (Option Value)),
  fd=PySem.W.fnOf x qual (yL st) (va st) (zv st) .none kV doc pm an cdv ct/\K.lookup f=some ⟨oc,od,.func fd,osl⟩/\PySem.W.codeIn K cdv qual=true
 kp:PySem.W.keepIn K (.ref f)=true
section
variable{P:Program}{w:World}{K:PySem.W.Frag}{mg:Str->Option Value}{base:Heap}
theorem Fun.ok{x qual:Str}{st:Stmt}{f:Addr}{fd:FuncData}{N ps:List Str}{k:Nat}{sp:Sp}(F:Fun K x qual st f fd)(S:zI N ps (zv st))(len:∀vs H Q E,sp vs H Q E->vs.length=ps.length)
  (hbody:∀(cdv:Value) (A:Around) (outer:List Env) (s:Shared) (H:Hp) (vs:List V) (Q:VK) (E:XK),Room k (A.deeper (envOfC qual (zv st) s.heap.objs.size f cdv))->sp vs H Q E ->
   ∃t,PSs (V4 CX0 P w K mg base N qual (zv st) f cdv A outer s H E).nox (va st) t/\t { nx:=fun _ H'=>Q .non H',rt:=Q } (ZA N vs) H):qS P w K mg base CX0 (k+1) f fd ps sp:=by
 obtain⟨oc,od,kV,doc,pm,an,cdv,ct,osl,rfl,lk,hcd⟩:=F.ex
 refine zgT lk hcd S len fun A outer s H vs Q E hr hsp=>?_
 obtain⟨t,h,q⟩:=hbody cdv A outer s H vs Q E hr hsp
 exact⟨t,h.nox,q⟩
theorem Fun.binds{x qual:Str}{st:Stmt}{f:Addr}{fd:FuncData}{ps:List Str}(F:Fun K x qual st f fd)
  (h:∀(kV doc pm:Value) (an:Option Addr) (cdv ct:Value) (us:List Value),us.length=ps.length->bindArgs (PySem.W.fnOf x qual (yL st) (va st) (zv st) .none kV doc pm an cdv ct) ⟨us,[]⟩=pure (ps.zip us)):Binds K fd ps []:=by
 obtain⟨oc,od,kV,doc,pm,an,cdv,ct,osl,rfl,lk,hcd⟩:=F.ex
 exact .all (h kV doc pm an cdv ct)
end
theorem zcO{A:Around}{k:Nat}(hr:Room k A):A.units+1<cLine:=Nat.lt_of_le_of_lt (Nat.add_le_add_left (by decide:1<=64) _) hr.units
section
variable{X:Cx}
theorem pv(i:Nat){x:Str}{pos:Pos}(hN:X.N[i]? =some x:=by rfl)(hv:Vis X.env.scope x:=by first| exact Or.inl rfl | exact Or.inr (Or.inl rfl) | exact Or.inr (Or.inr rfl))(hd:(x==("__debug__" : Str))=false:=by decide)
  (hcd:(x==("__classdict__" : Str))=false:=by decide):PE X (.Name x pos) (zbx i):=ze9 hN hv hd hcd
end
theorem z7{c A B:Prop}[Decidable c](h1:c->A)(h2:¬c->B):if c then A else B:=by
 by_cases h:c
 ·rw[if_pos h]
  exact h1 h
 ·rw[if_neg h]
  exact h2 h
def Same(H H':Hp):Prop:=∀b o,H b=some o->H' b=some o
theorem Same.refl(H:Hp):Same H H:=fun _ _ h=>h
theorem Same.trans{H H1 H2:Hp}(a:Same H H1)(b:Same H1 H2):Same H H2:=fun c o h=>b c o (a c o h)
theorem Same.free{H H':Hp}(e:Same H H'){l:Addr}(h:H' l=Option.none):H l=Option.none:=by
 cases q:H l with
 | none=>rfl
 | some o=>
  rw[e l o q] at h
  cases h
theorem Same.seq{K:PySem.W.Frag}{H H':Hp}{a:Addr}{xs:List V}(e:Same H H')(h:SqL K H a xs):SqL K H' a xs:=by
 rcases h with(h | ⟨o,h⟩) | h
 ·exact .inl (.inl (e _ _ h))
 ·exact .inl (.inr ⟨o,e _ _ h⟩)
 ·exact .inr h
end L2
namespace L2
inductive Ex1{α1:Sort _}(P:α1->Prop):Prop
 | mk (a1:α1) (h:P a1):Ex1 P
inductive Ex2{α1:Sort _}{α2:Sort _}(P:α1->α2->Prop):Prop
 | mk (a1:α1) (a2:α2) (h:P a1 a2):Ex2 P
inductive Ex3{α1:Sort _}{α2:Sort _}{α3:Sort _}(P:α1->α2->α3->Prop):Prop
 | mk (a1:α1) (a2:α2) (a3:α3) (h:P a1 a2 a3):Ex3 P
inductive Ex4{α1:Sort _}{α2:Sort _}{α3:Sort _}{α4:Sort _}(P:α1->α2->α3->α4->Prop):Prop
 | mk (a1:α1) (a2:α2) (a3:α3) (a4:α4) (h:P a1 a2 a3 a4):Ex4 P
inductive Ex5{α1:Sort _}{α2:Sort _}{α3:Sort _}{α4:Sort _}{α5:Sort _}(P:α1->α2->α3->α4->α5->Prop):Prop
 | mk (a1:α1) (a2:α2) (a3:α3) (a4:α4) (a5:α5) (h:P a1 a2 a3 a4 a5):Ex5 P
inductive Ex6{α1:Sort _}{α2:Sort _}{α3:Sort _}{α4:Sort _}{α5:Sort _}{α6:Sort _}(P:α1->α2->α3->α4->α5->α6->Prop):Prop
 | mk (a1:α1) (a2:α2) (a3:α3) (a4:α4) (a5:α5) (a6:α6) (h:P a1 a2 a3 a4 a5 a6):Ex6 P
inductive Ex7{α1:Sort _}{α2:Sort _}{α3:Sort _}{α4:Sort _}{α5:Sort _}{α6:Sort _}{α7:Sort _}(P:α1->α2->α3->α4->α5->α6->α7->Prop):Prop
 | mk (a1:α1) (a2:α2) (a3:α3) (a4:α4) (a5:α5) (a6:α6) (a7:α7) (h:P a1 a2 a3 a4 a5 a6 a7):Ex7 P
inductive zg5{α1:Sort _}{α2:Sort _}{α3:Sort _}{α4:Sort _}{α5:Sort _}{α6:Sort _}{α7:Sort _}{α8:Sort _}{α9:Sort _}{α10:Sort _}{α11:Sort _}(P:α1->α2->α3->α4->α5->α6->α7->α8->α9->α10->α11->Prop):Prop
 | mk (a1:α1) (a2:α2) (a3:α3) (a4:α4) (a5:α5) (a6:α6) (a7:α7) (a8:α8) (a9:α9) (a10:α10) (a11:α11) (h:P a1 a2 a3 a4 a5 a6 a7 a8 a9 a10 a11):zg5 P
inductive An2(A1 A2:Prop):Prop
 | mk (h1:A1) (h2:A2):An2 A1 A2
inductive An3(A1 A2 A3:Prop):Prop
 | mk (h1:A1) (h2:A2) (h3:A3):An3 A1 A2 A3
inductive An4(A1 A2 A3 A4:Prop):Prop
 | mk (h1:A1) (h2:A2) (h3:A3) (h4:A4):An4 A1 A2 A3 A4
inductive An5(A1 A2 A3 A4 A5:Prop):Prop
 | mk (h1:A1) (h2:A2) (h3:A3) (h4:A4) (h5:A5):An5 A1 A2 A3 A4 A5
inductive An6(A1 A2 A3 A4 A5 A6:Prop):Prop
 | mk (h1:A1) (h2:A2) (h3:A3) (h4:A4) (h5:A5) (h6:A6):An6 A1 A2 A3 A4 A5 A6
inductive An7(A1 A2 A3 A4 A5 A6 A7:Prop):Prop
 | mk (h1:A1) (h2:A2) (h3:A3) (h4:A4) (h5:A5) (h6:A6) (h7:A7):An7 A1 A2 A3 A4 A5 A6 A7
inductive An8(A1 A2 A3 A4 A5 A6 A7 A8:Prop):Prop
 | mk (h1:A1) (h2:A2) (h3:A3) (h4:A4) (h5:A5) (h6:A6) (h7:A7) (h8:A8):An8 A1 A2 A3 A4 A5 A6 A7 A8
inductive An9(A1 A2 A3 A4 A5 A6 A7 A8 A9:Prop):Prop
 | mk (h1:A1) (h2:A2) (h3:A3) (h4:A4) (h5:A5) (h6:A6) (h7:A7) (h8:A8) (h9:A9):An9 A1 A2 A3 A4 A5 A6 A7 A8 A9
inductive zg8(A1 A2 A3 A4 A5 A6 A7 A8 A9 A10:Prop):Prop
 | mk (h1:A1) (h2:A2) (h3:A3) (h4:A4) (h5:A5) (h6:A6) (h7:A7) (h8:A8) (h9:A9) (h10:A10):zg8 A1 A2 A3 A4 A5 A6 A7 A8 A9 A10
theorem zgL{α:Type _}{us:List α}(h:us.length=1):∃a0,us=[a0]:=
 match us,h with
 | [a0],_=>⟨a0,rfl⟩
theorem zgK{α:Type _}{us:List α}(h:us.length=2):∃a0 a1,us=[a0,a1]:=
 match us,h with
 | [a0,a1],_=>⟨a0,a1,rfl⟩
theorem zgJ{α:Type _}{us:List α}(h:us.length=3):∃a0 a1 a2,us=[a0,a1,a2]:=
 match us,h with
 | [a0,a1,a2],_=>⟨a0,a1,a2,rfl⟩
theorem zgI{α:Type _}{us:List α}(h:us.length=4):∃a0 a1 a2 a3,us=[a0,a1,a2,a3]:=
 match us,h with
 | [a0,a1,a2,a3],_=>⟨a0,a1,a2,a3,rfl⟩
end L2
set_option maxHeartbeats 4000000
namespace L2
open PySem PySem.Spec PyProof.Rows
def jg(cs:List (Str×Addr)):List (Str×NameKind)->List (Str×Addr)->List (Str×Addr)
 | [],acc=>acc
 | (n,k)::r,acc=>jg cs r (if(k==NameKind.free)=true then(n,(cs.lookup n).getD 0)::acc else acc)
theorem zcX{env:Env}(names:List (Str×NameKind)):∀(acc:List (Str×Addr)),(∀y∈names,y.2=NameKind.free->∃c,env.cells.lookup y.1=some c) ->
  (forIn names acc fun(x:Str×NameKind) (cs:List (Str×Addr))=>
   (if(x.2==NameKind.free)=true then(cellOf env x.1 >>= fun a=>(pure (ForInStep.yield ((x.1,a)::cs)):Sem (ForInStep (List (Str×Addr))))) else pure (ForInStep.yield cs)))=(pure (jg env.cells names acc):Sem (List (Str×Addr))):=by
 induction names with
 | nil=>intro acc _;rfl
 | cons y r ih=>
  intro acc h
  obtain⟨n,k⟩:=y
  rw[List.forIn_cons]
  by_cases hk:(k==NameKind.free)=true
  ·obtain⟨c,hc⟩:=h (n,k) jD (by simpa using hk)
   have e1:cellOf env n=pure c:=by
    unfold cellOf
    rw[show env.cells.lookup n=some c from hc]
   simp only[hk,if_true,e1,pure_bind]
   rw[ih _ fun z hz=>h z (jE _ hz)]
   show _=pure (jg env.cells r (if(k==NameKind.free)=true then(n,(env.cells.lookup n).getD 0)::acc else acc))
   rw[if_pos hk,show env.cells.lookup n=some c from hc]
   all_goals rfl
  ·simp only[hk,pure_bind]
   simp only[Bool.false_eq_true,if_false,pure_bind]
   rw[ih _ fun z hz=>h z (jE _ hz)]
   show _=pure (jg env.cells r (if(k==NameKind.free)=true then(n,(env.cells.lookup n).getD 0)::acc else acc))
   rw[if_neg hk]
theorem Xz{env:Env}{scope:Scope}(h:∀y∈scope.names,y.2=NameKind.free->∃c,env.cells.lookup y.1=some c):closureFor scope env=pure (jg env.cells scope.names []):=by
 have e:=zcX (env:=env) scope.names [] h
 unfold closureFor
 refine Eq.trans ?_ (Eq.trans (congrArg (fun m=>m >>= fun cs=>(pure cs:Sem (List (Str×Addr)))) e) ?_)
 ·rfl
 ·simp
theorem vP{cs:List (Str×Addr)}{x:Str}:∀(names:List (Str×NameKind)) (acc:List (Str×Addr)),(jg cs names acc).lookup x=(if(names.any fun y=>y.2==NameKind.free&&x==y.1)=true then some ((cs.lookup x).getD 0) else acc.lookup x)
 | [],acc=>by simp[jg]
 | (n,k)::r,acc=>by
  unfold jg
  rw[vP r]
  by_cases hr:(r.any fun y=>y.2==NameKind.free&&x==y.1)=true
  ·rw[if_pos hr,if_pos (by rw[wY,hr,Bool.or_true])]
  ·rw[if_neg hr]
   by_cases hk:(k==NameKind.free)=true
   ·rw[if_pos hk]
    by_cases hx:(x==n)=true
    ·rw[if_pos (by rw[wY];simp only[hk,hx,Bool.and_self,Bool.true_or])]
     have e:x=n:=by simpa using hx
     subst e
     simp[jK]
    ·rw[if_neg (by rw[wY];simp only[hk,hx,QS,Bool.false_or];exact hr)]
     have hx':(x==n)=false:=by simpa using hx
     simp[jK,hx']
   ·rw[if_neg hk,if_neg (by rw[wY];simp only[hk,Zs,Bool.false_or];exact hr)]
abbrev qi(X:Cx)(N':List Str)(scope:Scope)(C:Addr)(s:Shared)(H:Hp)(ex:List Addr):Cx where
 prog:=X.prog
 w:=X.w
 K:=X.K
 mg:=X.mg
 base:=X.base
 A:=X.A
 N:=N'
 s₀:=s
 H₀:=H
 env:=compEnvC scope (jg X.env.cells scope.names []) C X.env
 outer:=X.stack
 stack:=X.stack
 ex:=ex
 fn:=fun _=>false
 calm:=X.calm
 pn:=[]
 xe:=fun _ _=>False
abbrev yA(ifs:List Expr)(env:Env):Sem Bool:=
 forIn ifs true fun(c:Expr) (r:Bool)=>if r=true then(isTrue c env (eval c env) >>= fun ok=>(pure (ForInStep.yield ok):Sem (ForInStep Bool))) else pure (ForInStep.yield r)
theorem Wd{prog:Program}{w:World}{A:Around}{R:Result->Shared->Prop}{s:Shared}{elt tg iter:Expr}{ifs:List Expr}{scope:Scope}{pos:Pos}{it acc:Value}{env:Env}(J:Nat->Shared->Prop)
  (turn:∀n s,J n s->wpAny (model prog w) A (pyNext it) (fun r s1=>match r with
   | none=>R (.ok .next) s1
   | some v=>wpAny (model prog w) A (letOwnedTupleGo tg it v) (fun _ s2=>wpAny (model prog w) A (assign tg env v) (fun _ s3=>
     wpAny (model prog w) A (yA ifs env) (fun ok s4=>
      if ok=true then wpAny (model prog w) A (eval elt env) (fun x s5=>
       wpAny (model prog w) A (call (.builtin "list.append") [acc,x]) (fun _ s6=>∃m,m<n/\J m s6) (fun _ _=>False) s5) (fun _ _=>False) s4
      else ∃m,m<n/\J m s4) (fun _ _=>False) s3) (fun _ _=>False) s2) (fun _ _=>False) s1) (fun _ _=>False) s)
  (n:Nat) (h:J n s):codeAny (model prog w) A (.compLoop (.ListComp elt [⟨tg,iter,ifs,0⟩] scope pos) 0 it acc env) R s:=by
 have no:∀{α:Type} {t:Sem α} {Q:α->Shared->Prop} {E:Value->Shared->Prop} {s:Shared},wpAny (model prog w) A t Q (fun _ _=>False) s->wpAny (model prog w) A t Q E s:=fun x=>jI x (fun _ _ q=>q) fun _ _ q=>q.elim
 refine codeAny_loop rfl J (fun k u hJ=>?_) n h
 show wpAny _ A ((compTurn (.ListComp elt [⟨tg,iter,ifs,0⟩] scope pos) 0 it acc env).onRaise (fun x=>do noteFrame x env;theTreesLotGoes x)) _ _ u
 refine wpAny_noted ?_
 rw[compTurn_list]
 refine zk (yR (zk (no (jI (turn k u hJ) (fun r s1 h1=>?_) fun _ _ q=>q))))
 cases r with
 | none=>exact zD h1
 | some v=>
  refine zk (no (jI h1 (fun _ s2 h2=>zk (no (jI h2 (fun _ s3 h3=>zk (no (jI h3 (fun ok s4 h4=>?_) fun _ _ q=>q))) fun _ _ q=>q))) fun _ _ q=>q))
  cases ok with
  | false=>exact zD ⟨rfl,h4⟩
  | true=>
   have h4':wpAny (model prog w) A (eval elt env) (fun x s5=>wpAny (model prog w) A (call (.builtin "list.append") [acc,x]) (fun _ s6=>∃m,m<k/\J m s6) (fun _ _=>False) s5) (fun _ _=>False) s4:=h4
   refine zk (zk (no (jI h4' (fun x s5 h5=>zk (no (jI h5 (fun _ s6 h6=>zD (zD ⟨rfl,h6⟩)) fun _ _ q=>q))) fun _ _ q=>q)))
def PF(X:Cx)(ifs:List Expr)(t:TT):Prop:=
 ∀(pins:List (Addr×Obj)) (s:Shared) (σ:St) (H:Hp) (Q:Bool->Hp->Prop),Inv X pins σ H s->t σ H Q->wpAny (model X.prog X.w) X.A (yA ifs X.env) (TP X pins σ Q) X.xe s
def zgV:TT:=fun _ H Q=>Q true H
theorem jb{X:Cx}:PF X [] zgV:=fun pins s σ H Q I h=>zD ⟨H,I,h⟩
theorem yj{X:Cx}{c:Expr}{t:TT}(hc:PT X c t):PF X [c] t:=by
 intro pins s σ H Q I h
 unfold yA
 simp only[List.forIn_cons,List.forIn_nil,if_true]
 refine zk (zk (thn (hc pins s σ H Q I h) fun ok s1 q=>zD (zD q)))
theorem Xp{P:Program}{w:World}{H:Hp}{h h':Heap}{C:Addr}(x:HOk P w H h)(hn:H C=none)(k:∀b o,b≠C->h.get? b=some o->h'.get? b=some o):HOk P w H h':=fun b u e=>by
 refine(x b u e).stay (fun c v hc q=>k c v ?_ q) (fun _ q=>q) fun _ _ q=>q
 rcases hc with z | z
 ·rw[z];exact zn e hn
 ·exact zn z hn
theorem Zk{P:Program}{w:World}{H:Hp}{h:Heap}{a:Addr}{o:HO}(x:HOk P w H h)(hn:H a=none)(new:ObjOk P w (upd H a o) h a o):HOk P w (upd H a o) h:=fun b u e=>by
 by_cases hb:b=a
 ·subst hb;rw[zb] at e;cases e;exact new
 ·rw[zo hb] at e
  exact(x b u e).stay (fun c v _ q=>q) (fun c q=>by rw[zo (zn q hn)];exact q) fun c xs q=>by rw[zo (zn q hn)];exact q
theorem Qb{fs ex:List Addr}{H H':Hp}{h h':Heap}{a:Addr}{o:HO}(u:Un fs ex H H' h h')(ha:a∈ex)(hn:H a=none):Un fs ex H (upd H' a o) h h' where
 keep:=u.keep
 slot:=u.slot
 free:=fun b ob q n hx=>by
  have hb:b≠a:=fun z=>hx (by rw[z];exact ha)
  rw[zo hb];exact u.free b ob q n hx
 there:=u.there
 tups:=fun b xs q=>by rw[zo (zn q hn)];exact u.tups b xs q
 frzs:=fun b ob v q=>by rw[zo (zn q hn)];exact u.frzs b ob v q
 tbls:=fun b ps q=>by rw[zo (zn q hn)];exact u.tbls b ps q
theorem Wi{fs ex:List Addr}{H H':Hp}{h h1 h2:Heap}{C:Addr}(u:Un fs ex H H' h h1)(hC:h.objs.size<=C)(k:∀b o,b≠C->h1.get? b=some o->h2.get? b=some o):Un fs ex H H' h h2 where
 keep:=fun b o q n hb hx=>k b o (qw (jV (zL q) hC)) (u.keep b o q n hb hx)
 slot:=fun b o q n hb hx=>let ⟨sl,e⟩:=u.slot b o q n hb hx;⟨sl,k b _ (qw (jV (zL q) hC)) e⟩
 free:=u.free
 there:=fun b o q hx=>let ⟨o',e⟩:=u.there b o q hx;⟨o',k b _ (qw (jV (zL q) hC)) e⟩
 tups:=u.tups
 frzs:=u.frzs
 tbls:=u.tbls
def ZJ(sn on:List (Str×NameKind))(N fr:List Str)(js:List Nat):Bool:=
 sn.all (fun y=>y.2 != .cell&&(y.2 != .local||sn.lookup y.1==some .local)&&(y.2 != .free||(on.lookup y.1==some .cell||on.lookup y.1==some .free)))&&fr.length==js.length
  && (fr.zip js).all fun p=>sn.lookup p.1==some .free&&N[p.2]? ==some p.1
structure zc7(sn on:List (Str×NameKind))(N fr:List Str)(js:List Nat):Prop where
 cell:∀y∈sn,y.2≠NameKind.cell
 loc:∀y∈sn,y.2=NameKind.local->sn.lookup y.1=some .local
 free:∀y∈sn,y.2=NameKind.free->on.lookup y.1=some .cell\/on.lookup y.1=some .free
 len:fr.length=js.length
 fr:∀(k:Nat) (x:Str),fr[k]? =some x->sn.lookup x=some .free/\∃j:Nat,js[k]? =some j/\N[j]? =some x
theorem We{sn on:List (Str×NameKind)}{N fr:List Str}{js:List Nat}(h:ZJ sn on N fr js=true):zc7 sn on N fr js:=by
 unfold ZJ at h
 rw[qV,qV,jh,jh] at h
 obtain⟨⟨h1,h2⟩,h3⟩:=h
 have h2':fr.length=js.length:=by simpa using h2
 refine⟨fun y hy=>?_,fun y hy e=>?_,fun y hy e=>?_,h2',fun k x e=>?_⟩
 ·have:=h1 y hy
  simp only[qV,bne_iff_ne] at this
  exact this.1.1
 ·have:=h1 y hy
  simp only[qV,QU,bne_iff_ne,vC] at this
  exact this.1.2.resolve_left fun z=>z e
 ·have:=h1 y hy
  simp only[qV,QU,bne_iff_ne,vC] at this
  exact this.2.resolve_left fun z=>z e
 ·have hk:k<fr.length:=(zN.mp e).1
  have hj:k<js.length:=by omega
  have hm:(x,js[k])∈fr.zip js:=by
   refine jl (i:=k) ?_
   rw[List.getElem?_zip_eq_some]
   exact⟨e,by simp[hj]⟩
  have:=h3 _ hm
  simp only[qV,vC] at this
  exact⟨this.1,js[k],by simp[hj],this.2⟩
def upS(n:Nat)(js:List Nat)(σ:St):St:=List.replicate n none++js.map fun j=>(σ[j]?).join
def tLC(wi:TI)(n:Nat)(js:List Nat)(g:TG)(tf:TT)(te:TE):TE:=fun σ H Q=>wi σ H fun J H1=>
 ∃W:Nat->Nat->List V->Hp->Prop,(∃m,W 0 m [] H1)/\∀i m ys H2,W i m ys H2 ->
  (J.stop i H2/\ys.length<=sizeLine/\∀D,H2 D=none->Q (.ref D) (upd H2 D (.lst ys))) \/
  (J.go i H2/\∃N:List V->Hp->Prop,(∀zs H',N zs H'->∃m',m'<m/\W (i+1) m' zs H')/\∀x H3,J.yld i H2 x H3->g x (upS n js σ) H3 fun σ4 H4=>σ4.drop n=(upS n js σ).drop n/\tf σ4 H4 fun b H5=>
   if b=true then te σ4 H5 fun y H6=>ys.length<sizeLine/\N (ys++[y]) H6 else N ys H5)
theorem xU{env:Env}{x:Str}{k':NameKind}:∀{names:List (Str×NameKind)},(names.map fun(n,k)=>if(k==NameKind.free&&env.scope.kind==.function&&env.kindOf n==some .cell) then(n,NameKind.cell) else(n,k)).lookup x=some k' ->
  ∃k,names.lookup x=some k/\(k'=k\/(k=.free/\k'=.cell))
 | [],h=>by simp at h
 | (n,k)::r,h=>by
  by_cases hx:(x==n)=true
  ·refine⟨k,by simp[jK,hx],?_⟩
   have h:List.lookup x ((if(k==NameKind.free&&env.scope.kind==.function&&env.kindOf n==some .cell)=true then(n,NameKind.cell) else(n,k))::_)=some k':=h
   by_cases hc:(k==NameKind.free&&env.scope.kind==.function&&env.kindOf n==some .cell)=true
   ·rw[if_pos hc,jK,hx] at h
    simp only[qV,vC] at hc
    exact .inr ⟨hc.1.1,(jJ h).symm⟩
   ·rw[if_neg hc,jK,hx] at h
    exact .inl (jJ h).symm
  ·have hx':(x==n)=false:=by simpa using hx
   have h:List.lookup x ((if(k==NameKind.free&&env.scope.kind==.function&&env.kindOf n==some .cell)=true then(n,NameKind.cell) else(n,k))::_)=some k':=h
   have h2:(r.map fun(n,k)=>if(k==NameKind.free&&env.scope.kind==.function&&env.kindOf n==some .cell) then(n,NameKind.cell) else(n,k)).lookup x=some k':=by
    by_cases hc:(k==NameKind.free&&env.scope.kind==.function&&env.kindOf n==some .cell)=true
    ·rw[if_pos hc,jK,hx'] at h;exact h
    ·rw[if_neg hc,jK,hx'] at h;exact h
   obtain⟨k0,e,z⟩:=xU h2
   exact⟨k0,by rw[jK,hx'];exact e,z⟩
theorem vI{env:Env}{x:Str}:∀{names:List (Str×NameKind)},names.lookup x=some .free->∃k',(names.map fun(n,k)=>if(k==NameKind.free&&env.scope.kind==.function&&env.kindOf n==some .cell) then(n,NameKind.cell) else(n,k)).lookup x=some k'/\(k'=.cell\/k'=.free)
 | [],h=>by simp at h
 | (n,k)::r,h=>by
  by_cases hx:(x==n)=true
  ·rw[jK,hx] at h
   cases(jJ h)
   show ∃k',List.lookup x ((if(NameKind.free==NameKind.free&&env.scope.kind==.function&&env.kindOf n==some .cell)=true then(n,NameKind.cell) else(n,NameKind.free))::_)=some k'/\_
   by_cases hc:(NameKind.free==NameKind.free&&env.scope.kind==.function&&env.kindOf n==some .cell)=true
   ·rw[if_pos hc];exact⟨.cell,by simp[jK,hx],.inl rfl⟩
   ·rw[if_neg hc];exact⟨.free,by simp[jK,hx],.inr rfl⟩
  ·have hx':(x==n)=false:=by simpa using hx
   rw[jK,hx'] at h
   obtain⟨k',e,z⟩:=vI (env:=env) (names:=r) h
   refine⟨k',?_,z⟩
   show List.lookup x ((if(k==NameKind.free&&env.scope.kind==.function&&env.kindOf n==some .cell)=true then(n,NameKind.cell) else(n,k))::_)=some k'
   by_cases hc:(k==NameKind.free&&env.scope.kind==.function&&env.kindOf n==some .cell)=true
   ·rw[if_pos hc,jK,hx'];exact e
   ·rw[if_neg hc,jK,hx'];exact e
theorem zZ{cs:List (Str×Addr)}{names:List (Str×NameKind)}{x:Str}{c:Addr}(h:(jg cs names []).lookup x=some c)(hf:∀y∈names,y.2=NameKind.free->∃c,cs.lookup y.1=some c):cs.lookup x=some c:=by
 rw[vP] at h
 by_cases hr:(names.any fun y=>y.2==NameKind.free&&x==y.1)=true
 ·rw[if_pos hr] at h
  obtain⟨y,hy,e⟩:=QX.mp hr
  simp only[qV,vC] at e
  obtain⟨c',e'⟩:=hf y hy e.1
  rw[<- e.2] at e'
  rw[e'] at h ⊢
  exact h
 ·rw[if_neg hr] at h
  cases h
theorem xS{cs:List (Str×Addr)}{names:List (Str×NameKind)}{x:Str}(h:names.lookup x=some .free):(jg cs names []).lookup x=some ((cs.lookup x).getD 0):=by
 rw[vP,if_pos]
 exact QX.mpr ⟨(x,.free),vV h,by simp⟩
theorem vq{n:Nat}{js:List Nat}{σ:St}{i:Nat}{v:V}(h:(upS n js σ)[i]? =some (some v)):n<=i/\((upS n js σ).drop n)[i-n]? =some (some v)/\∃j:Nat,js[i-n]? =some j/\σ[j]? =some (some v):=by
 unfold upS at h ⊢
 by_cases hi:i<n
 ·rw[vW (by simpa using hi),List.getElem?_replicate] at h
  split at h<;>cases h
 ·have e:(List.replicate n (none:Option V)++js.map fun j=>(σ[j]?).join).drop n=js.map fun j=>(σ[j]?).join:=by
   rw[List.drop_append_of_le_length (by simp)];simp
  rw[vF (by simpa using hi),w8] at h
  refine⟨by omega,by rw[e];exact h,?_⟩
  rw[qr] at h
  cases ej:js[i-n]? with
  | none=>rw[ej] at h;cases h
  | some j=>
   rw[ej] at h
   have h:(σ[j]?).join=some v:=jJ h
   refine⟨j,rfl,?_⟩
   cases eo:σ[j]? with
   | none=>rw[eo] at h;cases h
   | some o=>rw[eo] at h;exact congrArg some h
theorem J5{n:Nat}{js:List Nat}{σ:St}:(upS n js σ).length=n+js.length:=by unfold upS;simp
section
variable{X:Cx}{elt tg iter:Expr}{ifs:List Expr}{scope:Scope}{pos:Pos}{wi:TI}{g:TG}{tf:TT}{te:TE}
theorem zbk{pins:List (Addr×Obj)}{σ:St}{H:Hp}{s:Shared}{fp:List Addr}(own fr:List Str)(js:List Nat)(I:Inv X pins σ H s)(B:zc7 scope.names X.env.scope.names X.N fr js)(hk:scope.kind=.function)
  (f2:∀b∈fp,xt X pins H b) (fl:∀b∈fp,b<s.heap.objs.size) {D C:Addr} (hD:D=s.heap.objs.size) {h3 h1:Heap} (e3:h3=s.heap.push { cls:=.type "list",dict:=none,data:=.seq ([]:List Value).toArray }) (hC:C=h3.objs.size)
  {m:Str->Option Value} (hns:h1.Ns C m) (k4:∀b o,h3.get? b=some o->h1.get? b=some o) {t4:Nat} :
  Inv (qi X (own++fr) scope C { s with heap:=h3 } H (D::fp)) [] (upS own.length js σ) H { s with heap:=h1,toks:=t4 }:=by
 have k3:∀b o,s.heap.get? b=some o->h3.get? b=some o:=fun b o e=>by rw[e3];exact qx _ e
 have I3:Inv X pins σ H { s with heap:=h3 }:=I.kept (t':=s.toks) k3
 have hz:h3.objs.size=s.heap.objs.size+1:=by rw[e3,j4]
 have hasF:∀y∈scope.names,y.2=NameKind.free->∃c,X.env.cells.lookup y.1=some c:=fun y hy e=>I.ok.has y.1 (B.free y hy e)
 have cellLt:∀x c,X.env.cells.lookup x=some c->c<s.heap.objs.size:=fun x c e=>by
  obtain⟨v,q⟩:=I.cell x c e
  exact q.lt
 refine⟨⟨I.ok.mod,hk,I.ok.glob,I.ok.blt,wX hC.symm,fun x y c e1 e2=>?_,fun x hx=>?_,fun x c hf=>(nomatch hf),fun hc=>I.ok.hd hc,I.ok.frames,.inl rfl,fun b hb=>?_,I3.bs,jt I.ok.bsz I3.sz,fun b o e hb=>?_,fun b hb hf=>?_,I3.stack,I3.stkFree⟩,
  rfl,I.bare,Un.kept k4,⟨m,hns,fun i x v e1 e2 e3'=>?_⟩,fun x c e=>?_,?_,fun x c e=>?_,fun p hp=>absurd (show p∈([]:List (Addr×Obj)) from hp) (by simp),I3.hok.kept k4,?_⟩
 ·exact I.ok.inj x y c (zZ e1 hasF) (zZ e2 hasF)
 ·obtain⟨k,e,z⟩:∃k,scope.names.lookup x=some k/\(k=.free):=by
   rcases hx with hx | hx
   ·obtain⟨k,e,z⟩:=xU hx
    rcases z with z | z
    ·subst z;exact absurd rfl (B.cell _ (vV e))
    ·exact⟨k,e,z.1⟩
   ·obtain⟨k,e,z⟩:=xU hx
    rcases z with z | z
    ·subst z;exact⟨_,e,rfl⟩
    ·exact⟨k,e,z.1⟩
  subst z
  exact⟨_,xS e⟩
 ·rcases qq.mp hb with z | hb
  ·subst z
   refine⟨by rw[hD,hC,hz];exact qw (yV _),fun x c e=>?_⟩
   have:=cellLt x c (zZ e hasF)
   rw[hD];exact qw this
  ·refine⟨by rw[hC,hz];exact qw (wv (fl b hb)),fun x c e=>?_⟩
   exact(f2 b hb).2.2.2.2.1 x c (zZ e hasF)
 ·rcases qq.mp hb with z | hb
  ·have:=zL (I.bk b o e)
   rw[z,hD] at this
   exact vc _ this
  ·rcases(f2 b hb).2.2.2.1 with z | z
   ·exact I.ok.noex b o e z
   ·exact absurd (jV (zL (I.ok.bs b o e).1) z) (vc _)
 ·have hf':=qq.mp (I.stkSub b hf)
  rcases qq.mp hb with z | hb
  ·rcases hf' with y | y
   ·have:=I.lt
    rw[<- y,z,hD] at this
    exact vc _ this
   ·exact I.nofs (a:=b) (by rw[z,hD];exact zC _) y
  ·rcases hf' with y | y
   ·exact(f2 b hb).2.1 y
   ·exact(f2 b hb).2.2.1 y
 ·obtain⟨hn,_,j,ej,es⟩:=vq e2
  have ex:fr[i-own.length]? =some x:=by rw[vF hn] at e1;exact e1
  obtain⟨hfx,j',ej',eN⟩:=B.fr _ x ex
  have:j'=j:=by rw[ej] at ej';exact(jJ ej').symm
  subst this
  have hkx:=B.free _ (vV hfx) rfl
  obtain⟨m0,_,hl⟩:=I.loc
  obtain⟨u,r,l⟩:=hl j' x v eN es (by rcases hkx with z | z;exact .inr (.inl z);exact .inr (.inr z))
  refine⟨u,r,.inr ?_⟩
  rcases l with ⟨kl,_⟩ | ⟨_,c,ec,o,eo,ed⟩
  ·have kl':X.env.scope.names.lookup x=some .local:=kl
   rcases hkx with z | z
   ·exact absurd (z.symm.trans kl') (by decide)
   ·exact absurd (z.symm.trans kl') (by decide)
  ·obtain⟨k',e',z⟩:=vI (env:=X.env) hfx
   have eq:(jg X.env.cells scope.names []).lookup x=some c:=by rw[xS hfx,ec];rfl
   refine⟨?_,c,eq,o,k4 c o (k3 c o eo),ed⟩
   rcases z with z | z
   ·subst z;exact .inl e'
   ·subst z;exact .inr e'
 ·obtain⟨v,o,eo,ed⟩:=I.cell x c (zZ e hasF)
  exact⟨v,o,k4 c o (k3 c o eo),ed⟩
 ·exact I3.hok.fresh (wX hC.symm)
 ·exact I.freeC x c (zZ e hasF)
 ·rw[J5,<- B.len]
  show _=(own++fr).length
  rw[qJ]
inductive LcJ(Y:Cx)(D:Addr)(tn:Nat->Heap->Prop)(fp:List Addr)(pins:List (Addr×Obj))(σ:St)(W:Nat->Nat->List V->Hp->Prop)(n:Nat)(s:Shared):Prop
 | mk (i:Nat) (ys:List V) (its:List Value) (H':Hp) (z:Nat) (_:Inv Y pins σ H' s) (_:tn i s.heap) (_:∀b∈fp,H' b=none) (_:H' D=none) (_:s.heap.get? D=some { cls:=.type "list",data:=.seq its.toArray z }) (_:Vals ys its) (_:W i n ys H'):LcJ Y D tn fp pins σ W n s
inductive LcE(Y:Cx)(D:Addr)(pins:List (Addr×Obj))(σ:St)(N:List V->Hp->Prop)(s:Shared):Prop
 | mk (ys:List V) (its:List Value) (H':Hp) (z:Nat) (_:Inv Y pins σ H' s) (_:H' D=none) (_:s.heap.get? D=some { cls:=.type "list",data:=.seq its.toArray z }) (_:Vals ys its) (_:N ys H'):LcE Y D pins σ N s
theorem zd0{Y:Cx}{D it:Addr}{fp:List Addr}{tn:Nat->Heap->Prop}{J:It}{pins:List (Addr×Obj)}{σ4:St}{Kp:St->Prop}{W:Nat->Nat->List V->Hp->Prop}{N:List V->Hp->Prop}{n:Nat}{s5:Shared}
  (hc:Y.calm=true) (hx:Y.xe=fun _ _=>False) (hg:PG Y tg g) (hf:PF Y ifs tf) (he:PE Y elt te) (T:Q5 Y.prog Y.w Y.K tg J fp it tn)
  (fD:∀H':Hp,H' D=none->xt Y pins H' D) (f2:∀b∈fp,∀H':Hp,H' b=none->xt Y pins H' b) (nD:∀b∈fp,D≠b) (bk:∀σ9 H' s',Inv Y pins σ9 H' s'->Kp σ9->Inv Y pins σ4 H' s')
  (turn:∀i m zs H7,W i m zs H7->(J.stop i H7/\N zs H7)\/(J.go i H7/\∃N2:List V->Hp->Prop,(∀zs H',N2 zs H'->∃m',m'<m/\W (i+1) m' zs H')/\∀x H8,J.yld i H7 x H8->g x σ4 H8 fun σ9 H9=>Kp σ9/\tf σ9 H9 fun b H10=>
    if b=true then te σ9 H10 fun y H11=>zs.length<sizeLine/\N2 (zs++[y]) H11 else N2 zs H10)) (j:LcJ Y D tn fp pins σ4 W n s5) :
  wpAny (model Y.prog Y.w) Y.A (pyNext (.ref it)) (fun r s1=>match r with
   | none=>LcE Y D pins σ4 N s1
   | some v=>wpAny (model Y.prog Y.w) Y.A (letOwnedTupleGo tg (.ref it) v) (fun _ s2=>wpAny (model Y.prog Y.w) Y.A (assign tg Y.env v) (fun _ s3=>
     wpAny (model Y.prog Y.w) Y.A (yA ifs Y.env) (fun ok s4=>
      if ok=true then wpAny (model Y.prog Y.w) Y.A (eval elt Y.env) (fun x s5=>
       wpAny (model Y.prog Y.w) Y.A (call (.builtin "list.append") [.ref D,x]) (fun _ s6=>∃m,m<n/\LcJ Y D tn fp pins σ4 W m s6) (fun _ _=>False) s5) (fun _ _=>False) s4
      else ∃m,m<n/\LcJ Y D tn fp pins σ4 W m s4) (fun _ _=>False) s3) (fun _ _=>False) s2) (fun _ _=>False) s1) (fun _ _=>False) s5:=by
 unfold PG at hg;unfold PF at hf;unfold PE at he
 rw[hx] at hg hf he
 obtain⟨i,ys,its,H5,z5,I5,st5,fr5,hD5,ho5,rv5,w5⟩:=j
 have I5':=I5.pinned (fp:=[D]) (fun b hb=>by rw[qR.mp hb];exact fD _ hD5) (fun b hb=>by rw[qR.mp hb];exact⟨_,ho5,fun v q=>nomatch q⟩)
 have mD:(D,({ cls:=.type "list",data:=.seq its.toArray z5 }:Obj))∈pins++qC [D] s5.heap:=qX _ (jw (qR.mpr rfl) ho5)
 have fp5:∀{H':Hp},(∀b∈fp,H' b=none)->∀b∈fp,xt Y (pins++qC [D] s5.heap) H' b:=fun hn b hb=>by
  obtain⟨a1,a2,a3,a4,a5,a6⟩:=f2 b hb _ (hn b hb)
  refine⟨a1,a2,a3,a4,a5,fun p hp=>?_⟩
  rcases qL.mp hp with q | q
  ·exact a6 p (xc _ q)
  ·rcases qL.mp q with q | q
   ·exact a6 p (qX _ q)
   ·rw[qR.mp (wK q).1];exact nD b hb
 rcases turn i n ys H5 w5 with ⟨stop,q⟩ | ⟨go,N2,hN,step⟩
 ·refine thn (T.done Y rfl rfl rfl hc i _ s5 _ H5 _ I5' (fp5 fr5) st5 stop) fun r s6 ⟨hr,I6⟩=>?_
  subst hr
  obtain⟨o6,nD6,_⟩:=I6.pin (D,_) (qX _ mD)
  exact⟨ys,its,H5,z5,I6.unpinned,nD6,o6,rv5,q⟩
 ·refine thn (T.item Y rfl rfl rfl hc i _ s5 _ H5 _ I5' (fp5 fr5) st5 go) fun r s6 ⟨u,hr,h6⟩=>?_
  subst hr
  refine thn h6 fun _ s7 ⟨x,H7,I7,r7,y7,st7,fr7⟩=>?_
  refine thn (hg _ s7 _ H7 x u _ (I7.pinned (fp5 fr7) (T.obj _ _ st7)) r7 (step x H7 y7)) fun _ s8 ⟨σ8,H8,I8,hd8,q8⟩=>?_
  refine thn (hf _ s8 σ8 H8 _ I8 q8) fun ok s9 ⟨H9,I9,q9⟩=>?_
  have mD':=qX Y.pn (xc (qC fp s7.heap) mD)
  have mF:∀b∈fp,∀o,s7.heap.get? b=some o->(b,o)∈Y.pn++((pins++qC [D] s5.heap)++qC fp s7.heap):=fun b hb o e=>qX _ (qX _ (jw hb e))
  generalize hP:(pins++qC [D] s5.heap)++qC fp s7.heap=P at I9 mD' mF he
  have weak:∀{H':Hp} {s':Shared},Inv Y P σ8 H' s'->Inv Y pins σ4 H' s':=fun {H' s'} J=>by subst hP;exact bk _ _ _ (J.unpinned).unpinned hd8
  have frB:∀{H':Hp} {s':Shared},Inv Y P σ8 H' s'->∀b∈fp,H' b=none:=fun {H' s'} J b hb=>by
   obtain⟨o,e,_⟩:=T.obj _ _ st7 b hb
   exact(J.pin (b,o) (mF b hb o e)).2.1
  cases ok with
  | false=>
   obtain⟨m',hm,w'⟩:=hN _ _ (show N2 ys H9 by simpa using q9)
   obtain⟨o9,nD9,_⟩:=I9.pin (D,_) mD'
   exact⟨m',hm,i+1,ys,its,H9,z5,weak I9,T.keep _ _ _ st7 fun b hb o e=>(I9.pin (b,o) (mF b hb o e)).1,frB I9,nD9,o9,rv5,w'⟩
  | true=>
   refine thn (he _ s9 σ8 H9 (fun y H6=>ys.length<sizeLine/\N2 (ys++[y]) H6) I9 (by simpa using q9)) fun yv s10 ⟨y,H10,I10,r10,hlt,w10⟩=>?_
   obtain⟨m',hm,w'⟩:=hN _ _ w10
   obtain⟨o10,nD10,_⟩:=I10.pin (D,_) mD'
   refine wpAny_list_append_plain (l:=D) (items:=its.toArray) (hsz:=by rw[qk,<- rv5.length];exact Nat.le_of_lt hlt) ⟨_,o10⟩ fun h11 hl11 hs11=>?_
   obtain⟨z11,e11⟩:=hl11
   obtain⟨d0,d1,d2,d3,d4,d5⟩:=fD _ nD10
   refine⟨m',hm,i+1,ys++[y],its++[yv],H10,z11,?_,T.keep _ _ _ st7 fun b hb o e=>hs11.extBut b o (qH (nD b hb)) (I10.pin (b,o) (mF b hb o e)).1,frB I10,nD10,?_,rv5.append (.cons r10 .nil),w'⟩
   ·exact(weak I10).turned (t':=s10.toks) (it:=D) (fun b o hb e=>hs11.extBut b o hb e) nD10 d1 d3 d4 d5
   ·rw[e11];simp
theorem zeL{use:Option (Value->Sem Unit)}{Qx:Value->Shared->Prop}{cp:Pos}{rest:List Comprehension}{pins:List (Addr×Obj)}{s:Shared}{σ:St}{H:Hp}{Q:VK}{Tl:It->(Nat->Nat->List V->Hp->Prop)->Prop}(own fr:List Str)(js:List Nat)(hk:scope.kind=.function)(hb:ZJ scope.names X.env.scope.names X.N fr js=true)(hi:PI X tg iter wi)
  (hs:∀x,foldedSetIterable iter X.env x=pure x) (I:Inv X pins σ H s) (h:wi σ H fun J H1=>∃W:Nat->Nat->List V->Hp->Prop,(∃m,W 0 m [] H1)/\Tl J W)
  (loop:∀(C D it:Addr) (fp:List Addr) (tn:Nat->Heap->Prop) (J:It) (W:Nat->Nat->List V->Hp->Prop) (H2:Hp) (s3 s4:Shared) (m0:Nat) (R:Result->Shared->Prop),(∀b∈D::fp,∀H':Hp,H' b=none->xt (qi X (own++fr) scope C s3 H2 (D::fp)) [] H' b)->(∀b∈fp,D≠b) ->
   Q5 X.prog X.w X.K tg J fp it tn->Tl J W->LcJ (qi X (own++fr) scope C s3 H2 (D::fp)) D tn fp [] (upS own.length js σ) W m0 s4 ->
   (∀s6,LcE (qi X (own++fr) scope C s3 H2 (D::fp)) D [] (upS own.length js σ) (fun ys H5=>ys.length<=sizeLine/\∀D,H5 D=none->Q (.ref D) (upd H5 D (.lst ys))) s6->R (.ok .next) s6) ->
   codeAny (model X.prog X.w) X.A (.compLoop (.ListComp elt (⟨tg,iter,ifs,0⟩::rest) scope pos) 0 (.ref it) (.ref D) (compEnvC scope (jg X.env.cells scope.names []) C X.env)) R s4)
  (fin:∀(s6:Shared) (D C:Addr) (H6:Hp) (m:Str->Option Value),s6.heap.Ns C m->(∀h7:Heap,(∀b o,b≠C->s6.heap.get? b=some o->h7.get? b=some o)->Inv X pins σ H6 { s6 with heap:=h7 })->xt X pins H6 C->Q (.ref D) H6->compPost (model X.prog X.w) X.A X.xe use Qx (.ref D) C (.ok .next) s6) :
  wpAny (model X.prog X.w) X.A (comprehension (.ListComp elt (⟨tg,iter,ifs,0⟩::rest) scope pos) scope X.env cp (newList []) false (eval iter X.env) use) Qx X.xe s:=by
 have B:=We hb
 have hasF:∀y∈scope.names,y.2=NameKind.free->∃c,X.env.cells.lookup y.1=some c:=fun y hy e=>I.ok.has y.1 (B.free y hy e)
 refine wpAny_comprehension_free rfl hs (Xz hasF) hk (fun y hy e=>B.loc y hy e) (thn (hi pins s σ H _ I h) fun v s1 h1=>thn h1 fun itv s2 h2=>?_)
 obtain⟨it,fp,tn,J,H2,e,I2,T,st2,f2,W,⟨m0,w0⟩,tl⟩:=h2
 subst e
 have fl:∀b∈fp,b<s2.heap.objs.size:=fun b hb=>let ⟨o,e,_⟩:=T.obj _ _ st2 b hb;zL e
 refine vg (wpAny_newFunctionEnv B.cell (by intro y hy;simp at hy) (fun h1 hns hsb=>?_) hk)
 dsimp only at hns hsb ⊢
 generalize e3:s2.heap.push { cls:=.type "list",dict:=none,data:=.seq ([]:List Value).toArray }=h3 at hns hsb ⊢
 have k3:∀b o,s2.heap.get? b=some o->h3.get? b=some o:=fun b o e=>by rw[<- e3];exact qx _ e
 have k4:∀b o,h3.get? b=some o->h1.get? b=some o:=fun b o e=>hsb.extBut b o (qw (zL e)) (qx _ e)
 have I4:Inv (qi X (own++fr) scope h3.objs.size { s2 with heap:=h3 } H2 (s2.heap.objs.size::fp)) [] (upS own.length js σ) H2 { s2 with heap:=h1,toks:=s2.toks+([]:List (Str×Value)).length }:=
  zbk own fr js I2 B hk f2 fl rfl e3.symm rfl hns k4
 have I3:Inv X pins σ H2 { s2 with heap:=h3 }:=I2.kept (t':=s2.toks) k3
 have hz:h3.objs.size=s2.heap.objs.size+1:=by rw[<- e3,j4]
 have hDl:s2.heap.objs.size≠h3.objs.size:=by rw[hz];exact qw (yV _)
 have hacc:h1.get? s2.heap.objs.size=some { cls:=.type "list",data:=.seq ([]:List Value).toArray }:=k4 _ _ (by rw[<- e3];exact qA _ rfl)
 have fpC:=(I3.fpOk (b:=h3.objs.size) (zC _) (I3.hok.fresh (zC _))).2
 have dN:H2 s2.heap.objs.size=none:=I2.hok.fresh (zC _)
 have dO:=I2.fpOk (b:=s2.heap.objs.size) (zC _) dN
 have fD:∀b∈fp,s2.heap.objs.size≠b:=fun b hb=>xE (fl b hb)
 generalize s2.heap.objs.size=D at *
 generalize eC:h3.objs.size=C at *
 have hx:∀b,xt X pins H2 b->∀x c,(jg X.env.cells scope.names []).lookup x=some c->c≠b:=fun b hb x c e=>hb.2.2.2.2.1 x c (zZ e hasF)
 have nfs:∀b∈D::fp,b∉frs X.stack:=I4.ok.exfs
 have nC:∀b∈D::fp,b≠C:=fun b hb=>by
  rcases qq.mp hb with z | hb
  ·rw[z];exact hDl
  ·exact(I4.ok.exf b (jE _ hb)).1
 have all:∀b∈D::fp,xt X pins H2 b:=fun b hb=>by
  rcases qq.mp hb with z | hb
  ·rw[z];exact dO
  ·exact f2 b hb
 have fpB:∀b∈D::fp,∀H':Hp,H' b=none->xt (qi X (own++fr) scope C { s2 with heap:=h3 } H2 (D::fp)) [] H' b:=fun b hb H' hn=>
  ⟨hn,nC b hb,nfs b hb,.inl hb,fun x c e=>hx b (all b hb) x c e,fun p h=>absurd h (by simp)⟩
 have go:∀s4:Shared,s4={ s2 with heap:=h1,toks:=s2.toks+([]:List (Str×Value)).length } ->
   codeAny (model X.prog X.w) X.A (.compLoop (.ListComp elt (⟨tg,iter,ifs,0⟩::rest) scope pos) 0 (.ref it) (.ref D) (compEnvC scope (jg X.env.cells scope.names []) C X.env)) (compPost (model X.prog X.w) X.A X.xe use Qx (.ref D) C) s4:=by
  intro s4 e4
  subst e4
  refine loop C D it fp tn J W H2 _ _ m0 _ fpB fD T tl ⟨0,[],[],H2,0,I4,T.keep _ _ _ st2 fun b hb o e=>k4 b o (k3 b o e),fun b hb=>(f2 b hb).1,dN,hacc,.nil,w0⟩ fun s6 h6=>?_
  obtain⟨ys,its,H5,z5,I6,nD6,o6,rv5,hlen,q⟩:=h6
  obtain⟨m6,hn6,_⟩:=I6.loc
  have hC0:upd H5 D (.lst ys) C=none:=by rw[zo (qH hDl)];exact I6.free
  refine fin s6 D C (upd H5 D (.lst ys)) m6 hn6 (fun h7 k7=>?_) ⟨hC0,fpC⟩ (q D nD6)
  refine I3.call' (s':={ s6 with heap:=h7 }) (ch:=D::fp) I6.os (Qb (Wi I6.base (wX eC) k7) jD dN) (Zk (Xp I6.hok I6.free k7) nD6 ⟨hlen,its,z5,rv5,k7 D _ hDl o6⟩) I6.bare fun b hb=>?_
  obtain⟨_,g1,_,g3,g4,g5⟩:=all b hb
  exact⟨g3,g1,g4,g5⟩
 exact codeAny_compStart_list (go _ rfl) (T.self X.A 0 _ _ _ (T.keep _ _ _ st2 fun b hb o e=>k4 b o (k3 b o e)) (go _ rfl))
theorem zbr{Y:Cx}{pins:List (Addr×Obj)}{n:Nat}{js:List Nat}{σ σ9:St}{H':Hp}{s':Shared}(hl:(upS n js σ).length=Y.N.length)(J:Inv Y pins σ9 H' s')(hd:σ9.drop n=(upS n js σ).drop n):Inv Y pins (upS n js σ) H' s':=by
 refine J.weak (hl.trans J.len.symm) fun k v e=>?_
 obtain⟨hn,e1,_⟩:=vq e
 rw[<- hd,XJ] at e1
 rw[<- e1]
 congr 1
 omega
theorem YW{C D it:Addr}{fp:List Addr}{tn:Nat->Heap->Prop}{J:It}{W:Nat->Nat->List V->Hp->Prop}{H2:Hp}{s3 s4:Shared}{m0 n:Nat}{R:Result->Shared->Prop}{js:List Nat}{σ:St}{N':List Str}{N:List V->Hp->Prop}(hc:X.calm=true)
  (hg:∀C s H ex,PG (qi X N' scope C s H ex) tg g) (hf:∀C s H ex,PF (qi X N' scope C s H ex) ifs tf) (he:∀C s H ex,PE (qi X N' scope C s H ex) elt te) (fpB:∀b∈D::fp,∀H':Hp,H' b=none->xt (qi X N' scope C s3 H2 (D::fp)) [] H' b) (fD:∀b∈fp,D≠b) (T:Q5 X.prog X.w X.K tg J fp it tn)
  (turn:∀i m zs H7,W i m zs H7->(J.stop i H7/\N zs H7)\/(J.go i H7/\∃N2:List V->Hp->Prop,(∀zs H',N2 zs H'->∃m',m'<m/\W (i+1) m' zs H')/\∀x H8,J.yld i H7 x H8->g x (upS n js σ) H8 fun σ9 H9=>σ9.drop n=(upS n js σ).drop n/\tf σ9 H9 fun b H10=>
    if b=true then te σ9 H10 fun y H11=>zs.length<sizeLine/\N2 (zs++[y]) H11 else N2 zs H10))
  (j:LcJ (qi X N' scope C s3 H2 (D::fp)) D tn fp [] (upS n js σ) W m0 s4) (fin:∀s6,LcE (qi X N' scope C s3 H2 (D::fp)) D [] (upS n js σ) N s6->R (.ok .next) s6) :
  codeAny (model X.prog X.w) X.A (.compLoop (.ListComp elt [⟨tg,iter,ifs,0⟩] scope pos) 0 (.ref it) (.ref D) (compEnvC scope (jg X.env.cells scope.names []) C X.env)) R s4:=by
 have hl:=(let ⟨_,_,_,_,_,I,_,_,_,_,_,_⟩:=j;I.len:(upS n js σ).length=N'.length)
 refine Wd (LcJ (qi X N' scope C s3 H2 (D::fp)) D tn fp [] (upS n js σ) W) (fun k s5 j=>jI (zd0 (Y:=qi X N' scope C s3 H2 (D::fp)) hc rfl (hg _ _ _ _) (hf _ _ _ _) (he _ _ _ _) T (fpB D jD) (fun b hb=>fpB b (jE _ hb)) fD (fun σ9 H' s' J hd=>zbr hl J hd) turn j) (fun r s6 h6=>?_) fun _ _ q=>q) m0 j
 cases r with
 | some v=>exact h6
 | none=>exact fin s6 h6
theorem zeG(own fr:List Str)(js:List Nat)(hc:X.calm=true)(hk:scope.kind=.function)(hb:ZJ scope.names X.env.scope.names X.N fr js=true)(hi:PI X tg iter wi)
  (hg:∀C s H ex,PG (qi X (own++fr) scope C s H ex) tg g) (hf:∀C s H ex,PF (qi X (own++fr) scope C s H ex) ifs tf) (he:∀C s H ex,PE (qi X (own++fr) scope C s H ex) elt te)
  (hs:∀x,foldedSetIterable iter X.env x=pure x:=by intro _;rfl):PE X (.ListComp elt [⟨tg,iter,ifs,0⟩] scope pos) (tLC wi own.length js g tf te):=by
 intro pins s σ H Q I h
 rw[eval_ListComp]
 exact zeL (rest:=[]) own fr js hk hb hi hs I h (fun C D it fp tn J W H2 s3 s4 m0 R a b T tl j fin=>YW hc hg hf he a b T tl j fin) fun s6 D C H6 m hn all _ q=>⟨m,hn,fun h7 hs7=>⟨.ref D,H6,all h7 fun b o hb e=>hs7.extBut b o hb e,rfl,q⟩⟩
end
section
variable{X:Cx}{pins:List (Addr×Obj)}{σ:St}{H:Hp}{s:Shared}
theorem Xo{ch:List Addr}{h':Heap}{t':Nat}{T:Addr}{ys:List V}{its:List Value}(I:Inv X pins σ H s)(hf:∀b∈ch,xt X pins H b)(hT:s.heap.objs.size<=T)
  (k:∀b o,b∉ch->s.heap.get? b=some o->h'.get? b=some o) (hl:ys.length<=sizeLine) (rv:Vals ys its) (ht:TupX h' T its.toArray) :
  Inv X pins σ (upd H T (.tup ys)) { s with heap:=h',toks:=t' }:=by
 have hn:H T=none:=I.hok.fresh hT
 have ne:∀b o,s.heap.get? b=some o->b≠T:=fun b o e=>qw (jV (zL e) hT)
 have tr:∀b u,H b=some u->b∉ch:=fun b u e hb=>by rw[(hf b hb).1] at e;cases e
 refine I.step (g':=s.gens) (d':=s.drawn) (ch:=ch) (fun b hb=>?_) (fun b o _ _ hc e _=>k b o hc e) (fun b o _ _ hc e _=>⟨o.slots,k b o hc e⟩) (fun b o _ e n=>by rw[zo (ne b o e)];exact n) (fun b o hc e=>⟨o,k b o hc e⟩)
  (fun b xs e=>by rw[zo (zn e hn)];exact e) (fun b o u e=>by rw[zo (zn e hn)];exact e) (fun b ps e=>⟨#[],by rw[zo (zn e hn),e];simp⟩) (fun m hm=>?_) (fun b u e=>?_) I.bare
 ·obtain⟨_,g1,_,g3,g4,g5⟩:=hf b hb
  exact⟨g3,g1,g4,g5⟩
 ·obtain⟨o,es,ep,ho,r⟩:=hm
  exact⟨o,es,ep,k _ o (fun z=>(hf _ z).2.1 rfl) ho,r⟩
 ·by_cases hb:b=T
  ·subst hb
   rw[zb] at e
   cases e
   exact⟨hl,its,rv,ht⟩
  ·rw[zo hb] at e
   refine(I.hok b u e).stay (fun c v hc q=>k c v ?_ q) (fun c q=>by rw[zo (zn q hn)];exact q) fun c xs q=>by rw[zo (zn q hn)];exact q
   rcases hc with z | z
   ·rw[z];exact tr b u e
   ·exact tr c _ z
end
def Ite(K:PySem.W.Frag)(a:Addr):It:=
 ⟨fun i H=>∃xs x,SqL K H a xs/\xs[i]? =some x,fun i H x H'=>∃T y,x=.ref T/\H T=none/\H'=upd H T (.tup [.int i,y])/\∀xs,SqL K H a xs->xs[i]? =some y,fun i H=>∃xs,SqL K H a xs/\xs.length<=i⟩
theorem zaI{P:Program}{w:World}{K:PySem.W.Frag}{elts:List Expr}{kk:Nat}{pos:Pos}(a e it:Addr)(hne:e≠it) :
  Q5 P w K (.Tuple elts kk pos) (Ite K a) [e,it] e (fun i h=>(∃old,IsEnum h e it i old)/\h.IsListIter it a i) where
 mem:=by simp
 obj:=fun i h st b hb=>by
  obtain⟨⟨old,he⟩,⟨o,ho,c,d⟩⟩:=st
  rcases qq.mp hb with z | z
  ·subst z;exact⟨_,he,fun v q=>nomatch q⟩
  ·rw[qR.mp z];exact⟨o,ho,fun v q=>by rw[d] at q;cases q⟩
 keep:=fun i h h' st k=>by
  obtain⟨⟨old,he⟩,hi⟩:=st
  exact⟨⟨old,k e (by simp) _ he⟩,hi.at fun o q=>k it (by simp) o q⟩
 item:=by
  intro X hP hw hK hc i pins s σ H E I hf st hg
  subst hP hw hK
  obtain⟨⟨old,he⟩,hit⟩:=st
  obtain⟨xs,x,hq,hx⟩:=hg
  obtain⟨its,rv,p,hz⟩:=I.list hq
  obtain⟨u,hu,ru⟩:=rv.get hx
  have hl:=p.isList
  have hai:a≠it:=fun z=>by
   obtain⟨o,e1,c1,_⟩:=hl
   obtain⟨o',e2,c2,_⟩:=hit
   rw[z,e2] at e1;cases e1;rw[c2] at c1;exact absurd (wA c1) (by decide)
  have hae:e≠a:=fun z=>by
   obtain⟨o,e1,c1,_⟩:=hl
   rw[<- z,he] at e1;cases e1;exact absurd (wA c1) (by decide)
  have D:=Draws.list (prog:=X.prog) (w:=X.w) (A:=X.A.in1) (I.ok.hd hc) it a hai its.toArray
  have hi:i<its.toArray.size:=by
   have h1:=(zN.mp hu).1
   simpa using h1
  refine wpAny_pyNext_enum_itemD D he ⟨hit,hl⟩ hi hne (by simp[hne,hae]) fun x' h' tk hP' hout hst' hT hsz hk=>?_
  have ex:x'=u:=by
   have h2:its[i]? =some x':=by simpa using hP'
   rw[hu] at h2;exact(jJ h2).symm
  subst ex
  refine⟨_,rfl,wpAny_letOwnedTupleGo_enum hout fun h2 he2 hs2=>?_⟩
  have eT:s.heap.objs.size≠e:=xE (zL he)
  have k2:∀b o,b∉[e,it]->s.heap.get? b=some o->h2.get? b=some o:=fun b o hb q=>by
   have n1:b≠e:=fun z=>hb (by simp[z])
   have n2:b≠it:=fun z=>hb (by simp[z])
   exact(hs2.2 b n1).trans (hk b o n1 n2 q)
  have it2:h2.IsListIter it a (i+1):=hst'.1.extBut hs2.extBut (qH hne)
  refine⟨.ref s.heap.objs.size,upd H s.heap.objs.size (.tup [.int i,x]),?_,rfl,⟨_,x,rfl,I.hok.fresh (zC _),rfl,fun ys hy=>by rw[I.list_inj hy hq];exact hx⟩,⟨⟨_,by simpa using he2⟩,it2⟩,fun b hb=>?_⟩
  ·refine Xo (s:=s) (h':=h2) (t':=tk+1) (its:=[.int i tk,x']) I hf (zC _) k2 (by rw[sizeLine_eq];exact(by decide:2<=16777216)) (.cons ⟨tk,rfl⟩ (.cons ru .nil)) (TupX.by ((hs2.2 _ eT).trans hT))
  ·have hb':b<s.heap.objs.size:=by
    rcases qq.mp hb with z | z
    ·rw[z];exact zL he
    ·rw[qR.mp z]
     obtain⟨o',e',_⟩:=hit
     exact zL e'
   rw[zo (qw hb')]
   exact(hf b hb).1
 done:=by
  intro X hP hw hK hc i pins s σ H E I hf st hg
  subst hP hw hK
  obtain⟨⟨old,he⟩,hit⟩:=st
  obtain⟨xs,hq,hx⟩:=hg
  obtain⟨its,rv,p,hz⟩:=I.list hq
  have hl:=p.isList
  have hai:a≠it:=fun z=>by
   obtain⟨o,e1,c1,_⟩:=hl
   obtain⟨o',e2,c2,_⟩:=hit
   rw[z,e2] at e1;cases e1;rw[c2] at c1;exact absurd (wA c1) (by decide)
  obtain⟨f0,f1,f2,f3,f4,f5⟩:=hf it (by simp)
  have hle:its.toArray.size<=i:=by
   have:=rv.length
   simp only[qk];omega
  have hT:s.TypeIs (.ref e) "enumerate" :=⟨_,he,rfl⟩
  unfold pyNext
  refine zk (yo (y8 (name:=Str.ofString "__next__") hT XU (vD XU hT F.entry_enumerate_next ?_ (F.args_enumerate_next_1 _))))
  show wpAny _ _ (field (.ref e) 2 >>= _) _ _ _
  refine zk (xD he rfl (x:=.ref it) rfl (zk (wpAny_nextOf_list_end (I.ok.hd hc) hit hl (by simpa using hle) fun h' x he' hx'=>?_)))
  obtain⟨o,ho,hc'⟩:=hx'
  refine zk (ZM (T:= "StopIteration") (b:=true) ⟨o,ho,hc'⟩ isSubtype_stop ?_)
  exact zD ⟨rfl,I.turned (t':=s.toks) (fun b o hb q=>he' b o hb q) f0 f1 f3 f4 f5⟩
 self:=fun _ _ _ _ _ st h=>let ⟨⟨_,he⟩,_⟩:=st;wpAny_pyIter_enum he h
section
variable{X:Cx}
def zgQ(K:PySem.W.Frag)(ta:TA):TI:=fun σ H R=>ta σ H fun vs H1=>∃a,vs=[.ref a]/\(∃xs,SqL K H1 a xs)/\R (Ite K a) H1
theorem Xd{l:Expr}{ta:TA}{p pos tp:Pos}{elts:List Expr}{kk:Nat}(hg:Gl X "enumerate")(hm:X.mg "enumerate" = none)(ha:PA X [l] ta)(hs:starEach [l] X.env=[(false,eval l X.env)]:=by rfl) :
  PI X (.Tuple elts kk tp) (.Call (.Name "enumerate" p) [l] [] pos) (zgQ X.K ta):=by
 intro pins s σ H R I h
 refine Call_ (vO I hg hm boot_enumerate (QQ (thn (ha pos pins s σ H _ I h) fun us s1 ⟨vs,H1,I1,r1,q1⟩=>?_) hs rfl))
 obtain⟨a,e,⟨xs,hq⟩,q⟩:=q1
 subst e
 obtain⟨u,rfl,ru⟩:=xJ r1
 cases ru
 obtain⟨its,rv,pl,hz⟩:=I1.list hq
 refine call_enumerate_list pl.isList fun h' he hi hsz hk=>wpAny_pyIter_enum he ?_
 have I2:Inv X pins σ H1 { s1 with heap:=h' }:=I1.kept (t':=s1.toks) hk
 refine⟨s1.heap.objs.size+1,[s1.heap.objs.size+1,s1.heap.objs.size],_,_,H1,rfl,I2,zaI a _ _ (Nat.succ_ne_self _),⟨⟨_,he⟩,hi⟩,fun b hb=>?_,q⟩
 have hb':s1.heap.objs.size<=b:=by
  rcases qq.mp hb with z | z
  ·rw[z];exact vn _
  ·rw[qR.mp z];exact zC _
 exact I1.fpOk hb' (I1.hok.fresh hb')
theorem QA{K:PySem.W.Frag}{a:Addr}{xs:List V}{g:TG}{tb:TS}{D:Jg}{σ:St}{H:Hp}(Pv:Nat->St->Hp->Prop)(h0:Pv 0 σ H)(hl:∀i σ H,i<=xs.length->Pv i σ H->SqL K H a xs)
  (hs:∀i x σ H T,xs[i]? =some x->Pv i σ H->H T=none->g (.ref T) σ (upd H T (.tup [.int i,x])) fun σ2 H2=>tb { D with nx:=Pv (i+1),ct:=Pv (i+1),bk:=D.nx } σ2 H2) (hd:∀σ H,Pv xs.length σ H->D.nx σ H) :
  ∃W:Nat->Nat->St->Hp->Prop,(∃m,W 0 m σ H)/\∀i m σ H,W i m σ H ->
   ((Ite K a).stop i H/\D.nx σ H)\/((Ite K a).go i H/\∃N:St->Hp->Prop,(∀σ' H',N σ' H'->∃m',m'<m/\W (i+1) m' σ' H')/\∀x H',(Ite K a).yld i H x H'->g x σ H' fun σ2 H2=>tb { D with nx:=N,ct:=N,bk:=D.nx } σ2 H2):=by
 refine⟨fun i m σ H=>m=xs.length-i/\i<=xs.length/\Pv i σ H,⟨xs.length,by simp,qo _,h0⟩,?_⟩
 rintro i m σ H ⟨rfl,hi,p⟩
 have q:=hl i σ H hi p
 by_cases hlt:i<xs.length
 ·refine .inr ⟨⟨xs,xs[i],q,by simp[hlt]⟩,Pv (i+1),fun σ' H' p'=>⟨xs.length-(i+1),by omega,rfl,hlt,p'⟩,fun x H' y=>?_⟩
  obtain⟨T,z,e1,hT,e2,y⟩:=y
  subst e1 e2
  exact hs i z σ H T (y xs q) p hT
 ·have e:i=xs.length:=by omega
  subst e
  exact .inl ⟨⟨xs,q,zC _⟩,hd σ H p⟩
inductive ZW(K:PySem.W.Frag)(xs:List V)(H:Hp)(Q:VK):Prop
 | mk (p:Addr) (bs:List Bool) (_:xs=[.ref p]) (_:SqL K H p (bs.map V.bl)) (_:Q (.bl (bs.all id)) H):ZW K xs H Q
theorem jA(hc:X.calm=true):jF X (.builtin "all") (ZW X.K):=by
 intro pins s σ H xs us Q I r h
 obtain⟨p,bs,rfl,hq,q⟩:=h
 obtain⟨u,rfl,ru⟩:=xJ r
 cases ru
 obtain⟨its,rv,pl,hz⟩:=I.list hq
 have hl:=pl.isList
 have hpl:p≠s.heap.objs.size:=by
  obtain⟨o,e,_⟩:=hl
  exact qw (zL e)
 refine call_all_walk (wpAny_pyIter_list hl ?_)
 refine⟨s.heap.objs.size,_,_,_,_,_,fun i=>bs.getD i true,rfl,Walks.list (prog:=X.prog) (w:=X.w) (A:=X.A.in1) (I.ok.hd hc) _ p hpl its.toArray,⟨⟨_,qA _ rfl,rfl,rfl⟩,hl.push _⟩,?_,fun h' tk hk=>?_⟩
 ·intro i v s' Q' E' hP hQ
  have hP:its.toArray[i]? =some v:=hP
  have e1:its[i]? =some v:=by simpa using hP
  have hi:i<bs.length:=by
   have h1:=(zN.mp e1).1
   have h2:=rv.length
   rw[zq] at h2
   omega
  have e2:(bs.map V.bl)[i]? =some (.bl bs[i]):=by simp[hi]
  obtain⟨u',eu,ru⟩:=rv.get e2
  rw[e1] at eu
  cases eu
  cases ru
  have e3:bs.getD i true=bs[i]:=by simp[hi]
  have hQ2:Q' (bs.getD i true) s':=hQ
  rw[e3] at hQ2
  exact yW hQ2
 ·have k:∀b o,s.heap.get? b=some o->h'.get? b=some o:=fun b o e=>hk b o (by simp;exact qw (zL e)) (qx _ e)
  have ea:(List.range its.toArray.size).all (fun i=>bs.getD i true)=bs.all id:=by
   have hlen:its.toArray.size=bs.length:=by
    have:=rv.length
    rw[zq] at this
    simp only[qk];omega
   rw[hlen,wu,jh,jh]
   constructor
   ·intro h b hb
    obtain⟨i,hi,rfl⟩:=Q2.mp hb
    have:=h i (wZ.mpr hi)
    simpa [hi] using this
   ·intro h i hi
    have hi:=wZ.mp hi
    have:=h bs[i] (yr hi)
    simpa [hi] using this
  exact⟨.bl (bs.all id),H,I.kept k,by rw[ea];rfl,q⟩
end
def SqK(K:PySem.W.Frag)(kd:Bool)(H:Hp)(a:Addr)(xs:List V):Prop:=match kd with
 | true=>SqL K H a xs
 | false=>SqT K H a xs
def SeqK(kd:Bool)(h:Heap)(a:Addr)(its:Array Value):Prop:=match kd with
 | true=>h.IsList a its
 | false=>h.IsTuple a its
def ItrK(kd:Bool)(h:Heap)(it a:Addr)(i:Nat):Prop:=match kd with
 | true=>h.IsListIter it a i
 | false=>h.IsTupleIter it a i
theorem SeqK.at{kd:Bool}{h h':Heap}{a:Addr}{its:Array Value}(x:SeqK kd h a its)(k:∀o,h.get? a=some o->h'.get? a=some o):SeqK kd h' a its:=by
 cases kd with
 | true=>exact Heap.IsList.at x k
 | false=>obtain⟨o,e,r⟩:=(show h.IsTuple a its from x);exact⟨o,k o e,r⟩
theorem ItrK.at{kd:Bool}{h h':Heap}{it a:Addr}{i:Nat}(x:ItrK kd h it a i)(k:∀o,h.get? it=some o->h'.get? it=some o):ItrK kd h' it a i:=by
 cases kd with
 | true=>exact Heap.IsListIter.at x k
 | false=>obtain⟨o,e,r⟩:=(show h.IsTupleIter it a i from x);exact⟨o,k o e,r⟩
theorem ItrK.obj{kd:Bool}{h:Heap}{it a:Addr}{i:Nat}(x:ItrK kd h it a i):∃o,h.get? it=some o/\(o.cls=.type "list_iterator" \/ o.cls=.type "tuple_iterator")/\∀v,o.data≠.cell v:=by
 cases kd with
 | true=>obtain⟨o,e,c,d⟩:=(show h.IsListIter it a i from x);exact⟨o,e,.inl c,fun v q=>by rw[d] at q;cases q⟩
 | false=>obtain⟨o,e,c,d⟩:=(show h.IsTupleIter it a i from x);exact⟨o,e,.inr c,fun v q=>by rw[d] at q;cases q⟩
section
variable{prog:Program}{w:World}{A:Around}{E:Value->Shared->Prop}{s:Shared}
theorem vL{kd:Bool}{it a:Addr}{i:Nat}{its:Array Value}{x:Value}{Q:Value->Shared->Prop}(hi:ItrK kd s.heap it a i)(hl:SeqK kd s.heap a its)(hx:its[i]? =some x)
  (hQ:∀h',ItrK kd h' it a (i+1)->Heap.SameBut it s.heap h'->Q x { s with heap:=h' }):wpAny (model prog w) A (Builtin.SmallTypes.nextOf (.ref it)) Q E s:=by
 cases kd with
 | true=>exact wpAny_nextOf_list_item hi hl hx hQ
 | false=>
  have hi':s.heap.IsTupleIter it a i:=hi
  obtain⟨o,ho,hc,hd⟩:=id hi'
  obtain⟨ol,hol,_,nl,hdl⟩:=(show s.heap.IsTuple a its from hl)
  unfold Builtin.SmallTypes.nextOf;refine zk (y8 (name:=Str.ofString "__next__") hi'.typeIs XZ (vD XZ hi'.typeIs F.entry_tuple_iterator_next ?_ (F.args_tuple_iterator_next_1 _)))
  show wpAny _ _ (field (.ref it) 0 >>= _) _ _ _;refine zk (xD ho hd (x:=.ref a) rfl ?_)
  show wpAny _ _ (if(Value.ref a==Value.none)=true then _ else _) _ _ _;rw[if_neg (show ¬((Value.ref a==Value.none)=true) from jf)]
  show wpAny _ _ (field (.ref it) 1 >>= _) _ _ _;refine zk (xD ho hd (x:=.int i 0) rfl ?_)
  show wpAny _ _ (seqItems? (.ref a) >>= _) _ _ _;refine zk (yS hol hdl ?_);simp only[vf,hx]
  refine zk (wpAny_setField ho hd (by simp) (zD ⟨x,rfl,zD (hQ _ (show Heap.IsTupleIter _ _ _ _ from ?_) (QM ..))⟩))
  refine⟨_,JW _ ho (Obj.isFreed_of_fields (QZ hd _)),(Obj.cls_mapFields ..).trans hc,?_⟩;rw[QZ hd];simp[rawInt]
theorem wL{kd:Bool}{it a:Addr}{i:Nat}{its:Array Value}{Q:Value->Shared->Prop}(hh:A.handled=none)(hi:ItrK kd s.heap it a i)(hl:SeqK kd s.heap a its)(hx:its[i]? =none)
  (hE:∀h' e,Heap.ExtBut it s.heap h'->(∃o,h'.get? e=some o/\o.cls=.type "StopIteration")->E (.ref e) { s with heap:=h' }):wpAny (model prog w) A (Builtin.SmallTypes.nextOf (.ref it)) Q E s:=by
 cases kd with
 | true=>exact wpAny_nextOf_list_end hh hi hl hx hE
 | false=>
  have hi':s.heap.IsTupleIter it a i:=hi
  obtain⟨o,ho,hc,hd⟩:=id hi'
  obtain⟨ol,hol,_,nl,hdl⟩:=(show s.heap.IsTuple a its from hl)
  unfold Builtin.SmallTypes.nextOf;refine zk (y8 (name:=Str.ofString "__next__") hi'.typeIs XZ (vD XZ hi'.typeIs F.entry_tuple_iterator_next ?_ (F.args_tuple_iterator_next_1 _)))
  show wpAny _ _ (field (.ref it) 0 >>= _) _ _ _;refine zk (xD ho hd (x:=.ref a) rfl ?_)
  show wpAny _ _ (if(Value.ref a==Value.none)=true then _ else _) _ _ _;rw[if_neg (show ¬((Value.ref a==Value.none)=true) from jf)]
  show wpAny _ _ (field (.ref it) 1 >>= _) _ _ _;refine zk (xD ho hd (x:=.int i 0) rfl ?_)
  show wpAny _ _ (seqItems? (.ref a) >>= _) _ _ _;refine zk (yS hol hdl ?_);simp only[vf,hx]
  refine zk (vS (zk (wpAny_setField ho hd (by simp) ?_)));show wpAny _ _ (newExc (.type "StopIteration") [] >>= _) _ _ _
  refine zk ?_;simp only[newExc,newTuple];refine zk (vg ?_ (by size_fits))
  refine zk (m:=firstArgMember _ _) (wpAny_of_eq (a:=Value.none) (by first| rfl | (simp only[firstArgMember];rfl)) (vg ?_ (by size_fits)))
  simp only[raiseNew];refine zk (wpAny_handled ?_);first| rw[show A.in1.handled=none from hh] | rw[hh]
  exact zk (zD (wpAny_throw (hE _ _ (((QM ..).extBut.push _).push _) ⟨_,qA _ rfl,rfl⟩)))
structure JY(k1 k2:Bool)(h:Heap)(z TI TO i1 i2 a1 a2:Addr)(i:Nat):Prop where
 zz:IsZip h z TI TO .none
 ti:IsPair h TI (.ref i1) (.ref i2)
 to:∃a b,IsPair h TO a b
 r1:ItrK k1 h i1 a1 i
 r2:ItrK k2 h i2 a2 i
structure zae(z TI TO i1 i2:Addr):Prop where
 a:TI≠z
 b:TO≠z
 c:i1≠z
 d:i2≠z
 e:TI≠TO
 f:TI≠i1
 g:TI≠i2
 h:TO≠i1
 i:TO≠i2
 j:i1≠i2
theorem zaf{k1 k2:Bool}{z TI TO i1 i2 a1 a2:Addr}{i:Nat}{xs ys:Array Value}{x y:Value}{Q:Option Value->Shared->Prop}(N:zae z TI TO i1 i2)(Z:JY k1 k2 s.heap z TI TO i1 i2 a1 a2 i)
  (l1:SeqK k1 s.heap a1 xs) (l2:SeqK k2 s.heap a2 ys) (m1:∀b∈[z,TO,i1,i2],a1≠b) (m2:∀b∈[z,TO,i1,i2],a2≠b) (hx:xs[i]? =some x) (hy:ys[i]? =some y)
  (hQ:∀h',IsZip h' z TI TO (rawInt s.heap.objs.size)->IsPair h' TI (.ref i1) (.ref i2)->(∃a b,IsPair h' TO a b)->ItrK k1 h' i1 a1 (i+1)->ItrK k2 h' i2 a2 (i+1)->IsPair h' s.heap.objs.size x y->h'.objs.size=s.heap.objs.size+1 ->
   (∀c o,c∉[z,TO,i1,i2]->s.heap.get? c=some o->h'.get? c=some o)->Q (some (.ref s.heap.objs.size)) { s with heap:=h' }):wpAny (model prog w) A (pyNext (.ref z)) Q E s:=by
 obtain⟨hz,hTI,⟨a,b,hTO⟩,h1,h2⟩:=Z
 have hT:s.TypeIs (.ref z) "zip" :=⟨_,hz,rfl⟩
 unfold pyNext;refine zk (yo (y8 (name:=Str.ofString "__next__") hT F.slot_zip_next (vD F.slot_zip_next hT F.entry_zip_next ?_ (F.args_zip_next_1 _))))
 show wpAny _ _ (field (.ref z) 2 >>= _) _ _ _;refine zk (xD hz rfl (x:=.bool false) rfl ?_)
 show wpAny _ _ (field (.ref z) 3 >>= _) _ _ _;refine zk (xD hz rfl (x:=.ref TI) rfl (zk (yS hTI rfl ?_)))
 show wpAny _ _ (Builtin.SmallTypes.ownedTupleIsFree (.ref z) >>= _) _ _ _;refine zk ?_
 unfold Builtin.SmallTypes.ownedTupleIsFree;refine zk (xD hz rfl (x:=.none) rfl (zD ?_));simp only[if_true]
 refine zk (vS (zk (xD hz rfl (x:=.ref TO) rfl (zk (Zz hz (by simp) fun g1 hz1 hs1=>?_)))))
 replace hz1:IsZip g1 z TI TO .ellipsis:=hz1
 refine zk ?_;simp only[List.zipIdx_cons,List.zipIdx_nil,List.forIn_cons,List.forIn_nil]
 refine zk (zk (wpAny_onRaise ?_));show wpAny _ _ (Builtin.SmallTypes.nextOf (.ref i1) >>= _) _ _ _
 refine zk (vL (h1.at fun o e=>hs1.extBut _ o N.c e) (l1.at fun o e=>hs1.extBut _ o (m1 z (by simp)) e) hx fun g2 h12 hs2=>zD ?_)
 have hTO2:IsPair g2 TO a b:=hs2.extBut _ _ N.h (hs1.extBut _ _ N.b hTO)
 refine zk (yS hTO2 rfl (zk (wpAny_updateSeq_pair hTO2 fun g3 hTO3 hs3=>?_)))
 replace hTO3:IsPair g3 TO x b:=hTO3
 refine zk (wpAny_letGo (zD ?_));refine zk (zk (wpAny_onRaise ?_));show wpAny _ _ (Builtin.SmallTypes.nextOf (.ref i2) >>= _) _ _ _
 have c23:∀c o,c∉[z,TO,i1]->s.heap.get? c=some o->g3.get? c=some o:=fun c o hc e=>hs3.extBut _ o (fun q=>hc (by simp[q])) (hs2.extBut _ o (fun q=>hc (by simp[q])) (hs1.extBut _ o (fun q=>hc (by simp[q])) e))
 refine zk (vL (h2.at fun o e=>c23 _ o (by simp[N.d,qH N.i,qH N.j]) e) (l2.at fun o e=>c23 _ o (by simp[m2 z (by simp),m2 TO (by simp),m2 i1 (by simp)]) e) hy fun g4 h24 hs4=>zD ?_)
 have hTO4:IsPair g4 TO x b:=hs4.extBut _ _ N.i hTO3
 refine zk (yS hTO4 rfl (zk (wpAny_updateSeq_pair hTO4 fun g5 hTO5 hs5=>?_)))
 replace hTO5:IsPair g5 TO x y:=hTO5
 refine zk (wpAny_letGo (zD (zD (zk (yS hTO5 rfl (zk (wpAny_newTuple ?_)))))))
 have zs:g5.objs.size=s.heap.objs.size:=by rw[hs5.1,hs4.1,hs3.1,hs2.1,hs1.1]
 have hz5:IsZip g5 z TI TO .ellipsis:=hs5.extBut _ _ (qH N.b) (hs4.extBut _ _ (qH N.d) (hs3.extBut _ _ (qH N.b) (hs2.extBut _ _ (qH N.c) hz1)))
 have k5:∀c o,c∉[z,TO,i1,i2]->s.heap.get? c=some o->g5.get? c=some o:=fun c o hc e=>hs5.extBut _ o (fun q=>hc (by simp[q])) (hs4.extBut _ o (fun q=>hc (by simp[q])) (c23 c o (fun q=>hc (by simp at q ⊢;rcases q with q | q | q<;>simp[q])) e))
 have r1:ItrK k1 g5 i1 a1 (i+1):=h12.at fun o e=>hs5.extBut _ o (qH N.h) (hs4.extBut _ o N.j (hs3.extBut _ o (qH N.h) e))
 have r2:ItrK k2 g5 i2 a2 (i+1):=h24.at fun o e=>hs5.extBut _ o (qH N.i) e
 have zl:z<g5.objs.size:=zL hz5
 show wpAny _ _ (Builtin.SmallTypes.ownedTupleHandOut (.ref z) (.ref g5.objs.size) >>= _) _ _ _;refine zk ?_;unfold Builtin.SmallTypes.ownedTupleHandOut
 have hz6:IsZip (g5.push { cls:=.type "tuple",data:=.seq #[x,y] }) z TI TO .ellipsis:=qx _ hz5
 refine zk (Zz hz6 (by simp) fun g7 hz7 hs7=>?_)
 replace hz7:IsZip g7 z TI TO (rawInt g5.objs.size):=hz7
 refine Zz hz7 (by simp) fun g8 hz8 hs8=>?_
 replace hz8:IsZip g8 z TI TO (rawInt g5.objs.size):=hz8
 have up:∀c o,c≠z->g5.get? c=some o->g8.get? c=some o:=fun c o c1 e=>hs8.extBut _ o c1 (hs7.extBut _ o c1 (qx _ e))
 have hT8:IsPair g8 g5.objs.size x y:=hs8.extBut _ _ (xE zl) (hs7.extBut _ _ (xE zl) (qA _ rfl))
 have z8:g8.objs.size=g5.objs.size+1:=by rw[hs8.1,hs7.1,j4]
 rw[zs] at hz8 hT8 z8
 refine zD ⟨_,rfl,zD ?_⟩;show Q (some (.ref g5.objs.size)) _;rw[zs]
 exact hQ g8 hz8 (up _ _ N.a (k5 _ _ (by simp[N.a,N.e,N.f,N.g]) hTI)) ⟨_,_,up _ _ N.b hTO5⟩ (r1.at fun o e=>up _ o N.c e) (r2.at fun o e=>up _ o N.d e) hT8 z8 fun c o hc e=>up c o (fun q=>hc (by simp[q])) (k5 c o hc e)
theorem zbo{k1 k2:Bool}{z TI TO i1 i2 a1 a2:Addr}{i:Nat}{xs ys:Array Value}{Q:Option Value->Shared->Prop}(hh:A.handled=none)(N:zae z TI TO i1 i2)(Z:JY k1 k2 s.heap z TI TO i1 i2 a1 a2 i)
  (l1:SeqK k1 s.heap a1 xs) (l2:SeqK k2 s.heap a2 ys) (m1:∀b∈[z,TO,i1,i2],a1≠b) (m2:∀b∈[z,TO,i1,i2],a2≠b) (hend:xs[i]? =none\/ys[i]? =none)
  (hQ:∀h',(∀c o,c∉[z,TO,i1,i2]->s.heap.get? c=some o->h'.get? c=some o)->Q none { s with heap:=h' }):wpAny (model prog w) A (pyNext (.ref z)) Q E s:=by
 obtain⟨hz,hTI,⟨a,b,hTO⟩,h1,h2⟩:=Z
 have hT:s.TypeIs (.ref z) "zip" :=⟨_,hz,rfl⟩
 unfold pyNext;refine zk (yo (y8 (name:=Str.ofString "__next__") hT F.slot_zip_next (vD F.slot_zip_next hT F.entry_zip_next ?_ (F.args_zip_next_1 _))))
 show wpAny _ _ (field (.ref z) 2 >>= _) _ _ _;refine zk (xD hz rfl (x:=.bool false) rfl ?_)
 show wpAny _ _ (field (.ref z) 3 >>= _) _ _ _;refine zk (xD hz rfl (x:=.ref TI) rfl (zk (yS hTI rfl ?_)))
 show wpAny _ _ (Builtin.SmallTypes.ownedTupleIsFree (.ref z) >>= _) _ _ _;refine zk ?_
 unfold Builtin.SmallTypes.ownedTupleIsFree;refine zk (xD hz rfl (x:=.none) rfl (zD ?_));simp only[if_true]
 refine zk (vS (zk (xD hz rfl (x:=.ref TO) rfl (zk (Zz hz (by simp) fun g1 hz1 hs1=>?_)))))
 replace hz1:IsZip g1 z TI TO .ellipsis:=hz1
 refine zk ?_;simp only[List.zipIdx_cons,List.zipIdx_nil,List.forIn_cons,List.forIn_nil]
 refine zk (zk (wpAny_onRaise ?_));show wpAny _ _ (Builtin.SmallTypes.nextOf (.ref i1) >>= _) _ _ _
 cases hx:xs[i]? with
 | none=>
  refine zk (wL hh (h1.at fun o e=>hs1.extBut _ o N.c e) (l1.at fun o e=>hs1.extBut _ o (m1 z (by simp)) e) hx fun g2 e hs2 he=>?_)
  obtain⟨oe,hoe,hce⟩:=he
  have hz2:IsZip g2 z TI TO .ellipsis:=hs2 _ _ (qH N.c) hz1
  have hez:e≠z:=fun q=>by subst q;rw[hz2] at hoe;cases hoe;exact absurd (wA hce) (by decide)
  refine Zz hz2 (by simp) fun g3 hz3 hs3=>?_
  refine zk (ZM (T:= "StopIteration") (b:=true) ⟨oe,hs3.extBut _ _ hez hoe,hce⟩ isSubtype_stop (zD (hQ _ fun c o hc q=>?_)))
  exact hs3.extBut _ o (fun q=>hc (by simp[q])) (hs2 _ o (fun q=>hc (by simp[q])) (hs1.extBut _ o (fun q=>hc (by simp[q])) q))
 | some x=>
  have hy:ys[i]? =none:=by rcases hend with q | q;rw[hx] at q;cases q;exact q
  refine zk (vL (h1.at fun o e=>hs1.extBut _ o N.c e) (l1.at fun o e=>hs1.extBut _ o (m1 z (by simp)) e) hx fun g2 h12 hs2=>zD ?_)
  have hTO2:IsPair g2 TO a b:=hs2.extBut _ _ N.h (hs1.extBut _ _ N.b hTO)
  refine zk (yS hTO2 rfl (zk (wpAny_updateSeq_pair hTO2 fun g3 hTO3 hs3=>?_)))
  have c23:∀c o,c∉[z,TO,i1]->s.heap.get? c=some o->g3.get? c=some o:=fun c o hc e=>hs3.extBut _ o (fun q=>hc (by simp[q])) (hs2.extBut _ o (fun q=>hc (by simp[q])) (hs1.extBut _ o (fun q=>hc (by simp[q])) e))
  refine zk (wpAny_letGo (zD ?_));refine zk (zk (wpAny_onRaise ?_));show wpAny _ _ (Builtin.SmallTypes.nextOf (.ref i2) >>= _) _ _ _
  refine zk (wL hh (h2.at fun o e=>c23 _ o (by simp[N.d,qH N.i,qH N.j]) e) (l2.at fun o e=>c23 _ o (by simp[m2 z (by simp),m2 TO (by simp),m2 i1 (by simp)]) e) hy fun g4 e hs4 he=>?_)
  obtain⟨oe,hoe,hce⟩:=he
  have hz4:IsZip g4 z TI TO .ellipsis:=hs4 _ _ (qH N.d) (hs3.extBut _ _ (qH N.b) (hs2.extBut _ _ (qH N.c) hz1))
  have hez:e≠z:=fun q=>by subst q;rw[hz4] at hoe;cases hoe;exact absurd (wA hce) (by decide)
  refine Zz hz4 (by simp) fun g5 hz5 hs5=>?_
  refine zk (ZM (T:= "StopIteration") (b:=true) ⟨oe,hs5.extBut _ _ hez hoe,hce⟩ isSubtype_stop (zD (hQ _ fun c o hc q=>?_)))
  exact hs5.extBut _ o (fun q=>hc (by simp[q])) (hs4 _ o (fun q=>hc (by simp[q])) (c23 c o (fun q=>hc (by simp at q ⊢;rcases q with q | q | q<;>simp[q])) q))
abbrev zh(h:Heap)(o1 o2:Obj):Heap:=((((h.push o1).push o2).push { cls:=.type "tuple",data:=.seq #[.ref h.objs.size,.ref (h.push o1).objs.size] }).push { cls:=.type "tuple",data:=.seq #[.none,.none] }).push
 { cls:=.type "zip",data:=.fields #[.none,.bool false,.bool false,.ref ((h.push o1).push o2).objs.size,.ref (((h.push o1).push o2).push { cls:=.type "tuple",data:=.seq #[.ref h.objs.size,.ref (h.push o1).objs.size] }).objs.size] }
theorem zfM{k1 k2:Bool}{a1 a2:Addr}{h:Heap}{o1 o2:Obj}(p1:∀g:Heap,g.get? h.objs.size=some o1->ItrK k1 g h.objs.size a1 0)(p2:∀(g:Heap) (n:Addr),g.get? n=some o2->ItrK k2 g n a2 0)(f1:o1.isFreed=false)(f2:o2.isFreed=false) :
  JY k1 k2 (zh h o1 o2) (h.objs.size+4) (h.objs.size+2) (h.objs.size+3) h.objs.size (h.objs.size+1) a1 a2 0/\(∀c o,h.get? c=some o->(zh h o1 o2).get? c=some o)/\(zh h o1 o2).objs.size=h.objs.size+5:=by
 have z1:(h.push o1).objs.size=h.objs.size+1:=j4 ..
 have z2:((h.push o1).push o2).objs.size=h.objs.size+2:=by rw[j4,z1]
 have z3:(((h.push o1).push o2).push { cls:=.type "tuple",data:=.seq #[.ref h.objs.size,.ref (h.push o1).objs.size] }).objs.size=h.objs.size+3:=by rw[j4,z2]
 have z4:((((h.push o1).push o2).push { cls:=.type "tuple",data:=.seq #[.ref h.objs.size,.ref (h.push o1).objs.size] }).push { cls:=.type "tuple",data:=.seq #[.none,.none] }).objs.size=h.objs.size+4:=by rw[j4,z3]
 have q5:(zh h o1 o2).get? (h.objs.size+4)=some _:=z4▸qA _ rfl
 have q4:(zh h o1 o2).get? (h.objs.size+3)=some _:=z3▸qx _ (qA _ rfl)
 have q3:(zh h o1 o2).get? (h.objs.size+2)=some _:=z2▸qx _ (qx _ (qA _ rfl))
 have q2:(zh h o1 o2).get? (h.objs.size+1)=some o2:=z1▸qx _ (qx _ (qx _ (qA _ f2)))
 have q1:(zh h o1 o2).get? h.objs.size=some o1:=qx _ (qx _ (qx _ (qx _ (qA _ f1))))
 rw[z2,z3] at q5
 rw[z1] at q3
 exact⟨⟨q5,q3,⟨_,_,q4⟩,p1 _ q1,p2 _ _ q2⟩,fun c o e=>qx _ (qx _ (qx _ (qx _ (qx _ e)))),by rw[j4,z4]⟩
theorem zbn{k1 k2:Bool}{a1 a2:Addr}{xs ys:Array Value} :
  PySem.Meets (Builtin.«zip.__new__» ⟨[.type "zip",.ref a1,.ref a2],[]⟩) (fun _ R s=>SeqK k1 s.heap a1 xs/\SeqK k2 s.heap a2 ys /\
   ∀h',JY k1 k2 h' (s.heap.objs.size+4) (s.heap.objs.size+2) (s.heap.objs.size+3) s.heap.objs.size (s.heap.objs.size+1) a1 a2 0->(∀c o,s.heap.get? c=some o->h'.get? c=some o)->h'.objs.size=s.heap.objs.size+5->R (.ok (.ret (.ref (s.heap.objs.size+4)))) { s with heap:=h' }):=
 .of_wp fun prog w A R s hq=>by
  obtain⟨hp,g,d,tk,os⟩:=s
  obtain⟨hl1,hl2,hr⟩:=hq
  have hsub:=sub_zip
  have fin:∀{o1 o2:Obj},(∀g:Heap,g.get? hp.objs.size=some o1->ItrK k1 g hp.objs.size a1 0)->(∀(g:Heap) (n:Addr),g.get? n=some o2->ItrK k2 g n a2 0)->o1.isFreed=false->o2.isFreed=false ->
    R (.ok (.ret (.ref ((((hp.push o1).push o2).push { cls:=.type "tuple",data:=.seq #[.ref hp.objs.size,.ref (hp.push o1).objs.size] }).push { cls:=.type "tuple",data:=.seq #[.none,.none] }).objs.size))) ⟨zh hp o1 o2,g,d,tk,os⟩:=fun {o1 o2} p1 p2 f1 f2=>by
   obtain⟨A,B,C⟩:=zfM p1 p2 f1 f2
   have e:((((hp.push o1).push o2).push { cls:=.type "tuple",data:=.seq #[.ref hp.objs.size,.ref (hp.push o1).objs.size] }).push { cls:=.type "tuple",data:=.seq #[.none,.none] }).objs.size=hp.objs.size+4:=by
    rw[j4,j4,j4,j4]
   rw[e]
   exact hr _ A B C
  cases k1 with
  | true=>
   have L1:Heap.IsList (Shared.heap ⟨hp,g,d,tk,os⟩) a1 xs:=hl1
   cases k2 with
   | true=>
    have L2:Heap.IsList (Shared.heap ⟨hp.push { cls:=.type "list_iterator",data:=.fields #[.ref a1,.int 0 0] },g,d,tk,os⟩) a2 ys:=Heap.IsList.push hl2 _
    wp_walk using wpAny_pyIter_list L1,wpAny_pyIter_list L2
    exact⟨_,rfl,fin (fun g e=>⟨_,e,rfl,rfl⟩) (fun g n e=>⟨_,e,rfl,rfl⟩) rfl rfl⟩
   | false=>
    have L2:Heap.IsTuple (Shared.heap ⟨hp.push { cls:=.type "list_iterator",data:=.fields #[.ref a1,.int 0 0] },g,d,tk,os⟩) a2 ys:=Heap.IsTuple.push hl2 _
    wp_walk using wpAny_pyIter_list L1,wpAny_pyIter_tuple L2
    exact⟨_,rfl,fin (fun g e=>⟨_,e,rfl,rfl⟩) (fun g n e=>⟨_,e,rfl,rfl⟩) rfl rfl⟩
  | false=>
   have L1:Heap.IsTuple (Shared.heap ⟨hp,g,d,tk,os⟩) a1 xs:=hl1
   cases k2 with
   | true=>
    have L2:Heap.IsList (Shared.heap ⟨hp.push { cls:=.type "tuple_iterator",data:=.fields #[.ref a1,.int 0 0] },g,d,tk,os⟩) a2 ys:=Heap.IsList.push hl2 _
    wp_walk using wpAny_pyIter_tuple L1,wpAny_pyIter_list L2
    exact⟨_,rfl,fin (fun g e=>⟨_,e,rfl,rfl⟩) (fun g n e=>⟨_,e,rfl,rfl⟩) rfl rfl⟩
   | false=>
    have L2:Heap.IsTuple (Shared.heap ⟨hp.push { cls:=.type "tuple_iterator",data:=.fields #[.ref a1,.int 0 0] },g,d,tk,os⟩) a2 ys:=Heap.IsTuple.push hl2 _
    wp_walk using wpAny_pyIter_tuple L1,wpAny_pyIter_tuple L2
    exact⟨_,rfl,fin (fun g e=>⟨_,e,rfl,rfl⟩) (fun g n e=>⟨_,e,rfl,rfl⟩) rfl rfl⟩
theorem zbc{k1 k2:Bool}{a1 a2:Addr}{xs ys:Array Value}{Q:Value->Shared->Prop}(h1:SeqK k1 s.heap a1 xs)(h2:SeqK k2 s.heap a2 ys)
  (h:∀h',JY k1 k2 h' (s.heap.objs.size+4) (s.heap.objs.size+2) (s.heap.objs.size+3) s.heap.objs.size (s.heap.objs.size+1) a1 a2 0->(∀c o,s.heap.get? c=some o->h'.get? c=some o)->h'.objs.size=s.heap.objs.size+5 ->
   Q (.ref (s.heap.objs.size+4)) { s with heap:=h' }):wpAny (model prog w) A (call (.type "zip") [.ref a1,.ref a2]) Q E s:=by
 refine callType_new F.called_zip (by decide) (F.typeCall_zip_2 _ _) (F.newCall_zip_2 _ _) (fun obj=>F.args_object_init_3 obj _ _) F.entry_zip_new (zbn (k1:=k1) (k2:=k2) (xs:=xs) (ys:=ys)) ⟨h1,h2,fun h' Z k z=>?_⟩
 exact⟨⟨_,Z.zz,rfl⟩,h h' Z k z⟩
end
theorem Inv.seqK{X:Cx}{pins:List (Addr×Obj)}{σ:St}{H:Hp}{s:Shared}{kd:Bool}{a:Addr}{xs:List V}(I:Inv X pins σ H s)(h:SqK X.K kd H a xs):∃its:List Value,Vals xs its/\SeqK kd s.heap a its.toArray/\xs.length<=sizeLine:=by
 cases kd with
 | true=>obtain⟨its,r,p,z⟩:=I.list h;exact⟨its,r,p.isList,z⟩
 | false=>obtain⟨its,r,p,z⟩:=I.tuple h;exact⟨its,r,p,z⟩
theorem Inv.seqK_inj{X:Cx}{pins:List (Addr×Obj)}{σ:St}{H:Hp}{s:Shared}{kd:Bool}{a:Addr}{xs ys:List V}(I:Inv X pins σ H s)(h:SqK X.K kd H a xs)(h':SqK X.K kd H a ys):xs=ys:=by
 cases kd with
 | true=>exact I.list_inj h h'
 | false=>exact I.tuple_inj h h'
theorem SqK.ne_fp{X:Cx}{pins:List (Addr×Obj)}{σ:St}{H:Hp}{s:Shared}{kd:Bool}{a b:Addr}{xs:List V}(I:Inv X pins σ H s)(h:SqK X.K kd H a xs)(f:xt X pins H b):a≠b:=fun z=>by
 have kk:∀o,X.K.lookup a=some o->False:=fun o e=>by
  have e':=I.mod.kin a o e
  rcases f.2.2.2.1 with q | q
  ·exact I.ok.noex a o e' (by rw[z];exact q)
  ·have:=zL (I.ok.bs a o e').1
   rw[z] at this
   exact vc _ (jV this q)
 cases kd with
 | true=>
  rcases(show SqL X.K H a xs from h) with(q | ⟨o,q⟩) | ⟨o,_,_,q,_⟩
  ·rw[z,f.1] at q;cases q
  ·rw[z,f.1] at q;cases q
  ·exact kk o q
 | false=>
  rcases(show SqT X.K H a xs from h) with(q | ⟨o,q⟩) | ⟨o,_,_,q,_⟩
  ·rw[z,f.1] at q;cases q
  ·rw[z,f.1] at q;cases q
  ·exact kk o q
def Itz(K:PySem.W.Frag)(k1 k2:Bool)(a1 a2:Addr):It:=
 ⟨fun i H=>∃xs ys x y,SqK K k1 H a1 xs/\SqK K k2 H a2 ys/\xs[i]? =some x/\ys[i]? =some y,
  fun i H x H'=>∃T u v,x=.ref T/\H T=none/\H'=upd H T (.tup [u,v])/\(∀xs,SqK K k1 H a1 xs->xs[i]? =some u)/\∀ys,SqK K k2 H a2 ys->ys[i]? =some v,
  fun i H=>∃xs ys,SqK K k1 H a1 xs/\SqK K k2 H a2 ys/\(xs.length<=i\/ys.length<=i)⟩
theorem zbs{P:Program}{w:World}{K:PySem.W.Frag}{elts:List Expr}{kk:Nat}{pos:Pos}{k1 k2:Bool}{a1 a2 z TI TO i1 i2:Addr}(N:zae z TI TO i1 i2) :
  Q5 P w K (.Tuple elts kk pos) (Itz K k1 k2 a1 a2) [z,TI,TO,i1,i2] z (fun i h=>JY k1 k2 h z TI TO i1 i2 a1 a2 i) where
 mem:=by simp
 obj:=fun i h Z b hb=>by
  obtain⟨a,b',q⟩:=Z.to
  have e1:=Z.r1.obj
  have e2:=Z.r2.obj
  simp only[qq,yq,or_false] at hb
  rcases hb with r | r | r | r | r
  ·subst r;exact⟨_,Z.zz,fun v q=>nomatch q⟩
  ·subst r;exact⟨_,Z.ti,fun v q=>nomatch q⟩
  ·subst r;exact⟨_,q,fun v q=>nomatch q⟩
  ·subst r;obtain⟨o,e,_,d⟩:=e1;exact⟨o,e,d⟩
  ·subst r;obtain⟨o,e,_,d⟩:=e2;exact⟨o,e,d⟩
 keep:=fun i h h' Z k=>by
  obtain⟨a,b',q⟩:=Z.to
  exact⟨k _ (by simp) _ Z.zz,k _ (by simp) _ Z.ti,⟨a,b',k _ (by simp) _ q⟩,Z.r1.at fun o e=>k _ (by simp) o e,Z.r2.at fun o e=>k _ (by simp) o e⟩
 item:=by
  intro X hP hw hK hc i pins s σ H E I hf Z hg
  subst hP hw hK
  obtain⟨xs,ys,x,y,hq1,hq2,hx,hy⟩:=hg
  obtain⟨its1,rv1,p1,hz1⟩:=I.seqK hq1
  obtain⟨its2,rv2,p2,hz2⟩:=I.seqK hq2
  obtain⟨u1,hu1,ru1⟩:=rv1.get hx
  obtain⟨u2,hu2,ru2⟩:=rv2.get hy
  have sub:∀b∈[z,TO,i1,i2],b∈[z,TI,TO,i1,i2]:=fun b hb=>by
   simp only[qq,yq,or_false] at hb ⊢
   rcases hb with r | r | r | r<;>simp[r]
  refine zaf N Z p1 p2 (fun b hb=>hq1.ne_fp I (hf b (sub b hb))) (fun b hb=>hq2.ne_fp I (hf b (sub b hb))) (by simpa using hu1) (by simpa using hu2) fun h1 zz ti to r1 r2 hT hsz hk=>?_
  refine⟨_,rfl,wpAny_letOwnedTupleGo_zip zz fun h2 zz2 hs2=>?_⟩
  have zl:z<s.heap.objs.size:=zL Z.zz
  obtain⟨ta,tb,to⟩:=to
  refine⟨.ref s.heap.objs.size,upd H s.heap.objs.size (.tup [x,y]),?_,rfl,⟨_,x,y,rfl,I.hok.fresh (zC _),rfl,fun xs' h'=>by rw[I.seqK_inj h' hq1];exact hx,fun ys' h'=>by rw[I.seqK_inj h' hq2];exact hy⟩,
   ⟨zz2,hs2.extBut _ _ N.a ti,⟨ta,tb,hs2.extBut _ _ N.b to⟩,r1.at fun o e=>hs2.extBut _ o N.c e,r2.at fun o e=>hs2.extBut _ o N.d e⟩,fun b hb=>?_⟩
  ·exact Xo (s:=s) (h':=h2) (t':=s.toks) (ch:=[z,TO,i1,i2]) (its:=[u1,u2]) I (fun b hb=>hf b (sub b hb)) (zC _) (fun b o hb e=>hs2.extBut _ o (fun q=>hb (by simp[q])) (hk b o hb e)) (by rw[sizeLine_eq];exact(by decide:2<=16777216)) (.cons ru1 (.cons ru2 .nil))
    (TupX.by (hs2.extBut _ _ (xE zl) hT))
  ·have hb':b<s.heap.objs.size:=by
    have e1:=Z.r1.obj
    have e2:=Z.r2.obj
    obtain⟨a,b',q⟩:=Z.to
    simp only[qq,yq,or_false] at hb
    rcases hb with r | r | r | r | r
    ·subst r;exact zl
    ·subst r;exact zL Z.ti
    ·subst r;exact zL q
    ·subst r;obtain⟨o,e,_⟩:=e1;exact zL e
    ·subst r;obtain⟨o,e,_⟩:=e2;exact zL e
   rw[zo (qw hb')]
   exact(hf b hb).1
 done:=by
  intro X hP hw hK hc i pins s σ H E I hf Z hg
  subst hP hw hK
  obtain⟨xs,ys,hq1,hq2,hle⟩:=hg
  obtain⟨its1,rv1,p1,hz1⟩:=I.seqK hq1
  obtain⟨its2,rv2,p2,hz2⟩:=I.seqK hq2
  have sub:∀b∈[z,TO,i1,i2],b∈[z,TI,TO,i1,i2]:=fun b hb=>by
   simp only[qq,yq,or_false] at hb ⊢
   rcases hb with r | r | r | r<;>simp[r]
  have tr:∀b u,H b=some u->b∉[z,TO,i1,i2]:=fun b u e hb=>by rw[(hf b (sub b hb)).1] at e;cases e
  refine zbo (I.ok.hd hc) N Z p1 p2 (fun b hb=>hq1.ne_fp I (hf b (sub b hb))) (fun b hb=>hq2.ne_fp I (hf b (sub b hb))) ?_ fun h' hk=>⟨rfl,?_⟩
  ·have l1:=rv1.length
   have l2:=rv2.length
   rcases hle with q | q
   ·exact .inl (by simp;omega)
   ·exact .inr (by simp;omega)
  ·refine I.step (g':=s.gens) (d':=s.drawn) (t':=s.toks) (ch:=[z,TO,i1,i2]) (fun b hb=>?_) (fun b o _ _ hc e _=>hk b o hc e) (fun b o _ _ hc e _=>⟨o.slots,hk b o hc e⟩) (fun _ _ _ _ n=>n) (fun b o hc e=>⟨o,hk b o hc e⟩)
    (fun _ _ e=>e) (fun _ _ _ e=>e) (fun b ps e=>⟨#[],by rw[e];simp⟩) (fun m hm=>?_) (fun b u e=>?_) I.bare
   ·obtain⟨_,g1,_,g3,g4,g5⟩:=hf b (sub b hb)
    exact⟨g3,g1,g4,g5⟩
   ·obtain⟨o,es,ep,ho,r⟩:=hm
    exact⟨o,es,ep,hk _ o (fun z=>(hf _ (sub _ z)).2.1 rfl) ho,r⟩
   ·refine(I.hok b u e).stay (fun c v hc q=>hk c v ?_ q) (fun _ q=>q) fun _ _ q=>q
    rcases hc with z | z
    ·rw[z];exact tr b u e
    ·exact tr c _ z
 self:=fun _ _ _ _ _ Z h=>wpAny_pyIter_zip Z.zz h
section
variable{X:Cx}
def zhp(K:PySem.W.Frag)(ta:TA):TI:=fun σ H R=>ta σ H fun vs H1=>∃k1 k2 a1 a2,vs=[.ref a1,.ref a2]/\(∃xs,SqK K k1 H1 a1 xs)/\(∃ys,SqK K k2 H1 a2 ys)/\R (Itz K k1 k2 a1 a2) H1
theorem ze8{l m:Expr}{ta:TA}{p pos tp:Pos}{elts:List Expr}{kk:Nat}(hg:Gl X "zip")(hm:X.mg "zip" = none)(ha:PA X [l,m] ta)(hs:starEach [l,m] X.env=[(false,eval l X.env),(false,eval m X.env)]:=by rfl)(hs2:starEach [m] X.env=[(false,eval m X.env)]:=by rfl) :
  PI X (.Tuple elts kk tp) (.Call (.Name "zip" p) [l,m] [] pos) (zhp X.K ta):=by
 intro pins s σ H R I h
 refine Call_ (vO I hg hm boot_zip (QQ (thn (ha pos pins s σ H _ I h) fun us s1 ⟨vs,H1,I1,r1,q1⟩=>?_) (by rw[hs,hs2]) (by rw[hs2];rfl)))
 obtain⟨k1,k2,a1,a2,e,⟨xs,hq1⟩,⟨ys,hq2⟩,q⟩:=q1
 subst e
 obtain⟨u,u',rfl,ru,ru'⟩:=Jj r1
 cases ru
 cases ru'
 obtain⟨its1,rv1,p1,hz1⟩:=I1.seqK hq1
 obtain⟨its2,rv2,p2,hz2⟩:=I1.seqK hq2
 refine zbc p1 p2 fun h' Z hk hsz=>wpAny_pyIter_zip Z.zz ?_
 have I2:Inv X pins σ H1 { s1 with heap:=h' }:=I1.kept (t':=s1.toks) hk
 have N:zae (s1.heap.objs.size+4) (s1.heap.objs.size+2) (s1.heap.objs.size+3) s1.heap.objs.size (s1.heap.objs.size+1):=by
  constructor<;>(intro e;have e':(_:Nat)=_:=e;omega)
 refine⟨s1.heap.objs.size+4,_,_,_,H1,rfl,I2,zbs N,Z,fun b hb=>?_,q⟩
 have hb':s1.heap.objs.size<=b:=by
  simp only[qq,yq,or_false] at hb
  rcases hb with r | r | r | r | r<;>(rw[r];first| exact Nat.le_add_right _ _ | exact zC _)
 exact I1.fpOk hb' (I1.hok.fresh hb')
end
def TyN(K:PySem.W.Frag)(H:Hp)(x:V)(T:String):Prop:=match x with
 | .non=>T = "NoneType"
 | .bl _=>T = "bool"
 | .int _=>T = "int"
 | .str _=>T = "str"
 | .ref a=>(T = "list" /\ ∃xs,SqL K H a xs)\/(T = "tuple" /\ ∃xs,SqT K H a xs)
 | _=>False
def xj(T C:String):Bool:=T==C||(T == "bool" && C == "int")
def Z2:List String:=["NoneType", "bool", "int", "str", "list", "tuple"]
def yN:List String:=["bool", "int", "str", "list", "tuple", "dict"]
theorem YZ{K:PySem.W.Frag}:∀T∈Z2,∀C∈yN,PySem.W.kitOne K (.type T) (.type C)=some (xj T C):=by
 intro T hT C hC
 simp only[Z2,yN,qq,yq,or_false] at hT hC
 rcases hT with rfl | rfl | rfl | rfl | rfl | rfl<;>rcases hC with rfl | rfl | rfl | rfl | rfl | rfl<;>kernel_rfl
theorem VR{K:PySem.W.Frag}{T:String}(hT:T∈Z2):∀{Cs:List String},(∀C∈Cs,C∈yN)->PySem.W.kitAny K (.type T) (Cs.map Value.type)=some (Cs.any fun C=>xj T C)
 | [],_=>rfl
 | C::r,h=>by
  have ih:=VR (K:=K) hT (Cs:=r) fun C' hC=>h C' (jE _ hC)
  show(match PySem.W.kitOne K (.type T) (.type C) with | some true=>some true | some false=>PySem.W.kitAny K (.type T) (r.map Value.type) | none=>none)=_
  rw[YZ T hT C (h C jD),wY]
  cases xj T C with
  | true=>rfl
  | false=>rw[ih];rfl
theorem TyN.mem{K:PySem.W.Frag}{H:Hp}{x:V}{T:String}(h:TyN K H x T):T∈Z2:=by
 cases x with
 | non=>cases(show T=_ from h);decide
 | bl _=>cases(show T=_ from h);decide
 | int _=>cases(show T=_ from h);decide
 | str _=>cases(show T=_ from h);decide
 | ref a=>rcases(show _\/_ from h) with ⟨e,_⟩ | ⟨e,_⟩<;>(subst e;decide)
 | _=>exact(show False from h).elim
section
variable{X:Cx}{pins:List (Addr×Obj)}{σ:St}{H:Hp}{s:Shared}
theorem YY{x:V}{u:Value}{T:String}(I:Inv X pins σ H s)(rx:RelV x u)(ty:TyN X.K H x T):∃P:Heap->Prop,P s.heap/\PySem.W.KitX X.K u (.type T) P/\u≠.builtin "__main__.__loader__#opaque" :=by
 cases x with
 | non=>cases(show u=Value.none from rx);cases(show T=_ from ty);exact⟨_,True.intro,PySem.W.kitx_none,fun z=>nomatch z⟩
 | bl y=>cases(show u=Value.bool y from rx);cases(show T=_ from ty);exact⟨_,True.intro,PySem.W.kitx_bool,fun z=>nomatch z⟩
 | int i=>obtain⟨t,q⟩:=(show ∃t,u=Value.int i t from rx);cases q;cases(show T=_ from ty);exact⟨_,True.intro,PySem.W.kitx_int,fun z=>nomatch z⟩
 | str y=>obtain⟨t,q⟩:=(show ∃t,u=Value.str y t from rx);cases q;cases(show T=_ from ty);exact⟨_,True.intro,PySem.W.kitx_str,fun z=>nomatch z⟩
 | ref a=>
  cases(show u=Value.ref a from rx)
  rcases(show _\/_ from ty) with ⟨e,xs,hx⟩ | ⟨e,xs,hx⟩
  ·subst e
   obtain⟨its,r,⟨o,n,e1,e2,_⟩,_⟩:=I.list hx
   exact⟨_,⟨o,e1,e2⟩,PySem.W.kitx_list,fun z=>nomatch z⟩
  ·subst e
   obtain⟨its,r,⟨o,e1,e2,_⟩,_⟩:=I.tuple hx
   exact⟨_,⟨o,e1,e2⟩,PySem.W.kitx_tuple,fun z=>nomatch z⟩
 | _=>exact(show False from ty).elim
end
section
variable{X:Cx}
theorem W8:∀{Cs:List String} {us:List Value},Vals (Cs.map V.ty) us->us=Cs.map Value.type
 | [],us,r=>by cases r;rfl
 | C::r,us,h=>by
  cases h with
  | cons h1 h2=>rw[W8 h2,show _=Value.type C from h1];rfl
inductive yu(K:PySem.W.Frag)(xs:List V)(H:Hp)(Q:VK):Prop
 | mk (x T C:_) (_:xs=[x,.ty C]) (_:TyN K H x T) (_:C∈yN) (_:Q (.bl (xj T C)) H):yu K xs H Q
theorem qm:jF X (.builtin "isinstance") (yu X.K):=by
 intro pins s σ H xs us Q I r h
 obtain⟨x,T,C,rfl,ty,hC,q⟩:=h
 obtain⟨u,w',rfl,ru,rw'⟩:=Jj r
 cases(show w'=Value.type C from rw')
 obtain⟨P,hP,Z,hn⟩:=YY I ru ty
 exact PySem.W.kia_one Z I.kIn hP (YZ T ty.mem C hC) hn fun tk=>⟨.bl _,H,I.tok tk,rfl,q⟩
inductive ZU(K:PySem.W.Frag)(xs:List V)(H:Hp)(Q:VK):Prop
 | mk (x:V) (T:String) (p:Addr) (Cs:List String) (_:xs=[x,.ref p]) (_:TyN K H x T) (_:H p=some (.tup (Cs.map V.ty))) (_:(∀C∈Cs,C∈yN)) (_:Q (.bl (Cs.any fun C=>xj T C)) H):ZU K xs H Q
theorem Zo:jF X (.builtin "isinstance") (ZU X.K):=by
 intro pins s σ H xs us Q I r h
 obtain⟨x,T,p,Cs,rfl,ty,hp,hC,q⟩:=h
 obtain⟨u,w',rfl,ru,rw'⟩:=Jj r
 cases(show w'=Value.ref p from rw')
 obtain⟨P,hP,Z,hn⟩:=YY I ru ty
 obtain⟨its,r',⟨o,e1,e2,n,e3⟩,_⟩:=I.tuple (SqT.of hp)
 obtain⟨c,dd,dt,sl⟩:=o
 have e2:c=.type "tuple" :=e2
 have e3:dt=.seq its.toArray n:=e3
 subst e2 e3
 rw[W8 r'] at e1
 exact PySem.W.kia_tup Z I.kIn hP e1 (VR ty.mem hC) hn fun tk=>⟨.bl _,H,I.tok tk,rfl,q⟩
end
inductive Dat where
 | non | bl (b:Bool) | int (i:Int) | str (x:Str) | lst (ds:List Dat) | tup (ds:List Dat)
mutual
def Rep(K:PySem.W.Frag)(H:Hp):Dat->V->Prop
 | .non,v=>v=.non
 | .bl b,v=>v=.bl b
 | .int i,v=>v=.int i
 | .str x,v=>v=.str x
 | .lst ds,v=>∃a xs,v=.ref a/\SqL K H a xs/\Reps K H ds xs
 | .tup ds,v=>∃a xs,v=.ref a/\SqT K H a xs/\Reps K H ds xs
def Reps(K:PySem.W.Frag)(H:Hp):List Dat->List V->Prop
 | [],xs=>xs=[]
 | d::ds,xs=>∃x r,xs=x::r/\Rep K H d x/\Reps K H ds r
end
mutual
def Dat.dp:Dat->Nat
 | .lst ds=>Dat.dps ds+1
 | .tup ds=>Dat.dps ds+1
 | _=>0
def Dat.dps:List Dat->Nat
 | []=>0
 | d::ds=>max d.dp (Dat.dps ds)
end
theorem Same.sqT{K:PySem.W.Frag}{H H':Hp}{a:Addr}{xs:List V}(e:Same H H')(h:SqT K H a xs):SqT K H' a xs:=by
 rcases h with(h | ⟨o,h⟩) | h
 ·exact .inl (.inl (e _ _ h))
 ·exact .inl (.inr ⟨o,e _ _ h⟩)
 ·exact .inr h
mutual
theorem Rep.same{K:PySem.W.Frag}{H H':Hp}(e:Same H H'):∀{d:Dat} {v:V},Rep K H d v->Rep K H' d v
 | .non,_,h=>h
 | .bl _,_,h=>h
 | .int _,_,h=>h
 | .str _,_,h=>h
 | .lst _,_,h=>by
  obtain⟨a,xs,e1,e2,e3⟩:=h
  exact⟨a,xs,e1,e.seq e2,Reps.same e e3⟩
 | .tup _,_,h=>by
  obtain⟨a,xs,e1,e2,e3⟩:=h
  exact⟨a,xs,e1,e.sqT e2,Reps.same e e3⟩
theorem Reps.same{K:PySem.W.Frag}{H H':Hp}(e:Same H H'):∀{ds:List Dat} {xs:List V},Reps K H ds xs->Reps K H' ds xs
 | [],_,h=>h
 | _::_,_,h=>by
  obtain⟨x,r,e1,e2,e3⟩:=h
  exact⟨x,r,e1,Rep.same e e2,Reps.same e e3⟩
end
theorem Reps.len{K:PySem.W.Frag}{H:Hp}:∀{ds:List Dat} {xs:List V},Reps K H ds xs->xs.length=ds.length
 | [],_,h=>by rw[show _=_ from h];rfl
 | _::_,_,h=>by
  obtain⟨x,r,e1,e2,e3⟩:=h
  rw[e1,vd,vd,Reps.len e3]
theorem Reps.get{K:PySem.W.Frag}{H:Hp}:∀{ds:List Dat} {xs:List V} {i:Nat} {x:V},Reps K H ds xs->xs[i]? =some x->∃d,ds[i]? =some d/\Rep K H d x
 | [],_,_,_,h,e=>by rw[show _=_ from h] at e;simp at e
 | d::ds,_,i,x,h,e=>by
  obtain⟨y,r,e1,e2,e3⟩:=h
  subst e1
  cases i with
  | zero=>simp at e;subst e;exact⟨d,rfl,e2⟩
  | succ i=>
   obtain⟨d',q1,q2⟩:=Reps.get (i:=i) e3 (by simpa using e)
   exact⟨d',by simpa using q1,q2⟩
theorem zd{H:Hp}{a:Addr}{o:HO}(h:H a=none):Same H (upd H a o):=fun b u e=>by rw[zo (zn e h)];exact e
section
variable{X:Cx}
end
structure Dfn(P:Program)(w:World)(K:PySem.W.Frag)(mg:Str->Option Value)(base:Heap)(x:Str)(k:Nat)(ps:List Str)(sp:Sp):Prop where
 ex:∃f fd,qS P w K mg base CX0 k f fd ps sp/\mg x=some (.ref f)/\PySem.W.keepIn K (.ref f)=true/\Binds K fd ps []
section
variable{X:Cx}{x:Str}{k:Nat}{ps:List Str}{sp:Sp}{p pos:Pos}{e:Expr}{es:List Expr}{t:TA}
theorem zg(D:Dfn X.prog X.w X.K X.mg X.base x k ps sp)(hr:Room k X.A)(hg:Gl X x)(ha:PA X (e::es) t)(hd:(x==("__debug__" : Str))=false:=by decide)
  (hs:starEach (e::es) X.env=(false,eval e X.env)::starEach es X.env:=by rfl) (hpl:(backTo pos (starEach es X.env)).any (·.1)=false:=by rfl):PE X (.Call (.Name x p) (e::es) [] pos) (zek sp [] E0 t):=by
 obtain⟨f,fd,F,hm,hk,hb⟩:=D.ex
 exact zdz F hr hg hm hk hb .nil zgt ha hd hs hpl
end
theorem ifT{b:Bool}{A B:Prop}(h:b=true)(q:A):if b=true then A else B:=by rw[if_pos h];exact q
theorem ifF{b:Bool}{A B:Prop}(h:b=false)(q:B):if b=true then A else B:=by rw[if_neg (by rw[h];exact jf)];exact q
theorem zcG{K:PySem.W.Frag}{k1 k2:Bool}{a1 a2:Addr}{xs ys:List V}{g:TG}{tf:TT}{te:TE}{σ0:St}{n:Nat}{R:List V->Hp->Prop}{H:Hp}(Pv:Nat->List V->Hp->Prop)(h0:Pv 0 [] H)
  (h1:∀i zs H,Pv i zs H->SqK K k1 H a1 xs/\SqK K k2 H a2 ys)
  (hs:∀i x y zs H T,xs[i]? =some x->ys[i]? =some y->Pv i zs H->H T=none->g (.ref T) σ0 (upd H T (.tup [x,y])) fun σ4 H4=>σ4.drop n=σ0.drop n/\tf σ4 H4 fun b H5=>
   if b=true then te σ4 H5 fun v H6=>zs.length<sizeLine/\Pv (i+1) (zs++[v]) H6 else Pv (i+1) zs H5)
  (hd:∀zs H,Pv (min xs.length ys.length) zs H->zs.length<=sizeLine/\R zs H) :
  ∃W:Nat->Nat->List V->Hp->Prop,(∃m,W 0 m [] H)/\∀i m zs H2,W i m zs H2 ->
   ((Itz K k1 k2 a1 a2).stop i H2/\zs.length<=sizeLine/\R zs H2) \/
   ((Itz K k1 k2 a1 a2).go i H2/\∃N:List V->Hp->Prop,(∀zs H',N zs H'->∃m',m'<m/\W (i+1) m' zs H')/\∀x H3,(Itz K k1 k2 a1 a2).yld i H2 x H3->g x σ0 H3 fun σ4 H4=>σ4.drop n=σ0.drop n/\tf σ4 H4 fun b H5=>
    if b=true then te σ4 H5 fun y H6=>zs.length<sizeLine/\N (zs++[y]) H6 else N zs H5):=by
 refine⟨fun i m zs H2=>m=min xs.length ys.length-i/\i<=min xs.length ys.length/\Pv i zs H2,⟨_,rfl,qo _,h0⟩,?_⟩
 rintro i m zs H2 ⟨rfl,hi,p⟩
 obtain⟨q1,q2⟩:=h1 i zs H2 p
 by_cases hlt:i<min xs.length ys.length
 ·have l1:i<xs.length:=by omega
  have l2:i<ys.length:=by omega
  refine .inr ⟨⟨xs,ys,xs[i],ys[i],q1,q2,by simp[l1],by simp[l2]⟩,Pv (i+1),fun zs' H' p'=>⟨_,by omega,rfl,hlt,p'⟩,fun x H3 y=>?_⟩
  obtain⟨T,u,v,e1,hT,e2,y1,y2⟩:=y
  subst e1 e2
  exact hs i u v zs H2 T (y1 xs q1) (y2 ys q2) p hT
 ·have e:i=min xs.length ys.length:=by omega
  subst e
  obtain⟨z1,z2⟩:=hd zs H2 p
  exact .inl ⟨⟨xs,ys,q1,q2,by omega⟩,z1,z2⟩
theorem yI{lo:Int}{N n:Nat}{g:TG}{tf:TT}{te:TE}{σ0:St}{R:List V->Hp->Prop}{H:Hp}(Pv:Nat->List V->Hp->Prop)(h0:Pv 0 [] H)
  (hs:∀i zs H,i<N->Pv i zs H->g (.int (lo+i)) σ0 H fun σ4 H4=>σ4.drop n=σ0.drop n/\tf σ4 H4 fun b H5=>if b=true then te σ4 H5 fun v H6=>zs.length<sizeLine/\Pv (i+1) (zs++[v]) H6 else Pv (i+1) zs H5)
  (hd:∀zs H,Pv N zs H->zs.length<=sizeLine/\R zs H) :
  ∃W:Nat->Nat->List V->Hp->Prop,(∃m,W 0 m [] H)/\∀i m zs H2,W i m zs H2 ->
   ((Itr lo N).stop i H2/\zs.length<=sizeLine/\R zs H2) \/
   ((Itr lo N).go i H2/\∃M:List V->Hp->Prop,(∀zs H',M zs H'->∃m',m'<m/\W (i+1) m' zs H')/\∀x H3,(Itr lo N).yld i H2 x H3->g x σ0 H3 fun σ4 H4=>σ4.drop n=σ0.drop n/\tf σ4 H4 fun b H5=>
    if b=true then te σ4 H5 fun y H6=>zs.length<sizeLine/\M (zs++[y]) H6 else M zs H5):=by
 refine⟨fun i m zs H2=>m=N-i/\i<=N/\Pv i zs H2,⟨_,rfl,qo _,h0⟩,?_⟩
 rintro i m zs H2 ⟨rfl,hi,p⟩
 by_cases hlt:i<N
 ·refine .inr ⟨hlt,Pv (i+1),fun zs' H' p'=>⟨_,by omega,rfl,hlt,p'⟩,fun x H3 y=>?_⟩
  obtain⟨e1,e2⟩:=y
  subst e1 e2
  exact hs i zs _ hlt p
 ·have e:i=N:=by omega
  subst e
  obtain⟨z1,z2⟩:=hd zs H2 p
  exact .inl ⟨zC _,z1,z2⟩
def wq(sn on:List (Str×NameKind))(N own fr:List Str)(js:List Nat):Bool:=
 ZJ sn on N fr js&&own.all (fun x=>sn.lookup x==some .local)&&decide (own++fr).Nodup
theorem vB{sn on:List (Str×NameKind)}{N own fr:List Str}{js:List Nat}(h:wq sn on N own fr js=true):ZJ sn on N fr js=true/\(∀x∈own,sn.lookup x=some .local)/\(own++fr).Nodup:=by
 unfold wq at h
 rw[qV,qV,jh] at h
 exact⟨h.1.1,fun x hx=>by simpa using h.1.2 x hx,qW h.2⟩
section
variable{X:Cx}{elt iter:Expr}{ifs:List Expr}{scope:Scope}{pos px py tp:Pos}{wi:TI}{tf:TT}{te:TE}{x y:Str}{kk:Nat}
theorem v1{N':List Str}{C:Addr}{s:Shared}{H:Hp}{ex:List Addr}{i:Nat}(hl:scope.names.lookup x=some .local)(nd:N'.Nodup)(hi:N'[i]? =some x):PG (qi X N' scope C s H ex) (.Name x px) (xY i):=
 zr (X:=qi X N' scope C s H ex) nd hi (.inl (lookup_relabel_local hl)) (.inr (lookup_relabel_local hl))
theorem jS(fr:List Str)(js:List Nat)(hc:X.calm=true)(hk:scope.kind=.function)(hb:wq scope.names X.env.scope.names X.N [x] fr js=true)(hi:PI X (.Name x px) iter wi)
  (hf:∀C s H ex,PF (qi X ([x]++fr) scope C s H ex) ifs tf) (he:∀C s H ex,PE (qi X ([x]++fr) scope C s H ex) elt te)
  (hs:∀x,foldedSetIterable iter X.env x=pure x:=by intro _;rfl):PE X (.ListComp elt [⟨.Name x px,iter,ifs,0⟩] scope pos) (tLC wi 1 js (xY 0) tf te):=by
 obtain⟨h1,h2,h3⟩:=vB hb
 exact zeG [x] fr js hc hk h1 hi (fun C s H ex=>v1 (h2 x (by simp)) h3 rfl) hf he hs
theorem wa(fr:List Str)(js:List Nat)(hc:X.calm=true)(hk:scope.kind=.function)(hb:wq scope.names X.env.scope.names X.N [x,y] fr js=true)(hi:PI X (.Tuple [.Name x px,.Name y py] kk tp) iter wi)
  (hf:∀C s H ex,PF (qi X ([x,y]++fr) scope C s H ex) ifs tf) (he:∀C s H ex,PE (qi X ([x,y]++fr) scope C s H ex) elt te)
  (hs:∀x,foldedSetIterable iter X.env x=pure x:=by intro _;rfl):PE X (.ListComp elt [⟨.Tuple [.Name x px,.Name y py] kk tp,iter,ifs,0⟩] scope pos) (tLC wi 2 js (za6 X.K 2 (wU (xY 0) (wU (xY 1) zcQ))) tf te):=by
 obtain⟨h1,h2,h3⟩:=vB hb
 refine zeG [x,y] fr js hc hk h1 hi (fun C s H ex=>?_) hf he hs
 exact qT (X:=qi X ([x,y]++fr) scope C s H ex) hc (zx (v1 (h2 x (by simp)) h3 rfl) (zx (v1 (h2 y (by simp)) h3 rfl) qB))
end
def tWk(t:TS):TS:=fun D σ H=>∃J:St->Hp->Prop,t { D with nx:=J } σ H/\∀σ' H',J σ' H'->D.nx σ' H'
theorem xM{X:Cx}{st:Stmt}{t:TS}(h:PS X st t):PS X st (tWk t):=by
 intro pins s σ H D I hw
 obtain⟨J,q1,q2⟩:=hw
 refine thn (h pins s σ H _ I q1) fun f s1 q=>?_
 cases f with
 | next=>obtain⟨σ',H',I',z⟩:=q;exact⟨σ',H',I',q2 σ' H' z⟩
 | brk=>exact q
 | cont=>exact q
 | ret u=>exact q
def Dat.ok:Nat->Dat->Prop
 | n+1,.lst ds=>ds.length<=1000000/\∀d∈ds,Dat.ok n d
 | n+1,.tup ds=>ds.length<=1000000/\∀d∈ds,Dat.ok n d
 | 0,.lst _=>False
 | 0,.tup _=>False
 | _,_=>True
def Dat.tyN:Dat->String
 | .non=> "NoneType" | .bl _=> "bool" | .int _=> "int" | .str _=> "str" | .lst _=> "list" | .tup _=> "tuple"
theorem Rep.ty{K:PySem.W.Frag}{H:Hp}{d:Dat}{v:V}(h:Rep K H d v):TyN K H v d.tyN:=by
 cases d with
 | non=>rw[show v=_ from h];exact rfl
 | bl b=>rw[show v=_ from h];exact rfl
 | int b=>rw[show v=_ from h];exact rfl
 | str b=>rw[show v=_ from h];exact rfl
 | lst ds=>obtain⟨a,xs,rfl,e,_⟩:=h;exact .inl ⟨rfl,xs,e⟩
 | tup ds=>obtain⟨a,xs,rfl,e,_⟩:=h;exact .inr ⟨rfl,xs,e⟩
mutual
def Dat.py:Dat->PyData
 | .non=>.none
 | .bl b=>.bool b
 | .int i=>.int i
 | .str x=>.str x
 | .lst ds=>.list (Dat.pys ds)
 | .tup ds=>.tuple (Dat.pys ds)
def Dat.pys:List Dat->List PyData
 | []=>[]
 | d::ds=>d.py::Dat.pys ds
end
mutual
def Dat.shw:Dat->Bool
 | .int i=>decide (i.natAbs<1000000000000)
 | .str x=>x.cps.toList.all fun c=>decide (c<1000000)
 | .lst ds=>Dat.shws ds
 | .tup ds=>Dat.shws ds
 | _=>true
def Dat.shws:List Dat->Bool
 | []=>true
 | d::ds=>d.shw&&Dat.shws ds
end
mutual
def Dat.blk:Dat->Nat
 | .str x=>x.cps.size
 | .lst ds=>Dat.blks ds
 | .tup ds=>Dat.blks ds
 | _=>0
def Dat.blks:List Dat->Nat
 | []=>0
 | d::ds=>d.blk+1+Dat.blks ds
end
mutual
theorem Dat.py_blk:∀d:Dat,d.py.bulk=d.blk
 | .non=>rfl
 | .bl _=>rfl
 | .int _=>rfl
 | .str _=>rfl
 | .lst ds=>Dat.pys_blk ds
 | .tup ds=>Dat.pys_blk ds
theorem Dat.pys_blk:∀ds:List Dat,PyData.bulkAll (Dat.pys ds)=Dat.blks ds
 | []=>rfl
 | d::ds=>by
  show PyData.bulk d.py+1+PyData.bulkAll (Dat.pys ds)=d.blk+1+Dat.blks ds
  rw[Dat.py_blk d,Dat.pys_blk ds]
end
theorem Xh{n:Nat}(h:n<1000000000000):n.log2<1920:=by
 by_cases h0:n=0
 ·rw[h0];decide
 ·exact Nat.lt_trans ((Nat.log2_lt h0).mpr (Nat.lt_trans h (by decide:1000000000000<2^40))) (by decide)
mutual
theorem Dat.py_short:∀d:Dat,d.shw=true->d.py.leavesShort 13=true/\d.py.showable=true/\d.py.hasDict=false
 | .non,_=>⟨rfl,rfl,rfl⟩
 | .bl _,_=>⟨rfl,rfl,rfl⟩
 | .int i,h=>by
  have h':i.natAbs<1000000000000:=qW h
  refine⟨qF (PyData.shown_int_le h'),qF (Xh h'),rfl⟩
 | .str x,h=>by
  refine⟨?_,rfl,rfl⟩
  have h':(x.cps.toList.all fun c=>decide (c<1000000))=true:=h
  show(x.cps.toList.all fun c=>decide (c<16^8))=true
  rw[jh] at h' ⊢
  intro c hc
  have:=qW (h' c hc)
  exact qF (by omega)
 | .lst ds,h=>Dat.pys_short ds h
 | .tup ds,h=>Dat.pys_short ds h
theorem Dat.pys_short:∀ds:List Dat,Dat.shws ds=true->PyData.leavesShortAll 13 (Dat.pys ds)=true/\PyData.showableAll (Dat.pys ds)=true/\PyData.hasDictAll (Dat.pys ds)=false
 | [],_=>⟨rfl,rfl,rfl⟩
 | d::ds,h=>by
  have h':(d.shw&&Dat.shws ds)=true:=h
  rw[qV] at h'
  obtain⟨a1,a2,a3⟩:=Dat.py_short d h'.1
  obtain⟨b1,b2,b3⟩:=Dat.pys_short ds h'.2
  refine⟨?_,?_,?_⟩
  ·show(PyData.leavesShort 13 d.py&&PyData.leavesShortAll 13 (Dat.pys ds))=true
   rw[a1,b1];rfl
  ·show(PyData.showable d.py&&PyData.showableAll (Dat.pys ds))=true
   rw[a2,b2];rfl
  ·show(PyData.hasDict d.py||PyData.hasDictAll (Dat.pys ds))=false
   rw[a3,b3];rfl
end
mutual
theorem Rep.reads{X:Cx}{pins:List (Addr×Obj)}{σ:St}{H:Hp}{s:Shared}(I:Inv X pins σ H s):∀{d:Dat} {v:V} {u:Value},Rep X.K H d v->RelV v u->∃as,Reads s.heap u d.py as
 | .non,v,u,h,r=>by cases(show v=_ from h);cases(show u=_ from r);exact⟨_,.none⟩
 | .bl b,v,u,h,r=>by cases(show v=_ from h);cases(show u=_ from r);exact⟨_,.bool b⟩
 | .int i,v,u,h,r=>by cases(show v=_ from h);obtain⟨t,rfl⟩:=r;exact⟨_,.int i t⟩
 | .str x,v,u,h,r=>by cases(show v=_ from h);obtain⟨t,rfl⟩:=r;exact⟨_,.str x t⟩
 | .lst ds,v,u,h,r=>by
  obtain⟨a,xs,rfl,hx,hr⟩:=h
  cases(show u=_ from r)
  obtain⟨its,rv,pl,_⟩:=I.list hx
  obtain⟨o,e,c,n,dd⟩:=pl.isList
  obtain⟨as,q⟩:=Reps.reads I hr rv
  exact⟨_,.list e c dd (by simpa using q)⟩
 | .tup ds,v,u,h,r=>by
  obtain⟨a,xs,rfl,hx,hr⟩:=h
  cases(show u=_ from r)
  obtain⟨its,rv,⟨o,e,c,n,dd⟩,_⟩:=I.tuple hx
  obtain⟨as,q⟩:=Reps.reads I hr rv
  exact⟨_,.tuple e c dd (by simpa using q)⟩
theorem Reps.reads{X:Cx}{pins:List (Addr×Obj)}{σ:St}{H:Hp}{s:Shared}(I:Inv X pins σ H s):∀{ds:List Dat} {xs:List V} {us:List Value},Reps X.K H ds xs->Vals xs us->∃as,ReadsAll s.heap us (Dat.pys ds) as
 | [],xs,us,h,r=>by cases(show xs=_ from h);cases r;exact⟨_,.nil⟩
 | d::ds,xs,us,h,r=>by
  obtain⟨x,r',rfl,h1,h2⟩:=h
  cases r with
  | cons r1 r2=>
   obtain⟨as,q1⟩:=Rep.reads I h1 r1
   obtain⟨bs,q2⟩:=Reps.reads I h2 r2
   exact⟨_,.cons q1 q2⟩
end
section
variable{X:Cx}
inductive ZP(K:PySem.W.Frag)(xs:List V)(H:Hp)(Q:VK):Prop
 | mk (a:Addr) (d:Dat) (_:xs=[.ref a]) (_:Rep K H d (.ref a)) (_:d.shw=true) (_:d.blk<=1048576) (_:d.py.depth<=60) (_:Q (.str d.py.shown) H):ZP K xs H Q
theorem JN(hg:X.A.guards=some [])(hu:X.A.units+64<cLine):jF X (.type "str") (ZP X.K):=by
 intro pins s σ H xs us Q I r h
 obtain⟨a,d,rfl,hr,h1,h2,h3,q⟩:=h
 obtain⟨u,rfl,ru⟩:=xJ r
 obtain⟨as,q1⟩:=hr.reads I ru
 cases(show u=_ from ru)
 obtain⟨s1,s2,s3⟩:=Dat.py_short d h1
 refine str_of_reads q1 s2 (PyData.noDict_hsm s3) hg (by omega) (fun _ _ e=>e) (fun h' u tk hk=>⟨.str d.py.shown,H,I.kept hk,⟨u,rfl⟩,q⟩) ?_
 exact PyData.shown_fits_bulk (B:=13) (by decide) (by decide) s1 (by rw[Dat.py_blk];exact h2)
theorem QB(xs:Array Nat):∀(n:Nat) (a:Array Nat),((List.replicate n xs).foldl (·++ ·) a).size=a.size+n*xs.size
 | 0,a=>by simp
 | n+1,a=>by
  rw[QN,List.foldl_cons,QB xs n,XG,Nat.succ_mul]
  omega
theorem zdU(x:Str)(n:Int):(Txt.mul x n).length<=n.toNat*x.length:=by
 unfold Txt.mul
 split
 ·exact qo _
 ·rename_i h
  split
  ·rename_i h2
   have:n=1\/x.length=0:=by simpa using h2
   rcases this with e | e
   ·rw[e];simp
   ·rw[e];simp
  ·show((List.replicate n.toNat x.cps).foldl (·++ ·) #[]).size<=_
   rw[QB]
   simp[Str.length]
end
section
variable{X:Cx}{tg:Expr}
end
section
variable{X:Cx}
inductive YI(x:V)(vs:List V)(H:Hp)(Q:VK):Prop
 | mk (l:Addr) (xs:List V) (i:Int) (y:V) (_:x=.ref l) (_:vs=[.int i,y]) (_:H l=some (.lst xs)) (_:0<=i) (_:i<2^62) (_:xs.length<sizeLine) (_:Q .non (upd H l (.lst (xs.take i.toNat++y::xs.drop i.toNat)))):YI  x vs H Q
theorem JD:MtM X "list.insert" YI:=by
 intro pins s σ H x vs v us Q I rx rv h
 obtain⟨l,xs,i,y,rfl,rfl,hH,i0,i1,hz,q⟩:=h
 cases rx
 obtain⟨u1,u2,rfl,r1,r2⟩:=Jj rv
 obtain⟨t,rfl⟩:=r1
 obtain⟨z,its,n,r,hl,e⟩:=I.lstM hH
 have hlen:=r.length
 refine call_meets F.slot_list_insert ⟨_,e,rfl⟩ F.entry_list_insert (F.args_list_insert_3 _ _ _) (AutoListH.list_insert_list_int_val_1 l its.toArray n i t u2 ?_ (by rw[qk];omega)) ⟨e,?_⟩
 ·unfold Builtin.List.listFitsIndex
  simp
  omega
 refine⟨.non,_,I.lset (its':=its.take i.toNat++u2::its.drop i.toNat) hH e ?_ ((r.take _).append (.cons r2 (r.drop _))) ?_,rfl,q⟩
 ·show(have k:=if i<0 then(i+((its.toArray.size:Nat):Int)).toNat else min i.toNat its.toArray.size;(its.toArray.extract 0 k).push u2++its.toArray.extract k)=_
  have hk:(if i<0 then(i+((its.toArray.size:Nat):Int)).toNat else min i.toNat its.toArray.size)=min i.toNat its.length:=by
   rw[if_neg (by omega),qk]
  simp only[hk]
  apply Array.toList_inj.mp
  simp
  by_cases hle:i.toNat<=its.length
  ·have h1:(its.drop i.toNat).take (its.length-i.toNat)=its.drop i.toNat:=Q3 (by rw[xF];omega)
   rw[Nat.min_eq_left hle,h1]
  ·have h1:its.length<=i.toNat:=by omega
   rw[Nat.min_eq_right h1,Q3 h1,List.drop_of_length_le h1]
   simp
 ·simp only[qJ,z9,vd,xF]
  omega
theorem Jh{xs:List V}{its:List Value}(r:Vals xs its):∀js:List Nat,Vals (js.filterMap (xs[·]?)) (js.filterMap (its[·]?))
 | []=>.nil
 | j::js=>by
  have ih:=Jh r js
  have hl:=r.length
  cases h:xs[j]? with
  | none=>
   have h':its[j]? =none:=by
    rw[List.getElem?_eq_none_iff] at h ⊢;omega
   rw[List.filterMap_cons_none h,List.filterMap_cons_none h']
   exact ih
  | some x=>
   obtain⟨u,e,ru⟩:=r.get h
   rw[List.filterMap_cons_some h,List.filterMap_cons_some e]
   exact .cons ru ih
variable{e st:Expr}{te:TE}{tk:TO}{pos p2:Pos}
theorem zaU(he:PE X e te)(hk:PO X (some st) tk):PE X (.Subscript e (.Slice none none (some st) p2) pos) (fun σ H Q=>te σ H fun x H1=>tk σ H1 fun k H2=>∃a xs,x=.ref a/\k≠some 0/\SqL X.K H2 a xs /\
  ∀ys p,(∀y∈ys,y∈xs)->ys.length<=xs.length->H2 p=none->Q (.ref p) (upd H2 p (.lst ys))):=by
 intro pins s σ H Q I h
 refine Subscript_ (thn (he pins s σ H _ I h) fun v s1 ⟨x,H1,I1,r1,q1⟩=>?_)
 refine wpAny_Slice ?_
 rw[evalPart_none]
 refine zD (zD ?_)
 refine thn (hk pins s1 σ H1 _ I1 q1) fun vk s3 ⟨k,H3,I3,pk,q3⟩=>?_
 obtain⟨a,xs,rfl,k0,hx,q⟩:=q3
 cases r1
 have I4:Inv X pins σ H3 { s3 with heap:=s3.heap.push { cls:=.type "slice",data:=.fields #[.none,.none,vk] } }:=I3.kept (t':=s3.toks) fun b ob q=>qx _ q
 obtain⟨its,r,ht,hz⟩:=I4.list hx
 have hlen:=r.length
 show wpAny (model X.prog X.w) X.A (subscriptTail e (.Slice none none (some st) p2) (.ref a) (.ref s3.heap.objs.size)) (EP X pins σ Q) X.xe { s3 with heap:=s3.heap.push { cls:=.type "slice",data:=.fields #[.none,.none,vk] } }
 refine tail_any (ops:=[.ref a,.ref s3.heap.objs.size]) (T:= "list") ht.isList.typeIs slot_list_getitem.lookup ?_ (by with_unfolding_all rfl)
 refine wpAny_getItem_list_slice (lo:=none) (hi:=none) (st:=k) ht.isList (Heap.IsSliceOf.new ..) .none .none pk k0 ?_ (by rw[qk]<;>omega)
 have hsz:=slicePick_size_le its.toArray none none k
 unfold slicePick at hsz ⊢
 generalize (sliceRange (sliceBounds none none k its.toArray.size).1 (sliceBounds none none k its.toArray.size).2.1 (sliceBounds none none k its.toArray.size).2.2)=js at hsz ⊢
 have e1:js.filterMap (its.toArray[·]?)=js.filterMap (its[·]?):=by simp
 rw[e1] at hsz ⊢
 have rv:=Jh r js
 have hl2:=rv.length
 simp only[qk] at hsz
 refine⟨.ref _,_,I4.laid (t':=s3.toks) (o:=.lst (js.filterMap (xs[·]?))) (fun b ob q=>qx _ q) (zC _) ?_,rfl,q _ _ (fun y hy=>?_) (by omega) (I4.hok.fresh (zC _))⟩
 ·exact⟨by omega,_,0,rv,qA _ rfl⟩
 ·obtain⟨j,_,hj⟩:=XL.mp hy
  exact jl hj
end
theorem xw{K:PySem.W.Frag}{a:Addr}{xs:List V}{g:TG}{tf:TT}{te:TE}{σ0:St}{n:Nat}{R:List V->Hp->Prop}{H:Hp}(Pv:Nat->List V->Hp->Prop)(h0:Pv 0 [] H)
  (h1:∀i zs H,Pv i zs H->SqL K H a xs)
  (hs:∀i x zs H,xs[i]? =some x->Pv i zs H->g x σ0 H fun σ4 H4=>σ4.drop n=σ0.drop n/\tf σ4 H4 fun b H5=>
   if b=true then te σ4 H5 fun v H6=>zs.length<sizeLine/\Pv (i+1) (zs++[v]) H6 else Pv (i+1) zs H5)
  (hd:∀zs H,Pv xs.length zs H->zs.length<=sizeLine/\R zs H) :
  ∃W:Nat->Nat->List V->Hp->Prop,(∃m,W 0 m [] H)/\∀i m zs H2,W i m zs H2 ->
   ((Itl K a).stop i H2/\zs.length<=sizeLine/\R zs H2) \/
   ((Itl K a).go i H2/\∃N:List V->Hp->Prop,(∀zs H',N zs H'->∃m',m'<m/\W (i+1) m' zs H')/\∀x H3,(Itl K a).yld i H2 x H3->g x σ0 H3 fun σ4 H4=>σ4.drop n=σ0.drop n/\tf σ4 H4 fun b H5=>
    if b=true then te σ4 H5 fun y H6=>zs.length<sizeLine/\N (zs++[y]) H6 else N zs H5):=by
 refine⟨fun i m zs H2=>m=xs.length-i/\i<=xs.length/\Pv i zs H2,⟨_,rfl,qo _,h0⟩,?_⟩
 rintro i m zs H2 ⟨rfl,hi,p⟩
 have q:=h1 i zs H2 p
 by_cases hlt:i<xs.length
 ·refine .inr ⟨⟨xs,xs[i],q,by simp[hlt]⟩,Pv (i+1),fun zs' H' p'=>⟨_,by omega,rfl,hlt,p'⟩,fun x H3 y=>?_⟩
  obtain⟨e,y⟩:=y
  subst e
  exact hs i x zs _ (y xs q) p
 ·have e:i=xs.length:=by omega
  subst e
  obtain⟨z1,z2⟩:=hd zs H2 p
  exact .inl ⟨⟨xs,q,zC _⟩,z1,z2⟩
theorem j6{K:PySem.W.Frag}{a:Addr}{xs:List V}{g:TG}{tf:TT}{te:TE}{σ0:St}{n:Nat}{R:List V->Hp->Prop}{H:Hp}(Pv:Nat->List V->Hp->Prop)(h0:Pv 0 [] H)
  (h1:∀i zs H,Pv i zs H->SqT K H a xs)
  (hs:∀i x zs H,xs[i]? =some x->Pv i zs H->g x σ0 H fun σ4 H4=>σ4.drop n=σ0.drop n/\tf σ4 H4 fun b H5=>
   if b=true then te σ4 H5 fun v H6=>zs.length<sizeLine/\Pv (i+1) (zs++[v]) H6 else Pv (i+1) zs H5)
  (hd:∀zs H,Pv xs.length zs H->zs.length<=sizeLine/\R zs H) :
  ∃W:Nat->Nat->List V->Hp->Prop,(∃m,W 0 m [] H)/\∀i m zs H2,W i m zs H2 ->
   ((Itt K a).stop i H2/\zs.length<=sizeLine/\R zs H2) \/
   ((Itt K a).go i H2/\∃N:List V->Hp->Prop,(∀zs H',N zs H'->∃m',m'<m/\W (i+1) m' zs H')/\∀x H3,(Itt K a).yld i H2 x H3->g x σ0 H3 fun σ4 H4=>σ4.drop n=σ0.drop n/\tf σ4 H4 fun b H5=>
    if b=true then te σ4 H5 fun y H6=>zs.length<sizeLine/\N (zs++[y]) H6 else N zs H5):=by
 refine⟨fun i m zs H2=>m=xs.length-i/\i<=xs.length/\Pv i zs H2,⟨_,rfl,qo _,h0⟩,?_⟩
 rintro i m zs H2 ⟨rfl,hi,p⟩
 have q:=h1 i zs H2 p
 by_cases hlt:i<xs.length
 ·refine .inr ⟨⟨xs,xs[i],q,by simp[hlt]⟩,Pv (i+1),fun zs' H' p'=>⟨_,by omega,rfl,hlt,p'⟩,fun x H3 y=>?_⟩
  obtain⟨e,y⟩:=y
  subst e
  exact hs i x zs _ (y xs q) p
 ·have e:i=xs.length:=by omega
  subst e
  obtain⟨z1,z2⟩:=hd zs H2 p
  exact .inl ⟨⟨xs,q,zC _⟩,z1,z2⟩
inductive DV(K:PySem.W.Frag)(F:Hp)(n:Nat):V->Prop
 | non:DV K F n .non
 | bl (b:Bool):DV K F n (.bl b)
 | int (i:Int) (h:i.natAbs<=10000000000+n):DV K F n (.int i)
 | str (x:Str) (h:x.length<=n):DV K F n (.str x)
 | lst (a:Addr) (xs:List V) (h:SqL K F a xs) (hl:xs.length<=n) (all:∀x∈xs,DV K F n x):DV K F n (.ref a)
 | tup (a:Addr) (xs:List V) (h:SqT K F a xs) (hl:xs.length<=n) (all:∀x∈xs,DV K F n x):DV K F n (.ref a)
def WX(ex:List Addr)(H:Hp):Hp:=fun c=>if c∈ex then none else H c
theorem WX.le{ex:List Addr}{H:Hp}:Same (WX ex H) H:=fun c o e=>by
 unfold WX at e
 split at e
 ·cases e
 ·exact e
theorem WX.new{ex:List Addr}{H:Hp}{p:Addr}{o:HO}(h:H p=none):Same (WX ex H) (WX ex (upd H p o)):=fun c u e=>by
 unfold WX at e ⊢
 split at e
 ·cases e
 ·rename_i hc
  rw[if_neg hc,zo (zn e h)]
  exact e
theorem WX.cons{ex:List Addr}{H:Hp}{m:Addr}:Same (WX (m::ex) H) (WX ex H):=fun c u e=>by
 unfold WX at e ⊢
 split at e
 ·cases e
 ·rename_i hc
  rw[if_neg (fun z=>hc (jE _ z))]
  exact e
theorem WX.fresh{ex:List Addr}{H:Hp}{m:Addr}(h:H m=none)(o:HO):Same (WX ex H) (WX (m::ex) (upd H m o)):=fun c u e=>by
 unfold WX at e ⊢
 split at e
 ·cases e
 ·rename_i hc
  have hm:c≠m:=zn e h
  rw[if_neg (fun z=>(qq.mp z).elim hm hc),zo hm]
  exact e
theorem WX.put{ex:List Addr}{H:Hp}{m:Addr}{o:HO}(h:m∈ex):Same (WX ex H) (WX ex (upd H m o)):=fun c u e=>by
 unfold WX at e ⊢
 split at e
 ·cases e
 ·rename_i hc
  rw[if_neg hc,zo (show c≠m from fun z=>hc (by rw[z];exact h))]
  exact e
theorem WX.at{ex:List Addr}{H:Hp}{c:Addr}{o:HO}(h:c∉ex)(e:H c=some o):WX ex H c=some o:=by
 unfold WX;rw[if_neg h];exact e
theorem WJ{i:Int}(h:i.natAbs<1000000000000):(Str.ofString (toString i)).length<=13:=PyData.shown_int_le h
def VH:Expr->Bool
 | .Starred _ _=>false
 | _=>true
theorem zy{e:Expr}{es:List Expr}{env:Env}(h:VH e=true):starEach (e::es) env=(false,eval e env)::starEach es env:=by
 cases e<;>first| rfl | cases h
theorem pa5{X:Cx}{e0 e1 e2 e3 e4:Expr}{t0 t1 t2 t3 t4:TE}(h0:PE X e0 t0)(h1:PE X e1 t1)(h2:PE X e2 t2)(h3:PE X e3 t3)(h4:PE X e4 t4)(h:([e0,e1,e2,e3,e4]).all VH=true:=by rfl):PA X [e0,e1,e2,e3,e4] (qz t0 (qz t1 (qz t2 (qz t3 (qz t4 Wo))))):=by
 have hz:=jh.mp h
 exact(za h0 (za h1 (za h2 (za h3 (za h4 zc (zy (hz _ (by simp)))) (zy (hz _ (by simp)))) (zy (hz _ (by simp)))) (zy (hz _ (by simp)))) (zy (hz _ (by simp))))
theorem zhl{X:Cx}{e0 e1 e2 e3 e4 e5 e6 e7 e8 e9 e10:Expr}{t0 t1 t2 t3 t4 t5 t6 t7 t8 t9 t10:TE}(h0:PE X e0 t0)(h1:PE X e1 t1)(h2:PE X e2 t2)(h3:PE X e3 t3)(h4:PE X e4 t4)(h5:PE X e5 t5)(h6:PE X e6 t6)(h7:PE X e7 t7)(h8:PE X e8 t8)(h9:PE X e9 t9)(h10:PE X e10 t10)(h:([e0,e1,e2,e3,e4,e5,e6,e7,e8,e9,e10]).all VH=true:=by rfl):PA X [e0,e1,e2,e3,e4,e5,e6,e7,e8,e9,e10] (qz t0 (qz t1 (qz t2 (qz t3 (qz t4 (qz t5 (qz t6 (qz t7 (qz t8 (qz t9 (qz t10 Wo))))))))))):=by
 have hz:=jh.mp h
 exact(za h0 (za h1 (za h2 (za h3 (za h4 (za h5 (za h6 (za h7 (za h8 (za h9 (za h10 zc (zy (hz _ (by simp)))) (zy (hz _ (by simp)))) (zy (hz _ (by simp)))) (zy (hz _ (by simp)))) (zy (hz _ (by simp)))) (zy (hz _ (by simp)))) (zy (hz _ (by simp)))) (zy (hz _ (by simp)))) (zy (hz _ (by simp)))) (zy (hz _ (by simp)))) (zy (hz _ (by simp))))
theorem zhk{X:Cx}{e0 e1 e2 e3 e4 e5 e6 e7 e8 e9 e10 e11 e12 e13 e14 e15 e16 e17:Expr}{t0 t1 t2 t3 t4 t5 t6 t7 t8 t9 t10 t11 t12 t13 t14 t15 t16 t17:TE}(h0:PE X e0 t0)(h1:PE X e1 t1)(h2:PE X e2 t2)(h3:PE X e3 t3)(h4:PE X e4 t4)(h5:PE X e5 t5)(h6:PE X e6 t6)(h7:PE X e7 t7)(h8:PE X e8 t8)(h9:PE X e9 t9)(h10:PE X e10 t10)(h11:PE X e11 t11)(h12:PE X e12 t12)(h13:PE X e13 t13)(h14:PE X e14 t14)(h15:PE X e15 t15)(h16:PE X e16 t16)(h17:PE X e17 t17)(h:([e0,e1,e2,e3,e4,e5,e6,e7,e8,e9,e10,e11,e12,e13,e14,e15,e16,e17]).all VH=true:=by rfl):PA X [e0,e1,e2,e3,e4,e5,e6,e7,e8,e9,e10,e11,e12,e13,e14,e15,e16,e17] (qz t0 (qz t1 (qz t2 (qz t3 (qz t4 (qz t5 (qz t6 (qz t7 (qz t8 (qz t9 (qz t10 (qz t11 (qz t12 (qz t13 (qz t14 (qz t15 (qz t16 (qz t17 Wo)))))))))))))))))):=by
 have hz:=jh.mp h
 exact(za h0 (za h1 (za h2 (za h3 (za h4 (za h5 (za h6 (za h7 (za h8 (za h9 (za h10 (za h11 (za h12 (za h13 (za h14 (za h15 (za h16 (za h17 zc (zy (hz _ (by simp)))) (zy (hz _ (by simp)))) (zy (hz _ (by simp)))) (zy (hz _ (by simp)))) (zy (hz _ (by simp)))) (zy (hz _ (by simp)))) (zy (hz _ (by simp)))) (zy (hz _ (by simp)))) (zy (hz _ (by simp)))) (zy (hz _ (by simp)))) (zy (hz _ (by simp)))) (zy (hz _ (by simp)))) (zy (hz _ (by simp)))) (zy (hz _ (by simp)))) (zy (hz _ (by simp)))) (zy (hz _ (by simp)))) (zy (hz _ (by simp)))) (zy (hz _ (by simp))))
section
variable{X:Cx}{elt tg iter:Expr}{ifs:List Expr}{scope:Scope}{pos:Pos}{wi:TI}{g:TG}{tf:TT}{te:TE}
theorem zbp{y:Str}{py:Pos}{g2:TG}{pins:List (Addr×Obj)}{σ:St}{H6:Hp}{Dn:St->Hp->Prop}{s6:Shared}{D C:Addr}{m:Str->Option Value}(hg2:PG X (.Name y py) g2)(hn:s6.heap.Ns C m)
  (all:∀h7:Heap,(∀b o,b≠C->s6.heap.get? b=some o->h7.get? b=some o)->Inv X pins σ H6 { s6 with heap:=h7 }) (fc:xt X pins H6 C) (q:g2 (.ref D) σ H6 Dn) :
  wpAny (model X.prog X.w) X.A (assign (.Name y py) X.env (.ref D)) (fun _ s''=>∃m,s''.heap.Ns C m/\∀h',Heap.SameBut C s''.heap h'->∃σ' H',Inv X pins σ' H' { s'' with heap:=h' }/\Dn σ' H') X.xe s6:=by
 have J0:=all s6.heap fun b o _ e=>e
 obtain⟨oC,es,ep,eoC,hd,r⟩:=hn
 have J1:=J0.pinned (fp:=[C]) (fun b hb=>by rw[qR.mp hb];exact fc) (fun b hb=>by rw[qR.mp hb];exact⟨oC,eoC,fun v z=>by rw[hd] at z;cases z⟩)
 have mC:(C,oC)∈pins++qC [C] s6.heap:=qX _ (jw (qR.mpr rfl) eoC)
 refine thn (hg2 _ s6 σ _ (.ref D) (.ref D) _ J1 rfl q) fun _ s8 ⟨σ8,H8,I8,q8⟩=>?_
 obtain⟨e8,n8,_⟩:=I8.pin (C,oC) (qX _ mC)
 obtain⟨_,g1,_,g3,g4,g5⟩:=fc
 exact⟨m,⟨oC,es,ep,e8,hd,r⟩,fun h9 hs9=>⟨σ8,H8,(I8.unpinned).turned (t':=s8.toks) (it:=C) (fun b o hb e=>hs9.extBut b o hb e) n8 g1 g3 g4 g5,q8⟩⟩
theorem zeF{y:Str}{py spos:Pos}{g2:TG}(own fr:List Str)(js:List Nat)(hc:X.calm=true)(hk:scope.kind=.function)(hb:ZJ scope.names X.env.scope.names X.N fr js=true)(hi:PI X tg iter wi)
  (hg:∀C s H ex,PG (qi X (own++fr) scope C s H ex) tg g) (hf:∀C s H ex,PF (qi X (own++fr) scope C s H ex) ifs tf) (he:∀C s H ex,PE (qi X (own++fr) scope C s H ex) elt te)
  (hg2:PG X (.Name y py) g2) (hsw:swapsWith (.ListComp elt [⟨tg,iter,ifs,0⟩] scope pos) (some (.Name y py)) spos.line X.env=pure true:=by rfl)
  (hs:∀x,foldedSetIterable iter X.env x=pure x:=by intro _;rfl):PS X (.Assign [.Name y py] (.ListComp elt [⟨tg,iter,ifs,0⟩] scope pos) spos) (J6 (tLC wi own.length js g tf te) g2):=by
 intro pins s σ H Dn I h
 rw[exec_Assign_Name_used _ _ _ _ hsw]
 refine zk (yR (zk ?_))
 show wpAny _ X.A (do let _<-comprehension (.ListComp elt [⟨tg,iter,ifs,0⟩] scope pos) scope X.env _ (newList []) false (eval iter X.env) (some (assign (.Name y py) X.env))) _ _ s
 refine zk (jI (zeL (rest:=[]) (use:=some (assign (.Name y py) X.env)) (Qx:=fun _ s'=>∃σ' H',Inv X pins σ' H' s'/\Dn.nx σ' H') (Q:=fun v H1=>g2 v σ H1 Dn.nx) own fr js hk hb hi hs I h (fun C D it fp tn J W H2 s3 s4 m0 R a b T tl j fin=>YW hc hg hf he a b T tl j fin) fun s6 D C H6 m hn all fc q=>zbp hg2 hn all fc q) (fun _ s' hq=>zD (zD hq)) fun _ _ e=>e)
theorem zcc{x y:Str}{px py spos:Pos}{g2:TG}(fr:List Str)(js:List Nat)(hc:X.calm=true)(hk:scope.kind=.function)(hb:wq scope.names X.env.scope.names X.N [x] fr js=true)(hi:PI X (.Name x px) iter wi)
  (hf:∀C s H ex,PF (qi X ([x]++fr) scope C s H ex) ifs tf) (he:∀C s H ex,PE (qi X ([x]++fr) scope C s H ex) elt te)
  (hg2:PG X (.Name y py) g2) (hsw:swapsWith (.ListComp elt [⟨.Name x px,iter,ifs,0⟩] scope pos) (some (.Name y py)) spos.line X.env=pure true:=by rfl)
  (hs:∀x,foldedSetIterable iter X.env x=pure x:=by intro _;rfl):PS X (.Assign [.Name y py] (.ListComp elt [⟨.Name x px,iter,ifs,0⟩] scope pos) spos) (J6 (tLC wi 1 js (xY 0) tf te) g2):=by
 obtain⟨h1,h2,h3⟩:=vB hb
 exact zeF [x] fr js hc hk h1 hi (fun C s H ex=>v1 (h2 x (by simp)) h3 rfl) hf he hg2 hsw hs
theorem Wv{x z y:Str}{px pz py spos tp:Pos}{kk:Nat}{g2:TG}(fr:List Str)(js:List Nat)(hc:X.calm=true)(hk:scope.kind=.function)(hb:wq scope.names X.env.scope.names X.N [x,z] fr js=true)(hi:PI X (.Tuple [.Name x px,.Name z pz] kk tp) iter wi)
  (hf:∀C s H ex,PF (qi X ([x,z]++fr) scope C s H ex) ifs tf) (he:∀C s H ex,PE (qi X ([x,z]++fr) scope C s H ex) elt te)
  (hg2:PG X (.Name y py) g2) (hsw:swapsWith (.ListComp elt [⟨.Tuple [.Name x px,.Name z pz] kk tp,iter,ifs,0⟩] scope pos) (some (.Name y py)) spos.line X.env=pure true:=by rfl)
  (hs:∀x,foldedSetIterable iter X.env x=pure x:=by intro _;rfl):PS X (.Assign [.Name y py] (.ListComp elt [⟨.Tuple [.Name x px,.Name z pz] kk tp,iter,ifs,0⟩] scope pos) spos) (J6 (tLC wi 2 js (za6 X.K 2 (wU (xY 0) (wU (xY 1) zcQ))) tf te) g2):=by
 obtain⟨h1,h2,h3⟩:=vB hb
 refine zeF [x,z] fr js hc hk h1 hi (fun C s H ex=>?_) hf he hg2 hsw hs
 exact qT (X:=qi X ([x,z]++fr) scope C s H ex) hc (zx (v1 (h2 x (by simp)) h3 rfl) (zx (v1 (h2 z (by simp)) h3 rfl) qB))
end
theorem Vals.mem{u:Value}:∀{xs:List V} {us:List Value},Vals xs us->u∈us->∃x∈xs,RelV x u
 | _,_,.nil,h=>by cases h
 | x::xs,v::vs,.cons r t,h=>by
  rcases qq.mp h with e | h
  ·rw[e];exact⟨x,jD,r⟩
  ·obtain⟨y,hy,ry⟩:=Vals.mem t h
   exact⟨y,jE _ hy,ry⟩
section
variable{X:Cx}
theorem zfB{pins:List (Addr×Obj)}{σ:St}{H:Hp}{s:Shared}(I:Inv X pins σ H s){A:Around}(hu:A.units<cLine){a c:Addr}{xs ys:List V}(hx:SqT X.K H a xs)(hy:SqT X.K H c ys)(fx:xs.all xK=true)(fy:ys.all xK=true):∃b,SeqAt.EqAt A s (.ref a) (.ref c) b:=by
 by_cases hac:a=c
 ·subst hac
  exact⟨true,SeqAt.EqAt.same _⟩
 ·obtain⟨its1,r1,p1,z1⟩:=I.tuple hx
  obtain⟨its2,r2,p2,z2⟩:=I.tuple hy
  have l1:=r1.length
  have l2:=r2.length
  refine⟨_,SeqAt.EqAt.of_refs hac (SeqAt.RcAt.tuples (e:=fun j=>eqV (xs.getD j .non) (ys.getD j .non)) p1 p2 hu (fun j h1 h2=>?_))⟩
  have h1':j<xs.length:=by rw[qk] at h1;omega
  have h2':j<ys.length:=by rw[qk] at h2;omega
  obtain⟨w1,e1,q1⟩:=r1.get (i:=j) (x:=xs[j]) (by simp[h1'])
  obtain⟨w2,e2,q2⟩:=r2.get (i:=j) (x:=ys[j]) (by simp[h2'])
  have g1:its1.toArray[j]=w1:=by simpa using (zN.mp e1).2
  have g2:its2.toArray[j]=w2:=by simpa using (zN.mp e2).2
  rw[g1,g2,show xs.getD j .non=xs[j] by simp[h1'],show ys.getD j .non=ys[j] by simp[h2']]
  exact WL q1 q2 (jh.mp fx _ (yr h1')) (jh.mp fy _ (yr h2'))
inductive J3(K:PySem.W.Frag)(x:V)(y:V)(H:Hp)(Q:VK):Prop
 | mk (a p:Addr) (zs xs:List V) (_:x=.ref a) (_:y=.ref p) (_:SqT K H a zs) (_:zs.all xK=true) (_:SqL K H p xs) (_:(∀v∈xs,∃(c:Addr) (ws:List V),v=.ref c/\SqT K H c ws/\ws.all xK=true)) (_:∀r:Bool,Q (.bl r) H):J3 K x y H Q
open Classical in
theorem zdA(hu:X.A.units+64<cLine):OpR X (compareOp .In) (J3 X.K):=by
 intro pins s σ H x y v u Q I rx ry h
 obtain⟨a,p,zs,xs,rfl,rfl,ha,fa,hp,all,q⟩:=h
 cases rx
 cases ry
 obtain⟨its,r,pl,hz⟩:=I.list hp
 have ex:∀w∈its,∃b,SeqAt.EqAt X.A.in1 s w (.ref a) b:=fun w hw=>by
  obtain⟨x,hx,rxw⟩:=Vals.mem r hw
  obtain⟨c,ws,rfl,hc,fc⟩:=all x hx
  cases rxw
  exact zfB I (by show X.A.units+1<cLine;omega) hc ha fc fa
 refine SeqAt.in_listAt (fun w=>if h:∃b,SeqAt.EqAt X.A.in1 s w (.ref a) b then h.choose else false) pl.isList (fun w hw=>?_) ⟨.bl _,H,I,rfl,q _⟩
 have hw':=ex w (by simpa using hw)
 simp only[hw',dif_pos]
 exact hw'.choose_spec
inductive Q6(K:PySem.W.Frag)(x:V)(y:V)(H:Hp)(Q:VK):Prop
 | mk (a b:Addr) (xs:List V) (_:x=.ref a) (_:y=.ref b) (_:SqL K H a xs) (_:SqL K H b []) (_:Q (.bl (!xs.isEmpty)) H):Q6 K x y H Q
theorem Qp(hu:X.A.units<cLine):OpR X (compareOp .NotEq) (Q6 X.K):=by
 intro pins s σ H x y v u Q I rx ry h
 obtain⟨a,b,xs,rfl,rfl,hx,hy,q⟩:=h
 cases rx
 cases ry
 obtain⟨its1,r1,p1,z1⟩:=I.list hx
 obtain⟨its2,r2,p2,z2⟩:=I.list hy
 cases r2
 cases r1 with
 | nil=>exact SeqAt.RcNeAt.lists (e:=fun _=>true) p1.isList p2.isList rfl hu (fun j h1 _=>by simp at h1) _ _ _ _ ⟨.bl _,H,I,rfl,q⟩
 | cons r t=>exact SeqAt.RcNeAt.lists_lengths p1.isList p2.isList (by simp) hu _ _ _ _ ⟨.bl _,H,I,rfl,q⟩
inductive Q7(K:PySem.W.Frag)(x:V)(y:V)(H:Hp)(Q:VK):Prop
 | mk (a b:Addr) (xs:List V) (_:x=.ref a) (_:y=.ref b) (_:SqL K H a xs) (_:SqL K H b []) (_:Q (.bl xs.isEmpty) H):Q7 K x y H Q
theorem VD(hu:X.A.units<cLine):OpR X (compareOp .Eq) (Q7 X.K):=by
 intro pins s σ H x y v u Q I rx ry h
 obtain⟨a,b,xs,rfl,rfl,hx,hy,q⟩:=h
 cases rx
 cases ry
 obtain⟨its1,r1,p1,z1⟩:=I.list hx
 obtain⟨its2,r2,p2,z2⟩:=I.list hy
 cases r2
 cases r1 with
 | nil=>exact SeqAt.RcAt.lists (e:=fun _=>true) p1.isList p2.isList rfl hu (fun j h1 _=>by simp at h1) _ _ _ _ ⟨.bl _,H,I,rfl,q⟩
 | cons r t=>exact SeqAt.RcAt.lists_lengths p1.isList p2.isList (by simp) hu _ _ _ _ ⟨.bl _,H,I,rfl,q⟩
theorem X1:∀{its:List Value} {n k:Nat},its.length=n->(∀j v,its[j]? =some v->∃t,v=Value.int ((k+j:Nat):Int) t)->Vals ((List.range' k n).map fun i:Nat=>V.int (i:Int)) its
 | [],0,k,_,_=>.nil
 | v::its,n+1,k,hl,h=>by
  rw[List.range'_succ,jP]
  obtain⟨t,e⟩:=h 0 v rfl
  refine .cons ⟨t,by rw[e];rfl⟩ (X1 (by simpa using hl) fun j w hw=>?_)
  obtain⟨t',e'⟩:=h (j+1) w (by simpa using hw)
  exact⟨t',by rw[e',show k+(j+1)=k+1+j by omega]⟩
theorem yF{a:Expr}{ta:TA}{p p2 pos pos2:Pos}(hc:X.calm=true)(hg:Gl X "list")(hm:X.mg "list" = none)(hg2:Gl X "range")(hm2:X.mg "range" = none)(hv:bootBuiltins "list" = some (.type "list"))(ha:PA X [a] ta)(hs:starEach [a] X.env=[(false,eval a X.env)]:=by rfl)
  (he:starEach [.Call (.Name "range" p2) [a] [] pos2] X.env=[(false,eval (.Call (.Name "range" p2) [a] [] pos2) X.env)]:=by rfl) :
  PE X (.Call (.Name "list" p) [.Call (.Name "range" p2) [a] [] pos2] [] pos) (fun σ H Q=>ta σ H fun vs H1=>∃j:Int,vs=[.int j]/\0<=j/\j<=1000000/\∀l,H1 l=none->Q (.ref l) (upd H1 l (.lst ((List.range j.toNat).map fun i:Nat=>V.int (i:Int))))):=by
 intro pins s σ H Q I h
 refine wpAny_Call_Name_kw (vO I hg hm hv ?_ (by decide) (by decide))
 refine QQ ?_ he rfl
 rw[he]
 refine QL ?_
 refine Call_ (vO I hg2 hm2 boot_range (QQ (thn (ha pos2 pins s σ H _ I h) fun us s1 ⟨vs,H1,I1,r1,q1⟩=>?_) hs rfl))
 obtain⟨j,e,j0,j1,q⟩:=q1
 subst e
 cases r1 with
 | cons r rr=>
  cases rr
  obtain⟨t,rfl⟩:=r
  refine call_range_1 (QY ?_)
  have I2:Inv X pins σ H1 { s1 with heap:=s1.heap.push { cls:=.type "range",data:=.fields #[.int 0 s1.toks,.int j t,.int 1 (s1.toks+1)] },toks:=s1.toks+1+1 }:=I1.kept fun b o e=>qx _ e
  have e62:(2:Int)^62=4611686018427387904:=by decide
  refine call_list_range (n:=j.toNat) (I.ok.hd hc) (IsRange.new ..) (small_one (by rw[e62];omega) (by rw[e62];omega) (by rw[e62];omega) (by rw[e62];omega)) (by rw[rangeSize_one];split<;>omega) (by omega) fun h' tk acc' c' keep get items=>?_
  refine⟨.ref _,_,I2.laid (t':=tk) (o:=.lst ((List.range j.toNat).map fun i:Nat=>V.int (i:Int))) keep (zC _) ?_,rfl,q _ (I2.hok.fresh (zC _))⟩
  refine⟨by rw[zq,QJ,sizeLine_eq];omega,acc'.toList,c',?_,by rw[Array.toArray_toList];exact get⟩
  rw[List.range_eq_range']
  refine X1 (by rw[vE];exact items.1) fun i v hv=>?_
  obtain⟨t',e'⟩:=items.2 i v (by simpa using hv)
  exact⟨t',by rw[e'];congr 1;omega⟩
end
end L2
namespace L2
open PySem PySem.Spec PyProof.Rows
section
variable{prog:Program}{w:World}{A:Around}{E:Value->Shared->Prop}{s:Shared}
end
def Tups(H:Hp)(xs ys:List V)(Ts:List Addr):Prop:=∀(j:Nat) (T:Addr),Ts[j]? =some T->∃x y,xs[j]? =some x/\ys[j]? =some y/\H T=some (.tup [x,y])
section
variable{X:Cx}{A:Around}{R:Result->Shared->Prop}
end
section
variable{X:Cx}
theorem Qw{K:PySem.W.Frag}(h:X.K=K):IxR X (ze2 K):=by rw[<- h];exact zS
theorem jq{K:PySem.W.Frag}(h:X.K=K):IxR X (ze1 K):=by rw[<- h];exact qD
theorem xx{K:PySem.W.Frag}(h:X.K=K):jF X (.builtin "len") (x8 K):=by rw[<- h];exact zp
theorem zbg{K:PySem.W.Frag}(h:X.K=K):jF X (.builtin "isinstance") (yu K):=by rw[<- h];exact qm
theorem vK{K:PySem.W.Frag}(h:X.K=K):OpR X (compareOp .In) (rIn K false):=by rw[<- h];exact wJ
theorem Jc{K:PySem.W.Frag}(h:X.K=K):OpR X (compareOp .NotIn) (rIn K true):=by rw[<- h];exact Xf
inductive J2(x:V)(y:V)(H:Hp)(Q:VK):Prop
 | mk (a b:_) (_:x=.bl a) (_:y=.bl b) (_:Q (.bl (!decide (a=b))) H):J2 x y H Q
theorem YN:OpR X (compareOp .IsNot) (J2):=by
 intro pins s σ H x y v u Q I rx ry h
 obtain⟨a,b,rfl,rfl,q⟩:=h
 cases rx
 cases ry
 refine wpAny_isNot_plain (by cases a<;>cases b<;>rfl) (qE I q ?_)
 cases a<;>cases b<;>rfl
end
section
open AutoSeq1 (wpAny_loadPart')
theorem we(l:Addr)(items:Array Value)(n:Nat)(dct:Option Addr)(sl:Array (Option Value)) :
  Meets (Builtin.«enumerate.__new__» ⟨[.type "enumerate",.ref l],[]⟩) (fun _ R s=>s.heap.get? l=some { cls:=.type "tuple",dict:=dct,data:=.seq items n,slots:=sl } /\
   R (.ok (.ret (.ref (s.heap.push { cls:=.type "tuple_iterator",data:=.fields #[.ref l,.int 0 0] }).objs.size)))
    { s with heap:=(s.heap.push { cls:=.type "tuple_iterator",data:=.fields #[.ref l,.int 0 0] }).push { cls:=.type "enumerate",data:=.fields #[.none,.bool false,.ref s.heap.objs.size,rawInt 0,.none,.none] } }):=
 .of_wp fun prog w A R s h=>by
  obtain⟨hp,g,d,tk,os⟩:=s;obtain⟨hl,h⟩:=h
  have hsub:=sub_enumerate
  have hL:Heap.IsTuple (Shared.heap ⟨hp,g,d,tk,os⟩) l items:=⟨_,hl,rfl,n,rfl⟩
  wp_walk using wpAny_loadPart' hl
  refine wpAny_stack_any fun st=>zD ?_
  split
  ·rename_i c _ _ _ _ _
   cases(c==Value.type "enumerate")
   ·wp_walk using wpAny_loadPart' hl,wpAny_pyIter_tuple hL
    exact⟨_,rfl,h⟩
   ·wp_walk using wpAny_loadPart' hl,wpAny_pyIter_tuple hL
    exact⟨_,rfl,h⟩
  ·wp_walk using wpAny_loadPart' hl,wpAny_pyIter_tuple hL
   exact⟨_,rfl,h⟩
end
section
variable{prog:Program}{w:World}{A:Around}{E:Value->Shared->Prop}{s:Shared}
theorem wo{l:Addr}{items:Array Value}{Q:Value->Shared->Prop}(hL:s.heap.IsTuple l items)
  (h:∀h',IsEnum h' (s.heap.objs.size+1) s.heap.objs.size 0 .none->h'.IsTupleIter s.heap.objs.size l 0->h'.objs.size=s.heap.objs.size+2 ->
   (∀b o,s.heap.get? b=some o->h'.get? b=some o)->Q (.ref (s.heap.objs.size+1)) { s with heap:=h' }) :
  wpAny (model prog w) A (call (.type "enumerate") [.ref l]) Q E s:=by
 obtain⟨⟨c,dct,dt,sl⟩,hl,hc,n,hd⟩:=hL
 replace hc:c=.type "tuple" :=hc
 replace hd:dt=.seq items n:=hd
 subst hc hd
 refine callType_new F.called_enumerate (by decide) (F.typeCall_enumerate_1 _) (F.newCall_enumerate_1 _) (fun obj=>F.args_object_init_2 obj _) F.entry_enumerate_new
  (we l items n dct sl) ⟨hl,?_⟩
 have hz:(s.heap.push { cls:=.type "tuple_iterator",data:=.fields #[.ref l,.int 0 0] }).objs.size=s.heap.objs.size+1:=j4 ..
 show _/\_
 rw[hz]
 have he:IsEnum ((s.heap.push { cls:=.type "tuple_iterator",data:=.fields #[.ref l,.int 0 0] }).push
   { cls:=.type "enumerate",data:=.fields #[.none,.bool false,.ref s.heap.objs.size,rawInt 0,.none,.none] }) (s.heap.objs.size+1) s.heap.objs.size 0 .none:=by
  have:=qA (s.heap.push { cls:=.type "tuple_iterator",data:=.fields #[.ref l,.int 0 0] })
   (o:={ cls:=.type "enumerate",data:=.fields #[.none,.bool false,.ref s.heap.objs.size,rawInt 0,.none,.none] }) rfl
  rw[hz] at this;exact this
 refine⟨⟨_,he,rfl⟩,h _ he ⟨_,qx _ (qA _ rfl),rfl,rfl⟩ (by rw[j4,hz]) fun b o x=>qx _ (qx _ x)⟩
theorem Draws.tuple{prog:Program}{w:World}{A:Around}(hh:A.handled=none)(it l:Addr)(hne:l≠it)(items:Array Value) :
  Draws prog w A it [it,l] items.size (fun i v=>items[i]? =some v) (fun i h=>h.IsTupleIter it l i/\h.IsTuple l items) where
 live:=fun _ _ st=>let ⟨o,ho,_⟩:=st.1;⟨o,ho⟩
 frame:=fun _ _ _ st hk=>⟨ItrK.at (kd:=false) st.1 fun o e=>hk it (by simp) o e,SeqK.at (kd:=false) st.2 fun o e=>hk l (by simp) o e⟩
 item:=fun i s Q E hi st hQ=>by
  refine vL (kd:=false) st.1 st.2 (x:=items[i]) (by simp[hi]) fun h' hit' hs'=>?_
  exact hQ _ h' s.toks (by simp[hi]) ⟨hit',SeqK.at (kd:=false) st.2 fun o e=>hs'.extBut l o hne e⟩ hs'
 done:=fun s Q E st hE=>wL (kd:=false) hh st.1 st.2 (by simp) hE
end
def Wh(K:PySem.W.Frag)(a:Addr):It:=
 ⟨fun i H=>∃xs x,SqT K H a xs/\xs[i]? =some x,fun i H x H'=>∃T y,x=.ref T/\H T=none/\H'=upd H T (.tup [.int i,y])/\∀xs,SqT K H a xs->xs[i]? =some y,fun i H=>∃xs,SqT K H a xs/\xs.length<=i⟩
theorem Wl{P:Program}{w:World}{K:PySem.W.Frag}{elts:List Expr}{kk:Nat}{pos:Pos}(a e it:Addr)(hne:e≠it) :
  Q5 P w K (.Tuple elts kk pos) (Wh K a) [e,it] e (fun i h=>(∃old,IsEnum h e it i old)/\h.IsTupleIter it a i) where
 mem:=by simp
 obj:=fun i h st b hb=>by
  obtain⟨⟨old,he⟩,⟨o,ho,c,d⟩⟩:=st
  rcases qq.mp hb with z | z
  ·subst z;exact⟨_,he,fun v q=>nomatch q⟩
  ·rw[qR.mp z];exact⟨o,ho,fun v q=>by rw[d] at q;cases q⟩
 keep:=fun i h h' st k=>by
  obtain⟨⟨old,he⟩,hi⟩:=st
  exact⟨⟨old,k e (by simp) _ he⟩,ItrK.at (kd:=false) hi fun o q=>k it (by simp) o q⟩
 item:=by
  intro X hP hw hK hc i pins s σ H E I hf st hg
  subst hP hw hK
  obtain⟨⟨old,he⟩,hit⟩:=st
  obtain⟨xs,x,hq,hx⟩:=hg
  obtain⟨its,rv,p,hz⟩:=I.tuple hq
  obtain⟨u,hu,ru⟩:=rv.get hx
  have hl:s.heap.IsTuple a its.toArray:=p
  have hai:a≠it:=fun z=>by
   obtain⟨o,e1,c1,_⟩:=hl
   obtain⟨o',e2,c2,_⟩:=hit
   rw[z,e2] at e1;cases e1;rw[c2] at c1;exact absurd (wA c1) (by decide)
  have hae:e≠a:=fun z=>by
   obtain⟨o,e1,c1,_⟩:=hl
   rw[<- z,he] at e1;cases e1;exact absurd (wA c1) (by decide)
  have D:=Draws.tuple (prog:=X.prog) (w:=X.w) (A:=X.A.in1) (I.ok.hd hc) it a hai its.toArray
  have hi:i<its.toArray.size:=by
   have h1:=(zN.mp hu).1
   simpa using h1
  refine wpAny_pyNext_enum_itemD D he ⟨hit,hl⟩ hi hne (by simp[hne,hae]) fun x' h' tk hP' hout hst' hT hsz hk=>?_
  have ex:x'=u:=by
   have h2:its[i]? =some x':=by simpa using hP'
   rw[hu] at h2;exact(jJ h2).symm
  subst ex
  refine⟨_,rfl,wpAny_letOwnedTupleGo_enum hout fun h2 he2 hs2=>?_⟩
  have eT:s.heap.objs.size≠e:=xE (zL he)
  have k2:∀b o,b∉[e,it]->s.heap.get? b=some o->h2.get? b=some o:=fun b o hb q=>by
   have n1:b≠e:=fun z=>hb (by simp[z])
   have n2:b≠it:=fun z=>hb (by simp[z])
   exact(hs2.2 b n1).trans (hk b o n1 n2 q)
  have it2:h2.IsTupleIter it a (i+1):=ItrK.at (kd:=false) hst'.1 fun o q=>hs2.extBut it o (qH hne) q
  refine⟨.ref s.heap.objs.size,upd H s.heap.objs.size (.tup [.int i,x]),?_,rfl,⟨_,x,rfl,I.hok.fresh (zC _),rfl,fun ys hy=>by rw[I.tuple_inj hy hq];exact hx⟩,⟨⟨_,by simpa using he2⟩,it2⟩,fun b hb=>?_⟩
  ·refine Xo (s:=s) (h':=h2) (t':=tk+1) (its:=[.int i tk,x']) I hf (zC _) k2 (by rw[sizeLine_eq];exact(by decide:2<=16777216)) (.cons ⟨tk,rfl⟩ (.cons ru .nil)) (TupX.by ((hs2.2 _ eT).trans hT))
  ·have hb':b<s.heap.objs.size:=by
    rcases qq.mp hb with z | z
    ·rw[z];exact zL he
    ·rw[qR.mp z]
     obtain⟨o',e',_⟩:=hit
     exact zL e'
   rw[zo (qw hb')]
   exact(hf b hb).1
 done:=by
  intro X hP hw hK hc i pins s σ H E I hf st hg
  subst hP hw hK
  obtain⟨⟨old,he⟩,hit⟩:=st
  obtain⟨xs,hq,hx⟩:=hg
  obtain⟨its,rv,p,hz⟩:=I.tuple hq
  have hl:s.heap.IsTuple a its.toArray:=p
  have hai:a≠it:=fun z=>by
   obtain⟨o,e1,c1,_⟩:=hl
   obtain⟨o',e2,c2,_⟩:=hit
   rw[z,e2] at e1;cases e1;rw[c2] at c1;exact absurd (wA c1) (by decide)
  obtain⟨f0,f1,f2,f3,f4,f5⟩:=hf it (by simp)
  have hle:its.toArray.size<=i:=by
   have:=rv.length
   simp only[qk];omega
  have hT:s.TypeIs (.ref e) "enumerate" :=⟨_,he,rfl⟩
  unfold pyNext
  refine zk (yo (y8 (name:=Str.ofString "__next__") hT XU (vD XU hT F.entry_enumerate_next ?_ (F.args_enumerate_next_1 _))))
  show wpAny _ _ (field (.ref e) 2 >>= _) _ _ _
  refine zk (xD he rfl (x:=.ref it) rfl (zk (wL (kd:=false) (I.ok.hd hc) hit hl (by simpa using hle) fun h' x he' hx'=>?_)))
  obtain⟨o,ho,hc'⟩:=hx'
  refine zk (ZM (T:= "StopIteration") (b:=true) ⟨o,ho,hc'⟩ isSubtype_stop ?_)
  exact zD ⟨rfl,I.turned (t':=s.toks) (fun b o hb q=>he' b o hb q) f0 f1 f3 f4 f5⟩
 self:=fun _ _ _ _ _ st h=>let ⟨⟨_,he⟩,_⟩:=st;wpAny_pyIter_enum he h
section
variable{X:Cx}
def zfy(K:PySem.W.Frag)(ta:TA):TI:=fun σ H R=>ta σ H fun vs H1=>∃a,vs=[.ref a]/\(∃xs,SqT K H1 a xs)/\R (Wh K a) H1
theorem v0{l:Expr}{ta:TA}{p pos tp:Pos}{elts:List Expr}{kk:Nat}(hg:Gl X "enumerate")(hm:X.mg "enumerate" = none)(ha:PA X [l] ta)(hs:starEach [l] X.env=[(false,eval l X.env)]:=by rfl) :
  PI X (.Tuple elts kk tp) (.Call (.Name "enumerate" p) [l] [] pos) (zfy X.K ta):=by
 intro pins s σ H R I h
 refine Call_ (vO I hg hm boot_enumerate (QQ (thn (ha pos pins s σ H _ I h) fun us s1 ⟨vs,H1,I1,r1,q1⟩=>?_) hs rfl))
 obtain⟨a,e,⟨xs,hq⟩,q⟩:=q1
 subst e
 obtain⟨u,rfl,ru⟩:=xJ r1
 cases ru
 obtain⟨its,rv,pl,hz⟩:=I1.tuple hq
 refine wo pl fun h' he hi hsz hk=>wpAny_pyIter_enum he ?_
 have I2:Inv X pins σ H1 { s1 with heap:=h' }:=I1.kept (t':=s1.toks) hk
 refine⟨s1.heap.objs.size+1,[s1.heap.objs.size+1,s1.heap.objs.size],_,_,H1,rfl,I2,Wl a _ _ (Nat.succ_ne_self _),⟨⟨_,he⟩,hi⟩,fun b hb=>?_,q⟩
 have hb':s1.heap.objs.size<=b:=by
  rcases qq.mp hb with z | z
  ·rw[z];exact vn _
  ·rw[qR.mp z];exact zC _
 exact I1.fpOk hb' (I1.hok.fresh hb')
theorem wQ{K:PySem.W.Frag}{a:Addr}{xs:List V}{g:TG}{tb:TS}{D:Jg}{σ:St}{H:Hp}(Pv:Nat->St->Hp->Prop)(h0:Pv 0 σ H)(hl:∀i σ H,i<=xs.length->Pv i σ H->SqT K H a xs)
  (hs:∀i x σ H T,xs[i]? =some x->Pv i σ H->H T=none->g (.ref T) σ (upd H T (.tup [.int i,x])) fun σ2 H2=>tb { D with nx:=Pv (i+1),ct:=Pv (i+1),bk:=D.nx } σ2 H2) (hd:∀σ H,Pv xs.length σ H->D.nx σ H) :
  ∃W:Nat->Nat->St->Hp->Prop,(∃m,W 0 m σ H)/\∀i m σ H,W i m σ H ->
   ((Wh K a).stop i H/\D.nx σ H)\/((Wh K a).go i H/\∃N:St->Hp->Prop,(∀σ' H',N σ' H'->∃m',m'<m/\W (i+1) m' σ' H')/\∀x H',(Wh K a).yld i H x H'->g x σ H' fun σ2 H2=>tb { D with nx:=N,ct:=N,bk:=D.nx } σ2 H2):=by
 refine⟨fun i m σ H=>m=xs.length-i/\i<=xs.length/\Pv i σ H,⟨xs.length,by simp,qo _,h0⟩,?_⟩
 rintro i m σ H ⟨rfl,hi,p⟩
 have q:=hl i σ H hi p
 by_cases hlt:i<xs.length
 ·refine .inr ⟨⟨xs,xs[i],q,by simp[hlt]⟩,Pv (i+1),fun σ' H' p'=>⟨xs.length-(i+1),by omega,rfl,hlt,p'⟩,fun x H' y=>?_⟩
  obtain⟨T,z,e1,hT,e2,y⟩:=y
  subst e1 e2
  exact hs i z σ H T (y xs q) p hT
 ·have e:i=xs.length:=by omega
  subst e
  exact .inl ⟨⟨xs,q,zC _⟩,hd σ H p⟩
end
end L2
namespace L2
open PySem PySem.Spec PyProof.Rows
section
variable{prog:Program}{w:World}{A:Around}{R:Result->Shared->Prop}{s:Shared}
end
def Sub:St->St->Prop
 | [],[]=>True
 | none::r,_::r'=>Sub r r'
 | some v::r,x::r'=>x=some v/\Sub r r'
 | _,_=>False
section
variable{X:Cx}{elt tg1 iter1:Expr}{ifs1:List Expr}{tg iter:Expr}{ifs:List Expr}{scope:Scope}{pos:Pos}{wi wi1:TI}{g g1:TG}{tf tf1:TT}{te:TE}
end
section
variable{X:Cx}
inductive ZV(K:PySem.W.Frag)(xs:List V)(H:Hp)(Q:VK):Prop
 | mk (p:Addr) (bs:List Bool) (_:xs=[.ref p]) (_:SqL K H p (bs.map V.bl)) (_:Q (.bl (bs.any id)) H):ZV K xs H Q
theorem zbh(hc:X.calm=true):jF X (.builtin "any") (ZV X.K):=by
 intro pins s σ H xs us Q I r h
 obtain⟨p,bs,rfl,hq,q⟩:=h
 obtain⟨u,rfl,ru⟩:=xJ r
 cases ru
 obtain⟨its,rv,pl,hz⟩:=I.list hq
 have hl:=pl.isList
 have hpl:p≠s.heap.objs.size:=by
  obtain⟨o,e,_⟩:=hl
  exact qw (zL e)
 refine call_any_walk (wpAny_pyIter_list hl ?_)
 refine⟨s.heap.objs.size,_,_,_,_,_,fun i=>bs.getD i false,rfl,Walks.list (prog:=X.prog) (w:=X.w) (A:=X.A.in1) (I.ok.hd hc) _ p hpl its.toArray,⟨⟨_,qA _ rfl,rfl,rfl⟩,hl.push _⟩,?_,fun h' tk hk=>?_⟩
 ·intro i v s' Q' E' hP hQ
  have hP:its.toArray[i]? =some v:=hP
  have e1:its[i]? =some v:=by simpa using hP
  have hi:i<bs.length:=by
   have h1:=(zN.mp e1).1
   have h2:=rv.length
   rw[zq] at h2
   omega
  have e2:(bs.map V.bl)[i]? =some (.bl bs[i]):=by simp[hi]
  obtain⟨u',eu,ru⟩:=rv.get e2
  rw[e1] at eu
  cases eu
  cases ru
  have e3:bs.getD i false=bs[i]:=by simp[hi]
  have hQ2:Q' (bs.getD i false) s':=hQ
  rw[e3] at hQ2
  exact yW hQ2
 ·have k:∀b o,s.heap.get? b=some o->h'.get? b=some o:=fun b o e=>hk b o (by simp;exact qw (zL e)) (qx _ e)
  have ea:(List.range its.toArray.size).any (fun i=>bs.getD i false)=bs.any id:=by
   have hlen:its.toArray.size=bs.length:=by
    have:=rv.length
    rw[zq] at this
    simp only[qk];omega
   rw[hlen,wu,QX,QX]
   constructor
   ·rintro⟨i,hi,e⟩
    have hi:=wZ.mp hi
    exact⟨bs[i],yr hi,by simpa [hi] using e⟩
   ·rintro⟨b,hb,e⟩
    obtain⟨i,hi,rfl⟩:=Q2.mp hb
    exact⟨i,wZ.mpr hi,by simpa [hi] using e⟩
  exact⟨.bl (bs.any id),H,I.kept k,by rw[ea];rfl,q⟩
theorem zc0:bootBuiltins "any" = some (.builtin "any"):=by decide +kernel
theorem Qy:∀{ns:List Int} {its:List Value},Vals (ns.map V.int) its->IntsAre its ns
 | [],its,h=>by cases h;exact .nil
 | n::ns,its,h=>by
  cases h with
  | cons r q=>
   obtain⟨t,rfl⟩:=r
   exact .cons n t (Qy q)
theorem ZG{k:Int}:∀{ns:List Int} {its:List Value},Vals (ns.map V.int) its->its.countP (isInt k)=ns.count k
 | [],its,h=>by cases h;rfl
 | n::ns,its,h=>by
  cases h with
  | cons r q=>
   obtain⟨t,rfl⟩:=r
   rw[List.countP_cons,List.count_cons,ZG q]
   rfl
inductive YK(x:V)(vs:List V)(H:Hp)(Q:VK):Prop
 | mk (l:Addr) (ns:List Int) (k:Int) (_:x=.ref l) (_:vs=[.int k]) (_:H l=some (.lst (ns.map V.int))) (_:Q (.int (ns.count k)) H):YK  x vs H Q
theorem za1:MtM X "list.count" YK:=by
 intro pins s σ H x vs v us Q I rx rv h
 obtain⟨l,ns,k,rfl,rfl,hH,q⟩:=h
 cases rx
 obtain⟨u,rfl,ru⟩:=rv.one
 obtain⟨t,rfl⟩:=ru
 obtain⟨z,its,n,r,hl,e⟩:=I.lstM hH
 refine call_meets F.slot_list_count ⟨_,e,rfl⟩ F.entry_list_count (F.args_list_count_2 _ _) (MeetsSeq.list_count l its.toArray n (.int k t) (isInt k) (fun y hy=>eq_isInt k t (Qy r) y (by simpa using hy))) ⟨e,?_⟩
 refine⟨.int (ns.count k),H,I.tok _,⟨s.toks,?_⟩,q⟩
 show Value.int ((its.toArray.toList.countP (isInt k):Nat):Int) s.toks=_
 rw[show its.toArray.toList=its by simp,ZG r]
theorem JJ{α β:Type}(f:α->β):∀(l:List α) (i:Nat),(l.eraseIdx i).map f=(l.map f).eraseIdx i
 | [],_=>rfl
 | _::_,0=>rfl
 | a::r,i+1=>by
  show f a::(r.eraseIdx i).map f=f a::(r.map f).eraseIdx i
  rw[JJ f r i]
inductive Vv(x:V)(vs:List V)(H:Hp)(Q:VK):Prop
 | mk (l:Addr) (ns:List Int) (k:Int) (_:x=.ref l) (_:vs=[.int k]) (_:H l=some (.lst (ns.map V.int))) (_:k∈ns) (_:Q .non (upd H l (.lst ((ns.erase k).map V.int)))):Vv  x vs H Q
theorem WB:MtM X "list.remove" Vv:=by
 intro pins s σ H x vs v us Q I rx rv h
 obtain⟨l,ns,k,rfl,rfl,hH,hk,q⟩:=h
 cases rx
 obtain⟨u,rfl,ru⟩:=rv.one
 obtain⟨t,rfl⟩:=ru
 obtain⟨z,its,n,r,hl,e⟩:=I.lstM hH
 rw[zq] at hl z
 have hj:ns.idxOf k<ns.length:=WZ hk
 have val:∀i (hi:i<its.length),isInt k its[i]=(ns[i]'(by omega)==k):=fun i hi=>by
  have e2:(ns.map V.int)[i]? =some (.int (ns[i]'(by omega))):=by simp[show i<ns.length by omega]
  obtain⟨u',eu,ru⟩:=r.get e2
  rw[jj hi] at eu
  cases eu
  obtain⟨t',e'⟩:=ru
  rw[e']
  rfl
 refine call_meets F.slot_list_remove ⟨_,e,rfl⟩ F.entry_list_remove (F.args_list_remove_2 _ _) (MeetsSeq.list_remove l its.toArray n (.int k t) (isInt k) (fun y hy=>eq_isInt k t (Qy r) y (by simpa using hy)) (ns.idxOf k) (by simp;omega) ?_ ?_ (by simp;omega)) ⟨e,?_⟩
 ·rw[List.getElem_toArray,val _ (by omega)]
  simp
 ·intro m hm hlt
  rw[List.getElem_toArray,val _ (by simpa using hm)]
  have:=List.not_of_lt_findIdx (p:=(·==k)) (xs:=ns) (i:=m) (by exact hlt)
  simpa using this
 refine⟨.non,_,I.lset (its':=its.eraseIdx (ns.idxOf k)) hH e ?_ ?_ ?_,rfl,q⟩
 ·apply Array.toList_inj.mp
  simp[Array.toList_eraseIdxIfInBounds]
 ·have em:(ns.erase k).map V.int=(ns.map V.int).eraseIdx (ns.idxOf k):=by rw[List.erase_eq_eraseIdx_of_idxOf rfl,JJ]
  rw[em]
  exact r.eraseIdx _
 ·rw[zq]
  exact jt (List.length_erase_le) z
end
theorem zcH{K:PySem.W.Frag}{a:Addr}{xs:List V}{g:TG}{tf:TT}{te:TE}{σ0:St}{n:Nat}{R:List V->Hp->Prop}{H:Hp}(Pv:Nat->List V->Hp->Prop)(h0:Pv 0 [] H)
  (h1:∀i zs H,Pv i zs H->SqT K H a xs)
  (hs:∀i x zs H T,xs[i]? =some x->Pv i zs H->H T=none->g (.ref T) σ0 (upd H T (.tup [.int i,x])) fun σ4 H4=>σ4.drop n=σ0.drop n/\tf σ4 H4 fun b H5=>
   if b=true then te σ4 H5 fun v H6=>zs.length<sizeLine/\Pv (i+1) (zs++[v]) H6 else Pv (i+1) zs H5)
  (hd:∀zs H,Pv xs.length zs H->zs.length<=sizeLine/\R zs H) :
  ∃W:Nat->Nat->List V->Hp->Prop,(∃m,W 0 m [] H)/\∀i m zs H2,W i m zs H2 ->
   ((Wh K a).stop i H2/\zs.length<=sizeLine/\R zs H2) \/
   ((Wh K a).go i H2/\∃N:List V->Hp->Prop,(∀zs H',N zs H'->∃m',m'<m/\W (i+1) m' zs H')/\∀x H3,(Wh K a).yld i H2 x H3->g x σ0 H3 fun σ4 H4=>σ4.drop n=σ0.drop n/\tf σ4 H4 fun b H5=>
    if b=true then te σ4 H5 fun y H6=>zs.length<sizeLine/\N (zs++[y]) H6 else N zs H5):=by
 refine⟨fun i m zs H2=>m=xs.length-i/\i<=xs.length/\Pv i zs H2,⟨_,rfl,qo _,h0⟩,?_⟩
 rintro i m zs H2 ⟨rfl,hi,p⟩
 have q:=h1 i zs H2 p
 by_cases hlt:i<xs.length
 ·refine .inr ⟨⟨xs,xs[i],q,by simp[hlt]⟩,Pv (i+1),fun zs' H' p'=>⟨_,by omega,rfl,hlt,p'⟩,fun x H3 y=>?_⟩
  obtain⟨T,z,e1,hT,e2,y⟩:=y
  subst e1 e2
  exact hs i z zs H2 T (y xs q) p hT
 ·have e:i=xs.length:=by omega
  subst e
  obtain⟨z1,z2⟩:=hd zs H2 p
  exact .inl ⟨⟨xs,q,zC _⟩,z1,z2⟩
section
variable{X:Cx}{elt iter1:Expr}{ifs1:List Expr}{iter:Expr}{ifs:List Expr}{scope:Scope}{pos:Pos}{wi wi1:TI}{tf tf1:TT}{te:TE}{x y z:Str}{px py pz tp tp2:Pos}{kk kk2:Nat}
end
section
variable{X:Cx}
def tLT(K:PySem.W.Frag)(t:TE):TT:=fun σ H Q=>t σ H fun x H1=>∃a xs,x=.ref a/\SqL K H1 a xs/\Q (!xs.isEmpty) H1
theorem zdn{e:Expr}{t:TE}(h:PE X e t)(he:∀whole,isTrue e X.env whole=(do let v<-whole;standAt e.pos;holding [v] (truthy v)):=by intro _;rfl):PT X e (tLT X.K t):=by
 intro pins s σ H Q I hw
 refine isTrue_plain (thn (h pins s σ H _ I hw) fun v s1 ⟨x,H1,I1,r1,q1⟩=>?_) (he _)
 obtain⟨a,xs,rfl,hq,q⟩:=q1
 cases(show v=_ from r1)
 obtain⟨its,rv,pl,hz⟩:=I1.list hq
 have hl:=rv.length
 refine wpAny_truthy_list pl.isList (by rw[qk,<- hl];rw[sizeLine_eq] at hz;omega) ?_
 have e:(!xs.isEmpty)=(!its.toArray.isEmpty):=by
  cases xs with
  | nil=>cases rv;rfl
  | cons y ys=>cases rv;rfl
 first
  | exact⟨H1,I1.tok _,by rw[e] at q;simpa using q⟩
  | exact⟨H1,I1,by rw[e] at q;simpa using q⟩
end
section
variable{X:Cx}{elt tg1 iter1:Expr}{ifs1:List Expr}{tg iter:Expr}{ifs:List Expr}{scope:Scope}{pos:Pos}{wi wi1:TI}{g g1:TG}{tf tf1:TT}{te:TE}{x z:Str}{px pz tp tp2:Pos}{kk kk2:Nat}
end
def JG:Nat->List Obj->PySem.W.Frag
 | _,[]=>[]
 | n,o::r=>match o.data with
  | .freed=>JG (n+1) r
  | _=>(n,o)::JG (n+1) r
def Xt(h:Heap):PySem.W.Frag:=JG 0 h.objs.toList
theorem VY:∀{l:List Obj} {n a:Nat} {o:Obj},(JG n l).lookup a=some o->n<=a/\l[a-n]? =some o/\o.data≠.freed
 | [],n,a,o,h=>by cases h
 | x::r,n,a,o,h=>by
  have tail:(JG (n+1) r).lookup a=some o->n<=a/\(x::r)[a-n]? =some o/\o.data≠.freed:=fun h=>by
   obtain⟨h1,h2,h3⟩:=VY h
   refine⟨by omega,?_,h3⟩
   rw[show a-n=(a-(n+1))+1 by omega];exact h2
  unfold JG at h
  split at h
  ·exact tail h
  ·rename_i nf
   rw[jK] at h
   split at h
   ·rename_i e
    cases h
    have:=vC.mp e
    subst this
    exact⟨zC _,by simp,nf⟩
   ·exact tail h
theorem za9(h:Heap):(Xt h).In h:=fun a o e=>by
 obtain⟨_,h2,h3⟩:=VY e
 have h2:h.objs[a]? =some o:=by simpa using h2
 unfold Heap.get?
 rw[h2]
 obtain⟨c,d,dt,sl⟩:=o
 cases dt<;>first| rfl | exact absurd rfl h3
inductive Fd(K:PySem.W.Frag)(nm:Str)(st:Stmt):Prop
 | mk (f:Addr) (fd:FuncData) (a:PySem.W.nsIn K mainGlobals nm=some (some (.ref f))) (F:Fun K nm nm st f fd):Fd K nm st
def zgM:Value->Bool
 | .none=>true
 | _=>false
def Xv(K:PySem.W.Frag)(nm:Str):Option (Arguments×FuncBody×Scope×Bool):=match PySem.W.nsIn K mainGlobals nm with
 | some (some (.ref f))=>(match K.lookup f with
  | some ⟨_,_,.func fd,_⟩=>some (fd.params,fd.body,fd.scope,fd.name==nm&&(fd.qualname==nm&&(fd.globals==mainGlobals&&(fd.closure.isEmpty&&(zgM fd.defaults&&(fd.builtins==builtinsNs&&PySem.W.codeIn K fd.code nm))))))
  | _=>none)
 | _=>none
def Y5(st:Stmt):Option (Arguments×FuncBody×Scope×Bool):=some (yL st,.stmts (va st),zv st,true)
theorem zgU{K:PySem.W.Frag}{nm:Str}{st:Stmt}(e:Xv K nm=Y5 st):Fd K nm st:=by
 unfold Xv Y5 at e
 split at e
 ·rename_i f hf
  split at e
  ·rename_i c d fd sl hl
   simp only[Option.some.injEq,Prod.mk.injEq,qV] at e
   obtain⟨e1,e2,e3,n1,n2,n3,n4,n5,n6,n7⟩:=e
   obtain⟨nm',qn,pa,bo,sc,gl,cl,de,kw,doc,pm,an,cd,ct,bl⟩:=fd
   dsimp only at e1 e2 e3 n1 n2 n3 n4 n5 n6 n7
   have n1:=vC.mp n1
   have n2:=vC.mp n2
   have n3:=vC.mp n3
   have n4:=List.isEmpty_iff.mp n4
   have n6:=vC.mp n6
   have n5:de=.none:=by cases de<;>first| rfl | exact Bool.noConfusion n5
   subst e1 e2 e3 n1 n2 n3 n4 n5 n6
   exact⟨f,_,hf,⟨⟨_,_,_,_,_,_,_,_,_,rfl,hl,n7⟩,by unfold PySem.W.keepIn;dsimp only;rw[hl]⟩⟩
  ·cases e
 ·cases e
theorem zfA{K:PySem.W.Frag}{l:List (Str×Stmt)}(e:l.map (fun x=>Xv K x.1)=l.map fun x=>Y5 x.2)(i:Nat){nm:Str}{st:Stmt}(h:l[i]? =some (nm,st)):Fd K nm st:=by
 have:=congrArg (fun z=>z[i]?) e
 simp only[qr,h,Zu,Option.some.injEq] at this
 exact zgU this
theorem zec{K:PySem.W.Frag}{l:List Str}(e:l.map (fun x=>PySem.W.nsIn K mainGlobals x)=l.map fun _=>some none){x:Str}(i:Nat)(h:l[i]? =some x):PySem.W.nsIn K mainGlobals x=some none:=by
 have:=congrArg (fun z=>z[i]?) e
 simpa only[qr,h,Zu,Option.some.injEq] using this
def zfN:List Value->Option (List Str)
 | []=>some []
 | .str x _::r=>(zfN r).map (x:: ·)
 | _=>none
def zeN(K:PySem.W.Frag)(nm:Str):Option (List Str×Bool):=match PySem.W.nsIn K mainGlobals nm with
 | some (some (.ref a))=>(match K.lookup a with
  | some ⟨.type t,_,.seq vs _,_⟩=>(zfN vs.toList).map fun l=>(l,t == "tuple" && decide (vs.size<=1000))
  | _=>none)
 | _=>none
def zfo(ds:List (Str×Stmt))(bs:List Str)(ts:List (Str×List Str))(K:PySem.W.Frag):List (Option (Arguments×FuncBody×Scope×Bool))×List (Option (Option Value))×List (Option (List Str×Bool)):=
 (ds.map fun x=>Xv K x.1,bs.map fun x=>PySem.W.nsIn K mainGlobals x,ts.map fun x=>zeN K x.1)
def zfC(ds:List (Str×Stmt))(bs:List Str)(ts:List (Str×List Str)):List (Option (Arguments×FuncBody×Scope×Bool))×List (Option (Option Value))×List (Option (List Str×Bool)):=
 (ds.map fun x=>Y5 x.2,bs.map fun _=>some none,ts.map fun x=>some (x.2,true))
def zfD(s:Stmt):Pos:=match s with
 | .FunctionDef _ _ _ _ _ _ _ _ _ p=>p
 | _=>⟨0,0,0,0⟩
def defRec(x:Str)(s:Stmt):DefRec:=⟨x,yL s,va s,zv s,zfD s⟩
structure Tp(P:Program)(w:World)(K:PySem.W.Frag)(mg:Str->Option Value)(base h:Heap)(ds:List (Str×Stmt))(bs:List Str)(ts:List (Str×List Str)):Prop where
 x:K.In h
 g:h.Ns mainGlobals mg
 e:zfo ds bs ts K=zfC ds bs ts
section
variable{P:Program}{w:World}{K:PySem.W.Frag}{mg:Str->Option Value}{base h:Heap}{ds:List (Str×Stmt)}{bs:List Str}{ts:List (Str×List Str)}
theorem Tp.fd(Z:Tp P w K mg base h ds bs ts)(i:Nat){nm:Str}{st:Stmt}(hi:ds[i]? =some (nm,st)):Fd K nm st:=zfA (congrArg Prod.fst Z.e) i hi
theorem Tp.bl(Z:Tp P w K mg base h ds bs ts)(i:Nat){x:Str}(hi:bs[i]? =some x):mg x=none:=PySem.W.mg_none_of Z.x Z.g (zec (congrArg (fun z=>z.2.1) Z.e) i hi)
theorem Tp.dfn(Z:Tp P w K mg base h ds bs ts)(i:Nat){nm:Str}{st:Stmt}{k:Nat}{ps:List Str}{sp:Sp}(hi:ds[i]? =some (nm,st))
  (ok:∀f fd,Fun K nm nm st f fd->mg nm=some (.ref f)->Binds K fd ps []->qS P w K mg base CX0 k f fd ps sp)
  (hb:∀(kV doc pm:Value) (an:Option Addr) (cdv ct:Value) (us:List Value),us.length=ps.length->bindArgs (PySem.W.fnOf nm nm (yL st) (va st) (zv st) .none kV doc pm an cdv ct) ⟨us,[]⟩=pure (ps.zip us):=by
   intro _ _ _ _ _ _ us hl;first| (obtain⟨_,rfl⟩:=zgL hl;rfl) | (obtain⟨_,_,rfl⟩:=zgK hl;rfl) | (obtain⟨_,_,_,rfl⟩:=zgJ hl;rfl) | (obtain⟨_,_,_,_,rfl⟩:=zgI hl;rfl) | (obtain⟨_,_,_,_,_,rfl⟩:=lenX5 hl;rfl) | (obtain⟨_,_,_,_,_,_,rfl⟩:=lenX6 hl;rfl) | (exact match us,hl with | [],_=>rfl)) :
  Dfn P w K mg base nm k ps sp:=by
 obtain⟨f,fd,a,F⟩:=Z.fd i hi
 have b:=F.binds hb
 have m:=PySem.W.mg_of Z.x Z.g a
 exact⟨f,fd,ok f fd F m b,m,F.kp,b⟩
end
inductive Seen{β:Type}(f:PySem.W.Frag->β)(v:β)(w:World)(h:Heap):Prop
 | mk (K:PySem.W.Frag) (k:K.In h) (e:f K=v):Seen f v w h
theorem Seen.keeps{β:Type}{f:PySem.W.Frag->β}{v:β}(w:World)(h h':Heap)(s:Seen f v w h)(k:∀b o,h.get? b=some o->h'.get? b=some o):Seen f v w h':=by
 obtain⟨K,x,e⟩:=s
 exact⟨K,x.keeps k,e⟩
theorem walkS{l:PySem.W.OpenLaw}{n k:Nat}{q:Program}{loose:List Str}{XP:(Str->Option Value)->Heap->Prop}{β:Type}{f:PySem.W.Frag->β}{v:β}{d:DefRec}{sp:PySem.W.Frag->Sp}{x:Str}
  (hn:l.most=some n) (hn2:n<=sizeLine) (hdf:d.params.defaults=[]) (hr:Room k callerA)
  (F:∀(w:World) (mg:Str->Option Value) (fa:Addr) (K:PySem.W.Frag) (h:Heap),K.In h->f K=v->h.Ns mainGlobals mg->mg d.name=some (.ref fa) ->
   ∃fd:FuncData,(∀(s:Shared) (u:Value),BindsTo s fd ⟨[u],[]⟩ [(x,u)]) /\
    ∀base:Heap,K.In base->base.Ns mainGlobals mg->qS l.prog w K mg base CX0 k fa fd [x] (sp K))
  (hsp:∀(K:PySem.W.Frag) (H:Hp) (a:Addr) (ns:List Int),ns.length<=n->zfL H->SqL K H a (ns.map V.int)->sp K [.ref a] H (fun v _=>v=.bl true) fun _ _ _=>False) :
  PySem.W.WalkO q loose XP (Seen f v) l.row.toRowW d [] (fun f vs=>PySem.call f vs):=by
 refine Att.attach_call hn hdf fun w s₀ s₁ mg mb fa o pm cd doc a vs ns G Y ho hd hcd hmg hobj hints hlen hg=>?_
 obtain⟨K,KX,e⟩:=Y
 obtain⟨fd,hb,hF⟩:=F w mg fa K _ KX e G.T.g hmg
 exact zcJ KX G.T.g G.T.b G.T.builtins G.T.nolimit hg hobj hints (jt hlen hn2) hr hF hb (fun H hO hS=>hsp K H a ns hlen hO hS) fun H e s' z=>z
theorem ownHead{l:PySem.W.OpenLaw}{q:Program}{loose:List Str}{β:Type}{f:PySem.W.Frag->β}{v:β}{d:DefRec}(N:Nat)
  (said:l.wellSaid=true)
  (left:∀w,(PySem.W.openEnds treeTable l.prog w N).map (fun s=>(PySem.W.openSeen q loose (importedModules l.prog.main.body) (fun _=>true) true s,f (Xt s.heap)))=some (PySem.W.openGood q loose,v))
  (hdef:PySem.W.defOf q l.name=some (d,[])) (hp:l.prog.theDef l.name=some (d.params,d.body,d.scope)) (hk:PySem.W.kwWritten? d.params.kwonlyargs d.params.kw_defaults=some [])
  (ok:(PySem.W.chainsOk q&&PySem.W.opensWell l.prog&&(PySem.W.frees l.row.toRowW&&l.row.within.isEmpty))=true) (hb:l.prog.bare) (hw:l.row.toRowW.promised)
  (call:PySem.W.WalkO q loose (fun _ _=>True) (Seen f v) l.row.toRowW d [] fun f vs=>PySem.call f vs):l.Holds:=
 PySem.W.holds_law said fun k1=>PySem.W.holds_open (r:=l.row) (Yf:=fun s=>f (Xt s.heap)) (Ya:=fun _=>v) left (fun _ s e=>⟨_,za9 s.heap,e⟩) Seen.keeps (fun _ _=>trivial) (fun _ _ _ _ _=>trivial) hdef hp hk (fun _ _=>PySem.W.recFacts_nil rfl) (Bool.or_true _) k1 ok hb hw call
def topL(i:Nat):Stmt:=PySem.Challenge.pw_pickboard_k13_right_plans_or_not.main.body.getD i (.Pass ⟨0,0,0,0⟩)
structure Blt(mg:Str->Option Value):Prop where
 abs:mg "abs" = none
 all:mg "all" = none
 any:mg "any" = none
 bool:mg "bool" = none
 dict:mg "dict" = none
 divmod:mg "divmod" = none
 enumerate:mg "enumerate" = none
 int:mg "int" = none
 isinstance:mg "isinstance" = none
 len:mg "len" = none
 list:mg "list" = none
 max:mg "max" = none
 min:mg "min" = none
 range:mg "range" = none
 repr:mg "repr" = none
 set:mg "set" = none
 sorted:mg "sorted" = none
 str:mg "str" = none
 sum:mg "sum" = none
 tuple:mg "tuple" = none
 zip:mg "zip" = none
theorem Wa:bootBuiltins "abs" = some (.builtin "abs"):=by decide +kernel
theorem zcZ:bootBuiltins "max" = some (.builtin "max"):=by decide +kernel
theorem V9:bootBuiltins "divmod" = some (.builtin "divmod"):=by decide +kernel
theorem vy:bootBuiltins "int" = some (.type "int"):=by decide +kernel
theorem qZ:bootBuiltins "list" = some (.type "list"):=by decide +kernel
theorem zT:bootBuiltins "tuple" = some (.type "tuple"):=by decide +kernel
theorem x5:bootBuiltins "str" = some (.type "str"):=by decide +kernel
theorem vz:bootBuiltins "bool" = some (.type "bool"):=by decide +kernel
theorem xb:bootBuiltins "sorted" = some (.builtin "sorted"):=by decide +kernel
theorem zbi:bootBuiltins "dict" = some (.type "dict"):=by decide +kernel
def zbl(i:Int):Int:=if i<0 then -i else i
def zgi:Str:= "abcdefghijklmnopqrstuvwxyz"
def VP(c:Nat):Bool:=decide (97<=c)&&decide (c<=122)
theorem zcD:zgi.cps.toList=List.range' 97 26:=by decide +kernel
def WM:List (Str×Stmt):=[(("is_number" : Str),topL 1),(("is_number_within" : Str),topL 2),(("is_tuple_of" : Str),topL 4),(("is_tuple_upto" : Str),topL 5),(("turned" : Str),topL 6),(("next_by" : Str),topL 7),(("steps_from" : Str),topL 8),(("all_from" : Str),topL 9),(("ahead_of" : Str),topL 10),(("flaw_at_pick" : Str),topL 12),(("flaw_at_lay" : Str),topL 13),(("flaw_in_trip" : Str),topL 14),(("flaw_of" : Str),topL 15),(("is_pick" : Str),topL 17),(("are_picks" : Str),topL 18),(("are_lays" : Str),topL 19),(("is_trip" : Str),topL 20),(("is_right" : Str),topL 21),(("_law_box" : Str),topL 23),(("_law_take" : Str),topL 24),(("_law_folded" : Str),topL 25),(("_law_same" : Str),topL 26),(("_law_spelled" : Str),topL 27),(("_law_name" : Str),topL 28),(("_law_names" : Str),topL 29),(("_law_place" : Str),topL 30),(("_law_places" : Str),topL 31),(("_law_shuffled" : Str),topL 32),(("_law_feeders" : Str),topL 33),(("_law_aheads" : Str),topL 34),(("_law_job" : Str),topL 35),(("_law_order" : Str),topL 36),(("_law_trip" : Str),topL 37),(("_law_plan" : Str),topL 38),(("_law_over" : Str),topL 39),(("_law_is_number" : Str),topL 40),(("_law_is_trip" : Str),topL 41),(("_law_odd" : Str),topL 42),(("_law_bent_word" : Str),topL 43),(("_law_bent_number" : Str),topL 44),(("_law_bent_row" : Str),topL 45),(("_law_bent" : Str),topL 46),(("_law_flaw" : Str),topL 47),(("_law_otherwise" : Str),topL 48),(("_law_due" : Str),topL 49),(("_law_right" : Str),topL 50),(("law" : Str),topL 51)]
def zbj:List Str:=[("abs" : Str),("all" : Str),("any" : Str),("bool" : Str),("dict" : Str),("divmod" : Str),("enumerate" : Str),("int" : Str),("isinstance" : Str),("len" : Str),("list" : Str),("max" : Str),("min" : Str),("range" : Str),("repr" : Str),("set" : Str),("sorted" : Str),("str" : Str),("sum" : Str),("tuple" : Str),("zip" : Str)]
def zaH:List (Str×List Str):=[]
def zf5:List Str:=WM.dropLast.map (·.1)++[("__name__" : Str)]
def zeU:Program:={ PySem.Challenge.pw_pickboard_k13_right_plans_or_not with main:={ PySem.Challenge.pw_pickboard_k13_right_plans_or_not.main with body:=[topL 51] } }
theorem head1:PySem.Challenge.rw_pickboard_k13_right_plans_or_not.wellSaid=true:=by kernel_rfl
theorem head2:∀w,(PySem.W.openEnds treeTable PySem.Challenge.pw_pickboard_k13_right_plans_or_not w 9999).map (fun s=>(PySem.W.openSeen zeU zf5 (importedModules PySem.Challenge.pw_pickboard_k13_right_plans_or_not.main.body) (fun _=>true) true s,zfo WM zbj zaH (Xt s.heap)))=some (PySem.W.openGood zeU zf5,zfC WM zbj zaH):=fun w=>by kernel_rfl
theorem head3:(PySem.W.chainsOk zeU&&PySem.W.opensWell PySem.Challenge.pw_pickboard_k13_right_plans_or_not&&(PySem.W.frees PySem.Challenge.rw_pickboard_k13_right_plans_or_not.row.toRowW&&PySem.Challenge.rw_pickboard_k13_right_plans_or_not.row.within.isEmpty))=true:=by kernel_rfl
section
variable{κ:Type}[DecidableEq κ]
def jk(kvs:List (κ×V))(k:κ):Option V:=(kvs.find? fun kv=>decide (kv.1=k)).map (·.2)
def xm(kvs:List (κ×V))(k:κ)(v:V):List (κ×V):=
 if(kvs.any fun kv=>decide (kv.1=k))=true then kvs.map (fun kv=>if kv.1=k then(kv.1,v) else kv) else kvs++[(k,v)]
def dropK(kvs:List (κ×V))(k:κ):List (κ×V):=kvs.filter fun kv=>decide (kv.1≠k)
theorem jx{p:κ×V}{r:List (κ×V)}{k:κ}(e:p.1=k):jk (p::r) k=some p.2:=by simp[jk,Zt,e]
theorem jy{p:κ×V}{r:List (κ×V)}{k:κ}(e:¬p.1=k):jk (p::r) k=jk r k:=by simp[jk,Zt,e]
theorem vp(k:κ):∀kvs:List (κ×V),(kvs.any fun kv=>decide (kv.1=k))=(jk kvs k).isSome
 | []=>rfl
 | p::r=>by
  rw[wY]
  by_cases e:p.1=k
  ·simp only[jx e,qF e,Bool.true_or,Option.isSome_some]
  ·rw[jy e,jQ e,Bool.false_or];exact vp k r
theorem X3(k j:κ)(y:V):∀kvs:List (κ×V),jk (kvs.map fun kv=>if kv.1=k then(kv.1,y) else kv) j=(jk kvs j).map fun x=>if j=k then y else x
 | []=>rfl
 | p::r=>by
  have ih:=X3 k j y r
  rw[jP]
  by_cases h:p.1=k
  ·rw[if_pos h]
   by_cases e:p.1=j
   ·rw[jx (p:=(p.1,y)) e,jx e,Zu,if_pos (e.symm.trans h)]
   ·rw[jy (p:=(p.1,y)) e,jy e,ih]
  ·rw[if_neg h]
   by_cases e:p.1=j
   ·rw[jx (p:=p) e,jx e,Zu,if_neg (fun z=>h (e.trans z))]
   ·rw[jy (p:=p) e,jy e,ih]
theorem Jk(k j:κ)(y:V):∀kvs:List (κ×V),jk kvs k=none->jk (kvs++[(k,y)]) j=if j=k then some y else jk kvs j
 | [],_=>by
  by_cases e:k=j
  ·rw[if_pos e.symm];exact jx (p:=(k,y)) e
  ·rw[if_neg (fun z=>e z.symm)];exact jy (p:=(k,y)) e
 | p::r,hn=>by
  rw[List.cons_append]
  have hk:¬p.1=k:=fun z=>by rw[jx z] at hn;cases hn
  rw[jy hk] at hn
  have ih:=Jk k j y r hn
  by_cases e:p.1=j
  ·rw[jx e,jx e,if_neg (fun z=>hk (e.trans z))]
  ·rw[jy e,jy e,ih]
theorem Z9(kvs:List (κ×V))(k j:κ)(y:V):jk (xm kvs k y) j=if j=k then some y else jk kvs j:=by
 unfold xm
 by_cases a:(kvs.any fun kv=>decide (kv.1=k))=true
 ·rw[if_pos a,X3]
  rw[vp] at a
  by_cases e:j=k
  ·obtain⟨x,hx⟩:=Option.isSome_iff_exists.mp a
   rw[if_pos e,e,hx,Zu,if_pos rfl]
  ·rw[if_neg e]
   cases jk kvs j with
   | none=>rfl
   | some x=>rw[Zu,if_neg e]
 ·rw[if_neg a]
  refine Jk k j y kvs ?_
  rw[vp] at a
  cases q:jk kvs k with
  | none=>rfl
  | some x=>rw[q] at a;exact(a rfl).elim
theorem xB(kvs:List (κ×V))(k:κ)(v:V):(xm kvs k v).length<=kvs.length+1:=by
 unfold xm
 split
 ·rw[zq];omega
 ·rw[qJ,vd,Zv];omega
theorem Vw{kvs:List (κ×V)}{k:κ}(v:V)(h:jk kvs k=none):xm kvs k v=kvs++[(k,v)]:=by
 unfold xm
 rw[vp,h]
 exact if_neg (by decide)
theorem RelO.isSome_eq{o:Option V}{u:Option Value}(r:RelO o u):o.isSome=u.isSome:=by
 cases o with
 | none=>cases u with
  | none=>rfl
  | some _=>exact(show False from r).elim
 | some _=>cases u with
  | none=>exact(show False from r).elim
  | some _=>rfl
theorem RelO.getD{o:Option V}{u:Option Value}{d:V}{d':Value}(r:RelO o u)(rd:RelV d d'):RelV (o.getD d) (u.getD d'):=by
 cases o with
 | none=>cases u with
  | none=>exact rd
  | some _=>exact(show False from r).elim
 | some _=>cases u with
  | none=>exact(show False from r).elim
  | some _=>exact r
theorem KV.val{kvs:List (κ×V)}{vs:List (κ×Value)}(r:KV kvs vs)(k:κ):RelO (jk kvs k) (valueAt vs k):=by
 unfold KV at r
 induction r with
 | nil=>exact True.intro
 | @cons p q ps qs h t ih=>
  obtain⟨h1,h2⟩:=h
  by_cases e:p.1=k
  ·have e':q.1=k:=h1.symm.trans e
   have b:valueAt (q::qs) k=some q.2:=by simp[valueAt,Zt,e']
   rw[jx e,b];exact h2
  ·have e':¬q.1=k:=fun z=>e (h1.trans z)
   have b:valueAt (q::qs) k=valueAt qs k:=by simp[valueAt,Zt,e']
   rw[jy e,b];exact ih
theorem KV.any{kvs:List (κ×V)}{vs:List (κ×Value)}(r:KV kvs vs)(k:κ):(kvs.any fun kv=>decide (kv.1=k))=vs.any fun kv=>decide (kv.1=k):=by
 unfold KV at r
 induction r with
 | nil=>rfl
 | cons h t ih=>rw[wY,wY,ih,h.1]
theorem KV.repl{kvs:List (κ×V)}{vs:List (κ×Value)}(r:KV kvs vs)(k:κ){y:V}{u:Value}(ry:RelV y u) :
  KV (kvs.map fun kv=>if kv.1=k then(kv.1,y) else kv) (vs.map fun kv=>if kv.1=k then(kv.1,u) else kv):=by
 unfold KV at r ⊢
 induction r with
 | nil=>exact .nil
 | @cons p q ps qs h t ih=>
  rw[jP,jP]
  refine .cons ?_ ih
  obtain⟨h1,h2⟩:=h
  by_cases e:p.1=k
  ·rw[if_pos e,if_pos (h1.symm.trans e)];exact⟨h1,ry⟩
  ·rw[if_neg e,if_neg (fun z=>e (h1.trans z))];exact⟨h1,h2⟩
theorem KV.put{kvs:List (κ×V)}{vs:List (κ×Value)}(r:KV kvs vs)(k:κ){y:V}{u:Value}(ry:RelV y u):KV (xm kvs k y) (stored vs k u):=by
 unfold xm stored
 rw[r.any k]
 by_cases e:(vs.any fun kv=>decide (kv.1=k))=true
 ·rw[if_pos e,if_pos e];exact r.repl k ry
 ·rw[if_neg e,if_neg e];exact Paired.snoc r ⟨rfl,ry⟩
theorem KV.length{kvs:List (κ×V)}{vs:List (κ×Value)}(r:KV kvs vs):kvs.length=vs.length:=Paired.length r
end
theorem wT{P:Program}{w:World}{k:Key}{u:Value}(r:RelV (kV k) u):(zV P w).is k u=true:=by
 cases k with
 | inl i=>obtain⟨t,e⟩:=(show ∃t,u=Value.int i t from r);subst e;exact VJ P w i t
 | inr x=>obtain⟨t,e⟩:=(show ∃t,u=Value.str x t from r);subst e;exact VI P w x t
theorem JE{P:Program}{w:World}:∀{ks:List Key} {us:List Value},Vals (ks.map kV) us->ItemsAre (zV P w) ks us
 | [],_,r=>by rw[Zr] at r;cases r;exact .nil
 | k::ks,_,r=>by
  rw[jP] at r
  cases r with
  | cons h t=>exact .cons (wT h) (JE t)
abbrev KT(H:Hp):List (List Key×V)->List (List Key×Addr×Value)->Prop:=Paired fun p q=>p.1=q.1/\H q.2.1=some (.tup (p.1.map kV))/\RelV p.2 q.2.2
theorem KT.val{H:Hp}{kvs:List (List Key×V)}{xs:List (List Key×Addr×Value)}(r:KT H kvs xs)(k:List Key):RelO (jk kvs k) ((atKey xs k).map (·.2)):=by
 induction r with
 | nil=>exact True.intro
 | @cons p q ps qs h t ih=>
  obtain⟨h1,_,h2⟩:=h
  by_cases e:p.1=k
  ·have e':q.1=k:=h1.symm.trans e
   have b:atKey (q::qs) k=some q.2:=by simp[atKey,Zt,e']
   rw[jx e,b];exact h2
  ·have e':¬q.1=k:=fun z=>e (h1.trans z)
   have b:atKey (q::qs) k=atKey qs k:=by simp[atKey,Zt,e']
   rw[jy e,b];exact ih
theorem KT.repl{H:Hp}{kvs:List (List Key×V)}{xs:List (List Key×Addr×Value)}(r:KT H kvs xs)(k:List Key){y:V}{u:Value}(ry:RelV y u) :
  KT H (kvs.map fun kv=>if kv.1=k then(kv.1,y) else kv) (xs.map (putAt k u)):=by
 induction r with
 | nil=>exact .nil
 | @cons p q ps qs h t ih=>
  rw[jP,jP]
  refine .cons ?_ ih
  obtain⟨h1,h2,h3⟩:=h
  unfold putAt
  by_cases e:p.1=k
  ·rw[if_pos e,if_pos (h1.symm.trans e)];exact⟨h1,h2,ry⟩
  ·rw[if_neg e,if_neg (fun z=>e (h1.trans z))];exact⟨h1,h2,h3⟩
theorem KT.put{H:Hp}{kvs:List (List Key×V)}{xs:List (List Key×Addr×Value)}(r:KT H kvs xs)(k:List Key){b:Addr}{y:V}{u:Value}(hb:H b=some (.tup (k.map kV)))(ry:RelV y u) :
  KT H (xm kvs k y) (storedH xs k b u):=by
 have e:(kvs.any fun kv=>decide (kv.1=k))=(atKey xs k).isSome:=by
  rw[vp,(r.val k).isSome_eq,Option.isSome_map]
 unfold xm storedH
 rw[e]
 by_cases q:(atKey xs k).isSome=true
 ·rw[if_pos q,if_pos q];exact r.repl k ry
 ·rw[if_neg q,if_neg q];exact Paired.snoc r ⟨rfl,hb,ry⟩
theorem KT.keeps{H H':Hp}{kvs:List (List Key×V)}{xs:List (List Key×Addr×Value)}(r:KT H kvs xs)(ht:∀b ys,H b=some (.tup ys)->H' b=some (.tup ys)):KT H' kvs xs:=
 Paired.mapP r fun _ _ z=>⟨z.1,ht _ _ z.2.1,z.2.2⟩
section
variable{P:Program}{w:World}{H:Hp}{h:Heap}{a:Addr}
theorem zeA{u:HO}(ok:HOk P w H h)(e:Rd H a u):ObjOk P w H h a u:=e.ok ok
theorem ZF{kvs:List (Key×V)}(ok:HOk P w H h)(e:Rd H a (.dK kvs)):kvs.length<=sizeLine/\(a==sysModules)=false/\∃vs,KV kvs vs/\h.DictOf (zV P w) a vs:=
 show ObjOk P w H h a (.dK kvs) from zeA ok e
theorem V0{kvs:List (Key×V)}(ok:HOk P w H h)(e:H a=some (.dK kvs)):kvs.length<=sizeLine/\(a==sysModules)=false/\∃vs,KV kvs vs/\h.DictOf (zV P w) a vs:=ZF ok (.inl e)
theorem Qt{ks:List Key}(ok:HOk P w H h)(e:H a=some (.tup (ks.map kV))):(tupleKind (zV P w)).is h ks a:=by
 obtain⟨_,its,r,⟨o,h1,h2,n,h3⟩,_⟩:=(show ObjOk P w H h a (.tup (ks.map kV)) from ok a _ e)
 exact⟨o,its.toArray,n,h1,h2,h3,by simpa using JE r⟩
theorem JL{kvs:List (List Key×V)}(ok:HOk P w H h)(e:Rd H a (.dT kvs)):kvs.length<=sizeLine/\(a==sysModules)=false /\
  ∃xs,KT H kvs xs/\h.DictOfH (tupleKind (zV P w)) a xs:=by
 obtain⟨z,y,xs,r,o,es,ep,h1,h2,h3,h4,h5⟩:=(show ObjOk P w H h a (.dT kvs) from zeA ok e)
 refine⟨z,y,xs,r,o,es,ep,h1,h2,h3,h4,fun x hx=>?_,h5⟩
 have all:∀{l:List (List Key×V)} {m:List (List Key×Addr×Value)},KT H l m->∀x∈m,(tupleKind (zV P w)).is h x.1 x.2.1:=by
  intro l m q
  induction q with
  | nil=>intro x hx;exact nomatch hx
  | @cons p q ps qs hq t ih=>
   intro x hx
   rcases qq.mp hx with e | hx
   ·subst e
    exact Qt ok (by rw[<- hq.1];exact hq.2.1)
   ·exact ih x hx
 exact all r x hx
theorem zgW{kvs:List (List Key×V)}(ok:HOk P w H h)(e:H a=some (.dT kvs)):kvs.length<=sizeLine/\(a==sysModules)=false /\
  ∃xs,KT H kvs xs/\h.DictOfH (tupleKind (zV P w)) a xs:=JL ok (.inl e)
end
def W7(H:Hp)(a:Addr)(y:V)(r:Option V):Prop:=
 (∃kvs k,Rd H a (.dK kvs)/\y=kV k/\r=jk kvs k)\/∃kvs k b,Rd H a (.dT kvs)/\y=.ref b/\H b=some (.tup (k.map kV))/\r=jk kvs k
def zg6(H:Hp)(a:Addr)(y v:V)(H':Hp):Prop:=
 (∃kvs k,H a=some (.dK kvs)/\y=kV k/\kvs.length<sizeLine/\H'=upd H a (.dK (xm kvs k v))) \/
 ∃kvs k b,H a=some (.dT kvs)/\y=.ref b/\H b=some (.tup (k.map kV))/\kvs.length<sizeLine/\H'=upd H a (.dT (xm kvs k v))
section
variable{X:Cx}{pins:List (Addr×Obj)}{σ:St}{H:Hp}{s:Shared}{a:Addr}{y v:V}{u r:Value}{o:Option V}{A:Around}{E:Value->Shared->Prop}
theorem Inv.big(I:Inv X pins σ H s):sysModules<s.heap.objs.size:=by
 have h:mainGlobals<s.heap.objs.size:=(I.mod.glob.keeps I.bk).lt
 exact Nat.lt_trans (by decide) h
theorem zbb{Q:Value->Shared->Prop}(hu:A.units+1<cLine)(I:Inv X pins σ H s)(g:W7 H a y (some v))(ry:RelV y u)(h:∀w' s',Inv X pins σ H s'->RelV v w'->Q w' s') :
  wpAny (model X.prog X.w) A (getItem (.ref a) u) Q E s:=by
 rcases g with ⟨kvs,k,e,ey,l⟩ | ⟨kvs,k,b,e,ey,eb,l⟩
 ·subst ey
  obtain⟨z,hd,vs,rel,dd⟩:=ZF I.hok e
  obtain⟨w',hw,rw'⟩:=RelO.some_of (v:=v) (o:=valueAt vs k) (by rw[l];exact rel.val k)
  exact wpAny_getItem_of (wT ry) dd.mapOf hw (h w' _ (I.tok _) rw')
 ·subst ey
  cases(show u=Value.ref b from ry)
  obtain⟨z,hd,xs,rel,dd⟩:=JL I.hok e
  obtain⟨w',hw,rw'⟩:=RelO.some_of (v:=v) (o:=(atKey xs k).map (·.2)) (by rw[l];exact rel.val k)
  obtain⟨p,hp,hp2⟩:=jc.mp hw
  refine wpAny_getItem_heap (tupleKind_room_in1 hu) (Qt I.hok eb) dd hp ?_
  rw[hp2]
  exact h w' _ (I.tok _) rw'
theorem zd8{Q:Value->Shared->Prop}(hu:A.units+1<cLine)(I:Inv X pins σ H s)(g:W7 H a y o)(ry:RelV y u)(h:∀s',Inv X pins σ H s'->Q (.bool (!o.isSome)) s') :
  wpAny (model X.prog X.w) A (compareOp .NotIn u (.ref a)) Q E s:=by
 rcases g with ⟨kvs,k,e,ey,l⟩ | ⟨kvs,k,b,e,ey,eb,l⟩
 ·subst ey
  obtain⟨z,hd,vs,rel,dd⟩:=ZF I.hok e
  refine wpAny_notIn_of (wT ry) hd dd.mapOf ?_
  rw[<- (rel.val k).isSome_eq,<- l]
  exact h _ (I.tok _)
 ·subst ey
  cases(show u=Value.ref b from ry)
  obtain⟨z,hd,xs,rel,dd⟩:=JL I.hok e
  refine wpAny_notIn_heap (tupleKind_room_in1 hu) (Qt I.hok eb) hd dd ?_
  have q:=(rel.val k).isSome_eq
  rw[Option.isSome_map] at q
  rw[<- q,<- l]
  exact h _ (I.tok _)
theorem yM{h':Heap}{t':Nat}{ob:HO}(I:Inv X pins σ H s)(mu:Mut (H a))(hs:Heap.SameBut a s.heap h')(he:∃q,h'.get? a=some q)(new:ObjOk X.prog X.w (upd H a ob) h' a ob) :
  Inv X pins σ (upd H a ob) { s with heap:=h',toks:=t' }:=
 I.write (x:=a) (e:=a) mu (.inl rfl) (fun b q hb z=>(hs.2 b hb).trans z) he new
theorem QC{P:Program}{w:World}{H':Hp}{h':Heap}{kvs:List (Key×V)}{vs:List (Key×Value)}(z:kvs.length<=sizeLine)(hd:(a==sysModules)=false)(rel:KV kvs vs)(dd:h'.DictOf (zV P w) a vs) :
  ObjOk P w H' h' a (.dK kvs):=⟨z,hd,vs,rel,dd⟩
theorem zba{H':Hp}{Q:Unit->Shared->Prop}(hu:A.units+1<cLine)(I:Inv X pins σ H s)(g:zg6 H a y v H')(ry:RelV y u)(rv:RelV v r)(h:∀s',Inv X pins σ H' s'->Q () s') :
  wpAny (model X.prog X.w) A (setItem (.ref a) u r) Q E s:=by
 rcases g with ⟨kvs,k,e,ey,l,eH⟩ | ⟨kvs,k,b,e,ey,eb,l,eH⟩
 ·subst ey eH
  obtain⟨z,hd,vs,rel,dd⟩:=V0 I.hok e
  have hz:vs.length<=sizeLine:=by rw[<- rel.length];exact z
  have hl:(xm kvs k v).length<=sizeLine:=by have:=xB kvs k v;omega
  refine wpAny_setItem_pairs (hsz:=hz) (wT ry) dd fun h' dd' hs=>h _ ?_
  have he:∃q,h'.get? a=some q:=let ⟨q,_,_,hq,_⟩:=dd';⟨q,hq⟩
  exact yM I (by rw[e];exact True.intro) hs he (QC hl hd (rel.put k rv) dd')
 ·subst ey eH
  cases(show u=Value.ref b from ry)
  obtain⟨z,hd,xs,rel,dd⟩:=zgW I.hok e
  have hz:xs.length<=sizeLine:=by rw[<- Paired.length rel];exact z
  have hl:(xm kvs k v).length<=sizeLine:=by have:=xB kvs k v;omega
  refine wpAny_setItem_heap (hsz:=hz) (tupleKind_room_in1 hu) (Qt I.hok eb) dd fun h' dd' hs=>h _ ?_
  obtain⟨q,es,ep,hq,h2,h3,h4,_,h5⟩:=dd'
  refine yM I (by rw[e];exact True.intro) hs ⟨q,hq⟩ ⟨hl,hd,_,(rel.put k eb rv).keeps fun c ys ec=>?_,q,es,ep,hq,h2,h3,h4,h5⟩
  rw[zo (YV ec e (fun z=>nomatch z))]
  exact ec
end
section
variable{X:Cx}{pins:List (Addr×Obj)}{σ:St}{H:Hp}{s:Shared}{a:Addr}{kvs:List (Key×V)}{k:Key}{u:Value}{A:Around}{E:Value->Shared->Prop}
end
def zg2(i:Expr):Prop:=∀ov iv,subscripted i false ov iv=operate [ov,iv] (getItem ov iv)
theorem zde{prog:Program}{w:World}{A:Around}{E:Value->Shared->Prop}{s:Shared}{env:Env}{value slice:Expr}{pos:Pos}{T id:String}{Q:Value->Shared->Prop}
  (hl:typeLookup (.type T) "__getitem__" = pure (some (.builtin id))) (hs:zg2 slice)
  (h:wpAny (model prog w) A (eval value env) (fun o s₁=>wpAny (model prog w) A (eval slice env) (fun i s₂=>s₂.TypeIs o T/\wpAny (model prog w) A (getItem o i) Q E s₂) E s₁) E s) :
  wpAny (model prog w) A (eval (.Subscript value slice pos) env) Q E s:=by
 refine Subscript_ (jI h (fun o s₁ h₁=>jI h₁ (fun i s₂ h₂=>?_) fun _ _ x=>x) fun _ _ x=>x)
 obtain⟨hT,h₂⟩:=h₂
 unfold subscriptTail
 refine zk ?_
 rw[getitemInPython_of_ne hT.not_modules]
 refine zk (wpAny_specialOf hT hl ?_)
 have fin:wpAny (model prog w) A (subscripted slice false o i) (fun r s₃=>wpAny (model prog w) A (letTemporaryGo value o r >>= fun _=>pure r) Q E s₃) E s₂:=by
  rw[hs o i]
  exact wpAny_operating (jI h₂ (fun r s₃ h₃=>zk (wpAny_letTemporaryGo (zD h₃))) fun _ _ x=>x)
 first
  | exact zD (zk fin)
  | exact zk (zD (zk fin))
  | exact zk fin
theorem V2{X:Cx}{pins:List (Addr×Obj)}{σ:St}{H:Hp}{s:Shared}{a:Addr}{y:V}{o:Option V}(I:Inv X pins σ H s)(g:W7 H a y o):s.TypeIs (.ref a) "dict" :=by
 rcases g with ⟨kvs,k,e,_,_⟩ | ⟨kvs,k,b,e,_,_,_⟩
 ·obtain⟨_,_,vs,_,dd⟩:=ZF I.hok e
  exact dd.typeIs
 ·obtain⟨_,_,xs,_,dd⟩:=JL I.hok e
  exact dd.typeIs
def zfY(td ty:TE):TE:=fun σ H Q=>td σ H fun x H1=>ty σ H1 fun y H2=>∃a v,x=.ref a/\W7 H2 a y (some v)/\Q v H2
def zdc(ty td:TE):TE:=fun σ H Q=>ty σ H fun y H1=>td σ H1 fun x H2=>∃a o,x=.ref a/\W7 H2 a y o/\Q (.bl (!o.isSome)) H2
def zgj(td ty tv:TE):TS:=fun D σ H=>tv σ H fun v H1=>td σ H1 fun x H2=>ty σ H2 fun y H3=>∃a H4,x=.ref a/\zg6 H3 a y v H4/\D.nx σ H4
section
variable{X:Cx}{o i e value:Expr}{pos pos' tpos:Pos}{td ty tv:TE}
theorem zdy(hu:X.A.units+1<cLine)(ho:PE X o td)(hi:PE X i ty)(hs:zg2 i):PE X (.Subscript o i pos) (zfY td ty):=by
 intro pins s σ H Q I h
 refine zde PySem.F.slot_dict_getitem.lookup hs (thn (ho pins s σ H _ I h) fun u s1 ⟨x,H1,I1,rx,q1⟩=>thn (hi pins s1 σ H1 _ I1 q1) fun iv s2 ⟨y,H2,I2,ry,a,v,ex,g,q2⟩=>?_)
 subst ex
 obtain rfl:u=Value.ref a:=rx
 exact⟨V2 I2 g,zbb hu I2 g ry fun w' s3 I3 rw'=>⟨v,H2,I3,rw',q2⟩⟩
theorem zaV(hu:X.A.units+1<cLine)(hi:PE X i ty)(ho:PE X o td):PC X .NotIn i o (zdc ty td):=by
 intro pins s σ H Q I h
 refine thn (hi pins s σ H _ I h) fun iv s1 ⟨y,H1,I1,ry,q1⟩=>thn (ho pins s1 σ H1 _ I1 q1) fun u s2 ⟨x,H2,I2,rx,a,ov,ex,g,q2⟩=>?_
 subst ex
 obtain rfl:u=Value.ref a:=rx
 exact zd8 hu I2 g ry fun s3 I3=>⟨.bl (!ov.isSome),H2,I3,rfl,q2⟩
theorem zdo(hu:X.A.units+1<cLine)(ho:PE X o td)(hi:PE X i ty)(hv:PE X value tv)(hs:swapsWith value (some (.Subscript o i pos')) pos.line X.env=pure false) :
  PS X (.Assign [.Subscript o i pos'] value pos) (zgj td ty tv):=by
 intro pins s σ H D I h
 refine wpAny_Assign_Subscript (thn (hv pins s σ H _ I h) fun r s1 ⟨v,H1,I1,rv,q1⟩=>thn (ho pins s1 σ H1 _ I1 q1) fun u s2 ⟨x,H2,I2,rx,q2⟩=>thn (hi pins s2 σ H2 _ I2 q2) fun iv s3 ⟨y,H3,I3,ry,a,H4,ex,g,q3⟩=>?_) hs
 subst ex
 obtain rfl:u=Value.ref a:=rx
 exact zba hu I3 g ry rv fun s4 I4=>⟨σ,H4,I4,q3⟩
end
theorem V1{P:Program}{w:World}{H:Hp}(h:Heap)(hb:sysModules<h.objs.size):ObjOk P w H (h.push { cls:=.type "dict",data:=.dict #[] }) h.objs.size (.dK []):=
 ⟨qo _,beq_eq_false_iff_ne.mpr (qH (qw hb)),[],.nil,Heap.DictOf.new h⟩
def zeQ:TE:=fun _ H Q=>∀p,H p=none->Q (.ref p) (upd H p (.dK []))
section
variable{X:Cx}{pos:Pos}
theorem zcl:PE X (.Dict [] [] pos) zeQ:=fun pins s σ H Q I h=>
 wpAny_Dict_empty ⟨.ref s.heap.objs.size,_,I.laid (a:=s.heap.objs.size) (o:=.dK []) (t':=s.toks) (fun _ _ q=>qx _ q) (zC _) (V1 s.heap I.big),rfl,h _ (I.hok.fresh (zC _))⟩
end
def Wn:List (TE×TE)->St->Hp->(List (V×V)->Hp->Prop)->Prop
 | [],_,H,Q=>Q [] H
 | (tk,tv)::r,σ,H,Q=>tk σ H fun x H1=>tv σ H1 fun y H2=>Wn r σ H2 fun ps H3=>Q ((x,y)::ps) H3
abbrev VV:List (V×V)->List (Value×Value)->Prop:=Paired fun p q=>RelV p.1 q.1/\RelV p.2 q.2
def PPs(X:Cx)(pos:Pos)(keys:List (Option Expr))(values:List Expr)(trs:List (TE×TE)):Prop:=
 ∀(pins:List (Addr×Obj)) (s:Shared) (σ:St) (H:Hp) (Q:List (V×V)->Hp->Prop),Inv X pins σ H s->Wn trs σ H Q ->
  wpAny (model X.prog X.w) X.A (evalPairs (pairTrees keys values X.env pos)) (fun vs s'=>∃ps H',Inv X pins σ H' s'/\VV ps vs/\Q ps H') X.xe s
theorem zdp{X:Cx}{pos:Pos}:PPs X pos [] [] []:=fun pins s σ H Q I h=>pairTrees_nil_walk ⟨[],H,I,.nil,h⟩
theorem zcd{X:Cx}{pos:Pos}{k v:Expr}{ks:List (Option Expr)}{vs:List Expr}{tk tv:TE}{trs:List (TE×TE)}(hk:PE X k tk)(hv:PE X v tv)(hr:PPs X pos ks vs trs) :
  PPs X pos (some k::ks) (v::vs) ((tk,tv)::trs):=fun pins s σ H Q I h=>
 pairTrees_cons_walk (thn (hk pins s σ H _ I h) fun u s1 ⟨x,H1,I1,rx,q1⟩=>thn (hv pins s1 σ H1 _ I1 q1) fun w2 s2 ⟨y,H2,I2,ry,q2⟩=>
  thn (hr pins s2 σ H2 _ I2 q2) fun ws s3 ⟨ps,H3,I3,rel,q3⟩=>⟨(x,y)::ps,H3,I3,.cons ⟨rx,ry⟩ rel,q3⟩)
def j3(kvs more:List (Key×V)):List (Key×V):=more.foldl (fun acc kv=>xm acc kv.1 kv.2) kvs
theorem KV.merge:∀{more:List (Key×V)} {rs:List (Key×Value)} {kvs:List (Key×V)} {vs:List (Key×Value)},KV more rs->KV kvs vs->KV (j3 kvs more) (merged vs rs):=by
 intro more rs kvs vs r
 unfold KV at r
 induction r generalizing kvs vs with
 | nil=>intro q;exact q
 | @cons p q ps qs h t ih=>
  intro r0
  have e:KV (xm kvs p.1 p.2) (stored vs q.1 q.2):=by
   have:=r0.put p.1 h.2
   rw[<- h.1];exact this
  exact ih e
theorem xv:∀(more kvs:List (Key×V)),(j3 kvs more).length<=kvs.length+more.length
 | [],kvs=>by show kvs.length<=kvs.length+0;omega
 | p::r,kvs=>by
  have h1:=xv r (xm kvs p.1 p.2)
  have h2:=xB kvs p.1 p.2
  show(j3 (xm kvs p.1 p.2) r).length<=_
  rw[vd];omega
theorem QF{P:Program}{w:World}:∀{kvs:List (Key×V)} {ws:List (Value×Value)},VV (kvs.map fun kv=>(kV kv.1,kv.2)) ws->∃rs,Carries (zV P w) ws rs/\KV kvs rs
 | [],_,r=>by rw[Zr] at r;cases r;exact⟨[],True.intro,.nil⟩
 | p::kvs,_,r=>by
  rw[jP] at r
  cases r with
  | @cons a b as bs h t=>
   obtain⟨rs,c,q⟩:=QF (P:=P) (w:=w) t
   obtain⟨b1,b2⟩:=b
   exact⟨(p.1,b2)::rs,⟨wT h.1,rfl,c⟩,.cons ⟨rfl,h.2⟩ q⟩
def zfW(trs:List (TE×TE)):TE:=fun σ H Q=>∀p,H p=none->Wn trs σ (upd H p (.dK [])) fun ps H2=>H2 p=some (.dK [])/\∃kvs:List (Key×V),ps=kvs.map (fun kv=>(kV kv.1,kv.2))/\kvs.length<=15/\Q (.ref p) (upd H2 p (.dK (j3 [] kvs)))
theorem zdx{X:Cx}{pos:Pos}{keys:List (Option Expr)}{values:List Expr}{trs:List (TE×TE)}(h:PPs X pos keys values trs)(hall:keys.all (·.isSome)=true)(hl:keys.length=values.length)(h0:keys≠[])
  (h15:keys.length<=15):PE X (.Dict keys values pos) (zfW trs):=by
 intro pins s σ H Q I q
 have hn:=I.hok.fresh (zC s.heap.objs.size)
 have I1:=I.laid (a:=s.heap.objs.size) (o:=.dK []) (h':=s.heap.push { cls:=.type "dict",data:=.dict #[] }) (t':=s.toks) (fun _ _ q=>qx _ q) (zC _) (V1 s.heap I.big)
 refine wpAny_Dict_walk (knd:=zV X.prog X.w) hall hl h0 h15 (thn (h pins _ σ _ _ I1 (q _ hn)) fun ws s2 ⟨ps,H2,I2,rel,e,kvs,ep,lk,q2⟩=>?_)
 subst ep
 obtain⟨rs,c,rk⟩:=QF (P:=X.prog) (w:=X.w) rel
 obtain⟨z,hd,vs0,r0,dd⟩:=V0 I2.hok e
 cases r0
 refine⟨rs,c,dd,fun h' dd' hs=>⟨.ref s.heap.objs.size,_,?_,rfl,q2⟩⟩
 have hz:(j3 [] kvs).length<=sizeLine:=by
  have h1:=xv kvs []
  rw[Zv] at h1
  rw[sizeLine_eq];omega
 have he:∃q,h'.get? s.heap.objs.size=some q:=let ⟨q,_,_,hq,_⟩:=dd';⟨q,hq⟩
 exact yM I2 (by rw[e];exact True.intro) hs he (QC hz hd (rk.merge .nil) dd')
structure M1(X:Cx)(o:Expr)(m:Str)(apos:Pos)(e:Expr)(cpos:Pos):Prop where
 base:attributeBase o m X.env (eval o X.env)=eval o X.env
 few:((backTo cpos (starEach [e] X.env)).all (fun x=>!x.1)&&(backToKw cpos (keywordEach [] X.env)).all (fun x=>x.1.isSome)
  && decide (([e]:List Expr).length+([]:List Keyword).length+(if([]:List Keyword).isEmpty then 0 else 1)<30))=true
 line:(apos.endLine==cpos.line)=true
 trees:backTo cpos (starEach [e] X.env)=[(false,eval e X.env)]
structure M2(X:Cx)(o:Expr)(m:Str)(apos:Pos)(e f:Expr)(cpos:Pos):Prop where
 base:attributeBase o m X.env (eval o X.env)=eval o X.env
 few:((backTo cpos (starEach [e,f] X.env)).all (fun x=>!x.1)&&(backToKw cpos (keywordEach [] X.env)).all (fun x=>x.1.isSome)
  && decide (([e,f]:List Expr).length+([]:List Keyword).length+(if([]:List Keyword).isEmpty then 0 else 1)<30))=true
 line:(apos.endLine==cpos.line)=true
 trees:backTo cpos (starEach [e,f] X.env)=[(false,eval e X.env),(false,eval f X.env)]
def IsD(H:Hp)(a:Addr):Prop:=(∃kvs,Rd H a (.dK kvs))\/∃kvs,Rd H a (.dT kvs)
theorem WI{X:Cx}{pins:List (Addr×Obj)}{σ:St}{H:Hp}{s:Shared}{a:Addr}(I:Inv X pins σ H s)(d:IsD H a) :
  s.TypeIs (.ref a) "dict" /\ (∀b,Value.ref a=.ref b->∃ob,s.heap.get? b=some ob/\ob.dict=none)/\(a==sysModules)=false:=by
 rcases d with ⟨kvs,e⟩ | ⟨kvs,e⟩
 ·obtain⟨_,hd,vs,_,dd⟩:=ZF I.hok e
  refine⟨dd.typeIs,fun b q=>?_,hd⟩
  cases q
  obtain⟨ob,_,_,h1,h2,_⟩:=dd
  exact⟨ob,h1,h2.2.1⟩
 ·obtain⟨_,hd,xs,_,dd⟩:=JL I.hok e
  refine⟨dd.typeIs,fun b q=>?_,hd⟩
  cases q
  obtain⟨ob,_,_,h1,h2,_⟩:=dd
  exact⟨ob,h1,h2.2.1⟩
section
variable{X:Cx}{pins:List (Addr×Obj)}{σ:St}{H:Hp}{s:Shared}{a:Addr}{y d:V}{u r:Value}{o:Option V}{A:Around}{E:Value->Shared->Prop}
theorem zfF{Q:Value->Shared->Prop}(hu:A.units+1<cLine)(I:Inv X pins σ H s)(g:W7 H a y o)(ry:RelV y u)(rd:RelV d r)(h:∀w' s',Inv X pins σ H s'->RelV (o.getD d) w'->Q w' s') :
  wpAny (model X.prog X.w) A (call (.builtin "dict.get") [.ref a,u,r]) Q E s:=by
 rcases g with ⟨kvs,k,e,ey,l⟩ | ⟨kvs,k,b,e,ey,eb,l⟩
 ·subst ey
  obtain⟨z,hd,vs,rel,dd⟩:=ZF I.hok e
  refine call_meetsIn PySem.F.slot_dict_get dd.typeIs PySem.F.entry_dict_get (PySem.F.args_dict_get_3 _ _ _) (meets_dict_get_default (zV X.prog X.w) a (wT ry) hd r) ⟨_,dd.mapOf,h _ _ (I.tok _) ?_⟩
  rw[l]
  exact(rel.val k).getD rd
 ·subst ey
  cases(show u=Value.ref b from ry)
  obtain⟨z,hd,xs,rel,dd⟩:=JL I.hok e
  refine call_meetsIn PySem.F.slot_dict_get dd.typeIs PySem.F.entry_dict_get (PySem.F.args_dict_get_3 _ _ _) (meetsH_dict_get_default (tupleKind (zV X.prog X.w)) a b hd r) ⟨tupleKind_room_in1 hu,k,xs,Qt I.hok eb,dd,h _ _ (I.tok _) ?_⟩
  rw[l]
  exact(rel.val k).getD rd
end
def zeR(td ty tx:TE):TE:=fun σ H Q=>td σ H fun x H1=>∃a,x=.ref a/\IsD H1 a/\ty σ H1 fun y H2=>tx σ H2 fun z H3=>∃o,W7 H3 a y o/\Q (o.getD z) H3
section
variable{X:Cx}{o e f:Expr}{apos cpos:Pos}{td ty tx:TE}
theorem zcm(hu:X.A.units+1<cLine)(ho:PE X o td)(he:PE X e ty)(hf:PE X f tx)(m:M2 X o "get" apos e f cpos):PE X (.Call (.Attribute o "get" apos) [e,f] [] cpos) (zeR td ty tx):=by
 intro pins s σ H Q I h
 refine wpAny_Call_method m.base m.few m.line WU PySem.F.slot_dict_get PySem.F.type_dict_get (thn (ho pins s σ H _ I h) fun u s1 ⟨x,H1,I1,rx,a,ex,d,q1⟩=>?_)
 subst ex
 obtain rfl:u=Value.ref a:=rx
 obtain⟨t1,t2,_⟩:=WI I1 d
 refine⟨t1,t2,?_⟩
 rw[m.trees]
 refine XW rfl (XT (QL (thn (he pins s1 σ H1 _ I1 q1) fun iv s2 ⟨y,H2,I2,ry,q2⟩=>
  QL (thn (hf pins s2 σ H2 _ I2 q2) fun fv s3 ⟨z,H3,I3,rz,ov,g,q3⟩=>QY ?_))))
 exact zfF hu I3 g ry rz fun w' s4 I4 rw'=>⟨_,H3,I4,rw',q3⟩
end
section
variable{X:Cx}{pins:List (Addr×Obj)}{σ:St}{H:Hp}{s:Shared}{a:Addr}{kvs:List (Key×V)}{A:Around}{E:Value->Shared->Prop}
end
section
variable{X:Cx}{pins:List (Addr×Obj)}{σ:St}{H:Hp}{s:Shared}{a:Addr}{y:V}{u:Value}{A:Around}{E:Value->Shared->Prop}
end
end L2
namespace PySem
open PySem PySem.W PySem.Calls PyProof.Rows PyProof.V PySem.Spec
end PySem
namespace L2
open PySem PySem.Spec PyProof.Rows
section
variable{X:Cx}
end
section
variable{X:Cx}{tg:Expr}
end
section
variable{X:Cx}
end
theorem X2:∀{xs:List V} {us:List Value},Vals xs us->Vals xs.reverse us.reverse
 | _,_,.nil=>.nil
 | _,_,.cons r t=>by
  rw[List.reverse_cons,List.reverse_cons]
  exact(X2 t).append (.cons r .nil)
section
variable{X:Cx}
variable{e st:Expr}{te:TE}{tk:TO}{pos p2:Pos}
theorem zfb(he:PE X e te)(hk:PO X (some st) tk):PE X (.Subscript e (.Slice none none (some st) p2) pos) (fun σ H Q=>te σ H fun x H1=>tk σ H1 fun k H2=>∃a xs,x=.ref a/\k=some (-1)/\SqL X.K H2 a xs /\
  ∀p,H2 p=none->Q (.ref p) (upd H2 p (.lst xs.reverse))):=by
 intro pins s σ H Q I h
 refine Subscript_ (thn (he pins s σ H _ I h) fun v s1 ⟨x,H1,I1,r1,q1⟩=>?_)
 refine wpAny_Slice ?_
 rw[evalPart_none]
 refine zD (zD ?_)
 refine thn (hk pins s1 σ H1 _ I1 q1) fun vk s3 ⟨k,H3,I3,pk,q3⟩=>?_
 obtain⟨a,xs,rfl,rfl,hx,q⟩:=q3
 cases r1
 have I4:Inv X pins σ H3 { s3 with heap:=s3.heap.push { cls:=.type "slice",data:=.fields #[.none,.none,vk] } }:=I3.kept (t':=s3.toks) fun b ob q=>qx _ q
 obtain⟨its,r,ht,hz⟩:=I4.list hx
 have hlen:=r.length
 show wpAny (model X.prog X.w) X.A (subscriptTail e (.Slice none none (some st) p2) (.ref a) (.ref s3.heap.objs.size)) (EP X pins σ Q) X.xe { s3 with heap:=s3.heap.push { cls:=.type "slice",data:=.fields #[.none,.none,vk] } }
 refine tail_any (ops:=[.ref a,.ref s3.heap.objs.size]) (T:= "list") ht.isList.typeIs slot_list_getitem.lookup ?_ (by with_unfolding_all rfl)
 refine wpAny_getItem_list_slice (lo:=none) (hi:=none) (st:=some (-1)) ht.isList (Heap.IsSliceOf.new ..) .none .none pk (by decide) ?_ (by rw[qk]<;>omega)
 rw[PySem.W.krv_pick]
 refine⟨.ref _,_,I4.laid (t':=s3.toks) (o:=.lst xs.reverse) (fun b ob q=>qx _ q) (zC _) ?_,rfl,q _ (I4.hok.fresh (zC _))⟩
 exact⟨by rw[XN];omega,_,0,X2 r,qA _ rfl⟩
end
end L2
namespace PySem
def RawD(h:Heap)(d:Addr)(es:Array DictEntry)(ep:Nat):Prop:=∃o,h.get? d=some o/\o.ExactDict/\o.data=.dict es ep
theorem RawD.at{h h':Heap}{d:Addr}{es:Array DictEntry}{ep:Nat}(x:RawD h d es ep)(e:∀o,h.get? d=some o->h'.get? d=some o):RawD h' d es ep:=let ⟨o,a,b⟩:=x;⟨o,e _ a,b⟩
section
variable{prog:Program}{w:World}{A:Around}{E:Value->Shared->Prop}{s:Shared}{d it:Addr}{es:Array DictEntry}{ep i:Nat}
theorem zb9{Q:Value->Shared->Prop}(hd:(d==sysModules)=false)(hm:RawD s.heap d es ep)
  (hQ:Q (.ref s.heap.objs.size) { s with heap:=s.heap.push { cls:=.type "dict_keyiterator",data:=.fields #[.ref d,.int 0 0,.int es.size 0,.int ep 0] } }):wpAny (model prog w) A (pyIter (.ref d)) Q E s:=by
 obtain⟨o,ho,hc,hdat⟩:=hm
 have ty:s.TypeIs (.ref d) "dict" :=⟨o,ho,hc.1⟩
 refine wpAny_pyIter_slot ty F.slot_dict_iter (vD F.slot_dict_iter ty F.entry_dict_iter ?go (F.args_dict_iter_1 _))
 unfold Builtin.«dict.__iter__» Builtin.Dict.dictSlotNone
 refine zk (zk (wpAny_notOrdered_dict ty ?go2));refine(zD ?go3:wpAny _ _ (pure (Value.ref d)) _ _ s)
 refine(?go7:wpAny _ _ (Builtin.Dict.showsAll d >>= _) _ _ s);unfold Builtin.Dict.showsAll
 rw[if_neg (by rw[hd];exact jf)];refine zk (zD ?go5)
 refine zk (wpAny_dictEntries ho hdat (zk (wpAny_dictEpoch ho hdat (zk (vg (zD ⟨_,rfl, "dict_keyiterator",_,⟨_,qA _ rfl,rfl⟩,Wf.lookup,?go6⟩))))))
 simpa [rawInt] using hQ
theorem zca{e:DictEntry}{Q:Option Value->Shared->Prop}(hit:s.heap.IsKeyIter it d i es.size ep)(hm:RawD s.heap d es ep)(hx:es[i]? =some e)
  (hQ:∀h',h'.IsKeyIter it d (i+1) es.size ep->Heap.SameBut it s.heap h'->Q (some e.key) { s with heap:=h' }):wpAny (model prog w) A (pyNext (.ref it)) Q E s:=by
 obtain⟨o,ho,hc,hd⟩:=id hit
 obtain⟨od,hod,hcd,hdd⟩:=hm
 have ty:=hit.typeIs
 obtain⟨lt,ee⟩:∃h:i<es.size,es[i]=e:=XY.mp hx
 unfold pyNext
 refine zk (yo (y8 (name:=Str.ofString "__next__") ty Wf (vD Wf ty F.entry_dict_keyiterator_next ?a (F.args_dict_keyiterator_next_1 _))))
 refine zk (zD ?a1);refine zk (zk ?a2)
 first| refine zk (wpAny_typeNameOfWhole_keyiter ty (zD ?a3)) | refine zk (wpAny_typeNameOf_keyiter ty (zD ?a3))
 refine zk (wpAny_fieldsOf ho hd ?a4)
 simp only[show Builtin.Dict_items.ownsTuple "dict_keyiterator" = false by decide,Bool.false_eq_true,if_false]
 refine(?a5:wpAny _ _ (if(Value.ref d==Value.none)=true then _ else _) _ _ s)
 rw[if_neg (show ¬((Value.ref d==Value.none)=true) from jf)];refine zk (zD (zk (wpAny_dictEntries hod hdd ?a6)))
 rw[if_neg (by simp)];refine zk (zD (zk (wpAny_dictEpoch hod hdd ?a7)))
 rw[if_neg (by simp)];refine zD ?a8
 simp only[show ¬((i:Int)<0) from by omega,if_false,vf,ZO lt];refine zk ?a9
 first| refine zk (wpAny_typeNameOfWhole_keyiter ty (zD ?b1)) | refine zk (wpAny_typeNameOf_keyiter ty (zD ?b1))
 refine zk (wpAny_isOneOf_keyiter ty ?b2);refine(?b3:wpAny _ _ (setField (.ref it) 1 (rawInt ((i:Int)+1)) >>= _) _ _ s)
 have hit':(s.heap.update it (Obj.mapFields (·.setIfInBounds 1 (rawInt ((i:Int)+1))))).IsKeyIter it d (i+1) es.size ep:=
  ⟨_,JW _ ho (Obj.isFreed_of_fields (QZ hd _)),(Obj.cls_mapFields ..).trans hc,(by rw[QZ hd];simp[rawInt])⟩
 refine zk (wpAny_setField ho hd (by simp) (zk (vb (zk (wpAny_isOneOf_keyiter (s:={ s with heap:=s.heap.update it (Obj.mapFields (·.setIfInBounds 1 (rawInt ((i:Int)+1)))) }) hit'.typeIs ?b4)))))
 refine(?b5:wpAny _ _ (pure es[i].key) _ _ _)
 rw[ee];exact zD (zD ⟨_,rfl,zD (hQ _ hit' (QM ..))⟩)
theorem zdl{Q:Option Value->Shared->Prop}(hh:A.handled=none)(hit:s.heap.IsKeyIter it d i es.size ep)(hm:RawD s.heap d es ep)(hx:es.size<=i)
  (hQ:∀h',Heap.ExtBut it s.heap h'->Q none { s with heap:=h' }):wpAny (model prog w) A (pyNext (.ref it)) Q E s:=by
 obtain⟨o,ho,hc,hd⟩:=id hit
 obtain⟨od,hod,hcd,hdd⟩:=hm
 have ty:=hit.typeIs
 unfold pyNext
 refine zk (yo (y8 (name:=Str.ofString "__next__") ty Wf (vD Wf ty F.entry_dict_keyiterator_next ?a (F.args_dict_keyiterator_next_1 _))))
 refine zk (zD ?a1);refine zk (zk ?a2)
 first| refine zk (wpAny_typeNameOfWhole_keyiter ty (zD ?a3)) | refine zk (wpAny_typeNameOf_keyiter ty (zD ?a3))
 refine zk (wpAny_fieldsOf ho hd ?a4)
 simp only[show Builtin.Dict_items.ownsTuple "dict_keyiterator" = false by decide,Bool.false_eq_true,if_false]
 refine(?a5:wpAny _ _ (if(Value.ref d==Value.none)=true then _ else _) _ _ s)
 rw[if_neg (show ¬((Value.ref d==Value.none)=true) from jf)];refine zk (zD (zk (wpAny_dictEntries hod hdd ?a6)))
 rw[if_neg (by simp)];refine zk (zD (zk (wpAny_dictEpoch hod hdd ?a7)))
 rw[if_neg (by simp)];refine zD ?a8
 simp only[show ¬((i:Int)<0) from by omega,if_false,vf,Array.getElem?_eq_none hx];refine zk ?a9
 first| refine zk (wpAny_typeNameOfWhole_keyiter ty (zD ?b1)) | refine zk (wpAny_typeNameOf_keyiter ty (zD ?b1))
 refine(?b3:wpAny _ _ (setField (.ref it) 0 .none >>= _) _ _ s);refine zk (wpAny_setField ho hd (by simp) ?b4)
 refine(?b5:wpAny _ _ (newExc (.type "StopIteration") [] >>= _) _ _ _);refine zk ?b6
 simp only[newExc,newTuple];refine zk (vg ?b7 (by size_fits))
 refine zk (m:=firstArgMember _ _) (wpAny_of_eq (a:=Value.none) (by first| rfl | (simp only[firstArgMember];rfl)) (vg ?b8 (by size_fits)))
 simp only[raiseNew];refine zk (wpAny_handled ?b9)
 rw[show A.in1.handled=none from hh];refine zk (zD (wpAny_throw ?c1))
 exact zk (ZM (T:= "StopIteration") (b:=true) ⟨_,qA _ rfl,rfl⟩ isSubtype_stop (zD (hQ _ (((QM ..).extBut.push _).push _))))
end
end PySem
namespace L2
open PySem PySem.Spec PyProof.Rows
section
variable{X:Cx}{tg:Expr}
end
section
variable{prog:Program}{w:World}{A:Around}{R:Result->Shared->Prop}{s:Shared}
end
def DPutT(H:Hp)(D:Addr)(y v:V)(H':Hp):Prop:=∃kvs k b,H D=some (.dT kvs)/\y=.ref b/\H b=some (.tup (k.map kV))/\kvs.length<sizeLine/\H'=upd H D (.dT (xm kvs k v))
section
variable{X:Cx}{kx vx tg1 iter1:Expr}{ifs1:List Expr}{tg iter:Expr}{ifs:List Expr}{scope:Scope}{pos:Pos}{wi wi1:TI}{g g1:TG}{tf tf1:TT}{tk tv:TE}
theorem WP{pins:List (Addr×Obj)}{σ:St}{H:Hp}{s:Shared}{fp:List Addr}(own fr:List Str)(js:List Nat)(I:Inv X pins σ H s)(B:zc7 scope.names X.env.scope.names X.N fr js)(hk:scope.kind=.function)
  (f2:∀b∈fp,xt X pins H b) (fl:∀b∈fp,b<s.heap.objs.size) {C:Addr} (hC:C=s.heap.objs.size) {h1:Heap} {m:Str->Option Value} (hns:h1.Ns C m) (k4:∀b o,s.heap.get? b=some o->h1.get? b=some o) {t4:Nat} :
  Inv (qi X (own++fr) scope C s H fp) [] (upS own.length js σ) H { s with heap:=h1,toks:=t4 }:=by
 have hasF:∀y∈scope.names,y.2=NameKind.free->∃c,X.env.cells.lookup y.1=some c:=fun y hy e=>I.ok.has y.1 (B.free y hy e)
 refine⟨⟨I.ok.mod,hk,I.ok.glob,I.ok.blt,wX hC.symm,fun x y c e1 e2=>?_,fun x hx=>?_,fun x c hf=>(nomatch hf),fun hc=>I.ok.hd hc,I.ok.frames,.inl rfl,fun b hb=>?_,I.bs,jt I.ok.bsz I.sz,fun b o e hb=>?_,fun b hb hf=>?_,I.stack,I.stkFree⟩,
  rfl,I.bare,Un.kept k4,⟨m,hns,fun i x v e1 e2 e3'=>?_⟩,fun x c e=>?_,?_,fun x c e=>?_,fun p hp=>absurd (show p∈([]:List (Addr×Obj)) from hp) (by simp),I.hok.kept k4,?_⟩
 ·exact I.ok.inj x y c (zZ e1 hasF) (zZ e2 hasF)
 ·obtain⟨k,e,z⟩:∃k,scope.names.lookup x=some k/\(k=.free):=by
   rcases hx with hx | hx
   ·obtain⟨k,e,z⟩:=xU hx
    rcases z with z | z
    ·subst z;exact absurd rfl (B.cell _ (vV e))
    ·exact⟨k,e,z.1⟩
   ·obtain⟨k,e,z⟩:=xU hx
    rcases z with z | z
    ·subst z;exact⟨_,e,rfl⟩
    ·exact⟨k,e,z.1⟩
  subst z
  exact⟨_,xS e⟩
 ·refine⟨by rw[hC];exact qw (fl b hb),fun x c e=>?_⟩
  exact(f2 b hb).2.2.2.2.1 x c (zZ e hasF)
 ·rcases(f2 b hb).2.2.2.1 with z | z
  ·exact I.ok.noex b o e z
  ·exact absurd (jV (zL (I.ok.bs b o e).1) z) (vc _)
 ·rcases qq.mp (I.stkSub b hf) with y | y
  ·exact(f2 b hb).2.1 y
  ·exact(f2 b hb).2.2.1 y
 ·obtain⟨hn,_,j,ej,es⟩:=vq e2
  have ex:fr[i-own.length]? =some x:=by rw[vF hn] at e1;exact e1
  obtain⟨hfx,j',ej',eN⟩:=B.fr _ x ex
  have:j'=j:=by rw[ej] at ej';exact(jJ ej').symm
  subst this
  have hkx:=B.free _ (vV hfx) rfl
  obtain⟨m0,_,hl⟩:=I.loc
  obtain⟨u,r,l⟩:=hl j' x v eN es (by rcases hkx with z | z;exact .inr (.inl z);exact .inr (.inr z))
  refine⟨u,r,.inr ?_⟩
  rcases l with ⟨kl,_⟩ | ⟨_,c,ec,o,eo,ed⟩
  ·have kl':X.env.scope.names.lookup x=some .local:=kl
   rcases hkx with z | z
   ·exact absurd (z.symm.trans kl') (by decide)
   ·exact absurd (z.symm.trans kl') (by decide)
  ·obtain⟨k',e',z⟩:=vI (env:=X.env) hfx
   have eq:(jg X.env.cells scope.names []).lookup x=some c:=by rw[xS hfx,ec];rfl
   refine⟨?_,c,eq,o,k4 c o eo,ed⟩
   rcases z with z | z
   ·subst z;exact .inl e'
   ·subst z;exact .inr e'
 ·obtain⟨v,o,eo,ed⟩:=I.cell x c (zZ e hasF)
  exact⟨v,o,k4 c o eo,ed⟩
 ·exact I.hok.fresh (wX hC.symm)
 ·exact I.freeC x c (zZ e hasF)
 ·rw[J5,<- B.len]
  show _=(own++fr).length
  rw[qJ]
end
abbrev jU(X:Cx)(N':List Str)(scope:Scope)(x:Str)(C:Addr)(s:Shared)(H:Hp)(ex:List Addr):Cx where
 prog:=X.prog
 w:=X.w
 K:=X.K
 mg:=X.mg
 base:=X.base
 A:=X.A
 N:=N'
 s₀:=s
 H₀:=H
 env:=compEnvC scope ((x,C+1)::jg X.env.cells scope.names []) C X.env
 outer:=X.stack
 stack:=X.stack
 ex:=ex
 fn:=fun y=>y==x
 calm:=X.calm
 pn:=[]
 xe:=fun _ _=>False
def XB(sn on:List (Str×NameKind))(N:List Str)(x:Str)(fr:List Str)(js:List Nat):Bool:=
 (sn.filter fun y=>y.2==.cell)==[(x,.cell)]&&sn.lookup x==some .cell&&decide ([x]++fr).Nodup&&sn.all (fun y=>(y.2 != .local||sn.lookup y.1==some .local)&&(y.2 != .free||(on.lookup y.1==some .cell||on.lookup y.1==some .free)))&&fr.length==js.length
  && (fr.zip js).all fun p=>sn.lookup p.1==some .free&&N[p.2]? ==some p.1
structure BlkOkC(sn on:List (Str×NameKind))(N:List Str)(x:Str)(fr:List Str)(js:List Nat):Prop where
 one:(sn.filter fun y=>y.2==.cell)=[(x,.cell)]
 lk:sn.lookup x=some .cell
 nd:([x]++fr).Nodup
 loc:∀y∈sn,y.2=NameKind.local->sn.lookup y.1=some .local
 free:∀y∈sn,y.2=NameKind.free->on.lookup y.1=some .cell\/on.lookup y.1=some .free
 len:fr.length=js.length
 fr:∀(k:Nat) (x:Str),fr[k]? =some x->sn.lookup x=some .free/\∃j:Nat,js[k]? =some j/\N[j]? =some x
theorem BlkOkC.is{sn on:List (Str×NameKind)}{N:List Str}{x:Str}{fr:List Str}{js:List Nat}(B:BlkOkC sn on N x fr js){y:Str×NameKind}(h:y∈sn)(e:y.2=.cell):y.1=x:=by
 have:y∈sn.filter fun y=>y.2==.cell:=vT.mpr ⟨h,by rw[e];rfl⟩
 rw[B.one,qR] at this
 rw[this]
theorem JQ{sn on:List (Str×NameKind)}{N:List Str}{x:Str}{fr:List Str}{js:List Nat}(h:XB sn on N x fr js=true):BlkOkC sn on N x fr js:=by
 unfold XB at h
 simp only[qV,jh,vC,decide_eq_true_eq] at h
 obtain⟨⟨⟨⟨⟨h0,h1⟩,hn⟩,h2⟩,h3⟩,h4⟩:=h
 refine⟨h0,h1,hn,fun y hy e=>?_,fun y hy e=>?_,h3,fun k x e=>?_⟩
 ·have:=(h2 y hy).1
  simp only[QU,bne_iff_ne,vC] at this
  exact this.resolve_left fun z=>z e
 ·have:=(h2 y hy).2
  simp only[QU,bne_iff_ne,vC] at this
  exact this.resolve_left fun z=>z e
 ·have hk:k<fr.length:=(zN.mp e).1
  have hj:k<js.length:=by omega
  have hm:(x,js[k])∈fr.zip js:=by
   refine jl (i:=k) ?_
   rw[List.getElem?_zip_eq_some]
   exact⟨e,by simp[hj]⟩
  have:=h4 _ hm
  exact⟨this.1,js[k],by simp[hj],this.2⟩
theorem QE:∀{names:List (Str×NameKind)} (n:Nat) (acc:List (Str×Addr)) (h:Heap),(names.filter fun y=>y.2==.cell)=[]->cellsFrom n names acc=acc/\pushCells h names=h
 | [],_,_,_,_=>⟨rfl,rfl⟩
 | (a,k)::r,n,acc,h,e=>by
  by_cases q:(k==NameKind.cell)=true
  ·rw[Zw,if_pos (show((a,k).2==NameKind.cell)=true from q)] at e
   cases e
  ·rw[Zw,if_neg (show ¬((a,k).2==NameKind.cell)=true from q)] at e
   unfold cellsFrom pushCells
   rw[if_neg q,if_neg q]
   exact QE n acc h e
theorem JM{x:Str}:∀{names:List (Str×NameKind)} (n:Nat) (acc:List (Str×Addr)) (h:Heap),(names.filter fun y=>y.2==.cell)=[(x,.cell)]->cellsFrom n names acc=(x,n)::acc/\pushCells h names=h.push { cls:=.type "cell",data:=.cell none }
 | [],_,_,_,e=>by cases e
 | (a,k)::r,n,acc,h,e=>by
  by_cases q:(k==NameKind.cell)=true
  ·rw[Zw,if_pos (show((a,k).2==NameKind.cell)=true from q)] at e
   injection e with e1 e2
   cases e1
   unfold cellsFrom pushCells
   rw[if_pos q,if_pos q]
   exact QE _ _ _ e2
  ·rw[Zw,if_neg (show ¬((a,k).2==NameKind.cell)=true from q)] at e
   unfold cellsFrom pushCells
   rw[if_neg q,if_neg q]
   exact JM n acc h e
theorem WA{M:Model}{A:Around}{E:Value->Shared->Prop}{s:Shared}{scope:Scope}{globals:Addr}{cl:List (Str×Addr)}{qual:Str}{env:Env}{x:Str}{Q:Env->Shared->Prop}(one:(scope.names.filter fun y=>y.2==.cell)=[(x,.cell)])
  (hQ:Q { scope:=scope,locals:=s.heap.objs.size,globals:=globals,cells:=(x,s.heap.objs.size+1)::cl,qual:=qual,func:=none,code:=env.code,frame:=env.frame,builtins:=env.builtins } { s with heap:=(s.heap.push { cls:=.type "dict",data:=.dict #[] }).push { cls:=.type "cell",data:=.cell none } }) :
  wpAny M A (newFunctionEnv scope globals cl [] qual none .none (some env)) Q E s:=by
 simp only[newFunctionEnv,Option.isSome_some,if_true]
 refine zk (wpAny_alloc (zk (wpAny_layCells _ (fun name kind cells=>by cases hkc:kind==NameKind.cell<;>simp[hkc]) _ _ _ _ ?_)))
 obtain⟨e1,e2⟩:=JM (names:=scope.names) (x:=x) (s.heap.push { cls:=.type "dict",data:=.dict #[] }).objs.size cl (s.heap.push { cls:=.type "dict",data:=.dict #[] }) one
 rw[e1,e2,j4]
 exact zk (zD (zD hQ))
theorem yh{env:Env}{x:Str}:∀{names:List (Str×NameKind)},names.lookup x=some .cell->(names.map fun(n,k)=>if(k==NameKind.free&&env.scope.kind==.function&&env.kindOf n==some .cell) then(n,NameKind.cell) else(n,k)).lookup x=some .cell
 | [],h=>by simp at h
 | (n,k)::r,h=>by
  show List.lookup x ((if(k==NameKind.free&&env.scope.kind==.function&&env.kindOf n==some .cell)=true then(n,NameKind.cell) else(n,k))::_)=some NameKind.cell
  by_cases hx:(x==n)=true
  ·rw[jK,hx] at h
   cases(jJ h)
   split<;>simp[jK,hx]
  ·have hx':(x==n)=false:=by simpa using hx
   rw[jK,hx'] at h
   split
   ·rw[jK,hx'];exact yh h
   ·rw[jK,hx'];exact yh h
section
variable{X:Cx}{elt tg iter:Expr}{ifs:List Expr}{scope:Scope}{pos:Pos}{wi:TI}{g:TG}{tf:TT}{te:TE}{x:Str}
theorem WO{pins:List (Addr×Obj)}{σ:St}{H:Hp}{s:Shared}{fp:List Addr}(fr:List Str)(js:List Nat)(I:Inv X pins σ H s)(B:BlkOkC scope.names X.env.scope.names X.N x fr js)(hk:scope.kind=.function)
  (f2:∀b∈fp,xt X pins H b) (fl:∀b∈fp,b<s.heap.objs.size) {D C:Addr} (hD:D=s.heap.objs.size) {h3 h1:Heap} (e3:h3=s.heap.push { cls:=.type "list",dict:=none,data:=.seq ([]:List Value).toArray }) (hC:C=h3.objs.size)
  {m:Str->Option Value} (hns:h1.Ns C m) (hcell:h1.IsCell (C+1) none) (k4:∀b o,h3.get? b=some o->h1.get? b=some o) {t4:Nat} :
  Inv (jU X ([x]++fr) scope x C { s with heap:=h3 } H (D::fp)) [] (upS 1 js σ) H { s with heap:=h1,toks:=t4 }:=by
 have k3:∀b o,s.heap.get? b=some o->h3.get? b=some o:=fun b o e=>by rw[e3];exact qx _ e
 have I3:Inv X pins σ H { s with heap:=h3 }:=I.kept (t':=s.toks) k3
 have hz:h3.objs.size=s.heap.objs.size+1:=by rw[e3,j4]
 have hasF:∀y∈scope.names,y.2=NameKind.free->∃c,X.env.cells.lookup y.1=some c:=fun y hy e=>I.ok.has y.1 (B.free y hy e)
 have cellLt:∀x c,X.env.cells.lookup x=some c->c<s.heap.objs.size:=fun x c e=>by
  obtain⟨v,q⟩:=I.cell x c e
  exact q.lt
 have clt:∀y c,(jg X.env.cells scope.names []).lookup y=some c->c<C:=fun y c e=>by
  have:=cellLt y c (zZ e hasF)
  rw[hC,hz];exact wv this
 have look:∀y c,((x,C+1)::jg X.env.cells scope.names []).lookup y=some c->(y=x/\c=C+1)\/(y≠x/\(jg X.env.cells scope.names []).lookup y=some c):=fun y c e=>by
  rw[jK] at e
  by_cases q:(y==x)=true
  ·rw[q] at e
   exact .inl ⟨by simpa using q,(jJ e).symm⟩
  ·rw[(ZL _).mp q] at e
   exact .inr ⟨fun z=>q (by simpa using z),e⟩
 refine⟨⟨I.ok.mod,hk,I.ok.glob,I.ok.blt,wX hC.symm,fun y1 y2 c e1 e2=>?_,fun y hy=>?_,fun y c hf e=>?_,fun hc=>I.ok.hd hc,I.ok.frames,.inl rfl,fun b hb=>?_,I3.bs,jt I.ok.bsz I3.sz,fun b o e hb=>?_,fun b hb hf=>?_,I3.stack,I3.stkFree⟩,
  rfl,I.bare,Un.kept k4,⟨m,hns,fun i y v e1 e2 e3'=>?_⟩,fun y c e=>?_,?_,fun y c e=>?_,fun p hp=>absurd (show p∈([]:List (Addr×Obj)) from hp) (by simp),I3.hok.kept k4,?_⟩
 ·rcases look _ _ e1 with ⟨a1,a2⟩ | ⟨a1,a2⟩<;>rcases look _ _ e2 with ⟨b1,b2⟩ | ⟨b1,b2⟩
  ·rw[a1,b1]
  ·have:=clt _ _ b2
   rw[a2] at this
   exact absurd this (Nat.not_lt.mpr (vn _))
  ·have:=clt _ _ a2
   rw[b2] at this
   exact absurd this (Nat.not_lt.mpr (vn _))
  ·exact I.ok.inj _ _ c (zZ a2 hasF) (zZ b2 hasF)
 ·by_cases q:y=x
  ·subst q
   exact⟨C+1,by show List.lookup y ((y,C+1)::_)=_;simp[jK]⟩
  obtain⟨k,e,z⟩:∃k,scope.names.lookup y=some k/\(k=.free):=by
   rcases hy with hx | hx
   ·obtain⟨k,e,z⟩:=xU hx
    rcases z with z | z
    ·subst z;exact absurd (B.is (vV e) rfl) q
    ·exact⟨k,e,z.1⟩
   ·obtain⟨k,e,z⟩:=xU hx
    rcases z with z | z
    ·subst z;exact⟨_,e,rfl⟩
    ·exact⟨k,e,z.1⟩
  subst z
  refine⟨(X.env.cells.lookup y).getD 0,?_⟩
  show List.lookup y ((x,C+1)::_)=_
  rw[jK,show(y==x)=false from by simpa using q]
  exact xS e
 ·rcases look _ _ e with ⟨a1,a2⟩ | ⟨a1,a2⟩
  ·rw[a2]
   show h3.objs.size<=C+1
   rw[hC];exact vn _
  ·exact absurd (by simpa using hf) a1
 ·have ncell:∀b,b<C->∀y c,((x,C+1)::jg X.env.cells scope.names []).lookup y=some c->(∀y c,X.env.cells.lookup y=some c->c≠b)->c≠b:=fun b hb y c e h=>by
   rcases look _ _ e with ⟨a1,a2⟩ | ⟨a1,a2⟩
   ·rw[a2];exact xE (wv hb)
   ·exact h y c (zZ a2 hasF)
  rcases qq.mp hb with z | hb
  ·subst z
   refine⟨by rw[hD,hC,hz];exact qw (yV _),fun y c e=>ncell _ (by rw[hD,hC,hz];exact yV _) y c e fun y c e=>?_⟩
   have:=cellLt y c e
   rw[hD];exact qw this
  ·have hlt:b<C:=by rw[hC,hz];exact wv (fl b hb)
   exact⟨qw hlt,fun y c e=>ncell _ hlt y c e fun y c e=>(f2 b hb).2.2.2.2.1 y c e⟩
 ·rcases qq.mp hb with z | hb
  ·have:=zL (I.bk b o e)
   rw[z,hD] at this
   exact vc _ this
  ·rcases(f2 b hb).2.2.2.1 with z | z
   ·exact I.ok.noex b o e z
   ·exact absurd (jV (zL (I.ok.bs b o e).1) z) (vc _)
 ·have hf':=qq.mp (I.stkSub b hf)
  rcases qq.mp hb with z | hb
  ·rcases hf' with y | y
   ·have:=I.lt
    rw[<- y,z,hD] at this
    exact vc _ this
   ·exact I.nofs (a:=b) (by rw[z,hD];exact zC _) y
  ·rcases hf' with y | y
   ·exact(f2 b hb).2.1 y
   ·exact(f2 b hb).2.2.1 y
 ·obtain⟨hn,_,j,ej,es⟩:=vq e2
  have ex:fr[i-1]? =some y:=by
   rw[vF (show([x]:List Str).length<=i from hn)] at e1
   exact e1
  obtain⟨hfx,j',ej',eN⟩:=B.fr _ y ex
  have:j'=j:=by rw[ej] at ej';exact(jJ ej').symm
  subst this
  have hkx:=B.free _ (vV hfx) rfl
  obtain⟨m0,_,hl⟩:=I.loc
  obtain⟨u,r,l⟩:=hl j' y v eN es (by rcases hkx with z | z;exact .inr (.inl z);exact .inr (.inr z))
  refine⟨u,r,.inr ?_⟩
  have yx:y≠x:=fun z=>by
   have:=B.lk
   rw[<- z,hfx] at this
   cases this
  rcases l with ⟨kl,_⟩ | ⟨_,c,ec,o,eo,ed⟩
  ·have kl':X.env.scope.names.lookup y=some .local:=kl
   rcases hkx with z | z
   ·exact absurd (z.symm.trans kl') (by decide)
   ·exact absurd (z.symm.trans kl') (by decide)
  ·obtain⟨k',e',z⟩:=vI (env:=X.env) hfx
   have eq:((x,C+1)::jg X.env.cells scope.names []).lookup y=some c:=by
    rw[jK,show(y==x)=false from by simpa using yx]
    show(jg X.env.cells scope.names []).lookup y=some c
    rw[xS hfx,ec];rfl
   refine⟨?_,c,eq,o,k4 c o (k3 c o eo),ed⟩
   rcases z with z | z
   ·subst z;exact .inl e'
   ·subst z;exact .inr e'
 ·rcases look _ _ e with ⟨a1,a2⟩ | ⟨a1,a2⟩
  ·rw[a2];exact⟨none,hcell⟩
  ·obtain⟨v,o,eo,ed⟩:=I.cell y c (zZ a2 hasF)
   exact⟨v,o,k4 c o (k3 c o eo),ed⟩
 ·exact I3.hok.fresh (wX hC.symm)
 ·rcases look _ _ e with ⟨a1,a2⟩ | ⟨a1,a2⟩
  ·rw[a2]
   exact I3.hok.fresh (by show h3.objs.size<=C+1;rw[hC];exact vn _)
  ·exact I.freeC y c (zZ a2 hasF)
 ·rw[J5,<- B.len]
  show _=([x]++fr).length
  rw[qJ];rfl
end
end L2
namespace L2
end L2
namespace L2
open PySem PySem.W PySem.Spec PyProof.Rows
abbrev bmV:List Value:=[.type "ValueError",.type "Exception",.type "BaseException",.type "object"]
def zg9(K:Frag)(C:Addr)(ini:Option Value):Bool:=match K.lookup C with
 | some ⟨.type "type",_,.cls cd,sl⟩=>(match cd.mro with
  | .ref C'::bm=>(match sl.toList with
   | [_,_,_,_,some (.builtin n),_]=>C'==C&&(n == "ValueError.__new__" && (!cd.hasDel&&(tailIn K bmV bm&&(nsOkIn K cd.ns&&nsIn K cd.ns "__init__" == some ini))))
   | _=>false)
  | _=>false)
 | _=>false
structure Xc(h:Heap)(C:Addr)(ini:Option Value):Prop where
 is:∃(bm:List Value) (N:Addr) (nm qn:Str) (bs:List Value) (hd:Bool) (sn:List Str) (sub:List Value) (ab:Bool) (col:Option Bool) (dd:Option Addr) (k0 k1 k2 k3 k5:Option Value) (mN:Str->Option Value),
  h.get? C=some (excClassObj nm qn C N bs bm hd sn sub ab col dd k0 k1 k2 k3 k5 "ValueError.__new__")/\h.Ns N mN/\mN "__init__" = ini/\OwnTail h bmV bm
end L2
namespace L2
open PySem PySem.W PySem.Spec PyProof.Rows
section
variable{P:Program}{w:World}{H:Hp}{h h':Heap}{a:Addr}{o:HO}
theorem ObjOk.has(x:ObjOk P w H h a o):∃u,h.get? a=some u:=by
 cases o with
 | lst xs=>obtain⟨_,_,_,_,e⟩:=x;exact⟨_,e⟩
 | tup xs=>obtain⟨_,_,_,⟨u,e,_⟩,_⟩:=x;exact⟨u,e⟩
 | dK kvs=>obtain⟨_,_,_,_,u,_,_,e,_⟩:=x;exact⟨u,e⟩
 | dT kvs=>obtain⟨_,_,_,_,u,_,_,e,_⟩:=x;exact⟨u,e⟩
 | set S n=>obtain⟨u,_,_,_,e,_⟩:=x;exact⟨u,e⟩
 | ins C dx fs=>obtain⟨_,_,_,e,_⟩:=x;exact⟨_,e⟩
 | own y=>obtain⟨u,e⟩:=x;exact⟨u,e⟩
 | xd fs=>obtain⟨_,⟨u,_,_,e,_⟩,_⟩:=x;exact⟨u,e⟩
 | rng lo hi=>obtain⟨_,_,_,e⟩:=x;exact⟨_,e⟩
 | frz ob u=>obtain⟨e,_⟩:=x;exact⟨_,e⟩
 | tbl ps=>exact⟨_,show h.get? a=some _ from x⟩
 | met f y=>exact⟨_,show h.get? a=some _ from x⟩
 | ext φ=>obtain⟨_,⟨u,e⟩,_⟩:=x;exact⟨u,e⟩
theorem HOk.none_of(x:HOk P w H h)(e:h.get? a=none):H a=none:=by
 cases q:H a with
 | none=>rfl
 | some u=>obtain⟨z,ez⟩:=(x a u q).has;rw[e] at ez;cases ez
end
section
variable{X:Cx}{pins:List (Addr×Obj)}{σ:St}{H:Hp}{s:Shared}{h':Heap}
theorem Inv.laidN{a:Addr}{o:HO}{t':Nat}(I:Inv X pins σ H s)(k:∀b u,s.heap.get? b=some u->h'.get? b=some u)(hn:s.heap.get? a=none)(new:ObjOk X.prog X.w (upd H a o) h' a o) :
  Inv X pins σ (upd H a o) { s with heap:=h',toks:=t' }:=by
 have hH:=I.hok.none_of hn
 have ne:∀b u,s.heap.get? b=some u->b≠a:=fun b u q z=>by rw[z,hn] at q;cases q
 have neH:∀b u,H b=some u->b≠a:=fun b u q z=>by rw[z,hH] at q;cases q
 refine I.un ⟨fun b u q _ _ _=>k b u q,fun b u q _ _ _=>⟨u.slots,k b u q⟩,fun b u q n _=>by rw[zo (ne b u q)];exact n,fun b u q _=>⟨u,k b u q⟩,
  fun b xs q=>by rw[zo (neH b _ q)];exact q,fun b u xs q=>by rw[zo (neH b _ q)];exact q,fun b ps q=>⟨#[],by rw[zo (neH b _ q),q];simp⟩⟩ ?_
 intro b u e
 by_cases hb:b=a
 ·subst hb;rw[zb] at e;cases e;exact new
 ·rw[zo hb] at e
  exact(I.hok b u e).stay (fun c v _ q=>k c v q) (fun c q=>by rw[zo (neH c _ q)];exact q) fun c xs q=>by rw[zo (neH c _ q)];exact q
end
section
variable{prog:Program}{w:World}{A:Around}{E:Value->Shared->Prop}{h:Heap}{g:Array GenState}{d:Drawn}{t:Nat}{os:OsState}{C:Addr}
end
section
variable{prog:Program}{w:World}{A:Around}{E:Value->Shared->Prop}{h:Heap}{g:Array GenState}{d:Drawn}{t:Nat}{os:OsState}
variable{nm q:Str}{C N:Addr}{bs bm:List Value}{hdct:Bool}{sn:List Str}{sub:List Value}{ab:Bool}{col:Option Bool}{dd:Option Addr}{k0 k1 k2 k3 k5:Option Value}
end
end L2
namespace L2
open PySem PySem.W PySem.Spec PyProof.Rows
structure XK2(K:Frag)(C:Addr)(ini:Option Value):Prop where
 cls:zg9 K C ini=true
 sa:findIn K (.ref C) "__setattr__" = some (some (.builtin "object.__setattr__"))
 ga:findIn K (.ref C) "__getattribute__" = some (some (.builtin "BaseException.__getattribute__"))
 gh:findIn K (.ref C) "__getattr__" = some none
 ob:mroIn K C (.type "object")=some true
 be:mroIn K C (.type "BaseException")=some true
 hd:hasDictIn K C=true
section
variable{prog:Program}{w:World}{A:Around}{E:Value->Shared->Prop}{h:Heap}{g:Array GenState}{d:Drawn}{t:Nat}{os:OsState}{K:Frag}{C e t0:Addr}{ini:Option Value}{f:Str}{v:Value}
end
end L2
namespace L2
open PySem PySem.W PySem.Spec PyProof.Rows
section
variable{prog:Program}{w:World}{A:Around}{E:Value->Shared->Prop}{h:Heap}{g:Array GenState}{d:Drawn}{t:Nat}{os:OsState}{K:Frag}{C e t0 dx:Addr}{od:Option Addr}{ini:Option Value}{f:Str}{v:Value}{mA:Str->Option Value}
end
end L2
namespace L2
open PySem PySem.W PySem.Spec PyProof.Rows
structure XKc(K:Frag)(C:Addr):Prop where
 lk:findIn K (.ref C) "__class__" = some (some (.builtin "object.__class__"))
 gt:specialIn K (.builtin "object.__class__") "__get__" = some (some (.builtin "getset_descriptor.__get__"))
 tk:takesIn K (.builtin "object.__class__")=some true
section
variable{prog:Program}{w:World}{A:Around}{E:Value->Shared->Prop}{h:Heap}{g:Array GenState}{d:Drawn}{t:Nat}{os:OsState}{K:Frag}{C C' e t0:Addr}{dx:Option Addr}{ini:Option Value}{od:Option Obj}
end
end L2
namespace L2
open PySem PySem.W PySem.Spec PyProof.Rows
structure XOk(K:Frag)(C:Addr)(ini:Option Value):Prop where
 k:XK2 K C ini
 c:XKc K C
 kp:keepIn K (.ref C)=true
 ty:typeIn K (.ref C)=some (.type "type")
 cd:∃cd,clsIn K C=some cd
 ve:mroIn K C (.type "ValueError")=some true
section
variable{X:Cx}{CX:CXT}{k:Nat}{f C:Addr}{fd:FuncData}{ps:List Str}{ds:List Value}{dvs:List V}{sp:Sp}{E:XK}{x m:Str}{p pos apos:Pos}{e o value:Expr}{es:List Expr}{t:TA}{ta tv:TE}{ini:Option Value}
end
end L2
namespace L2
open PySem PySem.W PySem.Spec PyProof.Rows
section
variable{X:Cx}
end
structure Xs(K:Frag)(mg:Str->Option Value)(x:Str)(C:Addr)(ini:Option Value):Prop where
 ok:XOk K C ini
 gl:mg x=some (.ref C)
structure XsI(P:Program)(w:World)(K:Frag)(mg:Str->Option Value)(base:Heap)(x:Str)(C f:Addr)(k:Nat)(ps:List Str)(sp:Sp):Prop extends Xs K mg x C (some (.ref f)) where
 ex:∃fd oF,qS P w K mg base CX0 k f fd ps sp/\K.lookup f=some oF/\oF.cls=.type "function" /\ Binds K fd ps []
section
variable{X:Cx}{x:Str}{k:Nat}{C f:Addr}{ps:List Str}{sp:Sp}{p pos:Pos}{e:Expr}{es:List Expr}{t:TA}
end
end L2
namespace L2
open PySem PySem.Spec PyProof.Rows
theorem yw:∀{us:List Value} {ns:List Int},IntsAre us ns->Vals (ns.map V.int) us
 | _,_,.nil=>.nil
 | _,_,.cons n t r=>.cons ⟨t,rfl⟩ (yw r)
section
variable{X:Cx}
inductive wC(K:PySem.W.Frag)(xs:List V)(H:Hp)(Q:VK):Prop
 | mk (a:Addr) (ns:List Int) (_:xs=[.ref a]) (_:SqL K H a (ns.map V.int)) (_:ns.length<64) (_:∀(p:Addr) (ms:List Int),H p=none->ms.Perm ns->ms.Pairwise (·<= ·)->Q (.ref p) (upd H p (.lst (ms.map V.int)))):wC K xs H Q
theorem vQ:jF X (.builtin "sorted") (wC X.K):=by
 intro pins s σ H xs us Q I r h
 obtain⟨a,ns,rfl,hx,hl,q⟩:=h
 obtain⟨u,rfl,ru⟩:=Vals.one r
 cases(show u=Value.ref a from ru)
 obtain⟨its,r',pl,hz⟩:=I.list hx
 have len:=r'.length
 rw[zq] at len
 refine sorted_ints pl.isList (Qz r') (by omega) fun out ms a1 a2 a3=>?_
 obtain⟨e,he⟩:=sortedAll_at s.heap its out
 have hn:H (s.heap.objs.size+1)=none:=I.hok.fresh (vn _)
 refine⟨.ref (s.heap.objs.size+1),_,I.laid (a:=s.heap.objs.size+1) (o:=.lst (ms.map V.int)) (t':=s.toks) (fun _ _=>sortedAll_old) (vn _) ⟨?_,out.toList,e,yw a1,?_⟩,rfl,q _ ms hn a2 a3⟩
 ·rw[zq,a2.length_eq,sizeLine_eq];omega
 ·rw[he]
end
section
variable{prog:Program}{w:World}{κ:Type}[DecidableEq κ]{knd:PySem.KeyKind prog w κ}{A:Around}{E:Value->Shared->Prop}{s:Shared}
theorem zbS{d:Addr}{kvs:List (κ×Value)}{k:κ}{key dflt:Value}{Q:Value->Shared->Prop}(hkey:knd.is k key=true)(hm:s.heap.DictOf knd d kvs)(hsz:kvs.length<=sizeLine)
  (hthere:∀v,valueAt kvs k=some v->Q v { s with toks:=s.toks+1 })
  (hnew:valueAt kvs k=none->∀h',h'.DictOf knd d (stored kvs k dflt)->Heap.SameBut d s.heap h'->Q dflt { s with heap:=h',toks:=s.toks+1 }) :
  wpAny (model prog w) A (dictSetDefault d key dflt) Q E s:=by
 obtain⟨o,es,ep,ho,hc,hd,hk,hp,hn⟩:=id hm
 obtain⟨o',es',ep',ho',-,hd',-,hf⟩:=hm.mapOf
 rw[ho] at ho'
 injection ho' with ho'
 subst ho'
 rw[hd] at hd'
 injection hd' with hd1 hd2
 subst hd1
 have hes:es.size<=sizeLine:=by
  have e1:=hp.length
  have e2:es.toList.length=es.size:=by simp
  omega
 have at_:(es.findIdx? fun en=>knd.is k en.key)=kvs.findIdx? fun p=>decide (p.1=k):=by
  obtain⟨l⟩:=es
  rw[<- hp.findIdx k]
  simp
 unfold dictSetDefault
 refine vb (zk (knd.pyHash hkey (zk (wpAny_dictFind_of (s:={ s with toks:=s.toks+1 }) hkey ho hd hk ?_))))
 cases hi:es.findIdx? fun en=>knd.is k en.key with
 | some i=>
  have hlt:i<es.size:=(Array.findIdx?_eq_some_iff_findIdx_eq.mp hi).1
  have hfk:valueAt kvs k=(es[i]?).map (·.val):=by rw[<- hf k,findBy_of_findIdx?,hi]
  rw[ZO hlt] at hfk
  refine zk (wpAny_dictEntries (s:={ s with toks:=s.toks+1 }) ho hd ?_)
  rw[ZO hlt]
  exact zk (vS (zD (hthere _ hfk)))
 | none=>
  have fresh:k∉kvs.map (·.1):=not_mem_of_findIdx_none (at_▸hi)
  have hany:¬(kvs.any fun kv=>decide (kv.1=k))=true:=fun z=>by
   obtain⟨kv,h1,h2⟩:=QX.mp z
   exact fresh (jC.mpr ⟨kv,h1,qW h2⟩)
  have hfk:valueAt kvs k=none:=by rw[<- hf k,findBy_of_findIdx?,hi]
  have est:stored kvs k dflt=kvs++[(k,dflt)]:=by rw[stored,if_neg hany]
  refine zk (vS (zk (wpAny_updateDictKeys (s:={ s with toks:=s.toks+1 }) (hz:=hes) ho hd (zD (hnew hfk _ ?_ (QM ..))))))
  rw[est]
  refine⟨_,_,ep+1,JW _ ho (Obj.isFreed_of_dict (Obj.data_mapDictKeys hd _)),hc.mapDictKeys _,Obj.data_mapDictKeys hd _,hk.push hkey _,?_,?_⟩
  ·have z:=hp.append hkey (knd.hash k) dflt
   obtain⟨l⟩:=es
   simpa using z
  ·rw[zW,Zy]
   refine⟨hn,by simp,fun a ha b hb z=>fresh ?_⟩
   rw[show List.map (·.1) [(k,dflt)]=[k] from rfl,qR] at hb
   rw[<- hb,<- z]
   exact ha
end
section
variable{prog:Program}{w:World}{κ:Type}[DecidableEq κ]{knd:PySem.KeyKind prog w κ}
theorem zcB{d:Addr}{k:κ}{key x:Value}(hkey:knd.is k key=true)(hs:(d==sysModules)=false) :
  MeetsIn prog w (Builtin.«dict.setdefault» ⟨[.ref d,key,x],[]⟩) (fun _ R s=>∃kvs,s.heap.DictOf knd d kvs/\kvs.length<=sizeLine/\(∀v,valueAt kvs k=some v->R (.ok (.ret v)) { s with toks:=s.toks+1 }) /\
   (valueAt kvs k=none->∀h',h'.DictOf knd d (stored kvs k x)->Heap.SameBut d s.heap h'->R (.ok (.ret x)) { s with heap:=h',toks:=s.toks+1 })):=
 .of_wp fun A R s ⟨kvs,hm,hz,h1,h2⟩=>by
  delta Builtin.«dict.setdefault» Builtin.Dict.keyAndDefault
  refine zk (zk (wpAny_notOrdered_dict hm.typeIs (zD (a:=(d,key,some x)) ?_)))
  have off:¬(d==sysModules)=true:=by rw[hs];exact jf
  refine(show wpAny _ _ (if(d==sysModules)=true then _ else(dictSetDefault d key x >>= _)) _ _ _ from ?_)
  rw[if_neg off]
  exact zk (zbS hkey hm hz (fun v hv=>zD ⟨v,rfl,h1 v hv⟩) fun hn h' hm' hs'=>zD ⟨x,rfl,h2 hn h' hm' hs'⟩)
end
section
variable{X:Cx}{td ty tx:TE}{o e f:Expr}{apos cpos:Pos}
def zhg(td ty tx:TE):TE:=fun σ H Q=>td σ H fun x H1=>∃a,x=.ref a/\IsD H1 a/\ty σ H1 fun y H2=>tx σ H2 fun z H3=>∃kvs k,H3 a=some (.dK kvs)/\y=kV k/\kvs.length<sizeLine /\
 (∀v,jk kvs k=some v->Q v H3)/\(jk kvs k=none->Q z (upd H3 a (.dK (xm kvs k z))))
theorem zfc(ho:PE X o td)(he:PE X e ty)(hf:PE X f tx)(m:M2 X o "setdefault" apos e f cpos):PE X (.Call (.Attribute o "setdefault" apos) [e,f] [] cpos) (zhg td ty tx):=by
 intro pins s σ H Q I h
 refine wpAny_Call_method m.base m.few m.line WU PySem.F.slot_dict_setdefault PySem.F.type_dict_setdefault (thn (ho pins s σ H _ I h) fun u s1 ⟨x,H1,I1,rx,a,ex,d,q1⟩=>?_)
 subst ex
 obtain rfl:u=Value.ref a:=rx
 obtain⟨t1,t2,_⟩:=WI I1 d
 refine⟨t1,t2,?_⟩
 rw[m.trees]
 refine XW rfl (XT (QL (thn (he pins s1 σ H1 _ I1 q1) fun iv s2 ⟨y,H2,I2,ry,q2⟩=>
  QL (thn (hf pins s2 σ H2 _ I2 q2) fun fv s3 ⟨z,H3,I3,rz,kvs,k,ea,ey,l,g1,g2⟩=>QY ?_))))
 subst ey
 obtain⟨zz,hd,vs,rel,dd⟩:=V0 I3.hok ea
 have hz:vs.length<=sizeLine:=by rw[<- rel.length];exact zz
 refine call_meetsIn PySem.F.slot_dict_setdefault dd.typeIs PySem.F.entry_dict_setdefault (PySem.F.args_dict_setdefault_3 _ _ _) (zcB (knd:=zV X.prog X.w) (wT ry) hd) ⟨vs,dd,hz,fun v hv=>?_,fun hn h' dd' hs=>?_⟩
 ·have rv:=rel.val k
  rw[hv] at rv
  cases ev:jk kvs k with
  | none=>rw[ev] at rv;exact rv.elim
  | some v'=>
   rw[ev] at rv
   exact⟨v',H3,I3.tok _,rv,g1 v' ev⟩
 ·have rv:=rel.val k
  rw[hn] at rv
  have ev:jk kvs k=none:=by
   cases ev:jk kvs k with
   | none=>rfl
   | some v'=>rw[ev] at rv;exact rv.elim
  have hl:(xm kvs k z).length<=sizeLine:=by have:=xB kvs k z;omega
  have ee:∃q,h'.get? a=some q:=let ⟨q,_,_,hq,_⟩:=dd';⟨q,hq⟩
  exact⟨z,_,yM I3 (by rw[ea];exact True.intro) hs ee (QC hl hd (rel.put k rz) dd'),rz,g2 ev⟩
end
theorem zcL{P:Program}{w:World}{k:Key}{u:Value}(h:(zV P w).is k u=true):RelV (kV k) u:=by
 rw[WC] at h
 rcases jd h with ⟨i,t,rfl,rfl⟩ | ⟨x,t,rfl,rfl⟩
 ·exact⟨t,rfl⟩
 ·exact⟨t,rfl⟩
theorem KV.get:∀{kvs:List (Key×V)} {vs:List (Key×Value)} {j:Nat} {q:Key×Value},KV kvs vs->vs[j]? =some q->∃p,kvs[j]? =some p/\p.1=q.1/\RelV p.2 q.2
 | _,_,j,_,.nil,e=>by simp at e
 | _,_,0,_,.cons h _,e=>by simp at e;subst e;exact⟨_,rfl,h⟩
 | _,_,j+1,_,.cons _ t,e=>by
  obtain⟨p,e1,r⟩:=KV.get (j:=j) t (by simpa using e)
  exact⟨p,by simpa using e1,r⟩
theorem W9:∀{xs:List V} {us:List Value},xs.length=us.length->(∀(j:Nat) u,us[j]? =some u->∃x,xs[j]? =some x/\RelV x u)->Vals xs us
 | [],[],_,_=>.nil
 | [],_::_,h,_=>by simp at h
 | _::_,[],h,_=>by simp at h
 | x::xs,u::us,h,f=>by
  refine .cons ?_ (W9 (by simpa using h) fun j v e=>?_)
  ·obtain⟨y,e1,r⟩:=f 0 u rfl
   cases e1
   exact r
  ·obtain⟨y,e1,r⟩:=f (j+1) v (by simpa using e)
   exact⟨y,by simpa using e1,r⟩
section
variable{X:Cx}
inductive yc(xs:List V)(H:Hp)(Q:VK):Prop
 | mk (a:Addr) (kvs:List (Key×V)) (_:xs=[.ref a]) (_:Rd H a (.dK kvs)) (_:∀p,H p=none->Q (.ref p) (upd H p (.lst (kvs.map fun kv=>kV kv.1)))):yc xs H Q
theorem V6(hh:X.A.handled=none):jF X (.type "list") (yc):=by
 intro pins s σ H xs us Q I r h
 obtain⟨a,kvs,rfl,hx,q⟩:=h
 obtain⟨u,rfl,ru⟩:=Vals.one r
 cases(show u=Value.ref a from ru)
 obtain⟨zz,hd,vs,rel,dd⟩:=ZF I.hok hx
 obtain⟨ep,da⟩:=dd.dictAt
 have ln:=rel.length
 refine PySem.W.kdl_call (PySem.W.kdl_dict (prog:=X.prog) (w:=X.w) (knd:=zV X.prog X.w) (d:=a) (kvs:=vs) (ep:=ep) hd) hh da (by omega) fun h' tk acc c keep at_ its=>?_
 have hn:H s.heap.objs.size=none:=I.hok.fresh (zC _)
 refine⟨.ref s.heap.objs.size,_,I.laid (a:=s.heap.objs.size) (o:=.lst (kvs.map fun kv=>kV kv.1)) (t':=tk) keep (zC _) ⟨by rw[zq];exact zz,acc.toList,c,W9 ?_ ?_,by rw[at_]⟩,rfl,q _ hn⟩
 ·have z:=its.1
  have y:acc.toList.length=acc.size:=vE
  rw[zq]
  omega
 ·intro j u e
  rw[JV] at e
  obtain⟨k,x,e1,e2⟩:=its.2 j u e
  obtain⟨p,e3,e4,_⟩:=KV.get rel e1
  exact⟨kV p.1,by rw[qr,e3];rfl,by rw[e4];exact zcL e2⟩
end
section
variable{X:Cx}{td ty:TE}{o e:Expr}{apos cpos:Pos}
def zfX(td ty:TE):TE:=fun σ H Q=>td σ H fun x H1=>∃a,x=.ref a/\IsD H1 a/\ty σ H1 fun y H2=>∃b kvs more,y=.ref b/\a≠b/\H2 a=some (.dK kvs)/\H2 b=some (.dK more)/\kvs.length+more.length<=sizeLine/\Q .non (upd H2 a (.dK (j3 kvs more)))
theorem zdw(ho:PE X o td)(he:PE X e ty)(m:M1 X o "update" apos e cpos):PE X (.Call (.Attribute o "update" apos) [e] [] cpos) (zfX td ty):=by
 intro pins s σ H Q I h
 refine wpAny_Call_method m.base m.few m.line WU PySem.F.slot_dict_update PySem.F.type_dict_update (thn (ho pins s σ H _ I h) fun u s1 ⟨x,H1,I1,rx,a,ex,d,q1⟩=>?_)
 subst ex
 obtain rfl:u=Value.ref a:=rx
 obtain⟨t1,t2,_⟩:=WI I1 d
 refine⟨t1,t2,?_⟩
 rw[m.trees]
 refine XW rfl (XT (QL (thn (he pins s1 σ H1 _ I1 q1) fun iv s2 ⟨y,H2,I2,ry,b,kvs,more,ey,ne,ea,eb,l,q2⟩=>QY ?_)))
 subst ey
 obtain rfl:iv=Value.ref b:=ry
 obtain⟨_,sa,vs,ra,da⟩:=V0 I2.hok ea
 obtain⟨_,sb,ws,rb,db⟩:=V0 I2.hok eb
 have la:=ra.length
 have lb:=rb.length
 refine call_meetsIn PySem.F.slot_dict_update da.typeIs PySem.F.entry_dict_update (PySem.F.args_dict_update_2 _ _) (meets_dict_update (zV X.prog X.w) a b ne sb) ⟨vs,ws,da,db,by omega,fun h' da' _ hs=>?_⟩
 have ee:∃q,h'.get? a=some q:=let ⟨q,_,_,hq,_⟩:=da';⟨q,hq⟩
 exact⟨.non,_,yM (t':=s2.toks) I2 (by rw[ea];exact True.intro) hs ee (QC (jt (xv more kvs) l) sa (rb.merge ra) da'),rfl,q2⟩
end
theorem Y1:∀{ns:List Int} {us:List Value},ns.length=us.length->(∀(j:Nat) u,us[j]? =some u->∃i t,ns[j]? =some i/\u=.int i t)->IntsAre us ns
 | [],[],_,_=>.nil
 | [],_::_,h,_=>by simp at h
 | _::_,[],h,_=>by simp at h
 | n::ns,u::us,h,f=>by
  obtain⟨i,t,e1,e2⟩:=f 0 u rfl
  cases e1
  subst e2
  refine .cons n t (Y1 (by simpa using h) fun j v e=>?_)
  obtain⟨i,t,e1,e2⟩:=f (j+1) v (by simpa using e)
  exact⟨i,t,by simpa using e1,e2⟩
section
variable{X:Cx}
inductive vY(xs:List V)(H:Hp)(Q:VK):Prop
 | mk (a:Addr) (kvs:List (Int×V)) (_:xs=[.ref a]) (_:Rd H a (.dK (kvs.map fun kv=>(Sum.inl kv.1,kv.2)))) (_:kvs.length<64) (_:∀(p:Addr) (ms:List Int),H p=none->ms.Perm (kvs.map (·.1))->ms.Pairwise (·<= ·)->Q (.ref p) (upd H p (.lst (ms.map V.int)))):vY xs H Q
theorem Je(hh:X.A.handled=none):jF X (.builtin "sorted") (vY):=by
 intro pins s σ H xs us Q I r h
 obtain⟨a,kvs,rfl,hx,h64,q⟩:=h
 obtain⟨u,rfl,ru⟩:=Vals.one r
 cases(show u=Value.ref a from ru)
 obtain⟨zz,hd,vs,rel,dd⟩:=ZF I.hok hx
 obtain⟨ep,da⟩:=dd.dictAt
 have ln:=rel.length
 rw[zq] at ln
 have sz:sizeLine=16777216:=sizeLine_eq
 refine Calls.call_function_entry kind_sorted plain_sorted entry_sorted (args_sorted1 _) ?_
 delta Builtin.«sorted»
 refine zk (m:=checkCount "sorted" 1 1 _) (zD (zk (PySem.W.kdu_collect (PySem.W.kdl_dict (prog:=X.prog) (w:=X.w) (knd:=zV X.prog X.w) (d:=a) (kvs:=vs) (ep:=ep) hd) hh da (by omega) fun h' tk acc keep its=>?_)))
 have al:acc.toList.length=vs.length:=by rw[vE];exact its.1
 have hI:IntsAre acc.toList (kvs.map (·.1)):=Y1 (by rw[zq];omega) fun j u e=>by
  rw[JV] at e
  obtain⟨k,x,e1,e2⟩:=its.2 j u e
  obtain⟨p,e3,e4,_⟩:=KV.get rel e1
  rw[qr] at e3
  obtain⟨kv,e5,rfl⟩:=jc.mp e3
  have e4:Sum.inl kv.1=k:=e4
  subst e4
  obtain⟨t,rfl⟩:=zcL e2
  exact⟨kv.1,t,by rw[qr,e5];rfl,rfl⟩
 refine zk (wpAny_newList ?_ (by omega))
 have at_:(h'.push (seqObj "list" acc.toList.toArray 0)).get? h'.objs.size=some (seqObj "list" acc.toList.toArray 0):=qA _ rfl
 refine zk (vb (vD slot_list_sort ⟨_,at_,rfl⟩ entry_list_sort (list_sort_tree (s:={ s with heap:=h'.push (seqObj "list" acc.toList.toArray 0),toks:=tk }) at_ hI (by omega) fun out ms a1 a2 a3=>⟨_,rfl,?_⟩) (args_list_sort _)))
 have new:s.heap.get? h'.objs.size=none:=by
  cases z:s.heap.get? h'.objs.size with
  | none=>rfl
  | some o=>exact absurd (zL (keep _ _ z)) (vc _)
 obtain⟨ep2,fin⟩:=sortedHeap_at (out:=out) at_
 refine zD ⟨_,rfl,.ref h'.objs.size,_,I.laidN (a:=h'.objs.size) (o:=.lst (ms.map V.int)) (t':=tk) (fun b o e=>?_) new ⟨?_,out.toList,ep2,yw a1,?_⟩,rfl,q _ ms (I.hok.none_of new) a2 a3⟩
 ·have lt:=zL (keep b o e)
  rw[sortedHeap_old (qw lt) (by rw[j4];exact wv lt)]
  exact qx _ (keep b o e)
 ·rw[zq,a2.length_eq,zq];omega
 ·rw[fin]
end
def zc6(d:Addr)(o:Obj)(kvs:List (Key×V)):It:=
 ⟨fun i H=>H d=some (.frz o (.dK kvs))/\i<kvs.length,fun i H x H'=>H'=H/\∃k v,kvs[i]? =some (k,v)/\x=kV k,fun i H=>H d=some (.frz o (.dK kvs))/\kvs.length<=i⟩
theorem Jz{P:Program}{w:World}:∀{es:List DictEntry} {vs:List (Key×Value)},Pairs (zV P w) es vs->∀{i:Nat} {q:Key×Value},vs[i]? =some q->∃en,es[i]? =some en/\(zV P w).is q.1 en.key=true
 | _,_,.nil,_,_,h=>by simp at h
 | _,_,.cons h1 _ t,0,_,h=>by simp at h;subst h;exact⟨_,rfl,h1⟩
 | _,_,.cons _ _ t,i+1,_,h=>by
  obtain⟨en,e,r⟩:=Jz t (i:=i) (by simpa using h)
  exact⟨en,by simpa using e,r⟩
theorem KV.back:∀{kvs:List (Key×V)} {vs:List (Key×Value)} {j:Nat} {p:Key×V},KV kvs vs->kvs[j]? =some p->∃q,vs[j]? =some q/\p.1=q.1
 | _,_,j,_,.nil,e=>by simp at e
 | _,_,0,_,.cons h _,e=>by simp at e;subst e;exact⟨_,rfl,h.1⟩
 | _,_,j+1,_,.cons _ t,e=>by
  obtain⟨q,e1,r⟩:=KV.back (j:=j) t (by simpa using e)
  exact⟨q,by simpa using e1,r⟩
theorem VX{P:Program}{w:World}{H:Hp}{h:Heap}{d:Addr}{o:Obj}{kvs:List (Key×V)}{es:Array DictEntry}{ep:Nat}(ok:HOk P w H h)(e:H d=some (.frz o (.dK kvs)))(he:o.data=.dict es ep):RawD h d es ep/\es.size=kvs.length /\
  ∀(i:Nat) (k:Key) (v:V),kvs[i]? =some (k,v)->∃en:DictEntry,es[i]? =some en/\RelV (kV k) en.key:=by
 obtain⟨e1,z,y,vs,r,o',es',ep',h1,h2,h3,h4,h5,h6⟩:=(show ObjOk P w H h d (.frz o (.dK kvs)) from ok d _ e)
 rw[e1] at h1
 cases h1
 rw[he] at h3
 cases h3
 have l1:=h5.length
 have l2:=r.length
 have l3:es.toList.length=es.size:=vE
 refine⟨⟨o,e1,h2,he⟩,by omega,fun i k v hk=>?_⟩
 obtain⟨q,e2,e3⟩:=KV.back r hk
 obtain⟨en,e4,e5⟩:=Jz h5 e2
 have e3:k=q.1:=e3
 exact⟨en,by rw[<- JV];exact e4,by rw[e3];exact zcL e5⟩
theorem Wm{P:Program}{w:World}{K:PySem.W.Frag}{tg:Expr}(d it:Addr)(o:Obj)(kvs:List (Key×V))(es:Array DictEntry)(ep:Nat)(he:o.data=.dict es ep):Q5 P w K tg (zc6 d o kvs) [it] it (fun i h=>h.IsKeyIter it d i es.size ep) where
 mem:=by simp
 obj:=fun i h st b hb=>by
  have e:b=it:=by simpa using hb
  subst e
  obtain⟨o,e,c,d⟩:=st
  exact⟨o,e,fun v z=>by rw[d] at z;cases z⟩
 keep:=fun i h h' st k=>st.at fun o e=>k it (by simp) o e
 item:=by
  intro X hP hw hK hc i pins s σ H E I hf st hg
  subst hP hw hK
  obtain⟨hd,hi⟩:=hg
  obtain⟨rd,sz,all⟩:=VX I.hok hd he
  obtain⟨⟨k,v⟩,hx⟩:∃p,kvs[i]? =some p:=⟨kvs[i],by simp[hi]⟩
  obtain⟨en,hen,ek⟩:=all i k v hx
  obtain⟨f0,f1,f2,f3,f4,f5⟩:=hf it (by simp)
  refine zca st rd hen fun h' st' sb=>?_
  have I1:Inv X pins σ H { s with heap:=h' }:=I.turned (t':=s.toks) (fun b o hb e=>(sb.2 b hb).trans e) f0 f1 f3 f4 f5
  obtain⟨o',e',c',d'⟩:=id st'
  exact⟨_,rfl,Y2 (s:={ s with heap:=h' }) e' c' d' (by decide) ⟨kV k,H,I1,ek,⟨rfl,k,v,hx,rfl⟩,st',fun b hb=>(hf b hb).1⟩⟩
 done:=by
  intro X hP hw hK hc i pins s σ H E I hf st hg
  subst hP hw hK
  obtain⟨hd,hi⟩:=hg
  obtain⟨rd,sz,_⟩:=VX I.hok hd he
  obtain⟨f0,f1,f2,f3,f4,f5⟩:=hf it (by simp)
  exact zdl (I.ok.hd hc) st rd (by omega) fun h' eb=>⟨rfl,I.turned (t':=s.toks) (fun b o hb e=>eb b o hb e) f0 f1 f3 f4 f5⟩
 self:=fun _ _ _ _ _ st h=>wpAny_pyIter_keyiter st h
section
variable{X:Cx}{tg:Expr}
def zfz(td:TE):TI:=fun σ H R=>td σ H fun x H1=>∃d kvs,x=.ref d/\H1 d=some (.dK kvs)/\∀o,R (zc6 d o kvs) (upd H1 d (.frz o (.dK kvs)))
theorem zcj{l:Expr}{tl:TE}(hl:PE X l tl):PI X tg l (zfz tl):=by
 intro pins s σ H R I h
 refine thn (hl pins s σ H _ I h) fun v s1 ⟨x,H1,I1,r1,q1⟩=>?_
 obtain⟨d,kvs,e,hd,q⟩:=q1
 subst e
 cases r1
 obtain⟨z,y,vs,r,o,es,ep,h1,h2,h3,h4,h5,h6⟩:=(show ObjOk X.prog X.w H1 s1.heap d (.dK kvs) from I1.hok d _ hd)
 refine zb9 y ⟨o,h1,h2,h3⟩ ?_
 have I2:Inv X pins σ (upd H1 d (.frz o (.dK kvs))) { s1 with heap:=s1.heap.push { cls:=.type "dict_keyiterator",data:=.fields #[.ref d,.int 0 0,.int es.size 0,.int ep 0] },toks:=s1.toks }:=by
  refine I1.write (x:=d) (e:=d) (by rw[hd];exact True.intro) (.inl rfl) (fun b u _ e=>qx _ e) ⟨o,qx _ h1⟩ ?_
  exact⟨qx _ h1,z,y,vs,r,o,es,ep,qx _ h1,h2,h3,h4,h5,h6⟩
 refine⟨s1.heap.objs.size,[s1.heap.objs.size],_,_,_,rfl,I2,Wm d _ o kvs es ep h3,⟨_,qA _ rfl,rfl,rfl⟩,fun b hb=>?_,q o⟩
 have e:b=s1.heap.objs.size:=by simpa using hb
 subst e
 refine I1.fpOk (zC _) ?_
 rw[zo (qH (zn hd (I1.hok.fresh (zC _))))]
 exact I1.hok.fresh (zC _)
end
theorem zcI{d:Addr}{o:Obj}{kvs:List (Key×V)}{n:Nat}{g:TG}{tf:TT}{te:TE}{σ0:St}{R:List V->Hp->Prop}{H:Hp}(Pv:Nat->List V->Hp->Prop)(h0:Pv 0 [] H)
  (h1:∀i zs H,Pv i zs H->H d=some (.frz o (.dK kvs)))
  (hs:∀i k v zs H,kvs[i]? =some (k,v)->Pv i zs H->g (kV k) σ0 H fun σ4 H4=>σ4.drop n=σ0.drop n/\tf σ4 H4 fun b H5=>if b=true then te σ4 H5 fun v H6=>zs.length<sizeLine/\Pv (i+1) (zs++[v]) H6 else Pv (i+1) zs H5)
  (hd:∀zs H,Pv kvs.length zs H->zs.length<=sizeLine/\R zs H) :
  ∃W:Nat->Nat->List V->Hp->Prop,(∃m,W 0 m [] H)/\∀i m zs H2,W i m zs H2 ->
   ((zc6 d o kvs).stop i H2/\zs.length<=sizeLine/\R zs H2) \/
   ((zc6 d o kvs).go i H2/\∃M:List V->Hp->Prop,(∀zs H',M zs H'->∃m',m'<m/\W (i+1) m' zs H')/\∀x H3,(zc6 d o kvs).yld i H2 x H3->g x σ0 H3 fun σ4 H4=>σ4.drop n=σ0.drop n/\tf σ4 H4 fun b H5=>
    if b=true then te σ4 H5 fun y H6=>zs.length<sizeLine/\M (zs++[y]) H6 else M zs H5):=by
 refine⟨fun i m zs H2=>m=kvs.length-i/\i<=kvs.length/\Pv i zs H2,⟨_,rfl,qo _,h0⟩,?_⟩
 rintro i m zs H2 ⟨rfl,hi,p⟩
 by_cases hlt:i<kvs.length
 ·refine .inr ⟨⟨h1 i zs H2 p,hlt⟩,Pv (i+1),fun zs' H' p'=>⟨_,by omega,rfl,hlt,p'⟩,fun x H3 y=>?_⟩
  obtain⟨e,k,v,hk,rfl⟩:=y
  subst e
  exact hs i k v zs _ hk p
 ·have e:i=kvs.length:=by omega
  subst e
  obtain⟨z1,z2⟩:=hd zs H2 p
  exact .inl ⟨⟨h1 _ zs H2 p,zC _⟩,z1,z2⟩
section
variable{X:Cx}{tg:Expr}
def zgN(K:PySem.W.Frag)(tl:TE):TI:=fun σ H R=>tl σ H fun x H1=>∃a,x=.ref a/\(((∃xs,SqL K H1 a xs)/\R (Itl K a) H1)\/((∃xs,SqT K H1 a xs)/\R (Itt K a) H1))
theorem Wy{l:Expr}{tl:TE}(hl:PE X l tl):PI X tg l (zgN X.K tl):=by
 intro pins s σ H R I h
 refine thn (hl pins s σ H _ I h) fun v s1 ⟨x,H1,I1,r1,q1⟩=>?_
 obtain⟨a,e,q⟩:=q1
 subst e
 cases r1
 have fp:∀b∈[s1.heap.objs.size],_:=fun b hb=>by
  have e:b=s1.heap.objs.size:=by simpa using hb
  subst e
  exact I1.fpOk (zC _) (I1.hok.fresh (zC _))
 rcases q with ⟨⟨xs,hq⟩,q⟩ | ⟨⟨xs,hq⟩,q⟩
 ·obtain⟨its,rv,p,hz⟩:=I1.list hq
  refine wpAny_pyIter_list p.isList ⟨s1.heap.objs.size,[s1.heap.objs.size],_,_,H1,rfl,I1.kept (t':=s1.toks) fun b o e=>qx _ e,Jl a _,⟨_,qA _ rfl,rfl,rfl⟩,?_,q⟩
  exact fp
 ·obtain⟨its,rv,p,hz⟩:=I1.tuple hq
  refine wpAny_pyIter_tuple (show s1.heap.IsTuple a its.toArray from p) ⟨s1.heap.objs.size,[s1.heap.objs.size],_,_,H1,rfl,I1.kept (t':=s1.toks) fun b o e=>qx _ e,Qd a _,⟨_,qA _ rfl,rfl,rfl⟩,?_,q⟩
  exact fp
end
open Sem (wp)
theorem Xj:typeLookup (.type "list") "keys" = pure none:=by rw[typeLookup_type,builtinLookup_eq_fast];kernel_rfl
theorem Xk:typeLookup (.type "list") "__getattr__" = pure none:=by rw[typeLookup_type,builtinLookup_eq_fast];kernel_rfl
theorem Zf:isSubtype (.type "AttributeError") (.type "AttributeError")=pure true:=by rw[isSubtype_type];kernel_rfl
section
variable{prog:Program}{w:World}{A:Around}{E:Value->Shared->Prop}{s:Shared}
theorem Wt{α:Type}{M:Model}{o:Value}{name msg:Str}{Q:α->Shared->Prop}(hh:A.handled=none)(hm:msg.length<=sizeLine)
  (hq:∀h' t' e,(∀b p,s.heap.get? b=some p->h'.get? b=some p)->(∃ob,h'.get? e=some ob/\ob.cls=.type "AttributeError")->E (.ref e) { s with heap:=h',toks:=t' }) :
  wpAny M A (raiseAttrError o name msg:Sem α) Q E s:=by
 unfold raiseAttrError newExc newTuple
 refine zk (wpAny_mkStr (zk (zk (vg (zk (m:=firstArgMember _ _) (wpAny_of_eq (a:=Value.none) (by simp only[firstArgMember];rfl) (vg ?_)))))) hm)
 refine zk (wpAny_mkText (zk (show wpAny _ _ (noteAttr _ _ _) _ _ _ from ?_)))
 unfold noteAttr
 dsimp only
 unfold lacksNameAndObj
 refine zk (zk (ZM (T:= "AttributeError") ⟨_,qA _ rfl,rfl⟩ Zf ?_))
 refine zk (wpAny_load (qA _ rfl) ?_)
 refine zD ?_
 refine zk (vS (zk (wpAny_typeOf (T:= "AttributeError") ⟨_,qA _ rfl,rfl⟩ ?_)))
 refine wpAny_layMembers (qA _ rfl) rfl ?_
 unfold raiseNew;refine zk (wpAny_handled ?_);rw[hh];refine zk (zD (wpAny_throw ?_))
 refine hq _ _ _ (fun b p e=>?_) ⟨_,JW _ (qA _ rfl) (Obj.isFreed_of_fields (QZ rfl _)),Obj.cls_mapFields _ _⟩
 rw[WS _ _ (xE (jV (zL e) (by simp)))]
 exact qx _ (qx _ e)
end
section
variable{prog:Program}{w:World}{A:Around}{E:Value->Shared->Prop}{h:Heap}{g:Array GenState}{d:Drawn}{t:Nat}{os:OsState}{a:Addr}{n:Nat}{its:Array Value}
theorem ZX{tk:Tok}{Q:Fin->Shared->Prop}(hh:A.handled=none)(hx:h.get? a=some { cls:=.type "list",data:=.seq its n })
  (hq:∀h' t' e,(∀b p,h.get? b=some p->h'.get? b=some p)->(∃ob,h'.get? e=some ob/\ob.cls=.type "AttributeError")->E (.ref e) ⟨h',g,d,t',os⟩) :
  wpAny (model prog w) A (Builtin.«object.__getattribute__» ⟨[.ref a,.str "keys" tk],[]⟩) Q E ⟨h,g,d,t,os⟩:=by
 have hT:(⟨h,g,d,t,os⟩:Shared).TypeIs (.ref a) "list" :=⟨_,hx,rfl⟩
 have f4:=Xj
 repeat(any_goals (first| assumption | wp_step))
 refine Wt hh ?_ hq
 rw[sizeLine_eq]
 decide +kernel
theorem Qr{tk:Tok}{R:Result->Shared->Prop}(hh:A.handled=none)(hx:h.get? a=some { cls:=.type "list",data:=.seq its n })
  (hq:∀h' t' e,(∀b p,h.get? b=some p->h'.get? b=some p)->(∃ob,h'.get? e=some ob/\ob.cls=.type "AttributeError")->R (.error (.ref e)) ⟨h',g,d,t',os⟩) :
  codeAny (model prog w) A (.call (.builtin "list.__getattribute__") ⟨[.ref a,.str "keys" tk],[]⟩) R ⟨h,g,d,t,os⟩:=
 codeAny_call_builtin XX.plain F.entry_list_ga (XX.check _ _ _ _ _ _ _ _ (show(⟨h,g,d,t,os⟩:Shared).TypeIs (.ref a) "list" from ⟨_,hx,rfl⟩) (F.args_list_getattribute_2 _ _) (ZX hh hx hq))
theorem Xm{tk:Tok}{Q:Value->Shared->Prop}(hh:A.handled=none)(hx:h.get? a=some { cls:=.type "list",data:=.seq its n })
  (hq:∀h' t' e,(∀b p,h.get? b=some p->h'.get? b=some p)->(∃ob,h'.get? e=some ob/\ob.cls=.type "AttributeError")->E (.ref e) ⟨h',g,d,t',os⟩):wpAny (model prog w) A (getAttrBy (.ref a) (.str "keys" tk) false) Q E ⟨h,g,d,t,os⟩:=by
 have hT:(⟨h,g,d,t,os⟩:Shared).TypeIs (.ref a) "list" :=⟨_,hx,rfl⟩
 have f2:=XX.lookup
 have f3:=XX.bind (.ref a)
 repeat(any_goals (first| assumption | wp_step))
 refine Qr hh hx fun h' t' e k ⟨ob,ho,hc⟩=>?_
 dsimp only
 unfold getattributeRaised
 refine zk (ZM (T:= "AttributeError") ⟨_,ho,hc⟩ Zf ?_)
 rw[if_pos rfl]
 unfold hookBehind
 refine zk ?_
 rw[if_neg (by decide)]
 refine wpAny_of_eq Xk ?_
 unfold hookOrError attributeErrorLeaves
 dsimp only
 rw[if_pos (show(!false)=true from rfl)]
 first
  | exact wpAny_throw (hq h' t' e k ⟨ob,ho,hc⟩)
  | exact zk (wpAny_throw (hq h' t' e k ⟨ob,ho,hc⟩))
theorem Qs{Q:Option Value->Shared->Prop}(hh:A.handled=none)(hx:h.get? a=some { cls:=.type "list",data:=.seq its n })
  (hq:∀h' t',(∀b p,h.get? b=some p->h'.get? b=some p)->Q none ⟨h',g,d,t',os⟩):wpAny (model prog w) A (getAttr? (.ref a) "keys") Q E ⟨h,g,d,t,os⟩:=by
 unfold getAttr? getAttrBy?
 refine zk (wpAny_mkText (zk (yo (Xm hh hx fun h' t' e k ⟨ob,ho,hc⟩=>?_))))
 dsimp only
 refine zk (ZM (T:= "AttributeError") ⟨_,ho,hc⟩ Zf ?_)
 rw[if_pos rfl]
 exact zD (hq h' t' k)
end
end L2
namespace L2
open PySem PySem.Spec PyProof.Rows
theorem wV:entryFor table "dict.update.loop" = some Builtin.«dict.update.loop»:=entryFor_of_tree (by kernel_rfl)
theorem xu:plainId "dict.update.loop" = true:=by decide +kernel
theorem VL{K:Type}[DecidableEq K](kvs more:List (K×Value))(i:Nat)(kv:K×Value)(h:more[i]? =some kv):merged (stored kvs kv.1 kv.2) (more.drop (i+1))=merged kvs (more.drop i):=by
 obtain⟨h1,h2⟩:=zN.mp h
 rw[List.drop_eq_getElem_cons h1,h2]
 rfl
section
variable{prog:Program}{w:World}{K:Type}[DecidableEq K]{knd:KeyKind prog w K}{A:Around}{R:Result->Shared->Prop}{it l D:Addr}{items:Array Value}{pairs:List (K×Value)}{res:Value}
theorem zd5(hh:A.handled=none)(hil:l≠it)(hlD:l≠D)(hiD:it≠D)(hlen:pairs.length=items.size) :
  ∀(m:Nat) (s:Shared) (i:Nat) (kvs:List (K×Value)),items.size-i=m->i<=items.size->s.heap.IsListIter it l i->s.heap.IsList l items->s.heap.DictOf knd D kvs->kvs.length+m<=sizeLine ->
   (∀(j:Nat) (u:Value),items[j]? =some u->∃(T:Addr) (k:K) (key v:Value),u=.ref T/\T≠it/\T≠D/\IsTup s.heap T #[key,v]/\knd.is k key=true/\pairs[j]? =some (k,v)) ->
   (∀h' tk,h'.DictOf knd D (merged kvs (pairs.drop i))->(∀b o,b≠it->b≠D->s.heap.get? b=some o->h'.get? b=some o)->R (.ok (.ret res)) { s with heap:=h',toks:=tk }) ->
   codeAny (model prog w) A (.builtin "dict.update.loop" ⟨[.ref D,.ref it,.int i 0,res],[]⟩) R s:=by
 intro m
 induction m with
 | zero=>
  intro s i kvs hm hi ii il dd hz ht q
  have hend:items[i]? =none:=by simp;omega
  refine codeAny_builtin wV ?_
  rw[XS xu _]
  show wpAny _ A.in1 (pyNext (.ref it) >>= _) _ _ s
  refine zk (wpAny_pyNext_list_end hh ii il hend fun h' hx=>?_)
  show wpAny _ _ (Builtin.Dict.addKeywords D [] >>= _) _ _ _
  refine zk (zD (zD ?_))
  have e0:merged kvs (pairs.drop i)=kvs:=by rw[WR (by omega)];rfl
  have:=q h' s.toks (by rw[e0];exact dd.extBut hx (qH hiD)) (fun b o hb _ e=>?_)
  ·exact this
  ·exact hx b o hb e
 | succ m ih=>
  intro s i kvs hm hi ii il dd hz ht q
  have hlt:i<items.size:=by omega
  obtain⟨u,hu⟩:∃u,items[i]? =some u:=⟨_,ZO hlt⟩
  obtain⟨T,k,key,v,rfl,nT,nD,tT,kk,ep⟩:=ht i u hu
  refine codeAny_builtin wV ?_
  rw[XS xu _]
  show wpAny _ A.in1 (pyNext (.ref it) >>= _) _ _ s
  refine zk (wpAny_pyNext_list_item ii il hu fun h1 i1 s1=>?_)
  dsimp only
  refine zk (vb (zk ?_))
  obtain⟨oT,eT,cT,nn,dT⟩:=tT
  have k1:∀b o,b≠it->s.heap.get? b=some o->h1.get? b=some o:=fun b o hb e=>(s1.2 b hb).trans e
  have hT1:({ s with heap:=h1 }:Shared).TypeIs (.ref T) "tuple" :=⟨_,k1 _ _ nT eT,cT⟩
  show wpAny _ _ (tryCatch (Builtin.Dict.pairItems (.ref T)) _) _ _ _
  refine wpAny_tryCatch ?_
  unfold Builtin.Dict.pairItems
  refine zk (wpAny_typeOf hT1 ?_)
  rw[if_pos (show(Value.type "tuple" == Value.type "list" || Value.type "tuple" == Value.type "tuple")=true by decide)]
  refine zk (yS (k1 _ _ nT eT) dT (zD ?_))
  show wpAny _ _ (holding [key,v] (dictSet D key v)) _ _ _
  refine vb (wpAny_dictSet_pairs kk (dd.sameBut s1 (qH hiD)) (hsz:=by omega) fun h2 d2 s2=>?_)
  refine zD ⟨plainId_quiet xu _,?_⟩
  have k2:∀b o,b≠it->b≠D->s.heap.get? b=some o->h2.get? b=some o:=fun b o hb hb' e=>(s2.2 b hb').trans (k1 b o hb e)
  have lst:(stored kvs k v).length<=kvs.length+1:=stored_length_le kvs k v
  have:=ih { s with heap:=h2,toks:=s.toks+1 } (i+1) (stored kvs k v) (by omega) hlt (i1.at fun o e=>(s2.2 it hiD).trans e) (il.at fun o e=>k2 l o hil hlD e) d2 (by omega)
   (fun j u hj=>by
    obtain⟨T',k',key',v',z1,z2,z3,z4,z5,z6⟩:=ht j u hj
    obtain⟨o',e',r'⟩:=z4
    exact⟨T',k',key',v',z1,z2,z3,⟨o',k2 _ _ z2 z3 e',r'⟩,z5,z6⟩)
   (fun h' tk d' kp=>q h' tk (by rw[<- VL kvs pairs i (k,v) ep];exact d') fun b o hb hb' e=>kp b o hb hb' (k2 b o hb hb' e))
  exact this
end
def zfE:Obj:={ cls:=.type "dict",data:=.dict #[] }
theorem Ja:(Value.type "list" != Value.type "dict")=true:=by decide
section
variable{prog:Program}{w:World}{K:Type}[DecidableEq K]{knd:KeyKind prog w K}{A:Around}{E:Value->Shared->Prop}{s:Shared}
theorem ZZ{l:Addr}{items:Array Value}{n:Nat}{pairs:List (K×Value)}{Q:Value->Shared->Prop}(hh:A.handled=none)(hl:s.heap.get? l=some { cls:=.type "list",data:=.seq items n })(hlen:pairs.length=items.size)(hsz:items.size<=sizeLine)
  (ht:∀(j:Nat) (u:Value),items[j]? =some u->∃(T:Addr) (k:K) (key v:Value),u=.ref T/\IsTup s.heap T #[key,v]/\knd.is k key=true/\pairs[j]? =some (k,v))
  (h:∀h' tk,h'.DictOf knd s.heap.objs.size (merged [] pairs)->(∀b o,s.heap.get? b=some o->h'.get? b=some o)->Q (.ref s.heap.objs.size) { s with heap:=h',toks:=tk }) :
  wpAny (model prog w) A (call (.type "dict") [.ref l]) Q E s:=by
 have dk:(s.heap.push zfE).DictOf knd s.heap.objs.size []:=.new s.heap
 have hl':=qx zfE hl
 refine callType_codes (Q₁:=fun u s1=>u=.ref s.heap.objs.size/\s1={ s with heap:=s.heap.push zfE }) F.kt_called_dict (F.kt_typeCall_dict_1 _) F.entry_dict_init (kt_code_dict_new _ ⟨rfl,rfl⟩) fun u s1 e=>?_
 obtain⟨eu,es⟩:=e
 subst eu es
 refine⟨dk.typeIs,F.args_dict_init_2 _ _,?_⟩
 show wpAny _ _ (Builtin.Dict.selfAndRest _ _ >>= fun x=>Builtin.Dict.updateCommon _ _ x.1 x.2 _) _ _ _
 refine zk (zk (wpAny_notOrdered_dict dk.typeIs ?_))
 refine zD (show wpAny _ _ (Builtin.Dict.updateFrom "dict.__init__" s.heap.objs.size (.ref l) [] .none) _ _ _ from ?_)
 refine zk (wpAny_typeOf (T:= "list") ⟨_,hl',rfl⟩ ?_)
 rw[if_pos Ja]
 refine zk (Qs hh hl' fun h1 t1 k1=>?_)
 rw[if_pos (show(none:Option Value).isNone=true from rfl)]
 refine zk (vS (zk (wpAny_pyIter_list ⟨_,k1 _ _ hl',rfl,n,rfl⟩ ?_)))
 have dD:=dk.keep k1
 have ltl:=zL hl
 obtain⟨oD,_,_,eD,_⟩:=id dD
 have ltD:=zL eD
 have kk:∀b o,s.heap.get? b=some o->(h1.push { cls:=.type "list_iterator",data:=.fields #[.ref l,.int 0 0] }).get? b=some o:=fun b o e=>qx _ (k1 _ _ (qx _ e))
 have lt1:∀b o,s.heap.get? b=some o->b<h1.objs.size:=fun b o e=>zL (k1 _ _ (qx _ e))
 refine zD ⟨plainId_quiet xu _,?_⟩
 refine zd5 (knd:=knd) (s:=⟨h1.push { cls:=.type "list_iterator",data:=.fields #[.ref l,.int 0 0] },s.gens,s.drawn,t1,s.os⟩) (l:=l) (it:=h1.objs.size) (D:=s.heap.objs.size) (items:=items) (pairs:=pairs) (A:=A.in1) (res:=.none) hh (qw (lt1 _ _ hl)) (qw ltl) (xE ltD) hlen items.size 0 [] rfl (qo _) ⟨_,qA _ rfl,rfl,rfl⟩ ⟨_,kk _ _ hl,rfl,n,rfl⟩ (dD.push _) (by simpa using hsz) (fun j u hj=>?_) (fun h' tk d' kp=>?_)
 ·obtain⟨T,k,key,v,rfl,⟨o,e,r⟩,z,y⟩:=ht j u hj
  exact⟨T,k,key,v,rfl,qw (lt1 _ _ e),qw (zL e),⟨o,kk _ _ e,r⟩,z,y⟩
 ·exact⟨rfl,h h' tk (by simpa using d') fun b o e=>kp b o (qw (lt1 _ _ e)) (qw (zL e)) (kk _ _ e)⟩
end
def PrsL(H:Hp)(xs:List V)(kps:List (Key×V)):Prop:=xs.length=kps.length/\∀(j:Nat) (x:V),xs[j]? =some x->∃(T:Addr) (k:Key) (v:V),x=.ref T/\H T=some (.tup [kV k,v])/\kps[j]? =some (k,v)
theorem PrsL.nil{H:Hp}:PrsL H [] []:=⟨rfl,fun j x e=>by simp at e⟩
theorem PrsL.same{H H':Hp}{xs:List V}{kps:List (Key×V)}(h:PrsL H xs kps)(s:Same H H'):PrsL H' xs kps:=⟨h.1,fun j x e=>let ⟨T,k,v,a,b,c⟩:=h.2 j x e;⟨T,k,v,a,s _ _ b,c⟩⟩
theorem PrsL.snoc{H:Hp}{xs:List V}{kps:List (Key×V)}{T:Addr}{k:Key}{v:V}(h:PrsL H xs kps)(e:H T=some (.tup [kV k,v])):PrsL H (xs++[.ref T]) (kps++[(k,v)]):=by
 refine⟨by rw[qJ,qJ,h.1];rfl,fun j x ex=>?_⟩
 have l:=h.1
 by_cases hj:j<xs.length
 ·rw[vW hj] at ex
  obtain⟨T',k',v',a,b,c⟩:=h.2 j x ex
  exact⟨T',k',v',a,b,by rw[vW (by omega)];exact c⟩
 ·rw[vF (by omega)] at ex
  have:j=xs.length:=by
   have:=(zN.mp ex).1
   simp at this;omega
  subst this
  simp at ex
  subst ex
  exact⟨T,k,v,rfl,e,by rw[l,vF (zC _)];simp⟩
theorem zeI:∀{kps:List (Key×V)} {ps:List (Key×Value)},kps.length=ps.length->(∀(j:Nat) p,ps[j]? =some p->∃q,kps[j]? =some q/\q.1=p.1/\RelV q.2 p.2)->KV kps ps
 | [],[],_,_=>.nil
 | [],_::_,h,_=>by simp at h
 | _::_,[],h,_=>by simp at h
 | x::xs,u::us,h,f=>by
  refine .cons ?_ (zeI (by simpa using h) fun j v e=>?_)
  ·obtain⟨y,e1,r⟩:=f 0 u rfl
   cases e1
   exact r
  ·obtain⟨y,e1,r⟩:=f (j+1) v (by simpa using e)
   exact⟨y,by simpa using e1,r⟩
theorem ZI{α β:Type}:∀(P:Nat->α->β->Prop) (l:List α),(∀j u,l[j]? =some u->∃b,P j u b)->∃bs:List β,bs.length=l.length/\∀j u,l[j]? =some u->∃b,bs[j]? =some b/\P j u b
 | _,[],_=>⟨[],rfl,fun j u e=>by simp at e⟩
 | P,x::l,f=>by
  obtain⟨b,hb⟩:=f 0 x rfl
  obtain⟨bs,h1,h2⟩:=ZI (fun j=>P (j+1)) l fun j u e=>f (j+1) u (by simpa using e)
  refine⟨b::bs,by simp[h1],fun j u e=>?_⟩
  cases j with
  | zero=>simp at e;subst e;exact⟨b,rfl,hb⟩
  | succ j=>
   obtain⟨c,h3,h4⟩:=h2 j u (by simpa using e)
   exact⟨c,by simpa using h3,h4⟩
theorem Vals.at:∀{xs:List V} {us:List Value} {i:Nat} {u:Value},Vals xs us->us[i]? =some u->∃x,xs[i]? =some x/\RelV x u:=fun {xs us i u} r e=>by
 have l:=Vals.length r
 have h:=(zN.mp e).1
 obtain⟨v,e1,r1⟩:=r.get (i:=i) (x:=xs[i]'(by omega)) (jj _)
 rw[e] at e1
 cases e1
 exact⟨_,jj _,r1⟩
section
variable{X:Cx}
inductive Zc(xs:List V)(H:Hp)(Q:VK):Prop
 | mk (a:Addr) (ys:List V) (kps:List (Key×V)) (_:xs=[.ref a]) (_:H a=some (.lst ys)) (_:PrsL H ys kps) (_:∀p,H p=none->Q (.ref p) (upd H p (.dK (j3 [] kps)))):Zc xs H Q
theorem WN(hh:X.A.handled=none):jF X (.type "dict") (Zc):=by
 intro pins s σ H xs us Q I r h
 obtain⟨a,ys,kps,rfl,hx,pr,q⟩:=h
 obtain⟨u,rfl,ru⟩:=Vals.one r
 cases(show u=Value.ref a from ru)
 obtain⟨zz,its,n,rel,hl⟩:=(show ObjOk X.prog X.w H s.heap a (.lst ys) from I.hok a _ hx)
 have ln:=rel.length
 have kn:=pr.1
 have at_:∀(j:Nat) (u:Value),its[j]? =some u->∃(T:Addr) (k:Key) (key v:Value) (y:V),u=.ref T/\IsTup s.heap T #[key,v]/\(zV X.prog X.w).is k key=true/\kps[j]? =some (k,y)/\RelV y v:=fun j u hj=>by
  obtain⟨x,ex,rx⟩:=Vals.at rel hj
  obtain⟨T,k,v,rfl,eT,ek⟩:=pr.2 j x ex
  cases(show u=Value.ref T from rx)
  obtain⟨_,ts,rt,it,_⟩:=(show ObjOk X.prog X.w H s.heap T (.tup [kV k,v]) from I.hok T _ eT)
  obtain⟨u1,u2,rfl,r1,r2⟩:=Vals.two rt
  exact⟨T,k,u1,u2,v,rfl,it,wT r1,ek,r2⟩
 obtain⟨ps,lp,hp⟩:=ZI (fun j u (p:Key×Value)=>∃(T:Addr) (key:Value) (y:V),u=.ref T/\IsTup s.heap T #[key,p.2]/\(zV X.prog X.w).is p.1 key=true/\kps[j]? =some (p.1,y)/\RelV y p.2) its fun j u e=>by
  obtain⟨T,k,key,v,y,a,b,c,d,f⟩:=at_ j u e
  exact⟨(k,v),T,key,y,a,b,c,d,f⟩
 have kv:KV kps ps:=zeI (by omega) fun j p e=>by
  have hj:=(zN.mp e).1
  obtain⟨b,e1,T,key,y,_,_,_,e2,r2⟩:=hp j _ (jj (by omega))
  rw[e] at e1
  cases e1
  exact⟨_,e2,rfl,r2⟩
 have mg:(j3 [] kps).length<=sizeLine:=by
  have:=xv kps []
  rw[Zv] at this
  omega
 have hn:H s.heap.objs.size=none:=I.hok.fresh (zC _)
 refine ZZ (knd:=zV X.prog X.w) (pairs:=ps) (items:=its.toArray) hh hl (by simp[lp]) (by simp;omega) (fun j u e=>?_) fun h' tk d' kp=>?_
 ·rw[List.getElem?_toArray] at e
  obtain⟨p,e1,T,key,y,a,b,c,d,f⟩:=hp j u e
  exact⟨T,p.1,key,p.2,a,b,c,e1⟩
 ·have ns:(s.heap.objs.size==sysModules)=false:=beq_eq_false_iff_ne.mpr (xE I.big)
  exact⟨.ref s.heap.objs.size,_,I.laid (a:=s.heap.objs.size) (o:=.dK (j3 [] kps)) (t':=tk) kp (zC _) (QC mg ns (KV.merge kv .nil) d'),rfl,q _ hn⟩
theorem zdt{K:PySem.W.Frag}(h:X.K=K){tg l:Expr}{tl:TE}(hl:PE X l tl):PI X tg l (zgN K tl):=by rw[<- h];exact Wy hl
end
section
variable{X:Cx}{elt tg iter:Expr}{ifs:List Expr}{scope:Scope}{pos:Pos}{wi:TI}{g:TG}{tf:TT}{te:TE}{x:Str}
theorem ze5{yt:Str}{py spos:Pos}{g2:TG}(fr:List Str)(js:List Nat)(hc:X.calm=true)(hk:scope.kind=.function)(hb:XB scope.names X.env.scope.names X.N x fr js=true)(hi:PI X tg iter wi)
  (hg:∀C s H ex,PG (jU X ([x]++fr) scope x C s H ex) tg g) (hf:∀C s H ex,PF (jU X ([x]++fr) scope x C s H ex) ifs tf) (he:∀C s H ex,PE (jU X ([x]++fr) scope x C s H ex) elt te)
  (hg2:PG X (.Name yt py) g2) (hsw:swapsWith (.ListComp elt [⟨tg,iter,ifs,0⟩] scope pos) (some (.Name yt py)) spos.line X.env=pure true:=by rfl)
  (hs:∀x,foldedSetIterable iter X.env x=pure x:=by intro _;rfl):PS X (.Assign [.Name yt py] (.ListComp elt [⟨tg,iter,ifs,0⟩] scope pos) spos) (J6 (tLC wi 1 js g tf te) g2):=by
 intro pins s σ H Dn I h
 have B:=JQ hb
 have hasF:∀y∈scope.names,y.2=NameKind.free->∃c,X.env.cells.lookup y.1=some c:=fun y hy e=>I.ok.has y.1 (B.free y hy e)
 rw[exec_Assign_Name_used _ _ _ _ hsw]
 refine zk (yR (zk ?_))
 show wpAny _ X.A (do let _<-comprehension (.ListComp elt [⟨tg,iter,ifs,0⟩] scope pos) scope X.env _ (newList []) false (eval iter X.env) (some (assign (.Name yt py) X.env))) _ _ s
 refine zk (jI (wpAny_comprehension_free (use:=some (assign (.Name yt py) X.env)) (Q:=fun _ s'=>∃σ' H',Inv X pins σ' H' s'/\Dn.nx σ' H') rfl hs (Xz hasF) hk (fun y hy e=>B.loc y hy e) (thn (hi pins s σ H _ I h) fun v s1 h1=>thn h1 fun itv s2 h2=>?_)) (fun _ s' hq=>zD (zD hq)) fun _ _ e=>e)
 obtain⟨it,fp,tn,J,H2,e,I2,T,st2,f2,W,⟨m0,w0⟩,turn⟩:=h2
 subst e
 have fl:∀b∈fp,b<s2.heap.objs.size:=fun b hb=>let ⟨o,e,_⟩:=T.obj _ _ st2 b hb;zL e
 refine vg (WA B.one ?_)
 dsimp only
 generalize e3:s2.heap.push { cls:=.type "list",dict:=none,data:=.seq ([]:List Value).toArray }=h3
 have hns:((h3.push { cls:=.type "dict",data:=.dict #[] }).push { cls:=.type "cell",data:=.cell none }).Ns h3.objs.size (fun _=>none):=(Heap.Ns.new h3 (.type "dict")).keeps fun b o e=>qx _ e
 have hcell:((h3.push { cls:=.type "dict",data:=.dict #[] }).push { cls:=.type "cell",data:=.cell none }).IsCell (h3.objs.size+1) none:=⟨_,by have:=qA (h3.push { cls:=.type "dict",data:=.dict #[] }) (o:={ cls:=.type "cell",data:=.cell none }) rfl;rwa[j4] at this,rfl⟩
 have k4:∀b o,h3.get? b=some o->((h3.push { cls:=.type "dict",data:=.dict #[] }).push { cls:=.type "cell",data:=.cell none }).get? b=some o:=fun b o e=>qx _ (qx _ e)
 generalize (h3.push { cls:=.type "dict",data:=.dict #[] }).push { cls:=.type "cell",data:=.cell none }=h1 at hns hcell k4
 have k3:∀b o,s2.heap.get? b=some o->h3.get? b=some o:=fun b o e=>by rw[<- e3];exact qx _ e
 have I4:Inv (jU X ([x]++fr) scope x h3.objs.size { s2 with heap:=h3 } H2 (s2.heap.objs.size::fp)) [] (upS 1 js σ) H2 { s2 with heap:=h1 }:=
  WO fr js I2 B hk f2 fl rfl e3.symm rfl hns hcell k4
 have I3:Inv X pins σ H2 { s2 with heap:=h3 }:=I2.kept (t':=s2.toks) k3
 have hz:h3.objs.size=s2.heap.objs.size+1:=by rw[<- e3,j4]
 have hDl:s2.heap.objs.size≠h3.objs.size:=by rw[hz];exact qw (yV _)
 have hacc:h1.get? s2.heap.objs.size=some { cls:=.type "list",data:=.seq ([]:List Value).toArray }:=k4 _ _ (by rw[<- e3];exact qA _ rfl)
 have fpC:=(I3.fpOk (b:=h3.objs.size) (zC _) (I3.hok.fresh (zC _))).2
 generalize eD:s2.heap.objs.size=D at *
 generalize eC:h3.objs.size=C at *
 have fD:∀b∈fp,D≠b:=fun b hb=>xE (fl b hb)
 have look:∀y c,((x,C+1)::jg X.env.cells scope.names []).lookup y=some c->c=C+1\/X.env.cells.lookup y=some c:=fun y c e=>by
  rw[jK] at e
  by_cases q:(y==x)=true
  ·rw[q] at e
   exact .inl (jJ e).symm
  ·rw[(ZL _).mp q] at e
   exact .inr (zZ e hasF)
 have hx:∀y c,((x,C+1)::jg X.env.cells scope.names []).lookup y=some c->c≠D:=fun y c e=>by
  rcases look y c e with z | z
  ·rw[z,hz];exact xE (wv (yV _))
  ·obtain⟨v,q⟩:=I2.cell y c z
   rw[<- eD];exact qw q.lt
 have hx2:∀b∈fp,∀y c,((x,C+1)::jg X.env.cells scope.names []).lookup y=some c->c≠b:=fun b hb y c e=>by
  rcases look y c e with z | z
  ·rw[z,hz];exact xE (wv (wv (fl b hb)))
  ·exact(f2 b hb).2.2.2.2.1 y c z
 have nfs:∀b∈D::fp,b∉frs X.stack:=I4.ok.exfs
 have fpB:∀{pins':List (Addr×Obj)} {H':Hp} {b:Addr},b∈fp->H' b=none->(∀p∈pins',p.1≠b)->xt (jU X ([x]++fr) scope x C { s2 with heap:=h3 } H2 (D::fp)) pins' H' b:=fun {pins' H' b} hb hn hp=>
  ⟨hn,(I4.ok.exf b (jE _ hb)).1,nfs b (jE _ hb),.inl (jE _ hb),fun x c e=>hx2 b hb x c e,fun p h=>hp p (by simpa using h)⟩
 have fpD:∀{pins':List (Addr×Obj)} {H':Hp},H' D=none->(∀p∈pins',p.1≠D)->xt (jU X ([x]++fr) scope x C { s2 with heap:=h3 } H2 (D::fp)) pins' H' D:=fun {pins' H'} hn hp=>
  ⟨hn,hDl,nfs D jD,.inl jD,fun x c e=>hx x c e,fun p h=>hp p (by simpa using h)⟩
 have loop:∀s4:Shared,s4={ s2 with heap:=h1 } ->
   codeAny (model X.prog X.w) X.A (.compLoop (.ListComp elt [⟨tg,iter,ifs,0⟩] scope pos) 0 (.ref it) (.ref D) (compEnvC scope ((x,C+1)::jg X.env.cells scope.names []) C X.env))
    (compPost (model X.prog X.w) X.A X.xe (some (assign (.Name yt py) X.env)) (fun _ s'=>∃σ' H',Inv X pins σ' H' s'/\Dn.nx σ' H') (.ref D) C) s4:=by
  intro s4 e4
  refine Wd (fun n s'=>∃i ys its H',∃z:Nat,Inv (jU X ([x]++fr) scope x C { s2 with heap:=h3 } H2 (D::fp)) [] (upS 1 js σ) H' s'/\tn i s'.heap/\(∀b∈fp,H' b=none)/\H' D=none /\
   s'.heap.get? D=some { cls:=.type "list",data:=.seq (its:List Value).toArray z }/\Vals ys its/\W i n ys H') ?_ m0 ?_
  ·rintro n s5 ⟨i,ys,its,H5,z5,I5,st5,fr5,hD5,ho5,rv5,w5⟩
   have I5':=I5.pinned (fp:=[D]) (fun b hb=>by rw[qR.mp hb];exact fpD hD5 (fun p hp=>absurd hp (by simp))) (fun b hb=>by
    rw[qR.mp hb];exact⟨_,ho5,fun v q=>nomatch q⟩)
   have pD:∀p∈[]++qC [D] s5.heap,p.1=D:=fun p hp=>by
    rw[ZK] at hp
    exact qR.mp (wK hp).1
   have mD:(D,({ cls:=.type "list",data:=.seq its.toArray z5 }:Obj))∈[]++qC [D] s5.heap:=by
    rw[ZK];exact jw (qR.mpr rfl) ho5
   have fp5:∀{H':Hp},(∀b∈fp,H' b=none)->∀b∈fp,xt (jU X ([x]++fr) scope x C { s2 with heap:=h3 } H2 (D::fp)) ([]++qC [D] s5.heap) H' b:=fun hn b hb=>fpB hb (hn b hb) fun p hp=>by
    rw[pD p hp];exact fD b hb
   rcases turn i n ys H5 w5 with ⟨stop,hlen,q⟩ | ⟨go,N,hN,step⟩
   ·refine thn (T.done (jU X ([x]++fr) scope x C { s2 with heap:=h3 } H2 (D::fp)) rfl rfl rfl hc i _ s5 _ H5 _ I5' (fp5 fr5) st5 stop) fun r s6 ⟨hr,I6⟩=>?_
    subst hr
    obtain⟨m6,hn6,_⟩:=I6.loc
    obtain⟨o6,nD6,_⟩:=I6.pin (D,_) (qX _ mD)
    have k7:∀b o,b≠C->s6.heap.get? b=some o->s6.heap.get? b=some o:=fun b o _ e=>e
    have J0:Inv X pins σ (upd H5 D (.lst ys)) s6:=by
     refine I3.call' (s':=s6) (ch:=D::fp) I6.os (Qb (Wi I6.base (wX eC) k7) jD (I2.hok.fresh ?_)) (Zk (Xp I6.hok I6.free k7) nD6 ⟨hlen,its,z5,rv5,k7 D _ hDl o6⟩) I6.bare fun b hb=>?_
     ·rw[<- eD];exact zC _
     ·rcases qq.mp hb with y | hb
      ·subst y
       refine⟨.inr (by rw[<- eD];exact I2.sz),by rw[<- eD];exact xE I2.lt,fun x c e=>?_,fun p hp=>?_⟩
       ·obtain⟨v,q⟩:=I2.cell x c e
        rw[<- eD];exact qw q.lt
       ·rw[<- eD];exact qw (zL (I2.pin p hp).1)
      ·obtain⟨_,g1,_,g3,g4,g5⟩:=f2 b hb
       exact⟨g3,g1,g4,g5⟩
    obtain⟨oC,eoC,dC⟩:∃o,s6.heap.get? C=some o/\∀v,o.data≠.cell v:=by
     obtain⟨o,es,ep,ho,hd,_⟩:=hn6
     exact⟨o,ho,fun v z=>by rw[hd] at z;cases z⟩
    have hC0:(upd H5 D (.lst ys)) C=none:=by
     rw[zo (qH hDl)];exact I6.free
    have J1:=J0.pinned (fp:=[C]) (fun b hb=>by rw[qR.mp hb];exact⟨hC0,fpC⟩) (fun b hb=>by rw[qR.mp hb];exact⟨oC,eoC,dC⟩)
    have mC:(C,oC)∈pins++qC [C] s6.heap:=qX _ (jw (qR.mpr rfl) eoC)
    refine thn (hg2 _ s6 σ _ (.ref D) (.ref D) _ J1 rfl (q D nD6)) fun _ s8 ⟨σ8,H8,I8,q8⟩=>?_
    obtain⟨e8,n8,_⟩:=I8.pin (C,oC) (qX _ mC)
    refine⟨m6,?_,fun h9 hs9=>⟨σ8,H8,?_,q8⟩⟩
    ·obtain⟨o,es,ep,ho,r⟩:=hn6
     have ho':s6.heap.get? C=some o:=ho
     rw[eoC] at ho';cases ho'
     exact⟨oC,es,ep,e8,r⟩
    ·obtain⟨g1,_,g3,g4,g5⟩:=fpC
     exact(I8.unpinned).turned (t':=s8.toks) (it:=C) (fun b o hb e=>hs9.extBut b o hb e) n8 g1 g3 g4 g5
   ·refine thn (T.item (jU X ([x]++fr) scope x C { s2 with heap:=h3 } H2 (D::fp)) rfl rfl rfl hc i _ s5 _ H5 _ I5' (fp5 fr5) st5 go) fun r s6 ⟨u,hr,h6⟩=>?_
    subst hr
    refine thn h6 fun _ s7 ⟨x7,H7,I7,r7,y7,st7,fr7⟩=>?_
    have I7':=I7.pinned (fp5 fr7) (T.obj _ _ st7)
    refine thn (hg _ _ _ _ _ s7 _ H7 x7 u _ I7' r7 (step x7 H7 y7)) fun _ s8 ⟨σ8,H8,I8,hd8,q8⟩=>?_
    refine thn (hf _ _ _ _ _ s8 σ8 H8 _ I8 q8) fun ok s9 ⟨H9,I9,q9⟩=>?_
    have weak:∀{H':Hp} {s':Shared},Inv (jU X ([x]++fr) scope x C { s2 with heap:=h3 } H2 (D::fp)) (([]++qC [D] s5.heap)++qC fp s7.heap) σ8 H' s' ->
      Inv (jU X ([x]++fr) scope x C { s2 with heap:=h3 } H2 (D::fp)) [] (upS 1 js σ) H' s':=fun {H' s'} J=>by
     refine(J.unpinned).unpinned.weak (I5.len.trans J.len.symm) fun k v e=>?_
     obtain⟨hn,e1,_⟩:=vq e
     rw[<- hd8,XJ] at e1
     rw[<- e1]
     congr 1
     omega
    have mF:∀b∈fp,∀o,s7.heap.get? b=some o->(b,o)∈([]++qC [D] s5.heap)++qC fp s7.heap:=fun b hb o e=>qX _ (jw hb e)
    have mD':=xc (qC fp s7.heap) mD
    have frB:∀{H':Hp} {s':Shared},Inv (jU X ([x]++fr) scope x C { s2 with heap:=h3 } H2 (D::fp)) (([]++qC [D] s5.heap)++qC fp s7.heap) σ8 H' s'->∀b∈fp,H' b=none:=fun {H' s'} J b hb=>by
     obtain⟨o,e,_⟩:=T.obj _ _ st7 b hb
     exact(J.pin (b,o) (qX _ (mF b hb o e))).2.1
    cases ok with
    | false=>
     have q9':N ys H9:=by simpa using q9
     obtain⟨m',hm,w'⟩:=hN _ _ q9'
     obtain⟨o9,nD9,_⟩:=I9.pin (D,_) (qX _ mD')
     exact⟨m',hm,i+1,ys,its,H9,z5,weak I9,T.keep _ _ _ st7 fun b hb o e=>(I9.pin (b,o) (qX _ (mF b hb o e))).1,frB I9,nD9,o9,rv5,w'⟩
    | true=>
     have q9':te σ8 H9 fun y H6=>ys.length<sizeLine/\N (ys++[y]) H6:=by simpa using q9
     refine thn (he _ _ _ _ _ s9 σ8 H9 _ I9 q9') fun yv s10 ⟨y,H10,I10,r10,hlt,w10⟩=>?_
     obtain⟨m',hm,w'⟩:=hN _ _ w10
     obtain⟨o10,nD10,_⟩:=I10.pin (D,_) (qX _ mD')
     refine wpAny_list_append_plain (l:=D) (items:=its.toArray) (hsz:=by rw[qk,<- rv5.length];exact Nat.le_of_lt hlt) ⟨_,o10⟩ fun h11 hl11 hs11=>?_
     obtain⟨z11,e11⟩:=hl11
     refine⟨m',hm,i+1,ys++[y],its++[yv],H10,z11,?_,T.keep _ _ _ st7 fun b hb o e=>hs11.extBut b o (qH (fD b hb)) (I10.pin (b,o) (qX _ (mF b hb o e))).1,frB I10,nD10,?_,rv5.append (.cons r10 .nil),w'⟩
     ·exact(weak I10).turned (t':=s10.toks) (it:=D) (fun b o hb e=>hs11.extBut b o hb e) nD10 hDl (.inl jD) (fun x c e=>hx x c e) fun p hp=>absurd (show p∈([]:List (Addr×Obj)) from hp) (by simp)
     ·rw[e11];simp
  ·subst e4
   exact⟨0,[],[],H2,0,I4,T.keep _ _ _ st2 fun b hb o e=>k4 b o (k3 b o e),fun b hb=>(f2 b hb).1,I2.hok.fresh (by rw[<- eD];exact zC _),hacc,.nil,w0⟩
 exact codeAny_compStart_list (loop _ rfl) (T.self X.A 0 _ _ _ (T.keep _ _ _ st2 fun b hb o e=>k4 b o (k3 b o e)) (loop _ rfl))
theorem ze4{px:Pos}{yt:Str}{py spos:Pos}{g2:TG}(fr:List Str)(js:List Nat)(hc:X.calm=true)(hk:scope.kind=.function)(hb:XB scope.names X.env.scope.names X.N x fr js=true)(hi:PI X (.Name x px) iter wi)
  (hf:∀C s H ex,PF (jU X ([x]++fr) scope x C s H ex) ifs tf) (he:∀C s H ex,PE (jU X ([x]++fr) scope x C s H ex) elt te)
  (hg2:PG X (.Name yt py) g2) (hsw:swapsWith (.ListComp elt [⟨.Name x px,iter,ifs,0⟩] scope pos) (some (.Name yt py)) spos.line X.env=pure true:=by rfl)
  (hs:∀x,foldedSetIterable iter X.env x=pure x:=by intro _;rfl):PS X (.Assign [.Name yt py] (.ListComp elt [⟨.Name x px,iter,ifs,0⟩] scope pos) spos) (J6 (tLC wi 1 js (xY 0) tf te) g2):=by
 have B:=JQ hb
 refine ze5 fr js hc hk hb hi (fun C s H ex=>?_) hf he hg2 hsw hs
 have lk:(compEnvC scope ((x,C+1)::jg X.env.cells scope.names []) C X.env).scope.names.lookup x=some .cell:=yh B.lk
 exact zr (X:=jU X ([x]++fr) scope x C s H ex) B.nd rfl (.inr lk) (.inl (by show(x==x)=true;simp))
variable{y:Str}{px py tp:Pos}{kk:Nat}
theorem zdv{K:PySem.W.Frag}(hK:X.K=K)(fr:List Str)(js:List Nat)(hc:X.calm=true)(hk:scope.kind=.function)(hb:wq scope.names X.env.scope.names X.N [x,y] fr js=true)(hi:PI X (.Tuple [.Name x px,.Name y py] kk tp) iter wi)
  (hf:∀C s H ex,PF (qi X ([x,y]++fr) scope C s H ex) ifs tf) (he:∀C s H ex,PE (qi X ([x,y]++fr) scope C s H ex) elt te)
  (hs:∀x,foldedSetIterable iter X.env x=pure x:=by intro _;rfl):PE X (.ListComp elt [⟨.Tuple [.Name x px,.Name y py] kk tp,iter,ifs,0⟩] scope pos) (tLC wi 2 js (za6 K 2 (wU (xY 0) (wU (xY 1) zcQ))) tf te):=by
 subst hK
 exact wa fr js hc hk hb hi hf he hs
end
def Up(xs:Array Nat):Prop:=xs.toList.Pairwise (·< ·)
theorem Up.lt{xs:Array Nat}(h:Up xs){i j:Nat}{a b:Nat}(hi:xs[i]? =some a)(hj:xs[j]? =some b)(hij:i<j):a<b:=by
 have h1:=XY.mp hi
 have h2:=XY.mp hj
 obtain⟨l1,e1⟩:=h1
 obtain⟨l2,e2⟩:=h2
 have:=List.pairwise_iff_getElem.mp h i j (by simpa using l1) (by simpa using l2) hij
 simpa [e1,e2] using this
theorem QH(xs:Array Nat)(j:Nat):∀(fuel lo hi:Nat),hi-lo<=fuel->lo<=hi->hi<=xs.size->Up xs->(∀i a,i<lo->xs[i]? =some a->a<j)->(∀i a,hi<=i->xs[i]? =some a->j<=a) ->
  SetTable.below.go xs j fuel lo hi<=xs.size/\(∀i a,i<SetTable.below.go xs j fuel lo hi->xs[i]? =some a->a<j)/\∀i a,SetTable.below.go xs j fuel lo hi<=i->xs[i]? =some a->j<=a
 | 0,lo,hi,h1,h2,h3,u,a1,a2=>by
  have e:hi=lo:=by omega
  subst e
  exact⟨h3,a1,a2⟩
 | fuel+1,lo,hi,h1,h2,h3,u,a1,a2=>by
  unfold SetTable.below.go
  by_cases c:lo<hi
  ·rw[if_pos c]
   dsimp only
   have hm:(lo+hi)/2<xs.size:=by omega
   have em:xs[(lo+hi)/2]? =some (xs[(lo+hi)/2]'hm):=ZO hm
   have eg:xs.getD ((lo+hi)/2) j=xs[(lo+hi)/2]'hm:=by rw[Array.getD_eq_getD_getElem?,em];rfl
   rw[eg]
   by_cases d:xs[(lo+hi)/2]'hm<j
   ·rw[if_pos d]
    refine QH xs j fuel _ hi (by omega) (by omega) h3 u (fun i a hi' e=>?_) a2
    by_cases q:i=(lo+hi)/2
    ·subst q;rw[em] at e;cases e;exact d
    ·have:=u.lt e em (by omega)
     omega
   ·rw[if_neg d]
    refine QH xs j fuel lo _ (by omega) (by omega) (by omega) u a1 fun i a hi' e=>?_
    by_cases q:i=(lo+hi)/2
    ·subst q;rw[em] at e;cases e;omega
    ·have:=u.lt em e (by omega)
     omega
  ·rw[if_neg c]
   have e:hi=lo:=by omega
   subst e
   exact⟨h3,a1,a2⟩
theorem zc1{xs:Array Nat}(u:Up xs)(j:Nat):SetTable.below xs j<=xs.size/\(∀i a,i<SetTable.below xs j->xs[i]? =some a->a<j)/\∀i a,SetTable.below xs j<=i->xs[i]? =some a->j<=a:=by
 unfold SetTable.below
 exact QH xs j xs.size 0 xs.size (by omega) (qo _) (zC _) u (fun i a h=>absurd h (yU _)) fun i a h e=>absurd (XY.mp e).1 (by omega)
theorem zaE{xs:Array Nat}(u:Up xs){j:Nat}(hn:xs[SetTable.below xs j]?≠some j):Up (SetTable.insertAt xs (SetTable.below xs j) j):=by
 obtain⟨b1,b2,b3⟩:=zc1 u j
 unfold Up SetTable.insertAt
 generalize SetTable.below xs j=p at *
 have el:((xs.extract 0 p).push j++xs.extract p xs.size).toList=xs.toList.take p++(j::xs.toList.drop p):=by
  simp[Array.toList_extract,List.extract_eq_drop_take]
  exact Q3 (by simp)
 rw[el,List.pairwise_append]
 have u':xs.toList.Pairwise (·< ·):=u
 refine⟨u'.sublist (List.take_sublist _ _),List.pairwise_cons.mpr ⟨fun a ha=>?_,u'.sublist (List.drop_sublist _ _)⟩,fun a ha b hb=>?_⟩
 ·obtain⟨k,hk,e⟩:=List.mem_drop_iff_getElem.mp ha
  have e':xs[k+p]? =some a:=by rw[<- JV,zN];exact⟨by omega,by rw[<- e];congr 1;omega⟩
  have:=b3 (k+p) a (by omega) e'
  by_cases q:k=0
  ·subst q
   rw[Nat.zero_add] at e'
   exact Nat.lt_of_le_of_ne this fun z=>hn (by rw[e',z])
  ·have hp:p<xs.size:=by rw[vE] at hk;omega
   have:=b3 p _ (zC _) (ZO hp)
   have:=u.lt (ZO hp) e' (by omega)
   omega
 ·obtain⟨k,hk,e⟩:=List.mem_take_iff_getElem.mp ha
  have e':xs[k]? =some a:=by rw[<- JV,zN];exact⟨by omega,e⟩
  have ha':=b2 k a (by omega) e'
  rcases qq.mp hb with z | z
  ·rw[z];exact ha'
  ·obtain⟨k2,hk2,e2⟩:=List.mem_drop_iff_getElem.mp z
   have e2':xs[k2+p]? =some b:=by rw[<- JV,zN];exact⟨by omega,by rw[<- e2];congr 1;omega⟩
   have:=b3 (k2+p) b (by omega) e2'
   omega
structure TabOk(b:Bool)(t:SetTable):Prop where
 up:Up t.place
 no:t.dummies=#[]
 led:t.led=b
theorem VU(j:Nat):SetTable.has #[] j=false:=by
 unfold SetTable.has
 rw[show(#[]:Array Nat)[SetTable.below #[] j]? =none from Array.getElem?_eq_none (by simp)]
 rfl
theorem zaO{t:SetTable}(h:t.dummies=#[])(j:Nat):(t.slot j=.empty/\t.place[SetTable.below t.place j]?≠some j)\/∃i,t.slot j=.live i:=by
 unfold SetTable.slot
 rw[h,VU]
 dsimp only
 by_cases c:(t.place[SetTable.below t.place j]? ==some j)=true
 ·rw[if_pos c]
  exact .inr ⟨_,rfl⟩
 ·rw[if_neg c,if_neg jf]
  exact .inl ⟨rfl,fun z=>c (by rw[z];simp)⟩
theorem Jf(t:SetTable)(p:SetTable.Probe):(t.advance p).dummy=p.dummy:=by
 unfold SetTable.advance
 split
 ·rfl
 ·rfl
theorem ZB{t:SetTable}(hd:t.dummies=#[]){f:Nat->Int}{h:Int}:∀(fuel:Nat) (p:SetTable.Probe) (j:Nat) (d:Option Nat),SetTable.probe.go t f h fuel p=some (.empty j d)->t.place[SetTable.below t.place j]?≠some j/\d=p.dummy
 | 0,p,j,d,e=>by unfold SetTable.probe.go at e;cases e
 | fuel+1,p,j,d,e=>by
  unfold SetTable.probe.go at e
  rcases zaO hd p.j with ⟨c1,c2⟩ | ⟨i,c⟩
  ·rw[c1] at e
   cases e
   exact⟨c2,rfl⟩
  ·rw[c] at e
   dsimp only at e
   split at e
   ·cases e
   ·have:=ZB hd fuel _ j d e
    rw[Jf] at this
    exact this
theorem zd2{t:SetTable}(hd:t.dummies=#[]){h:Int}{s:Nat}{w:Bool}(e:t.freeSlot h=some (s,w)):t.place[SetTable.below t.place s]?≠some s:=by
 unfold SetTable.freeSlot SetTable.probe at e
 split at e
 ·rename_i j d q
  obtain⟨h1,h2⟩:=ZB hd _ _ _ _ q
  cases(show d=none from h2)
  cases e
  exact h1
 ·cases e
theorem zbq(n:Nat):Up (Array.range n):=by
 unfold Up
 rw[Array.toList_range]
 exact List.pairwise_lt_range
theorem TabOk.stand{b:Bool}{t:SetTable}(h:TabOk b t)(n:Nat):TabOk b (t.standIn n):=⟨zbq n,rfl,h.led⟩
theorem TabOk.plain{b p:Bool}{t:SetTable}(h:TabOk b t):TabOk b { t with plain:=p }:=⟨h.up,h.no,h.led⟩
theorem TabOk.or{b:Bool}{t:SetTable}(h:TabOk b t)(n:Nat):TabOk b (t.orStandIn n):=by
 unfold SetTable.orStandIn
 split
 ·exact h
 ·exact h.stand n
theorem TabOk.layNew{b:Bool}{t:SetTable}(h:TabOk b t)(es:Array (Int×Value))(k:Int)(x:Value):TabOk b (layNew t es k x).2.1:=by
 unfold PySem.layNew
 split
 ·rename_i slot w e
  have hp:TabOk b (t.put slot).1:=⟨zaE h.up (zd2 h.no e),by
   show(if SetTable.has t.dummies slot=true then _ else t.dummies)=#[]
   rw[h.no,VU]
   rfl,h.led⟩
  exact hp.or _
 ·exact h.stand _
theorem zc8{α:Type}(m:Nat)(f:Nat->Option α):(((List.range m).filterMap fun j=>(f j).map (j,·)).map (·.1)).Pairwise (·< ·):=by
 have hs:∀l:List Nat,((l.filterMap fun j=>(f j).map (j,·)).map (·.1)).Sublist l:=fun l=>by
  induction l with
  | nil=>exact .slnil
  | cons x l ih=>
   rw[XO]
   cases f x with
   | none=>exact ih.cons _
   | some y=>exact ih.cons₂ _
 exact List.Pairwise.sublist (hs _) List.pairwise_lt_range
theorem TabOk.relay{b:Bool}{t:SetTable}(h:TabOk b t)(es:Array (Int×Value))(n:Nat):TabOk b (relayAll t es n).2.1:=by
 unfold relayAll
 split
 ·rename_i t' order e
  dsimp only
  split
  ·unfold SetTable.relaid SetTable.laid at e
   obtain⟨owner,_,e2⟩:=Option.bind_eq_some_iff.mp e
   cases e2
   refine⟨?_,rfl,h.led⟩
   exact zc8 _ fun j=>owner.getD j none
  ·exact h.stand _
 ·exact h.stand _
theorem TabOk.fresh(b:Bool):TabOk b (.fresh 0 0 b):=⟨List.Pairwise.nil,rfl,rfl⟩
theorem zaY{α:Type}{l:List α}{x:α}(h:l.Nodup)(hx:x∉l):(l++[x]).Nodup:=by
 rw[Zy]
 exact⟨h,by simp,fun a ha b hb e=>hx (by rw[qR] at hb;rw[<- hb,<- e];exact ha)⟩
theorem VA{α β:Type}{R:α->β->Prop}{ys ys':List β}(p:ys'.Perm ys):∀{xs:List α},Paired R xs ys->∃xs',xs'.Perm xs/\Paired R xs' ys':=by
 induction p with
 | nil=>intro xs h;exact⟨xs,.refl _,h⟩
 | cons y _ ih=>
  intro xs h
  cases h with
  | cons r t=>
   obtain⟨xs',p',h'⟩:=ih t
   exact⟨_::xs',p'.cons _,.cons r h'⟩
 | swap y z l=>
  intro xs h
  cases h with
  | cons r t=>
   cases t with
   | cons r2 t2=>exact⟨_,.swap _ _ _,.cons r2 (.cons r t2)⟩
 | trans _ _ ih1 ih2=>
  intro xs h
  obtain⟨x1,p1,h1⟩:=ih2 h
  obtain⟨x2,p2,h2⟩:=ih1 h1
  exact⟨x2,p2.trans p1,h2⟩
theorem Qo{α β:Type}{R:α->β->Prop}{x:α}{y:β}(r:R x y):∀{xs:List α} {ys:List β},Paired R xs ys->Paired R (xs++[x]) (ys++[y])
 | _,_,.nil=>.cons r .nil
 | _,_,.cons h t=>.cons h (Qo r t)
theorem Qn{α β:Type}{R:α->β->Prop}:∀{xs:List α} {ys:List β},Paired R xs ys->(∀x∈xs,∃y∈ys,R x y)/\∀y∈ys,∃x∈xs,R x y
 | _,_,.nil=>⟨fun x h=>(nomatch h),fun y h=>(nomatch h)⟩
 | _,_,.cons h t=>by
  obtain⟨a,b⟩:=Qn t
  refine⟨fun x hx=>?_,fun y hy=>?_⟩
  ·rcases qq.mp hx with z | z
   ·rw[z];exact⟨_,jD,h⟩
   ·obtain⟨y,hy,r⟩:=a x z
    exact⟨y,jE _ hy,r⟩
  ·rcases qq.mp hy with z | z
   ·rw[z];exact⟨_,jD,h⟩
   ·obtain⟨x,hx,r⟩:=b y z
    exact⟨x,jE _ hx,r⟩
section
variable{prog:Program}{w:World}{K:Type}[DecidableEq K](knd:KeyKind prog w K)
def ElX(es:List (Int×Value))(ks:List K):Prop:=ElemsOf knd es/\∃ks',ks'.Perm ks/\Paired (fun k (e:Int×Value)=>knd.is k e.2=true) ks' es
def ObX(b:Bool)(o:Obj)(ks:List K):Prop:=∃es ep t,o.ExactSet/\o.data=.set es ep t/\ElX knd es.toList ks/\ks.Nodup/\es.size<scanBound/\t.fits es.size=true/\TabOk b t
def SetX(b:Bool)(h:Heap)(a:Addr)(ks:List K):Prop:=∃o,h.get? a=some o/\ObX knd b o ks
variable{knd}
theorem ElX.perm{es es':List (Int×Value)}{ks:List K}(h:ElX knd es ks)(p:es'.Perm es):ElX knd es' ks:=by
 obtain⟨h1,ks',p',pr⟩:=h
 obtain⟨ks2,p2,pr2⟩:=VA p pr
 exact⟨h1.perm p,ks2,p2.trans p',pr2⟩
theorem ElX.len{es:List (Int×Value)}{ks:List K}(h:ElX knd es ks):es.length=ks.length:=by
 obtain⟨_,ks',p',pr⟩:=h
 rw[<- p'.length_eq]
 exact(Paired.length pr).symm
theorem ElX.mem{es:List (Int×Value)}{ks:List K}(h:ElX knd es ks)(k:K):k∈ks↔∃e∈es,knd.is k e.2=true:=by
 obtain⟨_,ks',p',pr⟩:=h
 obtain⟨a,b⟩:=Qn pr
 rw[<- p'.mem_iff]
 refine⟨a k,fun ⟨e,he,r⟩=>?_⟩
 obtain⟨k',hk,r'⟩:=b e he
 rwa[knd.inj _ _ _ r r']
theorem ElX.snoc{es:List (Int×Value)}{ks:List K}(h:ElX knd es ks){k:K}{x:Value}(hk:knd.is k x=true)(hx:x.scannable=true):ElX knd (es++[(knd.hash k,x)]) (ks++[k]):=by
 obtain⟨h1,ks',p',pr⟩:=h
 exact⟨h1.push hk hx,ks'++[k],p'.append_right _,Qo (R:=fun k (e:Int×Value)=>knd.is k e.2=true) hk pr⟩
theorem SetX.at{b:Bool}{h h':Heap}{a:Addr}{ks:List K}(x:SetX knd b h a ks)(k:∀o,h.get? a=some o->h'.get? a=some o):SetX knd b h' a ks:=let ⟨o,e,r⟩:=x;⟨o,k o e,r⟩
variable{A:Around}{E:Value->Shared->Prop}{s:Shared}
theorem zgn{b:Bool}{h:Heap}{a:Addr}{o:Obj}{es:Array (Int×Value)}{ep:Nat}{t:SetTable}(ho:h.get? a=some o)(hex:o.ExactSet)(hd:o.data=.set es ep t){es':Array (Int×Value)}{t':SetTable}{ks:List K}(el:ElX knd es'.toList ks)(nd:ks.Nodup)
  (hb:es'.size<scanBound) (hf:t'.fits es'.size=true) (tb:TabOk b t'):∃o',(h.update a (Obj.putSet es' t')).get? a=some o'/\o'.ExactSet/\o'.data=.set es' (ep+1) t'/\ObX knd b o' ks:=by
 have g:=JW (Obj.putSet es' t') ho (by rw[putSet_of es' t' hd];rfl)
 rw[putSet_of es' t' hd] at g
 exact⟨_,g,hex,rfl,es',ep+1,t',hex,rfl,el,nd,hb,hf,tb⟩
theorem zej{b:Bool}{g:Bool->Sem Unit}(hg:∀(c:Bool) (s1:Shared) (Q':Unit->Shared->Prop),Q' () s1->wpAny (model prog w) A (g c) Q' E s1){a:Addr}{o:Obj}{es:Array (Int×Value)}{ep:Nat}{t:SetTable}(ho:s.heap.get? a=some o)(hex:o.ExactSet)
  (hd:o.data=.set es ep t) {es1:Array (Int×Value)} {t2:SetTable} {ks:List K} (el:ElX knd es1.toList ks) (nd:ks.Nodup) (hb:es1.size<scanBound) (hf:t2.fits es1.size=true) (tb:TabOk b t2) {wasDummy:Bool} {R:Option Bool->Shared->Prop}
  (h:∀h',Heap.SameBut a s.heap h'->SetX knd b h' a ks->R (some true) { s with heap:=h' }) :
  wpAny (model prog w) A (storeSet a es1 t2 >>= fun _=>if(!wasDummy&&t2.tooFull)=true then g (relayAll t2 es1 (SetTable.grown es1.size)).2.2 >>= fun _=>storeSet a (relayAll t2 es1 (SetTable.grown es1.size)).1 (relayAll t2 es1 (SetTable.grown es1.size)).2.1 >>= fun _=>pure (some true) else pure (some true)) R E s:=by
 obtain⟨o1,g1,x1,d1,ob1⟩:=zgn ho hex hd el nd hb hf tb
 have sb:=QM s.heap a (Obj.putSet es1 t2)
 refine zk (wpAny_storeSet_of ho hd ?_ (fits_of_scanBound hb))
 split
 ·have pm:=relayAll_perm t2 es1 (SetTable.grown es1.size)
  have ft:=relayAll_fits t2 es1 (SetTable.grown es1.size)
  have tr:=tb.relay es1 (SetTable.grown es1.size)
  have sz:(relayAll t2 es1 (SetTable.grown es1.size)).1.size=es1.size:=by have:=pm.length_eq;rwa[vE,vE] at this
  obtain⟨o2,g2,x2,d2,ob2⟩:=zgn g1 x1 d1 (el.perm pm) nd (by rw[sz];exact hb) ft tr
  exact zk (hg _ _ _ (zk (wpAny_storeSet_of g1 d1 (zD (h _ (sb.trans (QM _ a _)) ⟨o2,g2,ob2⟩)) (fits_of_scanBound (by rw[sz];exact hb)))))
 ·exact zD (h _ sb ⟨o1,g1,ob1⟩)
theorem zgY{b:Bool}{a:Addr}{ks:List K}{k:K}{x:Value}{Q:Bool->Shared->Prop}(hkey:knd.is k x=true)(hsc:x.scannable=true)(hS:SetX knd b s.heap a ks)(hroom:ks.length+1<scanBound)
  (h:∀h' c,Heap.SameBut a s.heap h'->SetX knd b h' a (if k∈ks then ks else ks++[k])->Q c { s with heap:=h' }):wpAny (model prog w) A (setAddHashed a x (knd.hash k)) Q E s:=by
 obtain⟨o,ho,es,ep,t,hex,hd,el,nd,hb,hf,tb⟩:=hS
 have ln:=el.len
 rw[vE] at ln
 unfold setAddHashed setAddHashedIn;refine vb (zk (wpAny_setState_of ho hd hf ?_));dsimp only
 rw[byScan_of hsc hb el.1,if_pos rfl]
 unfold setAddByScan
 refine zk (zk (vS (zk (wpAny_setScan_of hkey ho hd hf el.1 ?_))))
 cases hr:List.findIdx? (fun e=>knd.is k e.2) es.toList with
 | some j=>
  obtain⟨hj,hpj,_⟩:=List.findIdx?_eq_some_iff_getElem.mp hr
  have hk:k∈ks:=(el.mem k).mpr ⟨_,yr hj,hpj⟩
  have:=h s.heap false (Heap.SameBut.refl a s.heap) (by rw[if_pos hk];exact⟨o,ho,es,ep,t,hex,hd,el,nd,hb,hf,tb⟩)
  exact zD (zD this)
 | none=>
  have hk:k∉ks:=fun z=>by
   obtain⟨e,he,r⟩:=(el.mem k).mp z
   have:=List.findIdx?_eq_none_iff.mp hr e he
   rw[r] at this
   cases this
  rw[if_neg hk] at h
  have gw:∀(c:Bool) (s1:Shared) (Q':Unit->Shared->Prop),Q' () s1->wpAny (model prog w) A (match c with | true=>rule "set.scan.the-table-gave-way" | false=>pure ()) Q' E s1:=fun c s1 Q' hq=>by
   cases c
   ·exact zD hq
   ·exact vS hq
  have pm:=layNew_perm t es (knd.hash k) x
  have ft:=layNew_fits t es (knd.hash k) x
  have tn:=tb.layNew es (knd.hash k) x
  generalize layNew t es (knd.hash k) x=L at pm ft tn
  obtain⟨es1,t1,wd,gave⟩:=L
  dsimp only at pm ft tn ⊢
  rw[Array.toList_push] at pm
  have el1:ElX knd es1.toList (ks++[k]):=(el.snoc hkey hsc).perm pm
  have l1:=el1.len
  rw[vE,qJ] at l1
  have hb1:es1.size<scanBound:=by rw[l1];exact hroom
  have nd1:(ks++[k]).Nodup:=zaY nd hk
  refine zk (gw _ _ _ ?_)
  split
  ·rw[hashByValue_scannable 8 hsc]
   refine zk (zD (zej gw ho hex hd el1 nd1 hb1 ?_ ?_ fun h' sb sx=>zD (h h' true sb sx)))
   ·split
    ·exact ft
    ·exact SetTable.fits_plain_off ft
   ·split
    ·exact tn
    ·exact tn.plain
  ·exact zk (zD (zej gw ho hex hd el1 nd1 hb1 ft tn fun h' sb sx=>zD (h h' true sb sx)))
end
def VQ(w:World):Bool:=!w.params.followText "set-order"
def wR(w:World):Obj:={ cls:=.type "set",dict:=none,data:=.set #[] 0 (.fresh 0 0 (VQ w)) }
section
variable{K:Type}[DecidableEq K]
def xh(ks:List K)(k:K):List K:=if k∈ks then ks else ks++[k]
def xi(ks js:List K):List K:=js.foldl xh ks
theorem JX(ks:List K)(k:K):(xh ks k).length<=ks.length+1:=by
 unfold xh
 split
 ·omega
 ·rw[qJ];exact zC _
theorem X4:∀(js ks:List K),(xi ks js).length<=ks.length+js.length
 | [],ks=>zC _
 | j::js,ks=>by
  have h1:=X4 js (xh ks j)
  have h2:=JX ks j
  show(xi (xh ks j) js).length<=_
  rw[vd]
  omega
theorem zaG{ks js:List K}{i:Nat}{k:K}(h:js[i]? =some k):xi (xh ks k) (js.drop (i+1))=xi ks (js.drop i):=by
 obtain⟨h1,h2⟩:=zN.mp h
 rw[List.drop_eq_getElem_cons h1,h2]
 rfl
variable{prog:Program}{w:World}{knd:KeyKind prog w K}{A:Around}{R:Result->Shared->Prop}{it l S:Addr}{items:Array Value}{keys:List K}{b:Bool}
theorem zdf(hh:A.handled=none)(hil:l≠it)(hlS:l≠S)(hiS:it≠S)(hlen:keys.length=items.size)(hat:∀(j:Nat) (u:Value),items[j]? =some u->∃k,keys[j]? =some k/\knd.is k u=true/\u.scannable=true) :
  ∀(m:Nat) (s:Shared) (i:Nat) (ks:List K),items.size-i=m->i<=items.size->s.heap.IsListIter it l i->s.heap.IsList l items->SetX knd b s.heap S ks->ks.length+m+1<scanBound ->
   (∀h' tk,SetX knd b h' S (xi ks (keys.drop i))->(∀c o,c≠it->c≠S->s.heap.get? c=some o->h'.get? c=some o)->R (.ok (.ret .none)) { s with heap:=h',toks:=tk }) ->
   codeAny (model prog w) A (.builtin "set.update.loop" ⟨[.ref S,.ref it],[]⟩) R s:=by
 intro m
 induction m with
 | zero=>
  intro s i ks hm hi ii il sx hz q
  have hend:items[i]? =none:=by simp;omega
  refine codeAny_builtin PyProof.Rows.F.entry_set_update_loop ?_
  rw[XS W1 _]
  refine zk (wpAny_pyNext_list_end hh ii il hend fun h' hx=>zD ?_)
  have e0:xi ks (keys.drop i)=ks:=by rw[WR (by omega)];rfl
  exact q h' s.toks (by rw[e0];exact sx.at fun o e=>hx S o (qH hiS) e) fun c o hc _ e=>hx c o hc e
 | succ m ih=>
  intro s i ks hm hi ii il sx hz q
  have hlt:i<items.size:=by omega
  obtain⟨u,hu⟩:∃u,items[i]? =some u:=⟨_,ZO hlt⟩
  obtain⟨k,ek,kk,sc⟩:=hat i u hu
  refine codeAny_builtin PyProof.Rows.F.entry_set_update_loop ?_
  rw[XS W1 _]
  refine zk (wpAny_pyNext_list_item ii il hu fun h1 i1 s1=>?_)
  have k1:∀c o,c≠it->s.heap.get? c=some o->h1.get? c=some o:=fun c o hc e=>(s1.2 c hc).trans e
  refine zk (vb (show wpAny _ _ (setAdd S u) _ _ _ from vb (zk (knd.pyHash kk ?_))))
  refine zgY (s:={ s with heap:=h1,toks:=s.toks+1 }) kk sc (sx.at fun o e=>k1 S o (qH hiS) e) (by omega) fun h2 c sb sx2=>?_
  have k2:∀c o,c≠it->c≠S->s.heap.get? c=some o->h2.get? c=some o:=fun c o hc hc' e=>(sb.2 c hc').trans (k1 c o hc e)
  have lk:=JX ks k
  refine zD ⟨plainId_quiet W1 _,?_⟩
  refine ih { s with heap:=h2,toks:=s.toks+1 } (i+1) (xh ks k) (by omega) hlt (i1.at fun o e=>(sb.2 it hiS).trans e) (il.at fun o e=>k2 l o hil hlS e) sx2 (by omega) fun h' tk sx' kp=>?_
  exact q h' tk (by rw[<- zaG ek];exact sx') fun c o hc hc' e=>kp c o hc hc' (k2 c o hc hc' e)
end
section
variable{prog:Program}{w:World}{A:Around}{E:Value->Shared->Prop}{s:Shared}
theorem zc9{T newId initId:String}{args:List Value}{Q Q1:Value->Shared->Prop}(ft:TypeCalled T newId initId)(hct:checkTypeCall T ⟨args,[]⟩=pure ())
  (hnew:codeAny (model prog w) A.in1 (.call (.builtin newId) ⟨.type T::args,[]⟩) (wants Q1 E) s)
  (hnext:∀u s1,Q1 u s1->s1.TypeIs u T/\codeAny (model prog w) A.in1 (.call (.builtin initId) ⟨u::args,[]⟩) (wants (fun r s2=>r=.none/\Q u s2) E) s1) :
  wpAny (model prog w) A (call (.type T) args) Q E s:=by
 obtain⟨c,tl,m1⟩:=ft.mro
 have m2:=ft.made
 have m3:=ft.sub
 have m4:=ft.notType
 have m5:=ft.canCreate
 refine wpAny_call (codeAny_of_tree (show wpAny _ _ (callAny (.type T) _) _ _ _ from zD ⟨Code.quiet_builtin _ (by decide +kernel),codeAny_builtin F.entry_type_call ?_⟩))
 rw[Around.under_plain (weight_type_call_type T args []) rfl]
 repeat' (first| assumption | wp_step)
 refine codeAny_mono hnew fun r s1 hr=>?_
 match r,hr with
 | .error e,hr=>exact hr
 | .ok (.ret u),hr=>
  obtain⟨ty,ci⟩:=hnext _ _ hr
  have m6:=ft.init.lookup
  have m7:=ft.init.bind u
  repeat' (first| assumption | wp_step)
  refine codeAny_mono ci fun r2 s2 hr2=>?_
  match r2,hr2 with
  | .error e,hr2=>exact hr2
  | .ok (.ret v),⟨ev,hq⟩=>
   subst ev
   repeat' (first| assumption | wp_step)
theorem zcz(x:Value){Q1:Value->Shared->Prop}(h:Q1 (.ref s.heap.objs.size) { s with heap:=s.heap.push (wR w) }) :
  codeAny (model prog w) A (.call (.builtin "set.__new__") ⟨[.type "set",x],[]⟩) (wants Q1 E) s:=by
 refine codeAny_call_builtin F.plain_set_new F.entry_set_new (wpAny_of_eq (F.newCall_set_1 x) ?_)
 unfold Builtin.«set.__new__» Builtin.Frozenset.newClass
 have m1:=sub_set_self
 obtain⟨hp,g,d,tk,os⟩:=s
 dsimp only
 wp_walk
 refine wpAny_askSetting (zD ?_)
 simp only[newObj]
 exact zk (wpAny_alloc (zD (zD h)))
end
section
variable{prog:Program}{w:World}{K:Type}[DecidableEq K]{knd:KeyKind prog w K}{A:Around}{E:Value->Shared->Prop}{s:Shared}
theorem Vq(h:Heap):SetX knd (VQ w) (h.push (wR w)) h.objs.size []:=
 ⟨wR w,qA _ rfl,#[],0,_,⟨rfl,rfl,rfl⟩,rfl,⟨fun e he=>by simp at he,[],.refl _,.nil⟩,List.nodup_nil,by decide,rfl,TabOk.fresh _⟩
theorem zbd{l:Addr}{items:Array Value}{n:Nat}{keys:List K}{Q:Value->Shared->Prop}(hh:A.handled=none)(hl:s.heap.get? l=some { cls:=.type "list",data:=.seq items n })(hlen:keys.length=items.size)(hb:items.size+1<scanBound)
  (hat:∀(j:Nat) (u:Value),items[j]? =some u->∃k,keys[j]? =some k/\knd.is k u=true/\u.scannable=true)
  (h:∀h' tk,SetX knd (VQ w) h' s.heap.objs.size (xi [] keys)->(∀c o,s.heap.get? c=some o->h'.get? c=some o)->Q (.ref s.heap.objs.size) { s with heap:=h',toks:=tk }) :
  wpAny (model prog w) A (call (.type "set") [.ref l]) Q E s:=by
 refine zc9 (Q1:=fun u s1=>u=.ref s.heap.objs.size/\s1={ s with heap:=s.heap.push (wR w) }) F.called_set (F.typeCall_set_1 (.ref l)) (zcz (.ref l) ⟨rfl,rfl⟩) fun u s1 e=>?_
 obtain⟨eu,es⟩:=e
 subst eu es
 have hS:(s.heap.push (wR w)).get? s.heap.objs.size=some (wR w):=qA _ rfl
 have hT:Shared.TypeIs { s with heap:=s.heap.push (wR w) } (.ref s.heap.objs.size) "set" :=⟨_,hS,rfl⟩
 have hl1:=qx (wR w) hl
 refine⟨hT,codeAny_call_builtin F.called_set.init.plain F.entry_set_init (check_set_init_1 hT ?_)⟩
 have m1:=F.sub_list_set
 have m2:=F.sub_list_frozenset
 have m3:(Value.type "list" == Value.type "dict")=false:=by decide
 have hlS:l<s.heap.objs.size:=zL hl
 unfold wR at hS hT hl1
 unfold Builtin.«set.__init__» noKeywords Builtin.Frozenset.updateFrom wR
 generalize hPI:pyIter=PI
 wp_walk
 subst hPI
 refine wpAny_pyIter_list ⟨_,hl1,rfl,n,rfl⟩ (zk (wpAny_runValue ?_))
 have hh3:A.in1.in1.in1.handled=none:=by simp[hh]
 have sz:(s.heap.push (wR w)).objs.size=s.heap.objs.size+1:=j4 ..
 have lt1:∀c o,s.heap.get? c=some o->c<s.heap.objs.size:=fun c o e=>zL e
 refine zdf (knd:=knd) (b:=VQ w) (A:=A.in1.in1) (S:=s.heap.objs.size) (it:=(s.heap.push (wR w)).objs.size) (l:=l) (items:=items) (keys:=keys) hh3 (by rw[sz];exact qw (wv hlS)) (qw hlS) (by rw[sz];exact xE (yV _)) hlen hat items.size
  ⟨(s.heap.push (wR w)).push { cls:=.type "list_iterator",data:=.fields #[.ref l,.int 0 0] },s.gens,s.drawn,s.toks,s.os⟩ 0 [] rfl (qo _) ⟨_,qA _ rfl,rfl,rfl⟩ ⟨_,qx _ hl1,rfl,n,rfl⟩ ((Vq s.heap).at fun o e=>qx _ e) (by rw[Zv];omega) fun h' tk sx kp=>?_
 refine zD (zD ⟨rfl,h h' tk (by simpa using sx) fun c o e=>?_⟩)
 have:=lt1 c o e
 exact kp c o (by rw[sz];exact qw (wv this)) (qw this) (qx _ (qx _ e))
end
section
variable{M:Model}{A:Around}{E:Value->Shared->Prop}{s:Shared}
end
section
variable{prog:Program}{w:World}{A:Around}{E:Value->Shared->Prop}{h:Heap}{g:Array GenState}{d:Drawn}{tk:Nat}{os:OsState}{it a:Addr}{o:Obj}{es:Array (Int×Value)}{ep:Nat}{t:SetTable}{i:Nat}
end
section
variable{prog:Program}{w:World}{A:Around}{E:Value->Shared->Prop}{s:Shared}{a:Addr}{o:Obj}{es:Array (Int×Value)}{ep:Nat}{t:SetTable}{i sl:Nat}
end
section
variable{prog:Program}{w:World}{A:Around}{E:Value->Shared->Prop}{h:Heap}{g:Array GenState}{d:Drawn}{tk:Nat}{os:OsState}{it a T:Addr}{o oT:Obj}{es:Array (Int×Value)}{ep:Nat}{t:SetTable}{i n c:Nat}{ps:Array Value}
end
section
variable{prog:Program}{w:World}{A:Around}{E:Value->Shared->Prop}{s:Shared}{it:Addr}{oi:Obj}
end
section
variable{prog:Program}{w:World}{A:Around}
variable{it a T:Addr}{o oT:Obj}{es:Array (Int×Value)}{ep c:Nat}{t:SetTable}
end
section
variable{prog:Program}{w:World}{A:Around}{E:Value->Shared->Prop}{s:Shared}{a:Addr}{o:Obj}{es:Array (Int×Value)}{ep:Nat}{t:SetTable}
end
section
variable{X:Cx}
def Qi(P:Program)(w:World)(p:Addr)(ks:List Key):HO:=.ext fun h=>SetX (zV P w) (VQ w) h p ks
inductive ZR(P:Program)(w:World)(xs:List V)(H:Hp)(Q:VK):Prop
 | mk (a:Addr) (ks:List Key) (_:xs=[.ref a]) (_:H a=some (.lst (ks.map kV))) (_:ks.length<=4000) (_:∀p,H p=none->Q (.ref p) (upd H p (Qi P w p (xi [] ks)))):ZR P w xs H Q
theorem zbe(hh:X.A.handled=none):jF X (.type "set") (ZR X.prog X.w):=by
 intro pins s σ H xs us Q I r h
 obtain⟨a,ks,rfl,hx,hl,q⟩:=h
 obtain⟨u,rfl,ru⟩:=Vals.one r
 cases(show u=Value.ref a from ru)
 obtain⟨zz,its,n,rel,hg⟩:=(show ObjOk X.prog X.w H s.heap a (.lst (ks.map kV)) from I.hok a _ hx)
 have ln:=rel.length
 rw[zq] at ln
 have hn:H s.heap.objs.size=none:=I.hok.fresh (zC _)
 have sb:scanBound=4096:=rfl
 refine zbd (knd:=zV X.prog X.w) (keys:=ks) hh hg (by simp[ln]) (by simp;omega) (fun j u e=>?_) fun h' tk sx k=>?_
 ·rw[List.getElem?_toArray] at e
  obtain⟨x,ex,rx⟩:=Vals.at rel e
  rw[qr] at ex
  obtain⟨kk,ek,rfl⟩:=jc.mp ex
  refine⟨kk,ek,wT rx,?_⟩
  cases kk with
  | inl i=>obtain⟨t,rfl⟩:=rx;rfl
  | inr i=>obtain⟨t,rfl⟩:=rx;rfl
 ·refine⟨.ref s.heap.objs.size,_,I.laid (a:=s.heap.objs.size) (o:=Qi X.prog X.w s.heap.objs.size (xi [] ks)) (t':=tk) k (zC _) ⟨sx,?_,fun h1 h2 x e=>x.at e⟩,rfl,q _ hn⟩
  obtain⟨o,e,_⟩:=sx
  exact⟨o,e⟩
end
theorem zd4(l:Addr)(items:Array Value)(n:Nat)(b:Addr)(items2:Array Value)(h0:¬(!items.isEmpty&&Builtin.List.listTooLong (items.size+items2.size))=true)(h1:items.size<=sizeLine)(h2:items.size+items2.size<=sizeLine+1) :
  Meets (Builtin.«list.extend» ⟨[.ref l,.ref b],[]⟩) (fun _ R s=>s.heap.get? l=some { cls:=.type "list",dict:=none,data:=.seq items n,slots:=#[] }/\IsTup s.heap b items2/\R (.ok (.ret Value.none)) { s with heap:=s.heap.update l (Obj.mapSeq fun x=>x++items2),toks:=s.toks }):=
 .of_wp fun prog w A R s h=>by
  obtain⟨hp,g,d,tk,os⟩:=s
  obtain⟨hl,⟨⟨cls,dd,data,sl⟩,hb,hc,n2,hd⟩,h⟩:=h
  simp only at hc hd
  subst hc hd
  have f1:=AutoSeq1.idx_int;have f2:=AutoSeq1.sub_tuple_tuple;have f3:=AutoSeq1.sub_list_list;have f4:=AutoSeq1.sub_tuple_list;have f5:=AutoSeq1.sub_list_tuple
  have hz:(items++items2).size<=sizeLine+1:=by rw[XG];exact h2
  wp_walk using (wpAny_updateSeq hl rfl (hz:=h1) (_hz':=hz)),AutoSeq1.wpAny_loadPart' hl,AutoSeq1.wpAny_loadPart' hb
  exact⟨_,rfl,h⟩
section
variable{X:Cx}{elt iter1 iter:Expr}{ifs1 ifs:List Expr}{scope:Scope}{pos:Pos}{wi wi1:TI}{tf tf1:TT}{te:TE}{x y z u:Str}{px py pz pu tp tp2:Pos}{kk kk2:Nat}
inductive J4(K:PySem.W.Frag)(x:V)(y:V)(H:Hp)(Q:VK):Prop
 | mk (a b:Addr) (ns ms:List Int) (_:x=.ref a) (_:y=.ref b) (_:SqL K H a (ns.map V.int)) (_:SqL K H b (ms.map V.int)) (_:Q (.bl (decide (ns=ms))) H):J4 K x y H Q
theorem YR(hu:X.A.units<cLine):OpR X (compareOp .Eq) (J4 X.K):=by
 intro pins s σ H x y v u Q I rx ry h
 obtain⟨a,b,ns,ms,rfl,rfl,hx,hy,q⟩:=h
 cases rx
 cases ry
 obtain⟨its1,r1,p1,z1⟩:=I.list hx
 obtain⟨its2,r2,p2,z2⟩:=I.list hy
 have l1:=r1.length
 have l2:=r2.length
 rw[zq] at l1 l2
 by_cases hl:ns.length=ms.length
 ·refine SeqAt.RcAt.lists (e:=fun j=>decide (ns.getD j 0=ms.getD j 0)) p1.isList p2.isList (by rw[qk,qk];omega) hu (fun j h1 h2=>?_) _ _ _ _ ⟨.bl _,H,I,rfl,?_⟩
  ·have h1':j<ns.length:=by rw[qk] at h1;omega
   have h2':j<ms.length:=by omega
   obtain⟨w1,e1,q1⟩:=r1.get (i:=j) (x:=.int ns[j]) (by simp[h1'])
   obtain⟨w2,e2,q2⟩:=r2.get (i:=j) (x:=.int ms[j]) (by simp[h2'])
   have g1:its1.toArray[j]=w1:=by simpa using (zN.mp e1).2
   have g2:its2.toArray[j]=w2:=by simpa using (zN.mp e2).2
   rw[g1,g2,show ns.getD j 0=ns[j] by simp[h1'],show ms.getD j 0=ms[j] by simp[h2']]
   exact WL q1 q2 rfl rfl
  ·have e:((List.range its1.toArray.size).all fun j=>decide (ns.getD j 0=ms.getD j 0))=decide (ns=ms):=by
    rw[qk,<- l1,wu,jh,ww]
    constructor
    ·intro h
     refine List.ext_getElem hl fun j h1 h2=>?_
     have:=qW (h j (wZ.mpr h1))
     simpa [h1,h2] using this
    ·intro h j _
     rw[h]
     exact qF rfl
   rw[e]
   exact q
 ·rw[jQ (fun e=>hl (by rw[e]))] at q
  exact SeqAt.RcAt.lists_lengths p1.isList p2.isList (by rw[qk,qk];simpa using fun e=>hl (by omega)) hu _ _ _ _ ⟨.bl _,H,I,rfl,q⟩
inductive zeC(K:PySem.W.Frag)(x:V)(vs:List V)(H:Hp)(Q:VK):Prop
 | mk (l b xs zs:_) (_:x=.ref l) (_:vs=[.ref b]) (_:H l=some (.lst xs)) (_:SqT K H b zs) (_:xs.length+zs.length<=sizeLine) (_:Q .non (upd H l (.lst (xs++zs)))):zeC K x vs H Q
theorem zdV:MtM X "list.extend" (zeC X.K):=by
 intro pins s σ H x vs v us Q I rx rv h
 obtain⟨l,b,xs,zs,rfl,rfl,hH,hB,hz,q⟩:=h
 cases rx
 obtain⟨u,rfl,ru⟩:=rv.one
 cases ru
 obtain⟨z,its,n,r,hl,e⟩:=I.lstM hH
 obtain⟨its2,r2,p2,z2⟩:=I.tuple hB
 have l2:=r2.length
 have sz:its.toArray.size+its2.toArray.size<=sizeLine:=by rw[qk,qk];omega
 refine call_meets F.slot_list_extend ⟨_,e,rfl⟩ F.entry_list_extend (F.args_list_extend_2 _ _) (zd4 l its.toArray n b its2.toArray (by rw[Qq sz,QS];exact jf) (by rw[qk];omega) (by omega)) ⟨e,p2,?_⟩
 exact⟨.non,_,I.lset (its':=its++its2) hH e (by simp) (r.append r2) (by rw[qJ];omega),rfl,q⟩
variable{oo e:Expr}{ees:List Expr}{to:TE}{tt:TA}{name:Str}{apos cpos:Pos}{T id:String}{r:V->List V->Hp->VK->Prop}
end
end L2
namespace L2
open PySem PySem.Spec PyProof.Rows PySem.W
def zhw{α:Type}(bt:Nat->Nat->Bool)(n:Nat):KasT α->(α->Prop)->Prop
 | .ret a,Q=>Q a
 | .ask i j k,Q=>i<n/\j<n/\zhw bt n (k (bt i j)) Q
section
variable{n:Nat}{r:Nat->Nat}
def vA(r:Nat->Nat)(p:Array Nat)(k:Nat):Nat:=r (p.getD k 0)
structure Gd(n:Nat)(p:Array Nat):Prop where
 pm:p.toList.Perm (List.range n)
def AscA(r:Nat->Nat)(p:Array Nat)(m:Nat):Prop:=∀i j,i<j->j<m->vA r p i<vA r p j
def DscA(r:Nat->Nat)(p:Array Nat)(m:Nat):Prop:=∀i j,i<j->j<m->vA r p j<vA r p i
variable{bt:Nat->Nat->Bool}(ri:∀i j,i<n->j<n->r i=r j->i=j)(hb:∀i j,i<n->j<n->bt i j=decide (r i<r j))
include ri hb
end
end L2
namespace L2
open PySem PySem.Spec PyProof.Rows PySem.W
section
variable{prog:Program}{w:World}{A:Around}{E:Value->Shared->Prop}{s:Shared}
end
end L2
namespace L2
open PySem PySem.Spec PyProof.Rows PySem.W
section
variable{X:Cx}{pins:List (Addr×Obj)}{σ:St}{s:Shared}
end
end L2
namespace L2
open PySem PySem.Spec PyProof.Rows PySem.W
section
variable{X:Cx}
end
end L2
namespace L2
open PySem PySem.Spec PyProof.Rows
section
variable{X:Cx}
variable{elt iter:Expr}{ifs:List Expr}{scope:Scope}{pos:Pos}{wi:TI}{tf:TT}{te:TE}{x y z:Str}{px py pz tp:Pos}{kk:Nat}
end
section
variable{X:Cx}
end
section
variable{X:Cx}{elt tg iter:Expr}{ifs:List Expr}{scope:Scope}{pos:Pos}{wi:TI}{g:TG}{tf:TT}{te:TE}{x:Str}
end
end L2
namespace L2
open PySem PySem.Spec PyProof.Rows PySem.W
section
variable{prog:Program}{w:World}{A:Around}{E:Value->Shared->Prop}{s:Shared}
end
end L2
namespace L2
open PySem PySem.Spec PyProof.Rows PySem.W
def PrR(H:Hp)(zs:List V)(ps:List (Int×Int)):Prop:=zs.length=ps.length/\∀(j:Nat) q,ps[j]? =some q->∃T,zs[j]? =some (.ref T)/\H T=some (.tup [.int q.1,.int q.2])
section
variable{X:Cx}
end
end L2
namespace L2
open PySem PySem.Spec PyProof.Rows
section
variable{X:Cx}
end
theorem zhm{X:Cx}{e0 e1 e2 e3 e4 e5 e6 e7 e8 e9:Expr}{t0 t1 t2 t3 t4 t5 t6 t7 t8 t9:TE}(h0:PE X e0 t0)(h1:PE X e1 t1)(h2:PE X e2 t2)(h3:PE X e3 t3)(h4:PE X e4 t4)(h5:PE X e5 t5)(h6:PE X e6 t6)(h7:PE X e7 t7)(h8:PE X e8 t8)(h9:PE X e9 t9)(h:([e0,e1,e2,e3,e4,e5,e6,e7,e8,e9]).all VH=true:=by rfl):PA X [e0,e1,e2,e3,e4,e5,e6,e7,e8,e9] (qz t0 (qz t1 (qz t2 (qz t3 (qz t4 (qz t5 (qz t6 (qz t7 (qz t8 (qz t9 Wo)))))))))):=by
 have hz:=jh.mp h
 exact(za h0 (za h1 (za h2 (za h3 (za h4 (za h5 (za h6 (za h7 (za h8 (za h9 zc (zy (hz _ (by simp)))) (zy (hz _ (by simp)))) (zy (hz _ (by simp)))) (zy (hz _ (by simp)))) (zy (hz _ (by simp)))) (zy (hz _ (by simp)))) (zy (hz _ (by simp)))) (zy (hz _ (by simp)))) (zy (hz _ (by simp)))) (zy (hz _ (by simp))))
section
variable{X:Cx}
theorem zaP(x:Str)(l u:Option Int):∀c∈(Txt.slice x l u).cps.toList,c∈x.cps.toList:=by
 intro c hc
 unfold Txt.slice at hc
 split at hc
 ·exact hc
 ·obtain⟨i,_,e⟩:=XL.mp (List.mem_toArray.mp (Array.mem_toList_iff.mp hc))
  exact Array.mem_toList_iff.mpr (Array.mem_of_getElem? e)
inductive JZ(x:V)(z1_:Option Int)(z2_:Option Int)(H:Hp)(Q:VK):Prop
 | mk (z:_) (_:x=.str z) (_:z.length<=sizeLine) (_:∀y:Str,y.length<=z.length->(∀c∈y.cps.toList,c∈z.cps.toList)->Q (.str y) H):JZ x z1_ z2_ H Q
theorem wH:SlR X (JZ):=by
 intro pins s σ H x v vl vu lo hi sl Q I rx hs pl pu h
 obtain⟨z,rfl,hz,q⟩:=h
 obtain⟨t,rfl⟩:=rx
 have le:∀l u,(Txt.slice z l u).length<=sizeLine:=fun l u=>jt (Txt.slice_le z l u) hz
 have fin:∀l u t' k,(EP X pins σ Q) (.str (Txt.slice z l u) t') { s with toks:=k }:=fun l u t' k=>⟨.str (Txt.slice z l u),H,I.tok _,⟨_,rfl⟩,q _ (Txt.slice_le z l u) (zaP z l u)⟩
 refine⟨"str",_,F.slot_str_getitem.lookup,typeIs_str _ _ _,?_⟩
 cases pl with
 | none=>
  cases pu with
  | none=>exact wpAny_getItem_str_slice (l:=none) (u:=none) (st:=none) hs rfl (post_val_or_str ⟨le _ _,fin none none⟩)
  | int j uj=>exact wpAny_getItem_str_slice (l:=none) (u:=some (j,uj)) (st:=none) hs rfl (post_val_or_str ⟨le _ _,fin none (some j)⟩)
 | int i ui=>
  cases pu with
  | none=>exact wpAny_getItem_str_slice (l:=some (i,ui)) (u:=none) (st:=none) hs rfl (post_val_or_str ⟨le _ _,fin (some i) none⟩)
  | int j uj=>exact wpAny_getItem_str_slice (l:=some (i,ui)) (u:=some (j,uj)) (st:=none) hs rfl (post_val_or_str ⟨le _ _,fin (some i) (some j)⟩)
end
def AtQ(K:PySem.W.Frag)(H:Hp)(t:Bool)(a:Addr)(xs:List V):Prop:=if t=true then SqT K H a xs else H a=some (.lst xs)
def SqQ(K:PySem.W.Frag)(H:Hp)(t:Bool)(a:Addr)(xs:List V):Prop:=if t=true then SqT K H a xs else SqL K H a xs
def oQ(t:Bool)(xs:List V):HO:=if t=true then .tup xs else .lst xs
def Tkn(H:Hp)(ex:List Addr):Prop:=∀e∈ex,∃o,H e=some o
section
variable{X:Cx}
theorem zcp{x y:V}(pins:List (Addr×Obj))(s:Shared)(σ:St)(H:Hp)(v u:Value)(Q:VK)(I:Inv X pins σ H s)(rx:RelV x v)(ry:RelV y u)(h:∃a b ys,x=.ref a/\y=.ref b/\SqT X.K H a []/\SqT X.K H b ys/\Q (.ref b) H) :
  wpAny (model X.prog X.w) X.A (binaryOp .Add v u) (EP X pins σ Q) X.xe s:=by
 obtain⟨a,b,ys,rfl,rfl,ha,hb,q⟩:=h
 cases rx
 cases ry
 obtain⟨i1,r1,p1,_⟩:=I.tuple ha
 obtain⟨i2,r2,p2,_⟩:=I.tuple hb
 have hv:i1=[]:=r1.nil_iff.mpr rfl
 obtain⟨⟨c1,d1,g1,l1⟩,o1,k1,n1,e1⟩:=p1
 obtain⟨⟨c2,d2,g2,l2⟩,o2,k2,n2,e2⟩:=p2
 cases k1
 cases e1
 cases k2
 cases e2
 have m:=tuple_addW0 a b i1.toArray i2.toArray n1 n2 d1 d2 l1 l2 (by simp[hv])
 exact concat_meets ⟨_,o1,rfl⟩ ⟨_,o2,rfl⟩ noFill_tuple_add seq_tuple_add WT WV (WW _ _) m ⟨o1,o2,.ref b,H,I,rfl,q⟩
end
end L2
namespace PySem
section
variable{prog:Program}{w:World}{A:Around}{d:Addr}{es:Array DictEntry}{ep:Nat}
end
end PySem
namespace L2
open PySem PySem.Spec PyProof.Rows
section
variable{X:Cx}
end
section
variable{X:Cx}
variable{o e:Expr}{es:List Expr}{to:TE}{t:TA}{name:Str}{apos cpos:Pos}{id:String}{r:V->List V->Hp->VK->Prop}
end
end L2
namespace L2
open PySem PySem.Spec PyProof.Rows PySem.W
section
variable{X:Cx}
end
end L2
namespace L2
open PySem PySem.Spec PyProof.Rows PySem.W
section
variable{X:Cx}
end
end L2
namespace L2
open PySem PySem.Spec PyProof.Rows PySem.W
section
variable{X:Cx}
end
end L2
namespace L2
open PySem PySem.Spec PyProof.Rows PySem.W
section
variable{prog:Program}{w:World}{A:Around}{E:Value->Shared->Prop}{s:Shared}
inductive zbm(prog:Program)(w:World)(A:Around)(s:Shared):List Value->List Value->Bool->Prop
 | nil:zbm prog w A s [] [] false
 | nl {y ys}:zbm prog w A s [] (y::ys) true
 | ln {x xs}:zbm prog w A s (x::xs) [] false
 | eq {x y xs ys b} (h:∀(Q:Bool->Shared->Prop) E,Q true s->wpAny (model prog w) A (eqBool x y) Q E s) (t:zbm prog w A s xs ys b):zbm prog w A s (x::xs) (y::ys) b
 | ne {x y xs ys b} (h:∀(Q:Bool->Shared->Prop) E,Q false s->wpAny (model prog w) A (eqBool x y) Q E s) (g:∀(Q:Value->Shared->Prop) E,Q (.bool b) s->wpAny (model prog w) A (richCompare .Lt x y) Q E s):zbm prog w A s (x::xs) (y::ys) b
end
section
variable{prog:Program}{w:World}{A:Around}{R:Result->Shared->Prop}{I S:Addr}{fp wr:List Addr}{n:Nat}{P:Nat->Value->Prop}{St:Nat->Heap->Prop}
end
end L2
namespace L2
open PySem PySem.Spec PyProof.Rows PySem.W
def WkR(H:Hp)(zs:List V)(ps:List (Int×List Int)):Prop:=zs.length=ps.length/\∀(j:Nat) q,ps[j]? =some q->∃T U,zs[j]? =some (.ref T)/\H T=some (.tup [.int q.1,.ref U])/\H U=some (.tup (q.2.map V.int))
section
variable{X:Cx}
end
end L2
namespace L2
open PySem PySem.Spec PyProof.Rows PySem.W
section
variable{X:Cx}
inductive ZT(P:Program)(w:World)(xs:List V)(H:Hp)(Q:VK):Prop
 | mk (a:Addr) (ks:List Key) (_:xs=[.ref a]) (_:H a=some (Qi P w a ks)) (_:Q (.int ks.length) H):ZT P w xs H Q
theorem JP:jF X (.builtin "len") (ZT X.prog X.w):=by
 intro pins s σ H xs us Q I r h
 obtain⟨a,ks,rfl,hx,q⟩:=h
 obtain⟨u,rfl,ru⟩:=Vals.one r
 cases(show u=Value.ref a from ru)
 obtain⟨⟨o,ho,es,ep,t,hex,hd,⟨_,ks',pm,pr⟩,_,hsz,hf,_⟩,_,_⟩:=(show ObjOk X.prog X.w H s.heap a (Qi X.prog X.w a ks) from I.hok a _ hx)
 have ln:es.size=ks.length:=by
  have e1:=pr.length
  have e2:=pm.length_eq
  have e3:es.toList.length=es.size:=vE
  omega
 have sb:scanBound=4096:=rfl
 refine call_len_set ho hex hd hf (by omega) ⟨.int ks.length,H,I.kept (fun b o e=>e),⟨_,by rw[ln]⟩,q⟩
end
end L2
namespace L2
open PySem PySem.Spec PyProof.Rows
section
variable{X:Cx}
end
section
variable{prog:Program}{w:World}{K:Type}[DecidableEq K]{knd:KeyKind prog w K}{A:Around}{E:Value->Shared->Prop}{s:Shared}
end
section
variable{X:Cx}
end
end L2
namespace L2
open PySem PySem.Spec PyProof.Rows PySem.W
section
variable{prog:Program}{w:World}{A:Around}{R:Result->Shared->Prop}{I S:Addr}{fp wr:List Addr}{n:Nat}{P:Nat->Value->Prop}{St:Nat->Heap->Prop}
end
section
variable{X:Cx}
end
end L2
namespace L2
open PySem PySem.Spec PyProof.Rows
section
variable{X:Cx}
end
end L2
namespace L2
open PySem PySem.Spec PyProof.Rows PySem.W
section
variable{X:Cx}
end
end L2
namespace L2
open PySem PySem.Spec PyProof.Rows
section
variable{X:Cx}
end
theorem JH(xs:Array Nat):∀(n:Nat) (a:Array Nat),(∀c∈a.toList,c∈xs.toList)->∀c∈((List.replicate n xs).foldl (·++ ·) a).toList,c∈xs.toList
 | 0,a,h=>h
 | n+1,a,h=>by
  rw[QN,List.foldl_cons]
  refine JH xs n (a++xs) fun c hc=>?_
  rw[Array.toList_append] at hc
  exact(qL.mp hc).elim (h c) id
theorem zdT(x:Str)(n:Int):∀c∈(Txt.mul x n).cps.toList,c∈x.cps.toList:=by
 unfold Txt.mul
 split
 ·intro c hc;exact nomatch hc
 ·split
  ·exact fun c hc=>hc
  ·exact JH x.cps _ #[] fun c hc=>nomatch hc
section
variable{X:Cx}
inductive w9(x:V)(y:V)(H:Hp)(Q:VK):Prop
 | mk (z k:_) (_:x=.str z) (_:y=.int k) (_:z.length<=10000) (_:0<=k) (_:k<=100) (_:∀w:Str,w.length<=k.toNat*z.length->(∀c∈w.cps.toList,c∈z.cps.toList)->Q (.str w) H):w9 x y H Q
theorem VB:OpR X (binaryOp .Mult) (w9):=by
 intro pins s σ H x y v u Q I rx ry h
 obtain⟨z,k,rfl,rfl,hz,k0,k1,q⟩:=h
 obtain⟨t,rfl⟩:=rx
 obtain⟨t',rfl⟩:=ry
 have hm:z.length*k.toNat<=1000000:=by
  have:z.length*k.toNat<=10000*100:=Nat.mul_le_mul hz (by omega)
  omega
 refine SB.mul ⟨?_,fun h1 h2=>?_,fun h1 h2=>?_⟩ fun t2 tk=>⟨.str (Txt.mul z k),H,I.tok _,⟨_,rfl⟩,q _ (zdU z k) (zdT z k)⟩
 ·rw[show decide (k< -(2^63:Int))=false from jQ (by omega),show decide (k≥2^63)=false from jQ (by omega)];rfl
 ·have:(10000:Int)<=(2^63-1)/k:=(Int.le_ediv_iff_mul_le (by omega)).mpr (by omega)
  omega
 ·exact jQ (by rw[sizeLine_eq];omega)
def zhi:Dat->Str
 | .non=> "None"
 | .bl b=>if b then "True" else "False"
 | .int i=>toString i
 | .str x=>x
 | d=>d.py.shown
inductive ZQ(K:PySem.W.Frag)(xs:List V)(H:Hp)(Q:VK):Prop
 | mk (v:V) (d:Dat) (_:xs=[v]) (_:Rep K H d v) (_:d.shw=true) (_:d.blk<=1048576) (_:d.py.depth<=60) (_:Q (.str (zhi d)) H):ZQ K xs H Q
theorem JO(hg:X.A.guards=some [])(hu:X.A.units+64<cLine):jF X (.type "str") (ZQ X.K):=by
 intro pins s σ H xs us Q I r h
 obtain⟨v,d,rfl,hr,h1,h2,h3,q⟩:=h
 cases d with
 | lst ds=>
  obtain⟨a,ys,rfl,hx⟩:=hr
  exact JN hg hu pins s σ H _ us Q I r ⟨a,.lst ds,rfl,⟨a,ys,rfl,hx⟩,h1,h2,h3,q⟩
 | tup ds=>
  obtain⟨a,ys,rfl,hx⟩:=hr
  exact JN hg hu pins s σ H _ us Q I r ⟨a,.tup ds,rfl,⟨a,ys,rfl,hx⟩,h1,h2,h3,q⟩
 | int i=>
  cases(show v=_ from hr)
  exact yO pins s σ H _ us Q I r ⟨i,rfl,Xh (qW h1),q⟩
 | non=>
  cases(show v=_ from hr)
  obtain⟨u,rfl,ru⟩:=xJ r
  cases(show u=_ from ru)
  exact PySem.P.str_of_none ⟨.str "None",H,I.tok _,⟨_,rfl⟩,q⟩
 | bl b=>
  cases(show v=_ from hr)
  obtain⟨u,rfl,ru⟩:=xJ r
  cases(show u=_ from ru)
  refine PySem.P.str_of_bool ⟨.str (if b then "True" else "False"),H,I.tok _,⟨s.toks,?_⟩,q⟩
  cases b<;>rfl
 | str x=>
  cases(show v=_ from hr)
  obtain⟨u,rfl,t,rfl⟩:=xJ r
  exact PySem.P.str_of_str ⟨.str x,H,I,⟨t,rfl⟩,q⟩
end
section
variable{prog:Program}{w:World}{A:Around}{E:Value->Shared->Prop}{s:Shared}
theorem WK{t:Addr}{us:List Value}{G:List Value->Shared->Prop}(ht:IsTup s.heap t us.toArray)(z:us.length<=sizeLine)
  (k:G us { s with heap:=(s.heap.push (seqObj "list" #[] 0)).update s.heap.objs.size (Obj.mapSeq (·++us.toArray)) }):wpAny (model prog w) A (collect (.ref t)) G E s:=by
 obtain⟨ob,e0,c0,m,d0⟩:=id ht
 unfold collect
 refine zk (wpAny_runValue (codeAny_builtin entry_proto_collect' ?_))
 show wpAny _ _ (do again (.builtin "list.__iadd__" ⟨[<- newList [],.ref t],[]⟩)) _ _ s
 refine zk (wpAny_newList (zD ⟨Code.quiet_builtin _ (by decide +kernel),codeAny_builtin entry_list_iadd' ?_⟩))
 have e1:(s.heap.push (seqObj "list" #[] 0)).get? t=some ob:=qx _ e0
 have new:(s.heap.push (seqObj "list" #[] 0)).get? s.heap.objs.size=some (seqObj "list" #[] 0):=qA _ rfl
 show wpAny _ _ (Builtin.List.listExtendWith (.ref s.heap.objs.size) (.ref t) _) _ _ { s with heap:=s.heap.push (seqObj "list" #[] 0) }
 unfold Builtin.List.listExtendWith
 refine zk (wpAny_typeOf (T:= "tuple") ⟨ob,e1,c0⟩ ?_)
 rw[if_pos (by rw[show(Value.type "tuple" == Value.type "tuple")=true from rfl,Bool.or_true])]
 refine zk (listItems_at e1 d0 (zk (listItems_at new rfl ?_)))
 rw[if_neg (by simp)]
 refine zk (listUpdate_at new rfl (zD ?_) (qo _) (by show(#[]++us.toArray).size<=sizeLine+1;simp;omega))
 refine zk (wpAny_load (get?_update_seq new _) ?_)
 show wpAny _ _ (pure ((#[]:Array Value)++us.toArray).toList) G E _
 have e:((#[]:Array Value)++us.toArray).toList=us:=by simp
 rw[e]
 exact zD k
end
section
variable{X:Cx}
inductive vX(K:PySem.W.Frag)(xs:List V)(H:Hp)(Q:VK):Prop
 | mk (a:Addr) (ns:List Int) (_:xs=[.ref a]) (_:SqT K H a (ns.map V.int)) (_:ns.length<64) (_:∀(p:Addr) (ms:List Int),H p=none->ms.Perm ns->ms.Pairwise (·<= ·)->Q (.ref p) (upd H p (.lst (ms.map V.int)))):vX K xs H Q
theorem wW:jF X (.builtin "sorted") (vX X.K):=by
 intro pins s σ H xs us Q I r h
 obtain⟨a,ns,rfl,hx,hl,q⟩:=h
 obtain⟨u,rfl,ru⟩:=Vals.one r
 cases(show u=Value.ref a from ru)
 obtain⟨its,r',pl,hz⟩:=I.tuple hx
 have len:=r'.length
 rw[zq] at len
 refine Calls.call_function_entry kind_sorted plain_sorted entry_sorted (args_sorted1 _) ?_
 unfold Builtin.«sorted»
 refine zk (m:=checkCount "sorted" 1 1 _) (zD (zk (WK pl (by rw[sizeLine_eq];omega) (zk (wpAny_newList ?_ (by rw[sizeLine_eq];omega))))))
 have sz:((s.heap.push (seqObj "list" #[] 0)).update s.heap.objs.size (Obj.mapSeq (·++its.toArray))).objs.size=s.heap.objs.size+1:=by rw[Heap.size_update,size_push']
 have at1:(((s.heap.push (seqObj "list" #[] 0)).update s.heap.objs.size (Obj.mapSeq (·++its.toArray))).push (seqObj "list" its.toArray 0)).get? (s.heap.objs.size+1)=some (seqObj "list" its.toArray 0):=by
  rw[<- sz];exact qA _ rfl
 rw[show(Value.ref ((s.heap.push (seqObj "list" #[] 0)).update s.heap.objs.size (Obj.mapSeq (·++its.toArray))).objs.size)=Value.ref (s.heap.objs.size+1) from congrArg Value.ref sz]
 refine zk (vb (vD slot_list_sort ⟨_,at1,rfl⟩ entry_list_sort (list_sort_tree at1 (Qz r') (by omega) fun out ms a1 a2 a3=>⟨_,rfl,zD ⟨_,rfl,?_⟩⟩) (args_list_sort _)))
 obtain⟨e,he⟩:=sortedAll_at s.heap its out
 have hn:H (s.heap.objs.size+1)=none:=I.hok.fresh (vn _)
 refine⟨.ref (s.heap.objs.size+1),_,I.laid (a:=s.heap.objs.size+1) (o:=.lst (ms.map V.int)) (t':=s.toks) (fun _ _=>sortedAll_old) (vn _) ⟨?_,out.toList,e,yw a1,?_⟩,rfl,q _ ms hn a2 a3⟩
 ·rw[zq,a2.length_eq,sizeLine_eq];omega
 ·exact he.trans (by simp[seqObj])
end
theorem zbt(elt tg iter:Expr)(ifs:List Expr)(scope:Scope)(pos:Pos)(it acc:Value)(env:Env) :
  compTurn (.SetComp elt [⟨tg,iter,ifs,0⟩] scope pos) 0 it acc env=(do
   standAt iter.pos
   match<-pyNext it with
   | none=>pure (.done .next)
   | some v=>
    letOwnedTupleGo tg it v
    assign tg env v
    let mut ok:=true
    for c in ifs do
     if ok then ok<-isTrue c env (eval c env)
    if ok then
     (do let v<-eval elt env;standAt elt.pos;let _<-call (.builtin "set.add") [acc,v])
    again (.compLoop (.SetComp elt [⟨tg,iter,ifs,0⟩] scope pos) 0 it acc env)):=by rfl
section
variable{prog:Program}{w:World}{A:Around}{E:Value->Shared->Prop}{R:Result->Shared->Prop}{s:Shared}
theorem zaM{elt tg iter ifs rest scope pos it acc env}
  (h0:codeAny (model prog w) A (.compLoop (.SetComp elt (⟨tg,iter,ifs,0⟩::rest) scope pos) 0 it acc env) R s)
  (h:wpAny (model prog w) A (pyIter it) (fun it' s'=>codeAny (model prog w) A (.compLoop (.SetComp elt (⟨tg,iter,ifs,0⟩::rest) scope pos) 0 it' acc env) R s') (notedBy (model prog w) A env fun x s'=>R (.error x) s') s) :
  codeAny (model prog w) A (.compStart (.SetComp elt (⟨tg,iter,ifs,0⟩::rest) scope pos) 0 it acc env) R s:=by
 refine codeAny_of_tree (show wpAny _ A ((compStart (.SetComp elt (⟨tg,iter,ifs,0⟩::rest) scope pos) 0 it acc env).onRaise (fun x=>do noteFrame x env;standAt theWindowsPlace)) _ _ s from wpAny_notedAt ?_)
 unfold compStart
 refine(show wpAny _ A (ask >>= _) _ _ s from zk (wpAny_askSetting (wpAny_ite ?_)))
 split
 ·first
   | exact zD ⟨rfl,h0⟩
   | exact zk (zD (zD ⟨rfl,h0⟩))
 ·first
   | exact zk (vS (zk (yR (zk (jI h (fun _ _ q=>zD ⟨rfl,q⟩) fun _ _ x=>x)))))
   | (refine zk (vS ?_)
      exact(show wpAny _ _ (standAt iter.pos >>= _) _ _ s from zk (yR (zk (jI h (fun _ _ q=>zD ⟨rfl,q⟩) fun _ _ x=>x)))))
theorem zaR{elt tg iter:Expr}{ifs:List Expr}{scope:Scope}{pos:Pos}{it acc:Value}{env:Env}(J:Nat->Shared->Prop)
  (turn:∀n s,J n s->wpAny (model prog w) A (pyNext it) (fun r s1=>match r with
   | none=>R (.ok .next) s1
   | some v=>wpAny (model prog w) A (letOwnedTupleGo tg it v) (fun _ s2=>wpAny (model prog w) A (assign tg env v) (fun _ s3=>
     wpAny (model prog w) A (yA ifs env) (fun ok s4=>
      if ok=true then wpAny (model prog w) A (eval elt env) (fun x s5=>
       wpAny (model prog w) A (call (.builtin "set.add") [acc,x]) (fun _ s6=>∃m,m<n/\J m s6) (fun _ _=>False) s5) (fun _ _=>False) s4
      else ∃m,m<n/\J m s4) (fun _ _=>False) s3) (fun _ _=>False) s2) (fun _ _=>False) s1) (fun _ _=>False) s)
  (n:Nat) (h:J n s):codeAny (model prog w) A (.compLoop (.SetComp elt [⟨tg,iter,ifs,0⟩] scope pos) 0 it acc env) R s:=by
 have no:∀{α:Type} {t:Sem α} {Q:α->Shared->Prop} {E:Value->Shared->Prop} {s:Shared},wpAny (model prog w) A t Q (fun _ _=>False) s->wpAny (model prog w) A t Q E s:=fun x=>jI x (fun _ _ q=>q) fun _ _ q=>q.elim
 refine codeAny_loop rfl J (fun k u hJ=>?_) n h
 refine(show wpAny _ A ((compTurn (.SetComp elt [⟨tg,iter,ifs,0⟩] scope pos) 0 it acc env).onRaise (fun x=>do noteFrame x env;theTreesLotGoes x)) _ _ u from wpAny_noted ?_)
 rw[zbt]
 refine zk (yR (zk (no (jI (turn k u hJ) (fun r s1 h1=>?_) fun _ _ q=>q))))
 cases r with
 | none=>exact zD h1
 | some v=>
  refine zk (no (jI h1 (fun _ s2 h2=>zk (no (jI h2 (fun _ s3 h3=>zk (no (jI h3 (fun ok s4 h4=>?_) fun _ _ q=>q))) fun _ _ q=>q))) fun _ _ q=>q))
  cases ok with
  | false=>exact zD ⟨rfl,h4⟩
  | true=>
   have h4':wpAny (model prog w) A (eval elt env) (fun x s5=>wpAny (model prog w) A (call (.builtin "set.add") [acc,x]) (fun _ s6=>∃m,m<k/\J m s6) (fun _ _=>False) s5) (fun _ _=>False) s4:=h4
   refine zk (zk (no (jI h4' (fun x s5 h5=>zk (yR (zk (no (jI h5 (fun _ s6 h6=>zD (zD ⟨rfl,h6⟩)) fun _ _ q=>q))))) fun _ _ q=>q)))
variable{K:Type}[DecidableEq K]{knd:KeyKind prog w K}
theorem zhj{a:Addr}{ks:List K}{k:K}{x:Value}{b:Bool}{Q:Value->Shared->Prop}(hkey:knd.is k x=true)(hsc:x.scannable=true)(hS:SetX knd b s.heap a ks)(hroom:ks.length+1<scanBound)
  (h:∀h' tk,Heap.SameBut a s.heap h'->SetX knd b h' a (xh ks k)->Q .none { s with heap:=h',toks:=tk }):wpAny (model prog w) A (call (.builtin "set.add") [.ref a,x]) Q E s:=by
 obtain⟨o,ho,hb⟩:=id hS
 obtain⟨es,ep,t,hex,_⟩:=id hb
 refine vD F.slot_set_add ⟨o,ho,hex.1⟩ F.entry_set_add ?_ (F.args_set_add_2 _ _)
 have ty:s.TypeIs (.ref a) "set" :=⟨o,ho,hex.1⟩
 unfold Builtin.«set.add»
 generalize hSA:setAdd=SA
 obtain⟨hp,g,d,tk,os⟩:=s
 wp_walk
 subst hSA
 refine(show wpAny _ _ (setAdd a x) _ _ _ from vb (zk (knd.pyHash hkey ?_)))
 refine zgY (s:=⟨hp,g,d,tk+1,os⟩) hkey hsc hS hroom (fun h' c sb sx=>?_)
 exact zD ⟨_,rfl,h h' _ sb sx⟩
theorem zdR{Q:Value->Shared->Prop}(h:Q (.ref s.heap.objs.size) { s with heap:=s.heap.push (wR w) }):wpAny (model prog w) A (newSet (.type "set")) Q E s:=by
 unfold newSet setsByText
 refine zk (zk (wpAny_askSetting (zD ?_)))
 dsimp only
 simp only[newObj]
 exact zk (wpAny_alloc (zD h))
end
def tSC(P:Program)(w:World)(wi:TI)(n:Nat)(js:List Nat)(g:TG)(tf:TT)(te:TE):TE:=fun σ H Q=>wi σ H fun J H1=>
 ∃W:Nat->Nat->List Key->Hp->Prop,(∃m,W 0 m [] H1)/\∀i m ks H2,W i m ks H2 ->
  (J.stop i H2/\∀D,H2 D=none->Q (.ref D) (upd H2 D (Qi P w D ks))) \/
  (J.go i H2/\∃N:List Key->Hp->Prop,(∀zs H',N zs H'->∃m',m'<m/\W (i+1) m' zs H')/\∀x H3,J.yld i H2 x H3->g x (upS n js σ) H3 fun σ4 H4=>σ4.drop n=(upS n js σ).drop n/\tf σ4 H4 fun b H5=>
   if b=true then te σ4 H5 fun y H6=>∃k:Key,y=kV k/\ks.length+1<4096/\N (xh ks k) H6 else N ks H5)
section
variable{X:Cx}{elt tg iter:Expr}{ifs:List Expr}{scope:Scope}{pos:Pos}{wi:TI}{g:TG}{tf:TT}{te:TE}
theorem zcK{k:Key}{u:Value}(r:RelV (kV k) u):u.scannable=true:=by
 cases k with
 | inl i=>obtain⟨t,rfl⟩:=r;rfl
 | inr i=>obtain⟨t,rfl⟩:=r;rfl
theorem zgr(own fr:List Str)(js:List Nat)(hc:X.calm=true)(hk:scope.kind=.function)(hb:ZJ scope.names X.env.scope.names X.N fr js=true)(hi:PI X tg iter wi)
  (hg:∀C s H ex,PG (qi X (own++fr) scope C s H ex) tg g) (hf:∀C s H ex,PF (qi X (own++fr) scope C s H ex) ifs tf) (he:∀C s H ex,PE (qi X (own++fr) scope C s H ex) elt te)
  (hs:∀x,foldedSetIterable iter X.env x=pure x:=by intro _;rfl):PE X (.SetComp elt [⟨tg,iter,ifs,0⟩] scope pos) (tSC X.prog X.w wi own.length js g tf te):=by
 intro pins s σ H Q I h
 have B:=We hb
 have hasF:∀y∈scope.names,y.2=NameKind.free->∃c,X.env.cells.lookup y.1=some c:=fun y hy e=>I.ok.has y.1 (B.free y hy e)
 rw[arm_eval_SetComp]
 refine wpAny_comprehension_free (use:=none) rfl hs (Xz hasF) hk (fun y hy e=>B.loc y hy e) (thn (hi pins s σ H _ I h) fun v s1 h1=>thn h1 fun itv s2 h2=>?_)
 obtain⟨it,fp,tn,J,H2,e,I2,T,st2,f2,W,⟨m0,w0⟩,turn⟩:=h2
 subst e
 have fl:∀b∈fp,b<s2.heap.objs.size:=fun b hb=>let ⟨o,e,_⟩:=T.obj _ _ st2 b hb;zL e
 refine zdR (wpAny_newFunctionEnv B.cell (by intro y hy;simp at hy) (fun h1 hns hsb=>?_) hk)
 dsimp only at hns hsb ⊢
 have sx0:SetX (zV X.prog X.w) (VQ X.w) (s2.heap.push (wR X.w)) s2.heap.objs.size []:=Vq s2.heap
 have sD:=I2.fpOk (zC s2.heap.objs.size) (I2.hok.fresh (zC s2.heap.objs.size))
 generalize e3:s2.heap.push (wR X.w)=h3 at hns hsb sx0 ⊢
 have k3:∀b o,s2.heap.get? b=some o->h3.get? b=some o:=fun b o e=>by rw[<- e3];exact qx _ e
 have k4:∀b o,h3.get? b=some o->h1.get? b=some o:=fun b o e=>hsb.extBut b o (qw (zL e)) (qx _ e)
 have I3:Inv X pins σ H2 { s2 with heap:=h3 }:=I2.kept (t':=s2.toks) k3
 have hz:h3.objs.size=s2.heap.objs.size+1:=by rw[<- e3,j4]
 have hDl:s2.heap.objs.size≠h3.objs.size:=by rw[hz];exact qw (yV _)
 generalize eD:s2.heap.objs.size=D at *
 have fD:∀b∈fp,D≠b:=fun b hb=>xE (fl b hb)
 have f3:∀b∈D::fp,xt X pins H2 b:=fun b hb=>(qq.mp hb).elim (fun z=>z▸sD) (f2 b)
 have I4:Inv (qi X (own++fr) scope h3.objs.size { s2 with heap:=h3,toks:=s2.toks } H2 (D::fp)) [] (upS own.length js σ) H2 { s2 with heap:=h1,toks:=s2.toks+([]:List (Str×Value)).length }:=
  WP own fr js I3 B hk f3 (fun b hb=>by
   show b<h3.objs.size
   rw[hz]
   exact(qq.mp hb).elim (fun z=>z▸yV _) fun z=>wv (fl b z)) rfl hns k4
 generalize eC:h3.objs.size=C at *
 have hx:∀b∈D::fp,∀x c,(jg X.env.cells scope.names []).lookup x=some c->c≠b:=fun b hb x c e=>(f3 b hb).2.2.2.2.1 x c (zZ e hasF)
 have nfs:∀b∈D::fp,b∉frs X.stack:=I4.ok.exfs
 have fpB:∀{pins':List (Addr×Obj)} {H':Hp} {b:Addr},b∈D::fp->H' b=none->(∀p∈pins',p.1≠b)->xt (qi X (own++fr) scope C { s2 with heap:=h3,toks:=s2.toks } H2 (D::fp)) pins' H' b:=fun {pins' H' b} hb hn hp=>
  ⟨hn,(I4.ok.exf b hb).1,nfs b hb,.inl hb,fun x c e=>hx b hb x c e,fun p h=>hp p (by simpa using h)⟩
 have loop:∀s4:Shared,s4={ s2 with heap:=h1,toks:=s2.toks+([]:List (Str×Value)).length } ->
   codeAny (model X.prog X.w) X.A (.compLoop (.SetComp elt [⟨tg,iter,ifs,0⟩] scope pos) 0 (.ref it) (.ref D) (compEnvC scope (jg X.env.cells scope.names []) C X.env))
    (compPost (model X.prog X.w) X.A X.xe none (EP X pins σ Q) (.ref D) C) s4:=by
  intro s4 e4
  refine zaR (fun n s'=>∃i ks H',Inv (qi X (own++fr) scope C { s2 with heap:=h3,toks:=s2.toks } H2 (D::fp)) [] (upS own.length js σ) H' s'/\tn i s'.heap/\(∀b∈fp,H' b=none)/\H' D=none/\SetX (zV X.prog X.w) (VQ X.w) s'.heap D ks/\W i n ks H') ?_ m0 ?_
  ·rintro n s5 ⟨i,ks,H5,I5,st5,fr5,hD5,sx5,w5⟩
   obtain⟨o5,ho5,ob5⟩:=id sx5
   have nc:∀v,o5.data≠.cell v:=fun v q=>by
    obtain⟨es,ep,t,_,hd,_⟩:=ob5
    rw[hd] at q;cases q
   have I5':=I5.pinned (fp:=[D]) (fun b hb=>by rw[qR.mp hb];exact fpB jD hD5 (fun p hp=>absurd hp (by simp))) (fun b hb=>by
    rw[qR.mp hb];exact⟨_,ho5,nc⟩)
   have pD:∀p∈[]++qC [D] s5.heap,p.1=D:=fun p hp=>by
    rw[ZK] at hp
    exact qR.mp (wK hp).1
   have mD:(D,o5)∈[]++qC [D] s5.heap:=by
    rw[ZK];exact jw (qR.mpr rfl) ho5
   have fp5:∀{H':Hp},(∀b∈fp,H' b=none)->∀b∈fp,xt (qi X (own++fr) scope C { s2 with heap:=h3,toks:=s2.toks } H2 (D::fp)) ([]++qC [D] s5.heap) H' b:=fun hn b hb=>fpB (jE _ hb) (hn b hb) fun p hp=>by
    rw[pD p hp];exact fD b hb
   rcases turn i n ks H5 w5 with ⟨stop,q⟩ | ⟨go,N,hN,step⟩
   ·refine thn (T.done (qi X (own++fr) scope C { s2 with heap:=h3,toks:=s2.toks } H2 (D::fp)) rfl rfl rfl hc i _ s5 _ H5 _ I5' (fp5 fr5) st5 stop) fun r s6 ⟨hr,I6⟩=>?_
    subst hr
    obtain⟨m6,hn6,_⟩:=I6.loc
    refine⟨m6,hn6,fun h7 hs7=>?_⟩
    obtain⟨o6,nD6,_⟩:=I6.pin (D,_) (qX _ mD)
    have k7:∀b o,b≠C->s6.heap.get? b=some o->h7.get? b=some o:=fun b o hb e=>hs7.extBut b o hb e
    have sx7:SetX (zV X.prog X.w) (VQ X.w) h7 D ks:=⟨o5,k7 D _ hDl o6,ob5⟩
    refine⟨.ref D,upd H5 D (Qi X.prog X.w D ks),?_,rfl,q D nD6⟩
    refine I3.call' (s':={ s6 with heap:=h7 }) (ch:=D::fp) I6.os (Qb (Wi I6.base (wX eC) k7) jD sD.1) (Zk (Xp I6.hok I6.free k7) nD6 ⟨sx7,?_,fun h1 h2 x e=>x.at e⟩) I6.bare fun b hb=>?_
    ·exact⟨o5,k7 D _ hDl o6⟩
    ·obtain⟨_,g1,_,g3,g4,g5⟩:=f3 b hb
     exact⟨g3,g1,g4,g5⟩
   ·refine thn (T.item (qi X (own++fr) scope C { s2 with heap:=h3,toks:=s2.toks } H2 (D::fp)) rfl rfl rfl hc i _ s5 _ H5 _ I5' (fp5 fr5) st5 go) fun r s6 ⟨u,hr,h6⟩=>?_
    subst hr
    refine thn h6 fun _ s7 ⟨x,H7,I7,r7,y7,st7,fr7⟩=>?_
    have I7':=I7.pinned (fp5 fr7) (T.obj _ _ st7)
    refine thn (hg _ _ _ _ _ s7 _ H7 x u _ I7' r7 (step x H7 y7)) fun _ s8 ⟨σ8,H8,I8,hd8,q8⟩=>?_
    refine thn (hf _ _ _ _ _ s8 σ8 H8 _ I8 q8) fun ok s9 ⟨H9,I9,q9⟩=>?_
    have weak:∀{H':Hp} {s':Shared},Inv (qi X (own++fr) scope C { s2 with heap:=h3,toks:=s2.toks } H2 (D::fp)) (([]++qC [D] s5.heap)++qC fp s7.heap) σ8 H' s' ->
      Inv (qi X (own++fr) scope C { s2 with heap:=h3,toks:=s2.toks } H2 (D::fp)) [] (upS own.length js σ) H' s':=fun {H' s'} J=>by
     refine(J.unpinned).unpinned.weak (I5.len.trans J.len.symm) fun k v e=>?_
     obtain⟨hn,e1,_⟩:=vq e
     rw[<- hd8,XJ] at e1
     rw[<- e1]
     congr 1
     omega
    have mF:∀b∈fp,∀o,s7.heap.get? b=some o->(b,o)∈([]++qC [D] s5.heap)++qC fp s7.heap:=fun b hb o e=>qX _ (jw hb e)
    have mD':=xc (qC fp s7.heap) mD
    have frB:∀{H':Hp} {s':Shared},Inv (qi X (own++fr) scope C { s2 with heap:=h3,toks:=s2.toks } H2 (D::fp)) (([]++qC [D] s5.heap)++qC fp s7.heap) σ8 H' s'->∀b∈fp,H' b=none:=fun {H' s'} J b hb=>by
     obtain⟨o,e,_⟩:=T.obj _ _ st7 b hb
     exact(J.pin (b,o) (qX _ (mF b hb o e))).2.1
    cases ok with
    | false=>
     have q9':N ks H9:=by simpa using q9
     obtain⟨m',hm,w'⟩:=hN _ _ q9'
     obtain⟨o9,nD9,_⟩:=I9.pin (D,_) (qX _ mD')
     exact⟨m',hm,i+1,ks,H9,weak I9,T.keep _ _ _ st7 fun b hb o e=>(I9.pin (b,o) (qX _ (mF b hb o e))).1,frB I9,nD9,⟨o5,o9,ob5⟩,w'⟩
    | true=>
     have q9':te σ8 H9 fun y H6=>∃k:Key,y=kV k/\ks.length+1<4096/\N (xh ks k) H6:=by simpa using q9
     refine thn (he _ _ _ _ _ s9 σ8 H9 _ I9 q9') fun yv s10 ⟨y,H10,I10,r10,ky,ey,hlt,w10⟩=>?_
     subst ey
     obtain⟨m',hm,w'⟩:=hN _ _ w10
     obtain⟨o10,nD10,_⟩:=I10.pin (D,_) (qX _ mD')
     refine zhj (wT r10) (zcK r10) ⟨o5,o10,ob5⟩ hlt fun h11 tk11 hs11 sx11=>?_
     refine⟨m',hm,i+1,xh ks ky,H10,?_,T.keep _ _ _ st7 fun b hb o e=>hs11.extBut b o (qH (fD b hb)) (I10.pin (b,o) (qX _ (mF b hb o e))).1,frB I10,nD10,sx11,w'⟩
     exact(weak I10).turned (t':=tk11) (it:=D) (fun b o hb e=>hs11.extBut b o hb e) nD10 hDl (.inl jD) (fun x c e=>hx D jD x c e) fun p hp=>absurd (show p∈([]:List (Addr×Obj)) from hp) (by simp)
  ·subst e4
   exact⟨0,[],H2,I4,T.keep _ _ _ st2 fun b hb o e=>k4 b o (k3 b o e),fun b hb=>(f2 b hb).1,sD.1,sx0.at fun o e=>k4 _ _ e,w0⟩
 exact zaM (loop _ rfl) (T.self X.A 0 _ _ _ (T.keep _ _ _ st2 fun b hb o e=>k4 b o (k3 b o e)) (loop _ rfl))
end
section
variable{X:Cx}{x y:Str}{px py tp:Pos}{kk:Nat}{elt iter:Expr}{ifs:List Expr}{scope:Scope}{pos:Pos}{wi:TI}{tf:TT}{te:TE}
theorem zfa(fr:List Str)(js:List Nat)(hc:X.calm=true)(hk:scope.kind=.function)(hb:wq scope.names X.env.scope.names X.N [x,y] fr js=true)(hi:PI X (.Tuple [.Name x px,.Name y py] kk tp) iter wi)
  (hf:∀C s H ex,PF (qi X ([x,y]++fr) scope C s H ex) ifs tf) (he:∀C s H ex,PE (qi X ([x,y]++fr) scope C s H ex) elt te)
  (hs:∀x,foldedSetIterable iter X.env x=pure x:=by intro _;rfl):PE X (.SetComp elt [⟨.Tuple [.Name x px,.Name y py] kk tp,iter,ifs,0⟩] scope pos) (tSC X.prog X.w wi 2 js (za6 X.K 2 (wU (xY 0) (wU (xY 1) zcQ))) tf te):=by
 obtain⟨h1,h2,h3⟩:=vB hb
 refine zgr [x,y] fr js hc hk h1 hi (fun C s H ex=>?_) hf he hs
 exact qT (X:=qi X ([x,y]++fr) scope C s H ex) hc (zx (v1 (h2 x (by simp)) h3 rfl) (zx (v1 (h2 y (by simp)) h3 rfl) qB))
end
theorem zeV{K:PySem.W.Frag}{a:Addr}{xs:List V}{g:TG}{tf:TT}{te:TE}{σ0:St}{n:Nat}{R:List Key->Hp->Prop}{H:Hp}(Pv:Nat->List Key->Hp->Prop)(h0:Pv 0 [] H)
  (h1:∀i zs H,Pv i zs H->SqT K H a xs)
  (hs:∀i x zs H,xs[i]? =some x->Pv i zs H->g x σ0 H fun σ4 H4=>σ4.drop n=σ0.drop n/\tf σ4 H4 fun b H5=>
   if b=true then te σ4 H5 fun v H6=>∃k:Key,v=kV k/\zs.length+1<4096/\Pv (i+1) (xh zs k) H6 else Pv (i+1) zs H5)
  (hd:∀zs H,Pv xs.length zs H->R zs H) :
  ∃W:Nat->Nat->List Key->Hp->Prop,(∃m,W 0 m [] H)/\∀i m zs H2,W i m zs H2 ->
   ((Itt K a).stop i H2/\R zs H2) \/
   ((Itt K a).go i H2/\∃N:List Key->Hp->Prop,(∀zs H',N zs H'->∃m',m'<m/\W (i+1) m' zs H')/\∀x H3,(Itt K a).yld i H2 x H3->g x σ0 H3 fun σ4 H4=>σ4.drop n=σ0.drop n/\tf σ4 H4 fun b H5=>
    if b=true then te σ4 H5 fun y H6=>∃k:Key,y=kV k/\zs.length+1<4096/\N (xh zs k) H6 else N zs H5):=by
 refine⟨fun i m zs H2=>m=xs.length-i/\i<=xs.length/\Pv i zs H2,⟨_,rfl,qo _,h0⟩,?_⟩
 rintro i m zs H2 ⟨rfl,hi,p⟩
 have q:=h1 i zs H2 p
 by_cases hlt:i<xs.length
 ·refine .inr ⟨⟨xs,xs[i],q,by simp[hlt]⟩,Pv (i+1),fun zs' H' p'=>⟨_,by omega,rfl,hlt,p'⟩,fun x H3 y=>?_⟩
  obtain⟨e,y⟩:=y
  subst e
  exact hs i x zs _ (y xs q) p
 ·have e:i=xs.length:=by omega
  subst e
  exact .inl ⟨⟨xs,q,zC _⟩,hd zs H2 p⟩
section
variable{X:Cx}
end
def BoxAt(H:Hp)(b:Addr)(n:Int):Prop:=∃b0 b1 b2:Int,H b=some (.lst [.int b0,.int b1,.int b2])/\0<=b0/\0<=b1/\b1<2147483648/\0<=b2/\b2<=n
def SameB(b:Addr)(H H':Hp):Prop:=∀c o,H c=some o->c≠b->H' c=some o
theorem ZH{i j:Int}(h1:0<=i)(h2:i<18446744073709551616):CMul i j:=by
 have e1:(-(2^64):Int)= -18446744073709551616:=by decide
 have e2:((2^64):Int)=18446744073709551616:=by decide
 refine .inl ⟨?_,?_⟩
 ·rw[e1];omega
 ·rw[e2];exact h2
theorem zeK{a m j:Int}(h:0<m)(h2:m<18446744073709551616):CMul (a % m) j:=ZH (yT _ (by omega)) (Int.lt_trans (yX _ h) h2)
section
variable{P:Program}{w:World}{K:PySem.W.Frag}{mg:Str->Option Value}{base:Heap}
inductive Vd(vs:List V)(H:Hp)(Q:VK):Prop
 | mk (b:Addr) (size n:Int) (_:vs=[.ref b,.int size]) (_:BoxAt H b n) (_:n<1099511627776) (_:0<size) (_:size<1073741824) (_:∀(r:Int) H',0<=r->r<size->BoxAt H' b (n+1)->SameB b H H'->Q (.int r) H'):Vd  vs H Q
def jM:Sp:=fun vs H Q _=>Vd  vs H Q
theorem zbV:zI ["_law_box_here", "_law_size", "_law_found", "_law_step", "_law_once", "_law_twice"] ["_law_box_here", "_law_size"] (zv (topL 24)):=⟨rfl,rfl,rfl,by decide +kernel,rfl,by decide +kernel,by decide +kernel⟩
theorem zdF{f:Addr}{fd:FuncData}(F:Fun K "_law_take" "_law_take" (topL 24) f fd)(B:Blt mg):qS P w K mg base CX0 1 f fd ["_law_box_here", "_law_size"] jM:=by
 have nd:=zbV.nd
 refine F.ok zbV (fun vs H Q E h=>?_) (fun cdv A outer s H vs Q E hr h=>?_)
 ·obtain⟨b,size,n,rfl,_⟩:=h
  rfl
 ·obtain⟨b,size,n,rfl,⟨b0,b1,b2,hb,p0,p1,p1',p2,p2'⟩,hn,hs0,hs1,k⟩:=h
  refine⟨_,(zf (qe (zA VC (zE zS (pv 0) ze (fun _ _=>rfl)) ze (zB _))
   (zf (jH (zj V7 rfl B.divmod V9 (za (zE zS (pv 0) ze (fun _ _=>rfl)) (za (pv 1) zc))) (qT rfl (zx (Zi (pv 0) ze vt) (zx (zr (i:=2) nd rfl (Or.inl rfl)) qB))))
    (zi (zt (pv 2))))
   zJ)
   (zf (jH (zw zU (zE zS (pv 0) ze (fun _ _=>rfl)) ze) (Zi (pv 0) ze vt))
   (zf (zF (i:=3) nd rfl (Or.inl rfl) (zw zU ze (zw xW (zE zS (pv 0) ze (fun _ _=>rfl)) (zE zS (pv 0) ze (fun _ _=>rfl)))))
   (zf (zF (i:=4) nd rfl (Or.inl rfl) (zw xH (zw xW (zw zU (zE zS (pv 0) ze (fun _ _=>rfl)) (zw xW ze (zE zS (pv 0) ze (fun _ _=>rfl)))) (pv 3)) ze))
   (zf (zF (i:=5) nd rfl (Or.inl rfl) (zw xH (zw zU (zw xW (pv 4) (zw zU (zw xH (pv 4) ze) ze)) (zE zS (pv 0) ze (fun _ _=>rfl))) ze))
   (zi (zt (zw xH (zw YQ (zw xH (zw xW (pv 5) (zw zU (zw xH (pv 5) ze) ze)) ze) ze) (pv 1))))))))),?_⟩
  refine⟨_,rfl,b,_,_,_,rfl,rfl,SqL.of hb,rfl,_,_,rfl,rfl,_,rfl,?_⟩
  refine z7 (fun c=>?_) (fun c=>?_)
  ·refine⟨_,rfl,b,_,_,_,rfl,rfl,SqL.of hb,rfl,_,rfl,_,_,rfl,⟨hs0,hs1⟩,fun p hp=>?_⟩
   have hbp:b≠p:=zn hb hp
   refine⟨p,_,rfl,SqT.of zb,rfl,_,_,rfl,_,rfl,b,_,_,_,rfl,rfl,(by rw[zo hbp];exact hb),rfl,_,_,rfl,rfl,_,rfl,?_⟩
   refine k _ _ (yT _ (by omega)) (yX _ hs0) ⟨_,b1,b2,zb,Int.ediv_nonneg p0 (by omega),p1,p1',p2,by omega⟩ fun d o e hd=>?_
   rw[zo hd,zo (zn e hp)]
   exact e
  ·refine⟨_,rfl,b,_,_,_,rfl,rfl,SqL.of hb,rfl,_,_,rfl,rfl,_,rfl,b,_,_,_,rfl,rfl,hb,rfl,?_⟩
   have hb1:upd H b (.lst [.int b0,.int b1,.int (b2+1)]) b=some (.lst [.int b0,.int b1,.int (b2+1)]):=zb
   refine⟨_,rfl,b,_,_,_,rfl,rfl,SqL.of hb1,rfl,_,rfl,b,_,_,_,rfl,rfl,SqL.of hb1,rfl,_,_,rfl,rfl,ZH (by omega) (by omega),_,_,rfl,rfl,?_⟩
   refine⟨_,rfl,b,_,_,_,rfl,rfl,SqL.of hb1,rfl,_,rfl,b,_,_,_,rfl,rfl,SqL.of hb1,rfl,_,_,rfl,rfl,ZH (by omega) (by omega),_,_,rfl,rfl,_,rfl,_,_,rfl,rfl,ZH (by omega) (by omega),_,_,rfl,rfl,(by show(0:Int)<_;decide),?_⟩
   refine⟨_,rfl,_,rfl,_,_,rfl,rfl,(by show(0:Int)<_;decide),_,_,rfl,rfl,_,_,rfl,rfl,zeK (by decide) (by decide),_,rfl,b,_,_,_,rfl,rfl,SqL.of hb1,rfl,_,_,rfl,rfl,_,_,rfl,rfl,(by show(0:Int)<_;decide),?_⟩
   refine⟨_,rfl,_,rfl,_,_,rfl,rfl,(by show(0:Int)<_;decide),_,_,rfl,rfl,_,_,rfl,rfl,zeK (by decide) (by decide),_,_,rfl,rfl,(by show(0:Int)<_;decide),_,_,rfl,rfl,⟨by decide,by decide⟩,_,rfl,_,_,rfl,rfl,hs0,?_⟩
   refine k _ _ (yT _ (by omega)) (yX _ hs0) ⟨b0,b1,b2+1,hb1,p0,p1,p1',by omega,by omega⟩ fun d o e hd=>?_
   rw[zo hd]
   exact e
inductive Yv(K:PySem.W.Frag)(vs:List V)(H:Hp)(Q:VK):Prop
 | mk (a:Addr) (ns:List Int) (j:Nat) (_:vs=[.ref a,.int j]) (_:SqL K H a (ns.map V.int)) (_:j<=100) (_:∀p o,H p=none->BoxAt (upd H p o) p 0->Q (.ref p) (upd H p o)):Yv K vs H Q
def zen(K:PySem.W.Frag):Sp:=fun vs H Q _=>Yv K vs H Q
theorem zex:zI ["_law_script", "_law_k", "_law_cell"] ["_law_script", "_law_k"] (zv (topL 23)):=⟨rfl,rfl,rfl,by decide +kernel,rfl,by decide +kernel,by decide +kernel⟩
theorem zad{c:Int}{j:Nat}(hj:j<=100):CMul (zbl c) (if decide (10^18<=zbl c)=true then 1 else 0):=by
 refine .inr ?_
 split
 ·exact⟨by decide,by decide⟩
 ·exact⟨by decide,by decide⟩
theorem zcY{c:Int}:0<=zbl c*(if decide (10^18<=zbl c)=true then 1 else 0):=by
 have h:0<=zbl c:=by unfold zbl;split<;>omega
 split
 ·rw[Int.mul_one];exact h
 ·rw[Int.mul_zero];exact Int.le_refl 0
theorem zfm{f:Addr}{fd:FuncData}(F:Fun K "_law_box" "_law_box" (topL 23) f fd)(B:Blt mg):qS P w K mg base CX0 1 f fd ["_law_script", "_law_k"] (zen K):=by
 have nd:=zex.nd
 refine F.ok zex (fun vs H Q E h=>?_) (fun cdv A outer s H vs Q E hr h=>?_)
 ·obtain⟨a,ns,j,rfl,_⟩:=h
  rfl
 ·obtain⟨a,ns,j,rfl,hS,hj,k⟩:=h
  refine⟨_,(zf (zF (i:=2) nd rfl (Or.inl rfl) (jT (zA YO (pv 1) (zj zp rfl B.len boot_len (za (pv 0) zc)) (zB _)) (zE zS (pv 0) (pv 1) (fun _ _=>rfl)) ze))
   (zi (zt (zO (za (zw xW (zj V8 rfl B.abs Wa (za (pv 2) zc)) (zY Zp rfl B.int vy (za (qK zeH (zj V8 rfl B.abs Wa (za (pv 2) zc)) (zw zco ze ze) (zB _)) zc))) (za (zw xH (zw xW (zw zU (zw zU (zw xH (pv 2) ze) (zw xW ze (pv 1))) ze) ze) ze) (za ze zc))))))),?_⟩
  refine⟨_,rfl,_,rfl,a,_,rfl,.inl hS,_,_,rfl,rfl,_,rfl,?_⟩
  refine z7 (fun c=>?_) (fun c=>?_)
  ·have hl:j<ns.length:=by
    have:=qW c
    rw[zq] at this
    omega
   refine⟨_,rfl,_,rfl,a,_,_,.int ns[j],rfl,rfl,hS,qI (by simp[hl]),?_⟩
   generalize ns[j]=z
   refine⟨_,rfl,_,rfl,_,rfl,_,rfl,_,_,rfl,rfl,⟨by decide,by decide,by decide⟩,_,_,rfl,rfl,.inr ⟨_,rfl,_,_,rfl,rfl,zad hj,_,rfl,_,_,rfl,rfl,(by show(0:Int)<_;decide),_,rfl,_,_,rfl,rfl,ZH (by decide) (by decide),_,_,rfl,rfl,_,_,rfl,rfl,_,_,rfl,rfl,?_,_,_,rfl,rfl,(by show(0:Int)<_;decide),(by rw[sizeLine_eq];exact(by decide:3<=16777216)),fun p hp=>k p _ hp ⟨_,_,_,zb,?_,?_,?_,by decide,by decide⟩⟩⟩
   ·refine ZH ?_ ?_
    ·have:=yT z (show(2147483629:Int)≠0 by decide)
     omega
    ·have:=yX z (show(0:Int)<2147483629 by decide)
     omega
   ·exact zcY
   ·exact yT _ (by decide)
   ·exact Int.lt_trans (yX _ (by decide)) (by decide)
  ·refine⟨_,rfl,_,rfl,_,rfl,_,rfl,_,_,rfl,rfl,⟨by decide,by decide,by decide⟩,_,_,rfl,rfl,.inr ⟨_,rfl,_,_,rfl,rfl,zad hj,_,rfl,_,_,rfl,rfl,(by show(0:Int)<_;decide),_,rfl,_,_,rfl,rfl,ZH (by decide) (by decide),_,_,rfl,rfl,_,_,rfl,rfl,_,_,rfl,rfl,?_,_,_,rfl,rfl,(by show(0:Int)<_;decide),(by rw[sizeLine_eq];exact(by decide:3<=16777216)),fun p hp=>k p _ hp ⟨_,_,_,zb,?_,?_,?_,by decide,by decide⟩⟩⟩
   ·refine ZH ?_ ?_
    ·have:=yT 0 (show(2147483629:Int)≠0 by decide)
     omega
    ·have:=yX 0 (show(0:Int)<2147483629 by decide)
     omega
   ·exact zcY
   ·exact yT _ (by decide)
   ·exact Int.lt_trans (yX _ (by decide)) (by decide)
end
theorem zcU{xs:List V}{lo hi:Option Int}{x:V}(h:x∈zQ xs lo hi):x∈xs:=QO (ZN h)
theorem Xn{n j:Nat}(h:j<n):ixN n (j:Int)=some j:=by
 unfold ixN
 rw[if_pos (by omega),if_pos (by omega)];simp
theorem zcV(ns:List Int)(lo hi:Option Int):∃ms:List Int,zQ (ns.map V.int) lo hi=ms.map V.int:=by
 refine⟨(ns.drop (HT.sIx ns.length 0 lo)).take (HT.sIx ns.length ns.length hi-HT.sIx ns.length 0 lo),?_⟩
 unfold zQ
 rw[zq,QR,List.map_drop]
theorem zea(ns:List Int)(z:Nat):(zQ (ns.map V.int) none (some (z:Int))).length=min z ns.length:=by
 unfold zQ
 rw[HT.sIx_nat,HT.sIx_none,z9,xF,zq]
 omega
theorem zeb(ns:List Int)(z:Nat)(hi:Option Int):(zQ (ns.map V.int) (some (z:Int)) hi).length<=ns.length-min z ns.length:=by
 unfold zQ
 rw[HT.sIx_nat,z9,xF,zq]
 omega
section
variable{P:Program}{w:World}{K:PySem.W.Frag}{mg:Str->Option Value}{base:Heap}
inductive Vm(K:PySem.W.Frag)(vs:List V)(H:Hp)(Q:VK):Prop
 | mk (a:Addr) (ns:List Int) (z:Nat) (_:vs=[.ref a,.int z]) (_:SqL K H a (ns.map V.int)) (_:ns.length<=63) (_:1<=z) (_:z<=63) (_:∀(p:Addr) (ms:List Int) H',Same H H'->SqL K H' p (ms.map V.int)->ms.length<=z->Q (.ref p) H'):Vm K vs H Q
def zbM(K:PySem.W.Frag):Sp:=fun vs H Q _=>Vm K vs H Q
theorem zb4:zI ["_law_script", "_law_size", "_law_cells", "_law_k", "_law_cell"] ["_law_script", "_law_size"] (zv (topL 25)):=⟨rfl,rfl,rfl,by decide +kernel,rfl,by decide +kernel,by decide +kernel⟩
def zau(a:_)(z:Nat)(p:_)(H:_)(q:_)(ns:List Int):=fun(i:Nat) (σ:St) (H2:Hp)=>(Ex3 fun(ms:List Int) (v3 v4:Option V)=>An5 (σ=[some (.ref a),some (.int z),some (.ref p),v3,v4]) (Same H H2) (H2 p=some (.lst (ms.map V.int))) (H2 q=some (.lst (zQ (ns.map V.int) (some (z:Int)) (some 63)))) (ms.length=min z ns.length):Prop)
theorem zdN{f:Addr}{fd:FuncData}(F:Fun K "_law_folded" "_law_folded" (topL 25) f fd)(B:Blt mg):qS P w K mg base CX0 1 f fd ["_law_script", "_law_size"] (zbM K):=by
 have nd:=zb4.nd
 refine F.ok zb4 (fun vs H Q E h=>?_) (fun cdv A outer s H vs Q E hr h=>?_)
 ·obtain⟨a,ns,z,rfl,_⟩:=h
  rfl
 ·obtain⟨a,ns,z,rfl,hS,hlen,hz1,hz2,k⟩:=h
  refine⟨_,(zf (zF (i:=2) nd rfl (Or.inl rfl) (zY xO rfl B.list qZ (za (zM qO (pv 0) qy (zP (pv 1))) zc)))
   (zf (ja jB rfl (Xd rfl B.enumerate (za (zM qO (pv 0) (zP (pv 1)) (zP ze)) zc)) (qT rfl (zx (zr (i:=3) nd rfl (Or.inl rfl)) (zx (zr (i:=4) nd rfl (Or.inl rfl)) qB)))
   (zi (jH (zw zU (zE zS (pv 2) (zw xH (pv 3) (pv 1)) (fun _ _=>rfl)) (zw xW (pv 4) (zw zU (pv 3) ze))) (Zi (pv 2) (zw xH (pv 3) (pv 1)) vt))))
   (zi (zt (pv 2))))),?_⟩
  refine⟨_,rfl,_,rfl,_,rfl,a,_,rfl,hS,fun l hl=>⟨l,_,rfl,.inl (SqL.of zb),fun p hp=>?_⟩⟩
  have s1:Same H (upd (upd H l (.lst (zQ (ns.map V.int) none (some (z:Int))))) p (.lst (zQ (ns.map V.int) none (some (z:Int))))):=(zd hl).trans (zd hp)
  generalize hH1:upd (upd H l (.lst (zQ (ns.map V.int) none (some (z:Int))))) p (.lst (zQ (ns.map V.int) none (some (z:Int))))=H1 at s1
  have hp1:H1 p=some (.lst (zQ (ns.map V.int) none (some (z:Int)))):=by rw[<- hH1];exact zb
  have np:H p=none:=(zd hl).free hp
  refine⟨_,rfl,_,rfl,_,rfl,_,rfl,a,_,rfl,s1.seq hS,fun q hq=>⟨q,rfl,⟨_,SqL.of zb⟩,?_⟩⟩
  have npq:p≠q:=zn hp1 hq
  obtain⟨ms0,hms0⟩:=zcV ns none (some (z:Int))
  have lo:=zea ns z
  have hi:=zeb ns z (some 63)
  refine QA (K:=K) (a:=q) (xs:=zQ (ns.map V.int) (some (z:Int)) (some 63)) (zau a z p H q ns)
   ⟨ms0,none,none,rfl,s1.trans (zd hq),by rw[zo npq,hp1,hms0],zb,by rw[<- lo,hms0,zq]⟩ (fun i σ H2 _ ⟨_,_,_,_,_,_,h,_⟩=>SqL.of h) ?_ ?_
  ·rintro i x σ H2 T hx ⟨ms,v3,v4,rfl,sm,hp2,hq2,hml⟩ hT
   have hil:i<(zQ (ns.map V.int) (some (z:Int)) (some 63)).length:=(zN.mp hx).1
   obtain⟨c,rfl⟩:∃c,x=V.int c:=by
    have:=zcU (jl hx)
    obtain⟨c,_,e⟩:=jC.mp this
    exact⟨c,e.symm⟩
   have hj:i % z<ms.length:=by
    have:=Nat.mod_lt i (show 0<z by omega)
    omega
   have npT:p≠T:=zn hp2 hT
   have nqT:q≠T:=zn hq2 hT
   have hp3:upd H2 T (.tup [.int i,.int c]) p=some (.lst (ms.map V.int)):=by rw[zo npT];exact hp2
   have em:((i % z:Nat):Int)=(i:Int) % (z:Int):=Int.natCast_emod i z
   have hz0:(0:Int)<(z:Int):=by omega
   refine⟨T,_,rfl,SqT.of zb,rfl,_,_,rfl,_,_,rfl,rfl,?_⟩
   refine⟨_,rfl,_,rfl,_,rfl,_,_,rfl,rfl,hz0,p,_,_,.int ms[i % z],rfl,rfl,SqL.of hp3,(by rw[<- em];exact qI (by simp[hj])),?_⟩
   refine⟨_,rfl,_,rfl,_,_,rfl,rfl,_,_,rfl,rfl,.inr ⟨?_,?_⟩,_,_,rfl,rfl,?_⟩
   ·have e1:(-(2^64):Int)= -18446744073709551616:=by decide
    rw[e1];omega
   ·have e2:((2^64):Int)=18446744073709551616:=by decide
    rw[e2];omega
   refine⟨_,rfl,_,rfl,_,rfl,_,_,rfl,rfl,hz0,p,_,_,i % z,rfl,rfl,hp3,(by rw[<- em,zq];exact Xn hj),?_⟩
   refine⟨ms.set (i % z) (ms[i % z]+c*((i:Int)+2)),_,_,rfl,fun d o e=>?_,by rw[zb,List.map_set],?_,by rw[List.length_set];exact hml⟩
   ·rw[zo (zn e np),zo (zn (sm d o e) hT)]
    exact sm d o e
   ·rw[zo (qH npq),zo nqT]
    exact hq2
  ·rintro σ H2 ⟨ms,v3,v4,rfl,sm,hp2,hq2,hml⟩
   exact⟨_,rfl,k p ms H2 sm (SqL.of hp2) (by omega)⟩
end
theorem yf:[V.ty "list",V.ty "tuple"].length<=sizeLine:=by rw[sizeLine_eq];exact(by decide:2<=16777216)
section
variable{P:Program}{w:World}{K:PySem.W.Frag}{mg:Str->Option Value}{base:Heap}
def spS(K:PySem.W.Frag):Nat->Sp
 | 0=>fun _ _ _ _=>False
 | n+1=>fun vs H Q _=>∃d f v,vs=[f,v]/\Rep K H d f/\Rep K H d v/\Dat.ok n d/\∀H',Same H H'->Q (.bl true) H'
theorem zbX:zI ["_law_found", "_law_due_here"] ["_law_found", "_law_due_here"] (zv (topL 26)):=⟨rfl,rfl,rfl,by decide +kernel,rfl,by decide +kernel,by decide +kernel⟩
theorem YT{f:Addr}{fd:FuncData}(F:Fun K "_law_same" "_law_same" (topL 26) f fd)(B:Blt mg)(hm:mg "_law_same" = some (.ref f))(hb:Binds K fd ["_law_found", "_law_due_here"] []) :
  ∀n:Nat,qS P w K mg base CX0 n f fd ["_law_found", "_law_due_here"] (spS K n)
 | 0=>⟨fun _ _ _ _ h=>h.elim,fun _ _ _ _ _ _ _ _ _ _ _ _ _ h=>h.elim⟩
 | n+1=>by
  have D_same:Dfn P w K mg base "_law_same" n ["_law_found", "_law_due_here"] (spS K n):=⟨f,fd,YT F B hm hb n,hm,F.kp,hb⟩
  have nd:=zbX.nd
  refine F.ok zbX (fun vs H Q E h=>?_) (fun cdv A outer s H vs Q E hr h=>?_)
  ·obtain⟨d,g,v,rfl,_⟩:=h
   rfl
  ·obtain⟨d,g,v,rfl,rg,rv,ok,k⟩:=h
   refine⟨_,(zf (qe (qG (zj Zo rfl B.isinstance boot_isinstance (za (pv 1) (za (zX (za (qh (v:=.ty "list") rfl B.list qZ rfl) (za (qh (v:=.ty "tuple") rfl B.tuple zT rfl) zc))) zc))))
   (zf (qe (PW.pt (xf (ju (qG (zj Zo rfl B.isinstance boot_isinstance (za (pv 0) (za (zX (za (qh (v:=.ty "list") rfl B.list qZ rfl) (za (qh (v:=.ty "tuple") rfl B.tuple zT rfl) zc))) zc))))) (j5 (zA ZC (zj qm rfl B.isinstance boot_isinstance (za (pv 0) (za (qh (v:=.ty "list") rfl B.list qZ rfl) zc))) (zj qm rfl B.isinstance boot_isinstance (za (pv 1) (za (qh (v:=.ty "list") rfl B.list qZ rfl) zc))) (zB _)))))
    (zi (zt jW))
    zJ)
    (zi (zt (xg (qK qQ (zj zp rfl B.len boot_len (za (pv 0) zc)) (zj zp rfl B.len boot_len (za (pv 1) zc)) (zB _)) (xo (zj (jA rfl) rfl B.all boot_all (za (wa [] [] rfl rfl (by kernel_rfl) (ze8 rfl B.zip (za (pv 0) (za (pv 1) zc))) (fun _ _ _ _=>jb) (fun _ _ _ _=>(zg D_same (hr.mono (by omega)) rfl (za (pv 0) (za (pv 1) zc))))) zc)))))))
   zJ)
   (zf (qe (PW.pt (xf (zA Xg (pv 1) jY (zB _)) (j5 (qG (zj qm rfl B.isinstance boot_isinstance (za (pv 1) (za (qh (v:=.ty "str") rfl B.str x5 rfl) zc)))))))
   (zi (zt (xg (qK qQ (pv 0) (pv 1) (zB _)) (xo (qK qQ (zj qm rfl B.isinstance boot_isinstance (za (pv 0) (za (qh (v:=.ty "str") rfl B.str x5 rfl) zc))) (zj qm rfl B.isinstance boot_isinstance (za (pv 1) (za (qh (v:=.ty "str") rfl B.str x5 rfl) zc))) (zB _))))))
   zJ)
   (zi (zt (xg (zj qm rfl B.isinstance boot_isinstance (za (pv 0) (za (qh (v:=.ty "int") rfl B.int vy rfl) zc))) (xg (qK qQ (zj qm rfl B.isinstance boot_isinstance (za (pv 0) (za (qh (v:=.ty "bool") rfl B.bool vz rfl) zc))) (zj qm rfl B.isinstance boot_isinstance (za (pv 1) (za (qh (v:=.ty "bool") rfl B.bool vz rfl) zc))) (zB _)) (xo (qK qQ (pv 0) (pv 1) (zB _))))))))),?_⟩
   refine⟨_,rfl,yf,fun p hp=>⟨v,d.tyN,p,["list", "tuple"],rfl,(rv.same (zd hp)).ty,zb,(by decide),_,rfl,?_⟩⟩
   have s1:Same H (upd H p (.tup [V.ty "list",V.ty "tuple"])):=zd hp
   have rg1:=rg.same s1
   have rv1:=rv.same s1
   generalize upd H p (.tup [V.ty "list",V.ty "tuple"])=H1 at s1 rg1 rv1
   cases d with
   | non=>
    cases(show g=_ from rg);cases(show v=_ from rv)
    refine ifF rfl ⟨_,rfl,rfl,_,rfl,ifT (by simp) (ifT rfl ?_)⟩
    refine⟨_,rfl,_,rfl,rfl,_,rfl,ifT (by simp) ⟨_,rfl,_, "NoneType", "str",rfl,rg1.ty,(by decide),_,rfl,_, "NoneType", "str",rfl,rv1.ty,(by decide),rfl,?_⟩⟩
    have:=k H1 s1
    simpa using this
   | str x=>
    cases(show g=_ from rg);cases(show v=_ from rv)
    refine ifF rfl ⟨_,rfl,rfl,_,rfl,ifF (by simp) ⟨_,rfl,_, "str", "str",rfl,rv1.ty,(by decide),_,rfl,ifT (by decide) ?_⟩⟩
    refine⟨_,rfl,_,rfl,rfl,_,rfl,ifT (by simp) ⟨_,rfl,_, "str", "str",rfl,rg1.ty,(by decide),_,rfl,_, "str", "str",rfl,rv1.ty,(by decide),rfl,?_⟩⟩
    have:=k H1 s1
    simpa using this
   | bl b=>
    cases(show g=_ from rg);cases(show v=_ from rv)
    refine ifF rfl ⟨_,rfl,rfl,_,rfl,ifF (by simp) ⟨_,rfl,_, "bool", "str",rfl,rv1.ty,(by decide),_,rfl,ifF (by decide) ?_⟩⟩
    refine⟨_,rfl,_, "bool", "int",rfl,rg1.ty,(by decide),_,rfl,ifT (by decide) ⟨_,rfl,_, "bool", "bool",rfl,rg1.ty,(by decide),_,rfl,_, "bool", "bool",rfl,rv1.ty,(by decide),rfl,_,rfl,ifT (by simp) ⟨_,rfl,_,rfl,rfl,?_⟩⟩⟩
    have:=k H1 s1
    simpa using this
   | int b=>
    cases(show g=_ from rg);cases(show v=_ from rv)
    refine ifF rfl ⟨_,rfl,rfl,_,rfl,ifF (by simp) ⟨_,rfl,_, "int", "str",rfl,rv1.ty,(by decide),_,rfl,ifF (by decide) ?_⟩⟩
    refine⟨_,rfl,_, "int", "int",rfl,rg1.ty,(by decide),_,rfl,ifT (by decide) ⟨_,rfl,_, "int", "bool",rfl,rg1.ty,(by decide),_,rfl,_, "int", "bool",rfl,rv1.ty,(by decide),rfl,_,rfl,ifT (by simp) ⟨_,rfl,_,rfl,rfl,?_⟩⟩⟩
    have:=k H1 s1
    simpa using this
   | lst ds=>
    obtain⟨a,xs,rfl,hx,rx⟩:=rg1
    obtain⟨b,ys,rfl,hy,ry⟩:=rv1
    cases n with
    | zero=>exact(show False from ok).elim
    | succ n=>
     obtain⟨hlen,hall⟩:ds.length<=1000000/\∀d∈ds,Dat.ok n d:=ok
     have lx:=rx.len
     have ly:=ry.len
     have hbig:1000000<sizeLine:=by rw[sizeLine_eq];decide
     refine ifT rfl ?_
     refine⟨_,rfl,yf,fun p2 hp2=>⟨.ref a, "list",p2,["list", "tuple"],rfl,(.inl ⟨rfl,xs,(zd hp2).seq hx⟩),zb,(by decide),_,rfl,ifF rfl ?_⟩⟩
     have s2:Same H1 (upd H1 p2 (.tup [V.ty "list",V.ty "tuple"])):=zd hp2
     have hx2:=s2.seq hx
     have hy2:=s2.seq hy
     have rx2:=rx.same s2
     have ry2:=ry.same s2
     have s3:=s1.trans s2
     generalize upd H1 p2 (.tup [V.ty "list",V.ty "tuple"])=H2 at s2 s3 hx2 hy2 rx2 ry2
     refine⟨_,rfl,.ref a, "list", "list",rfl,(.inl ⟨rfl,xs,hx2⟩),(by decide),_,rfl,.ref b, "list", "list",rfl,(.inl ⟨rfl,ys,hy2⟩),(by decide),rfl,_,rfl,ifF (by decide) ?_⟩
     refine⟨_,rfl,a,xs,rfl,(.inl hx2),_,rfl,b,ys,rfl,(.inl hy2),rfl,_,rfl,ifT (by simp[lx,ly]) ?_⟩
     refine⟨_,rfl,_,rfl,true,true,a,b,rfl,⟨xs,hx2⟩,⟨ys,hy2⟩,?_⟩
     refine zcG (K:=K) (k1:=true) (k2:=true) (xs:=xs) (ys:=ys) (fun i zs H3=>zs=List.replicate i (V.bl true)/\Same H2 H3) ⟨rfl,Same.refl _⟩ (fun i zs H3 ⟨_,sm⟩=>⟨sm.seq hx2,sm.seq hy2⟩) ?_ ?_
     ·rintro i x y zs H3 T e1 e2 ⟨rfl,sm⟩ hT
      have hi:i<ds.length:=by have:=(zN.mp e1).1;omega
      obtain⟨d1,q1,r1⟩:=rx2.get e1
      obtain⟨d2,q2,r2⟩:=ry2.get e2
      rw[q1] at q2;cases q2
      have s4:=sm.trans (zd (o:=.tup [x,y]) hT)
      refine⟨T,_,rfl,SqT.of zb,rfl,_,_,rfl,_,_,rfl,rfl,rfl,?_⟩
      refine⟨_,rfl,_,rfl,d1,x,y,rfl,r1.same s4,r2.same s4,hall d1 (jl q1),fun H5 s5=>⟨?_,?_,s4.trans s5⟩⟩
      ·rw[w8];omega
      ·rw[XR]
     ·rintro zs H3 ⟨rfl,sm⟩
      refine⟨by rw[w8];omega,fun D hD=>⟨D,List.replicate (min xs.length ys.length) true,rfl,?_,?_⟩⟩
      ·refine SqL.of ?_
       rw[zb,List.map_replicate]
      ·have:=k _ (s3.trans (sm.trans (zd (o:=.lst (List.replicate (min xs.length ys.length) (V.bl true))) hD)))
       simpa using this
   | tup ds=>
    obtain⟨a,xs,rfl,hx,rx⟩:=rg1
    obtain⟨b,ys,rfl,hy,ry⟩:=rv1
    cases n with
    | zero=>exact(show False from ok).elim
    | succ n=>
     obtain⟨hlen,hall⟩:ds.length<=1000000/\∀d∈ds,Dat.ok n d:=ok
     have lx:=rx.len
     have ly:=ry.len
     have hbig:1000000<sizeLine:=by rw[sizeLine_eq];decide
     refine ifT rfl ?_
     refine⟨_,rfl,yf,fun p2 hp2=>⟨.ref a, "tuple",p2,["list", "tuple"],rfl,(.inr ⟨rfl,xs,(zd hp2).sqT hx⟩),zb,(by decide),_,rfl,ifF rfl ?_⟩⟩
     have s2:Same H1 (upd H1 p2 (.tup [V.ty "list",V.ty "tuple"])):=zd hp2
     have hx2:=s2.sqT hx
     have hy2:=s2.sqT hy
     have rx2:=rx.same s2
     have ry2:=ry.same s2
     have s3:=s1.trans s2
     generalize upd H1 p2 (.tup [V.ty "list",V.ty "tuple"])=H2 at s2 s3 hx2 hy2 rx2 ry2
     refine⟨_,rfl,.ref a, "tuple", "list",rfl,(.inr ⟨rfl,xs,hx2⟩),(by decide),_,rfl,.ref b, "tuple", "list",rfl,(.inr ⟨rfl,ys,hy2⟩),(by decide),rfl,_,rfl,ifF (by decide) ?_⟩
     refine⟨_,rfl,a,xs,rfl,(.inr hx2),_,rfl,b,ys,rfl,(.inr hy2),rfl,_,rfl,ifT (by simp[lx,ly]) ?_⟩
     refine⟨_,rfl,_,rfl,false,false,a,b,rfl,⟨xs,hx2⟩,⟨ys,hy2⟩,?_⟩
     refine zcG (K:=K) (k1:=false) (k2:=false) (xs:=xs) (ys:=ys) (fun i zs H3=>zs=List.replicate i (V.bl true)/\Same H2 H3) ⟨rfl,Same.refl _⟩ (fun i zs H3 ⟨_,sm⟩=>⟨sm.sqT hx2,sm.sqT hy2⟩) ?_ ?_
     ·rintro i x y zs H3 T e1 e2 ⟨rfl,sm⟩ hT
      have hi:i<ds.length:=by have:=(zN.mp e1).1;omega
      obtain⟨d1,q1,r1⟩:=rx2.get e1
      obtain⟨d2,q2,r2⟩:=ry2.get e2
      rw[q1] at q2;cases q2
      have s4:=sm.trans (zd (o:=.tup [x,y]) hT)
      refine⟨T,_,rfl,SqT.of zb,rfl,_,_,rfl,_,_,rfl,rfl,rfl,?_⟩
      refine⟨_,rfl,_,rfl,d1,x,y,rfl,r1.same s4,r2.same s4,hall d1 (jl q1),fun H5 s5=>⟨?_,?_,s4.trans s5⟩⟩
      ·rw[w8];omega
      ·rw[XR]
     ·rintro zs H3 ⟨rfl,sm⟩
      refine⟨by rw[w8];omega,fun D hD=>⟨D,List.replicate (min xs.length ys.length) true,rfl,?_,?_⟩⟩
      ·refine SqL.of ?_
       rw[zb,List.map_replicate]
      ·have:=k _ (s3.trans (sm.trans (zd (o:=.lst (List.replicate (min xs.length ys.length) (V.bl true))) hD)))
       simpa using this
end
theorem le0:([]:List V).length<=sizeLine:=qo _
theorem le2{x y:V}:[x,y].length<=sizeLine:=by rw[sizeLine_eq];exact(by decide:2<=16777216)
theorem SameB.refl(b:Addr)(H:Hp):SameB b H H:=fun _ _ e _=>e
theorem SameB.trans{b:Addr}{H H1 H2:Hp}(a:SameB b H H1)(c:SameB b H1 H2):SameB b H H2:=fun d o e hd=>c d o (a d o e hd) hd
theorem SameB.of{b:Addr}{H H1:Hp}(a:Same H H1):SameB b H H1:=fun d o e _=>a d o e
theorem SameB.new{b p:Addr}{o:HO}{H H1:Hp}(a:SameB b H H1)(h:H1 p=none):SameB b H (upd H1 p o):=a.trans (.of (zd h))
theorem BoxAt.new{b p:Addr}{o:HO}{H:Hp}{n:Int}(a:BoxAt H b n)(h:H p=none):BoxAt (upd H p o) b n:=by
 obtain⟨b0,b1,b2,e,r⟩:=a
 exact⟨b0,b1,b2,by rw[zo (zn e h)];exact e,r⟩
theorem BoxAt.same{b:Addr}{H H':Hp}{n:Int}(a:BoxAt H b n)(s:Same H H'):BoxAt H' b n:=by
 obtain⟨b0,b1,b2,e,r⟩:=a
 exact⟨b0,b1,b2,s _ _ e,r⟩
theorem BoxAt.ne{b t:Addr}{H:Hp}{n:Int}{o:HO}(a:BoxAt H b n)(h:H t=some o)(hl:∀x y z,o≠.lst [x,y,z]):t≠b:=by
 obtain⟨b0,b1,b2,e,r⟩:=a
 exact YV h e (hl _ _ _)
theorem BoxAt.some{b:Addr}{H:Hp}{n:Int}(a:BoxAt H b n):∃o,H b=.some o:=let ⟨_,_,_,e,_⟩:=a;⟨_,e⟩
theorem BoxAt.mono{b:Addr}{H:Hp}{n m:Int}(a:BoxAt H b n)(h:n<=m):BoxAt H b m:=by
 obtain⟨b0,b1,b2,e,p0,p1,p2,p3,p4⟩:=a
 exact⟨b0,b1,b2,e,p0,p1,p2,p3,by omega⟩
theorem le1{x:V}:[x].length<=sizeLine:=by rw[sizeLine_eq];exact(by decide:1<=16777216)
theorem le3{x y z:V}:[x,y,z].length<=sizeLine:=by rw[sizeLine_eq];exact(by decide:3<=16777216)
theorem le4{x y z u:V}:[x,y,z,u].length<=sizeLine:=by rw[sizeLine_eq];exact(by decide:4<=16777216)
theorem leN{xs:List V}(h:xs.length<=1000):xs.length<=sizeLine:=by rw[sizeLine_eq];omega
theorem yn{α:Type}{xs:List α}{i:Int}(h:0<=i)(h':i<xs.length):∃v,atI xs i=some v/\xs[i.toNat]? =some v:=by
 have hl:i.toNat<xs.length:=by omega
 refine⟨xs[i.toNat],?_,by simp[hl]⟩
 have:=qI (xs:=xs) (j:=i.toNat) (v:=xs[i.toNat]) (by simp[hl])
 rwa[show((i.toNat:Nat):Int)=i by omega] at this
theorem zgo{α:V->Prop}{xs:List V}{r:Int}(h0:0<=r)(h1:r<xs.length)(all:∀x∈xs,α x):∃v,atI xs r=some v/\α v:=by
 obtain⟨v,e,e'⟩:=yn h0 h1
 exact⟨v,e,all v (jl e')⟩
theorem fm0{α:V->Prop}:∀y∈([]:List V),α y:=fun y h=>nomatch h
theorem fm{α:V->Prop}{x:V}{xs:List V}(h:α x)(hs:∀y∈xs,α y):∀y∈x::xs,α y:=fun y hy=>(qq.mp hy).elim (fun e=>e▸h) (hs y)
theorem SameB.put{b m:Addr}{H H':Hp}{o:HO}(s:SameB b H H')(h:H m=none):SameB b H (upd H' m o):=fun c u e hc=>by
 rw[zo (zn e h)];exact s c u e hc
theorem SameB.none{b m:Addr}{H H':Hp}(s:SameB b H H')(h:H' m=none)(hm:m≠b):H m=none:=by
 cases q:H m with
 | none=>rfl
 | some o=>have:=s m o q hm;rw[h] at this;cases this
def vM(x:Str):Prop:=(x.cps.toList.map VP).all id=true
theorem zfr{r:Int}(h0:0<=r)(h1:r<26):∃c,atI zgi.cps.toList r=some c/\VP c=true:=by
 rw[zcD]
 obtain⟨c,e,e'⟩:=yn (xs:=List.range' 97 26) h0 (by rw[List.length_range'];omega)
 have hm:=List.mem_range'_1.mp (jl e')
 refine⟨c,e,?_⟩
 unfold VP
 rw[qF (by omega),qF (by omega)]
 rfl
theorem zcC{c:Nat}{y:Str}(h:VP c=true)(hy:vM y):vM ((⟨#[c]⟩:Str)++y):=by
 unfold vM at hy ⊢
 show((#[c]++y.cps).toList.map VP).all id=true
 rw[Array.toList_append,zW,List.all_append,hy,Bool.and_true]
 show(VP c&&true)=true
 rw[h];rfl
theorem zcE{c:Nat}{y:Str}:((⟨#[c]⟩:Str)++y).length=y.length+1:=by
 show(#[c]++y.cps).size=y.cps.size+1
 rw[XG]
 show 1+_=_
 omega
theorem BoxAt.nne{b p:Addr}{H:Hp}{n:Int}(a:BoxAt H b n)(h:H p=none):p≠b:=by
 obtain⟨o,e⟩:=a.some
 exact(zn e h).symm
theorem BoxAt.other{b l:Addr}{H:Hp}{n:Int}{o:HO}(a:BoxAt H b n)(h:l≠b):BoxAt (upd H l o) b n:=by
 obtain⟨b0,b1,b2,e,r⟩:=a
 exact⟨b0,b1,b2,by rw[zo (qH h)];exact e,r⟩
theorem zci{α:V->Prop}{H:Hp}{p:Addr}{xs:List V}{r:Int}(_:H p=some (.lst xs))(h0:0<=r)(h1:r<xs.length)(all:∀x∈xs,α x):∃v,atI xs r=some v/\α v:=zgo h0 h1 all
def Nm(x:Str):Prop:=x.length<=8/\∀c∈x.cps.toList,c<1000000
theorem zgH{x:Str}(h:x.length<=8)(l:vM x):Nm x:=⟨h,fun c hc=>by
 unfold vM at l
 have:=jh.mp l (VP c) (jC.mpr ⟨c,hc,rfl⟩)
 unfold VP at this
 simp at this
 omega⟩
theorem Jo:∀(ns:List Str),(ns.map V.str).all xK=true
 | []=>rfl
 | n::ns=>by
  show(true&&(ns.map V.str).all xK)=true
  rw[Jo ns];rfl
section
variable{P:Program}{w:World}{K:PySem.W.Frag}{mg:Str->Option Value}{base:Heap}
inductive Jr(vs:List V)(H:Hp)(Q:VK):Prop
 | mk (num size:Int) (_:vs=[.int num,.int size]) (_:0<=num) (_:1<=size) (_:size<=8) (_:∀y:Str,(y.length:Int)=size->vM y->Q (.str y) H):Jr  vs H Q
def Yh:Sp:=fun vs H Q _=>Jr  vs H Q
theorem YB:zI ["_law_number", "_law_size", "_law_word", "_law_k"] ["_law_number", "_law_size"] (zv (topL 27)):=⟨rfl,rfl,rfl,by decide +kernel,rfl,by decide +kernel,by decide +kernel⟩
def zat(size:_)(H:_):=fun(i:Nat) (σ:St) (H4:Hp)=>(Ex3 fun(num':Int) (y:Str) (v3:Option V)=>An5 (σ=[some (.int num'),some (.int size),some (.str y),v3]) (0<=num') (y.length=i) (vM y) (H4=H):Prop)
theorem zcs{f:Addr}{fd:FuncData}(F:Fun K "_law_spelled" "_law_spelled" (topL 27) f fd)(B:Blt mg):qS P w K mg base CX0 1 f fd ["_law_number", "_law_size"] Yh:=by
 have nd:=YB.nd
 refine F.ok YB (fun vs H Q E h=>?_) (fun cdv A outer s H vs Q E hr h=>?_)
 ·obtain⟨num,size,rfl,_⟩:=h
  rfl
 ·obtain⟨num,size,rfl,n0,s0,s1,k⟩:=h
  have hbig:100000<sizeLine:=by rw[sizeLine_eq];decide
  have e62:(2:Int)^62=4611686018427387904:=by decide
  refine⟨_,(zf (zF (i:=2) nd rfl (Or.inl rfl) jR)
   (zf (ja jB rfl (qY rfl B.range (za (pv 1) zc)) (zr (i:=3) nd rfl (Or.inl rfl))
   (zf (zF (i:=2) nd rfl (Or.inl rfl) (zw xr (zE zcM jR (zw xH (pv 0) ze) (fun _ _=>rfl)) (pv 2)))
    (zi (zF (i:=0) nd rfl (Or.inl rfl) (zw YQ (pv 0) ze)))))
   (zi (zt (pv 2))))),?_⟩
  refine⟨_,rfl,_,rfl,(by rw[e62];omega),(by rw[e62];omega),?_⟩
  refine jL (zat size H) ⟨num,_,_,rfl,n0,rfl,rfl,rfl⟩ ?_ ?_
  ·rintro i σ H4 hi ⟨num',y,v3,rfl,m0,ly,al,rfl⟩
   obtain⟨c,hc,lc⟩:=zfr (r:=num' % 26) (yT _ (by decide)) (yX _ (by decide))
   refine⟨_,rfl,_,_,rfl,rfl,(by show(0:Int)<26;decide),_,_,c,rfl,rfl,(by rw[sizeLine_eq];decide),hc,_,rfl,_,_,rfl,rfl,?_,?_⟩
   ·show 1+y.length<=sizeLine
    omega
   ·exact⟨_,rfl,_,_,rfl,rfl,⟨by decide,by decide⟩,_,_,_,rfl,Int.ediv_nonneg m0 (by decide),by rw[zcE,ly],zcC lc al,rfl⟩
  ·rintro σ H4 ⟨num',y,v3,rfl,m0,ly,al,rfl⟩
   exact⟨_,rfl,k y (by omega) al⟩
inductive Yq(vs:List V)(H:Hp)(Q:VK):Prop
 | mk (b t:Addr) (n:Int) (ts:List Str) (_:vs=[.ref b,.ref t]) (_:BoxAt H b n) (_:n<1099511000000) (_:t≠b) (_:H t=some (.lst (ts.map V.str))) (_:ts.length<=1000) (_:∀(y:Str) H',SameB b H H'->BoxAt H' b (n+12)->1<=y.length->y.length<=8->vM y->Q (.str y) H'):Yq  vs H Q
def zem:Sp:=fun vs H Q _=>Yq  vs H Q
theorem zer:zI ["_law_box_here", "_law_taken", "_law_size", "_law_number", "_law_k", "_law_word", "_law_turn"] ["_law_box_here", "_law_taken"] (zv (topL 28)):=⟨rfl,rfl,rfl,by decide +kernel,rfl,by decide +kernel,by decide +kernel⟩
theorem ze6{r:Int}(h0:0<=r)(h1:r<4):∃z:Int,atI [V.int 3,V.int 3,V.int 3,V.int 8] r=some (.int z)/\3<=z/\z<=8:=by
 have hc:r=0\/r=1\/r=2\/r=3:=by omega
 rcases hc with rfl | rfl | rfl | rfl
 ·exact⟨3,rfl,by decide,by decide⟩
 ·exact⟨3,rfl,by decide,by decide⟩
 ·exact⟨3,rfl,by decide,by decide⟩
 ·exact⟨8,rfl,by decide,by decide⟩
def zas(b:_)(t:_)(r2:_)(H:_)(n:_):=fun(i:Nat) (σ:St) (H4:Hp)=>(Ex2 fun(num:Int) (v4:Option V)=>An4 (σ=[some (.ref b),some (.ref t),some (.int (1+r2)),some (.int num),v4,none,none]) (0<=num) (SameB b H H4) (BoxAt H4 b (n+2+i)):Prop)
def zar(b:_)(t:_)(r2:_)(num:_)(H4:_):=fun(i:Nat) (σ:St) (H5:Hp)=>(Ex3 fun(v4 v6:Option V) (y:Str)=>An5 (σ=[some (.ref b),some (.ref t),some (.int (1+r2)),some (.int num),v4,some (.str y),v6]) (1<=y.length) (y.length<=8) (vM y) (H5=H4):Prop)
theorem zfg{f:Addr}{fd:FuncData}(F:Fun K "_law_name" "_law_name" (topL 28) f fd)(B:Blt mg)(D_take:Dfn P w K mg base "_law_take" 1 ["_law_box_here", "_law_size"] jM)(D_spelled:Dfn P w K mg base "_law_spelled" 1 ["_law_number", "_law_size"] Yh):qS P w K mg base CX0 2 f fd ["_law_box_here", "_law_taken"] zem:=by
 have nd:=zer.nd
 refine F.ok zer (fun vs H Q E h=>?_) (fun cdv A outer s H vs Q E hr h=>?_)
 ·obtain⟨b,t,n,ts,rfl,_⟩:=h
  rfl
 ·obtain⟨b,t,n,ts,rfl,B0,hn,ntb,ht,htl,k⟩:=h
  have e62:(2:Int)^62=4611686018427387904:=by decide
  refine⟨_,(zf (zF (i:=2) nd rfl (Or.inl rfl) (zw zU ze (zg D_take (hr.mono (by decide)) rfl (za (pv 0) (za (zE zS (zO (za ze (za ze (za ze (za ze zc))))) (zg D_take (hr.mono (by decide)) rfl (za (pv 0) (za ze zc))) (fun _ _=>rfl)) zc)))))
   (zf (zF (i:=3) nd rfl (Or.inl rfl) ze)
   (zf (ja jB rfl (qY rfl B.range (za (pv 2) zc)) (zr (i:=4) nd rfl (Or.inl rfl))
   (zi (zF (i:=3) nd rfl (Or.inl rfl) (zw zU (zw xW (pv 3) ze) (zg D_take (hr.mono (by decide)) rfl (za (pv 0) (za ze zc)))))))
   (zf (zF (i:=5) nd rfl (Or.inl rfl) (zg D_spelled (hr.mono (by decide)) rfl (za (pv 3) (za (pv 2) zc))))
   (zf (ja jB rfl (qY rfl B.range (za (zw zU (zj zp rfl B.len boot_len (za (pv 1) zc)) ze) zc)) (zr (i:=6) nd rfl (Or.inl rfl))
   (zi (qe (zA wJ (pv 5) (pv 1) (by with_unfolding_all rfl))
    (zi (zF (i:=5) nd rfl (Or.inl rfl) (zg D_spelled (hr.mono (by decide)) rfl (za (zw zU (pv 3) (pv 6)) (za ze zc)))))
    zJ)))
   (zi (zt (pv 5)))))))),?_⟩
  refine⟨_,rfl,le4,fun l hl=>⟨_,rfl,b,4,n,rfl,B0.new hl,by omega,by decide,by decide,fun r H1 r0 r1 B1 S1=>?_⟩⟩
  have L1:=S1 l _ (zb (H:=H)) ((B0.new hl).ne (zb (H:=H) (o:=.lst [.int 3,.int 3,.int 3,.int 8])) (by intro x y z e;cases e))
  have S1':=((SameB.refl b H).new (o:=.lst [.int 3,.int 3,.int 3,.int 8]) hl).trans S1
  obtain⟨z,ez,z0,z1⟩:=ze6 r0 r1
  refine⟨l,_,_,_,rfl,rfl,SqL.of L1,ez,b,z,n+1,rfl,B1,by omega,by omega,by omega,fun r2 H2 a0 a1 B2 S2=>⟨_,_,rfl,rfl,?_⟩⟩
  have S2':=S1'.trans S2
  refine⟨_,rfl,_,rfl,(by rw[e62];omega),(by rw[e62];omega),?_⟩
  refine jL (zas b t r2 H n) ⟨0,_,rfl,by decide,S2',B2.mono (by omega)⟩ ?_ ?_
  ·rintro i σ H4 hi ⟨num,v4,rfl,m0,S4,B4⟩
   refine⟨_,rfl,_,_,rfl,rfl,.inr ⟨by decide,by decide⟩,_,rfl,b,26,_,rfl,B4,by omega,by decide,by decide,fun r3 H5 c0 c1 B5 S5=>⟨_,_,rfl,rfl,_,_,rfl,?_,S4.trans S5,B5.mono (by omega)⟩⟩
   omega
  ·rintro σ H4 ⟨num,v4,rfl,m0,S4,B4⟩
   refine⟨_,rfl,_,rfl,num,1+r2,rfl,m0,by omega,by omega,fun y ly al=>?_⟩
   have ht4:=S4 t _ ht ntb
   have el:(ts.map V.str).length=ts.length:=zq ..
   refine⟨_,rfl,t,_,rfl,.inl (SqL.of ht4),_,_,rfl,rfl,_,rfl,(by rw[e62,el];omega),(by rw[e62,el];omega),?_⟩
   refine jL (zar b t r2 num H4) ⟨_,_,y,rfl,by omega,by omega,al,rfl⟩ ?_ ?_
   ·rintro i σ H5 hi ⟨v4,v6,y,rfl,y0,y1,al,rfl⟩
    refine⟨_,rfl,_,rfl,t,_,rfl,.inl (SqL.of ht4),rfl,Jo ts,_,rfl,z7 (fun c=>?_) (fun c=>⟨_,_,y,rfl,y0,y1,al,rfl⟩)⟩
    exact⟨_,rfl,_,rfl,_,_,rfl,rfl,_,8,rfl,by omega,by decide,by decide,fun y' ly' al'=>⟨_,_,y',rfl,by omega,by omega,al',rfl⟩⟩
   ·rintro σ H5 ⟨v4,v6,y,rfl,y0,y1,al,rfl⟩
    exact⟨_,rfl,k y _ S4 (B4.mono (by omega)) y0 y1 al⟩
def Row(H:Hp)(l:Addr)(ns:List Str):Prop:=H l=some (.lst (ns.map V.str))/\∀x∈ns,Nm x
theorem Row.same{H H':Hp}{l:Addr}{ns:List Str}(r:Row H l ns)(s:Same H H'):Row H' l ns:=⟨s _ _ r.1,r.2⟩
theorem Row.draw{H H':Hp}{b l:Addr}{ns:List Str}(r:Row H l ns)(s:SameB b H H')(h:l≠b):Row H' l ns:=⟨s _ _ r.1 h,r.2⟩
inductive Jw(vs:List V)(H:Hp)(Q:VK):Prop
 | mk (b:Addr) (m n:Int) (_:vs=[.ref b,.int m]) (_:BoxAt H b n) (_:n<1000000) (_:0<=m) (_:m<=12) (_:∀(l:Addr) (ns:List Str) H',SameB b H H'->BoxAt H' b (n+150)->l≠b->H l=none->Row H' l ns->(ns.length:Int)=m->Q (.ref l) H'):Jw  vs H Q
def Yp:Sp:=fun vs H Q _=>Jw  vs H Q
theorem YF:zI ["_law_box_here", "_law_many", "_law_found", "_law_k"] ["_law_box_here", "_law_many"] (zv (topL 29)):=⟨rfl,rfl,rfl,by decide +kernel,rfl,by decide +kernel,by decide +kernel⟩
def zaq(b:_)(m:_)(l:_)(H:_)(n:_):=fun(i:Nat) (σ:St) (H4:Hp)=>(Ex2 fun(ns:List Str) (v3:Option V)=>An5 (σ=[some (.ref b),some (.int m),some (.ref l),v3]) (SameB b H H4) (BoxAt H4 b (n+12*i)) (Row H4 l ns) (ns.length=i):Prop)
theorem zcw{f:Addr}{fd:FuncData}(F:Fun K "_law_names" "_law_names" (topL 29) f fd)(B:Blt mg)(D_name:Dfn P w K mg base "_law_name" 2 ["_law_box_here", "_law_taken"] zem):qS P w K mg base CX0 3 f fd ["_law_box_here", "_law_many"] Yp:=by
 have nd:=YF.nd
 refine F.ok YF (fun vs H Q E h=>?_) (fun cdv A outer s H vs Q E hr h=>?_)
 ·obtain⟨b,m,n,rfl,_⟩:=h
  rfl
 ·obtain⟨b,m,n,rfl,B0,hn,m0,m1,k⟩:=h
  have hbig:100000<sizeLine:=by rw[sizeLine_eq];decide
  have e62:(2:Int)^62=4611686018427387904:=by decide
  refine⟨_,(zf (zF (i:=2) nd rfl (Or.inl rfl) (zO zc))
   (zf (ja jB rfl (qY rfl B.range (za (pv 1) zc)) (zr (i:=3) nd rfl (Or.inl rfl))
   (zi (jn (xz xG wz wx jz (pv 2) (za (zg D_name (hr.mono (by decide)) rfl (za (pv 0) (za (pv 2) zc))) zc)))))
   (zi (zt (pv 2))))),?_⟩
  refine⟨le0,fun l hl=>?_⟩
  have nl:=B0.nne hl
  refine⟨_,rfl,_,rfl,(by rw[e62];omega),(by rw[e62];omega),?_⟩
  refine jL (zaq b m l H n) ⟨[],_,rfl,(SameB.refl b H).new hl,(B0.new hl).mono (by omega),⟨zb,fun x h=>nomatch h⟩,rfl⟩ ?_ ?_
  ·rintro i σ H4 hi ⟨ns,v3,rfl,S4,B4,R4,nsl⟩
   refine⟨_,rfl,.inl ⟨rfl,_,SqL.of R4.1⟩,_,rfl,_,rfl,b,l,_,ns,rfl,B4,by omega,nl,R4.1,by omega,fun y H5 S5 B5 y0 y1 al=>⟨l,_,_,rfl,rfl,(R4.draw S5 nl).1,by rw[zq,nsl];omega,?_⟩⟩
   refine⟨ns++[y],_,rfl,(S4.trans S5).put hl,(B5.other nl).mono (by omega),⟨by rw[zb,zW];rfl,fun x hx=>?_⟩,by rw[qJ,nsl];rfl⟩
   rcases qL.mp hx with q | q
   ·exact R4.2 x q
   ·rw[qR.mp q];exact zgH y1 al
  ·rintro σ H4 ⟨ns,v3,rfl,S4,B4,R4,nsl⟩
   exact⟨_,rfl,k l ns H4 S4 (B4.mono (by omega)) nl hl R4 (by omega)⟩
end
def SameT(H H':Hp):Prop:=∀a u,H a=some u->(∀xs,u≠.lst xs)->(∀kvs,u≠.dK kvs)->H' a=some u
theorem SameT.refl(H:Hp):SameT H H:=fun _ _ e _ _=>e
theorem SameT.trans{H H1 H2:Hp}(a:SameT H H1)(b:SameT H1 H2):SameT H H2:=fun c u e h i=>b c u (a c u e h i) h i
theorem SameT.of{H H':Hp}(s:Same H H'):SameT H H':=fun a u e _ _=>s a u e
theorem SameT.draw{H H':Hp}{b:Addr}{n:Int}(B:BoxAt H b n)(s:SameB b H H'):SameT H H':=fun a u e h _=>by
 obtain⟨b0,b1,b2,eb,_⟩:=B
 exact s a u e (fun z=>by rw[z,eb] at e;cases e;exact h _ rfl)
theorem SameT.put{H:Hp}{l:Addr}{xs ys:List V}(h:H l=some (.lst xs)):SameT H (upd H l (.lst ys)):=fun a u e hu _=>by
 rw[zo (fun z=>by rw[z,h] at e;cases e;exact hu _ rfl)];exact e
section
variable{P:Program}{w:World}{K:PySem.W.Frag}{mg:Str->Option Value}{base:Heap}
def PlA(H:Hp)(a:Addr):Prop:=∃x y:Int,H a=some (.tup [.int x,.int y])/\0<=x/\x<=1000/\0<=y/\y<=1000
theorem PlA.draw{H H':Hp}{a b:Addr}{n:Int}(h:PlA H a)(B:BoxAt H b n)(s:SameB b H H'):PlA H' a:=by
 obtain⟨x,y,e,r⟩:=h
 obtain⟨b0,b1,b2,eb,_⟩:=B
 exact⟨x,y,s a _ e (YV e eb (by intro z;cases z)),r⟩
inductive Jt(K:PySem.W.Frag)(vs:List V)(H:Hp)(Q:VK):Prop
 | mk (b t:Addr) (n:Int) (as:List Addr) (_:vs=[.ref b,.ref t]) (_:BoxAt H b n) (_:n<1099511627000) (_:t≠b) (_:H t=some (.lst (as.map V.ref))) (_:as.length<=1000) (_:(∀a∈as,PlA H a)) (_:∀(p:Addr) H',SameB b H H'->BoxAt H' b (n+3)->H p=none->PlA H' p->Q (.ref p) H'):Jt K vs H Q
def Z4(K:PySem.W.Frag):Sp:=fun vs H Q _=>Jt K vs H Q
theorem YC:zI ["_law_box_here", "_law_taken", "_law_most", "_law_x", "_law_y", "_law_turn"] ["_law_box_here", "_law_taken"] (zv (topL 30)):=⟨rfl,rfl,rfl,by decide +kernel,rfl,by decide +kernel,by decide +kernel⟩
def zap(b:_)(t:_)(y:_)(H:_)(n:_):=fun(i:Nat) (σ:St) (H4:Hp)=>(Ex3 fun(v2 v5:Option V) (x:Int)=>An5 (σ=[some (.ref b),some (.ref t),v2,some (.int x),some (.int y),v5]) (0<=x) (x<=1000) (SameB b H H4) (BoxAt H4 b (n+1+1+1)):Prop)
theorem zct{f:Addr}{fd:FuncData}(F:Fun K "_law_place" "_law_place" (topL 30) f fd)(B:Blt mg)(D_take:Dfn P w K mg base "_law_take" 1 ["_law_box_here", "_law_size"] jM):qS P w K mg base CX0 2 f fd ["_law_box_here", "_law_taken"] (Z4 K):=by
 have nd:=YC.nd
 refine F.ok YC (fun vs H Q E h=>?_) (fun cdv A outer s H vs Q E hr h=>?_)
 ·obtain⟨b,t,n,as,rfl,_⟩:=h
  rfl
 ·obtain⟨b,t,n,as,rfl,B0,hn,ntb,ht,hal,pa,k⟩:=h
  have hu64:=hr.units
  have e62:(2:Int)^62=4611686018427387904:=by decide
  have el:(as.map V.ref).length=as.length:=zq ..
  refine⟨_,(zf (zF (i:=2) nd rfl (Or.inl rfl) (jT (zA qQ (zg D_take (hr.mono (by decide)) rfl (za (pv 0) (za ze zc))) ze (zB _)) ze ze))
   (zf (Xb (i:=3) (j:=4) rfl nd rfl rfl (by decide) rfl rfl (za (zg D_take (hr.mono (by decide)) rfl (za (pv 0) (za (pv 2) zc))) (za (zg D_take (hr.mono (by decide)) rfl (za (pv 0) (za (pv 2) zc))) zc)) (by rfl))
   (zf (ja jB rfl (qY rfl B.range (za (zw zU (zj zp rfl B.len boot_len (za (pv 1) zc)) ze) zc)) (zr (i:=5) nd rfl (Or.inl rfl))
   (zi (qe (zA (zdA hu64) (zX (za (pv 3) (za (pv 4) zc))) (pv 1) (by with_unfolding_all rfl))
    (zi (zF (i:=3) nd rfl (Or.inl rfl) (zw xH (zw zU (pv 3) ze) ze)))
    zJ)))
   (zi (zt (zX (za (pv 3) (za (pv 4) zc)))))))),?_⟩
  refine⟨_,rfl,b,4,n,rfl,B0,by omega,by decide,by decide,fun r H1 r0 r1 B1 S1=>⟨rfl,_,rfl,z7 (fun c=>?_) (fun c=>?_)⟩⟩
  all_goals
   refine⟨_,rfl,_,rfl,b,_,n+1,rfl,B1,by omega,by decide,by decide,fun x H2 x0 x1 B2 S2=>⟨_,rfl,_,rfl,b,_,n+1+1,rfl,B2,by omega,by decide,by decide,fun y H3 y0 y1 B3 S3=>⟨_,_,rfl,?_⟩⟩⟩
   have S4:=S1.trans (S2.trans S3)
   have ht3:=S4 t _ ht ntb
   refine⟨_,rfl,t,_,rfl,.inl (SqL.of ht3),_,_,rfl,rfl,_,rfl,(by rw[e62,el];omega),(by rw[e62,el];omega),?_⟩
   refine jL (zap b t y H n) ⟨_,none,x,rfl,x0,by omega,S4,B3⟩ ?_ ?_
   ·rintro i σ H4 _ ⟨v2,v5,x,rfl,x0',x1',S5,B5⟩
    refine⟨_,rfl,_,rfl,le2,fun p hp=>⟨_,rfl,p,t,_,_,rfl,rfl,SqT.of zb,rfl,SqL.of ((S5.new hp) t _ ht ntb),fun v hv=>?_,fun q=>⟨_,rfl,z7 (fun d=>?_) (fun d=>?_)⟩⟩⟩
    ·obtain⟨c,hc,rfl⟩:=jC.mp hv
     obtain⟨cx,cy,hcc,_⟩:=(pa c hc).draw B0 (S5.new (o:=.tup [.int x,.int y]) hp)
     exact⟨c,_,rfl,SqT.of hcc,rfl⟩
    ·exact⟨_,rfl,_,_,rfl,rfl,_,_,rfl,rfl,(by show(0:Int)<1001;decide),_,_,_,rfl,yT _ (by decide),by have:=yX (x+1) (by decide:(0:Int)<1001);omega,S5.new hp,B5.new hp⟩
    ·exact⟨_,_,x,rfl,x0',x1',S5.new hp,B5.new hp⟩
   ·rintro σ H4 ⟨v2,v5,x,rfl,x0',x1',S5,B5⟩
    have B6:BoxAt H4 b (n+3):=by
     have e:n+3=n+1+1+1:=by omega
     rw[e];exact B5
    exact⟨_,rfl,_,rfl,le2,fun p hp=>k p _ (S5.new hp) (B6.new hp) (S5.none hp (B5.nne hp)) ⟨x,y,zb,x0',x1',y0,by omega⟩⟩
inductive Qf(vs:List V)(H:Hp)(Q:VK):Prop
 | mk (b:Addr) (m n:Int) (_:vs=[.ref b,.int m]) (_:BoxAt H b n) (_:n<1000000) (_:0<=m) (_:m<=100) (_:∀(l:Addr) (as:List Addr) H',SameB b H H'->BoxAt H' b (n+400)->l≠b->H l=none->H' l=some (.lst (as.map V.ref))->(∀a∈as,PlA H' a)->(as.length:Int)=m->Q (.ref l) H'):Qf  vs H Q
def Vg:Sp:=fun vs H Q _=>Qf  vs H Q
theorem Vr:zI ["_law_box_here", "_law_many", "_law_found", "_law_k"] ["_law_box_here", "_law_many"] (zv (topL 31)):=⟨rfl,rfl,rfl,by decide +kernel,rfl,by decide +kernel,by decide +kernel⟩
def zao(b:_)(m:_)(l:_)(H:_)(n:_):=fun(i:Nat) (σ:St) (H4:Hp)=>(Ex2 fun(as:List Addr) (v3:Option V)=>An6 (σ=[some (.ref b),some (.int m),some (.ref l),v3]) (SameB b H H4) (BoxAt H4 b (n+3*i)) (H4 l=some (.lst (as.map V.ref))) ((∀a∈as,PlA H4 a)) (as.length=i):Prop)
theorem zaW{f:Addr}{fd:FuncData}(F:Fun K "_law_places" "_law_places" (topL 31) f fd)(B:Blt mg)(D_place:Dfn P w K mg base "_law_place" 2 ["_law_box_here", "_law_taken"] (Z4 K)):qS P w K mg base CX0 3 f fd ["_law_box_here", "_law_many"] Vg:=by
 have nd:=Vr.nd
 refine F.ok Vr (fun vs H Q E h=>?_) (fun cdv A outer s H vs Q E hr h=>?_)
 ·obtain⟨b,m,n,rfl,_⟩:=h
  rfl
 ·obtain⟨b,m,n,rfl,B0,hn,m0,m1,k⟩:=h
  have hbig:100000<sizeLine:=by rw[sizeLine_eq];decide
  have e62:(2:Int)^62=4611686018427387904:=by decide
  refine⟨_,(zf (zF (i:=2) nd rfl (Or.inl rfl) (zO zc))
   (zf (ja jB rfl (qY rfl B.range (za (pv 1) zc)) (zr (i:=3) nd rfl (Or.inl rfl))
   (zi (jn (xz xG wz wx jz (pv 2) (za (zg D_place (hr.mono (by decide)) rfl (za (pv 0) (za (pv 2) zc))) zc)))))
   (zi (zt (pv 2))))),?_⟩
  refine⟨le0,fun l hl=>?_⟩
  have nl:=B0.nne hl
  refine⟨_,rfl,_,rfl,(by rw[e62];omega),(by rw[e62];omega),?_⟩
  refine jL (zao b m l H n) ⟨[],_,rfl,(SameB.refl b H).new hl,(B0.new hl).mono (by omega),zb,(fun x h=>nomatch h),rfl⟩ ?_ ?_
  ·rintro i σ H4 hi ⟨as,v3,rfl,S4,B4,L4,P4,asl⟩
   refine⟨_,rfl,.inl ⟨rfl,_,SqL.of L4⟩,_,rfl,_,rfl,b,l,_,as,rfl,B4,by omega,nl,L4,by omega,P4,fun p H5 S5 B5 pN pp=>⟨l,_,_,rfl,rfl,S5 l _ L4 nl,by rw[zq,asl];omega,?_⟩⟩
   have L5:=S5 l _ L4 nl
   have keep:∀{a:Addr},PlA H5 a->PlA (upd H5 l (.lst (as.map V.ref++[.ref p]))) a:=fun {a} h=>by
    obtain⟨x,y,e,r⟩:=h
    exact⟨x,y,by rw[zo (YV e L5 (by intro z;cases z))];exact e,r⟩
   refine⟨as++[p],_,rfl,(S4.trans S5).put hl,(B5.other nl).mono (by omega),by rw[zb,zW];rfl,fun a ha=>?_,by rw[qJ,asl];rfl⟩
   rcases qL.mp ha with q | q
   ·exact keep ((P4 a q).draw B4 S5)
   ·rw[qR.mp q];exact keep pp
  ·rintro σ H4 ⟨as,v3,rfl,S4,B4,L4,P4,asl⟩
   exact⟨_,rfl,k l as H4 S4 (B4.mono (by omega)) nl hl L4 P4 (by omega)⟩
theorem SqT.keep{H H':Hp}{a:Addr}{xs:List V}(q:SqT K H a xs)(s:SameT H H'):SqT K H' a xs:=by
 rcases q with(q | ⟨o,q⟩) | q
 ·exact .inl (.inl (s a _ q (fun z h=>nomatch h) (fun z h=>nomatch h)))
 ·exact .inl (.inr ⟨o,s a _ q (fun z h=>nomatch h) (fun z h=>nomatch h)⟩)
 ·exact .inr q
def SqE(K:PySem.W.Frag)(b:Addr)(H:Hp)(a:Addr)(xs:List V):Prop:=(a≠b/\H a=some (.lst xs))\/SqT K H a xs
inductive Ve(K:PySem.W.Frag)(vs:List V)(H:Hp)(Q:VK):Prop
 | mk (b a:Addr) (n:Int) (xs:List V) (_:vs=[.ref b,.ref a]) (_:BoxAt H b n) (_:n<1000000) (_:SqE K b H a xs) (_:xs.length<=1000) (_:∀(l:Addr) (ys:List V) H',SameB b H H'->BoxAt H' b (n+xs.length)->l≠b->H l=none->H' l=some (.lst ys)->ys.Perm xs->Q (.ref l) H'):Ve K vs H Q
def Zg(K:PySem.W.Frag):Sp:=fun vs H Q _=>Ve K vs H Q
theorem zbW:zI ["_law_box_here", "_law_some", "_law_found", "_law_one"] ["_law_box_here", "_law_some"] (zv (topL 32)):=⟨rfl,rfl,rfl,by decide +kernel,rfl,by decide +kernel,by decide +kernel⟩
def zan(b:_)(a:_)(l:_)(H:_)(n:_)(xs:List V):=fun(i:Nat) (σ:St) (H4:Hp)=>(Ex2 fun(ys:List V) (v3:Option V)=>An5 (σ=[some (.ref b),some (.ref a),some (.ref l),v3]) (SameB b H H4) (BoxAt H4 b (n+i)) (H4 l=some (.lst ys)) (ys.Perm (xs.take i)):Prop)
def zam(b:_)(a:_)(l:_)(H:_)(n:_)(xs:List V):=fun(i:Nat) (σ:St) (H4:Hp)=>(Ex2 fun(ys:List V) (v3:Option V)=>An5 (σ=[some (.ref b),some (.ref a),some (.ref l),v3]) (SameB b H H4) (BoxAt H4 b (n+i)) (H4 l=some (.lst ys)) (ys.Perm (xs.take i)):Prop)
theorem zdG{f:Addr}{fd:FuncData}(F:Fun K "_law_shuffled" "_law_shuffled" (topL 32) f fd)(B:Blt mg)(D_take:Dfn P w K mg base "_law_take" 1 ["_law_box_here", "_law_size"] jM):qS P w K mg base CX0 2 f fd ["_law_box_here", "_law_some"] (Zg K):=by
 have nd:=zbW.nd
 refine F.ok zbW (fun vs H Q E h=>?_) (fun cdv A outer s H vs Q E hr h=>?_)
 ·obtain⟨b,a,n,xs,rfl,_⟩:=h
  rfl
 ·obtain⟨b,a,n,xs,rfl,B0,hn,hq,hxl,k⟩:=h
  have hbig:100000<sizeLine:=by rw[sizeLine_eq];decide
  have e62:(2:Int)^62=4611686018427387904:=by decide
  refine⟨_,(zf (zF (i:=2) nd rfl (Or.inl rfl) (zO zc))
   (zf (ja jB rfl (Wy (pv 1)) (zr (i:=3) nd rfl (Or.inl rfl))
   (zi (jn (xz xG PySem.F.slot_list_insert PySem.F.type_list_insert JD (pv 2) (za (zg D_take (hr.mono (by decide)) rfl (za (pv 0) (za (zw zU (zj zp rfl B.len boot_len (za (pv 2) zc)) ze) zc))) (za (pv 3) zc))))))
   (zi (zt (pv 2))))),?_⟩
  refine⟨le0,fun l hl=>?_⟩
  have nl:=B0.nne hl
  refine⟨_,rfl,a,rfl,hq.elim (fun hL=>.inl ⟨⟨_,SqL.of ((zd hl) _ _ hL.2)⟩,xZ (K:=K) (a:=a) (xs:=xs) (zan b a l H n xs)
   ⟨[],_,rfl,(SameB.refl b H).new hl,(B0.new hl).mono (by omega),zb,.nil⟩ (fun i σ H4 _ ⟨_,_,_,S4,_,_,_⟩=>SqL.of (S4 _ _ hL.2 hL.1)) ?s1 ?e1⟩) (fun hT=>.inr ⟨⟨_,(zd hl).sqT hT⟩,Xu (K:=K) (a:=a) (xs:=xs) (zam b a l H n xs)
   ⟨[],_,rfl,(SameB.refl b H).new hl,(B0.new hl).mono (by omega),zb,.nil⟩ (fun i σ H4 _ ⟨_,_,_,S4,_,_,_⟩=>hT.keep (SameT.draw B0 S4)) ?s2 ?e2⟩)⟩
  case s1 | s2=>
   rintro i x σ H4 hx ⟨ys,v3,rfl,S4,B4,L4,pm⟩
   have hi:=(zN.mp hx).1
   have yl:ys.length=i:=by rw[pm.length_eq,z9];omega
   refine⟨_,rfl,.inl ⟨rfl,_,SqL.of L4⟩,_,rfl,_,rfl,l,_,rfl,.inl (SqL.of L4),_,_,rfl,rfl,b,_,_,rfl,B4,by omega,by omega,by omega,fun q H5 q0 q1 B5 S5=>⟨_,rfl,?_⟩⟩
   refine⟨l,ys,q,x,rfl,rfl,S5 l _ L4 nl,q0,by rw[e62];omega,by omega,?_⟩
   refine⟨_,_,rfl,(S4.trans S5).put hl,(B5.other nl).mono (by omega),zb,?_⟩
   have e1:xs.take (i+1)=xs.take i++[x]:=by
    obtain⟨h1,h2⟩:=zN.mp hx
    rw[<- h2,y9]
   rw[e1]
   refine List.perm_middle.trans ?_
   rw[QP]
   exact((List.Perm.cons x pm).trans (List.perm_append_singleton x _).symm)
  case e1 | e2=>
   rintro σ H4 ⟨ys,v3,rfl,S4,B4,L4,pm⟩
   rw[je] at pm
   exact⟨_,rfl,k l ys H4 S4 B4 nl hl L4 pm⟩
end
mutual
def Dat.imm:Dat->Bool
 | .lst _=>false
 | .tup ds=>Dat.imms ds
 | _=>true
def Dat.imms:List Dat->Bool
 | []=>true
 | d::ds=>d.imm&&Dat.imms ds
end
section
variable{P:Program}{w:World}{K:PySem.W.Frag}{mg:Str->Option Value}{base:Heap}
mutual
theorem Rep.keep{H H':Hp}(s:SameT H H'):∀{d:Dat} {v:V},d.imm=true->Rep K H d v->Rep K H' d v
 | .non,_,_,h=>h
 | .bl _,_,_,h=>h
 | .int _,_,_,h=>h
 | .str _,_,_,h=>h
 | .lst _,_,i,_=>by cases i
 | .tup ds,_,i,h=>by
  obtain⟨a,xs,e,q,r⟩:=h
  exact⟨a,xs,e,q.keep s,Reps.keep s (ds:=ds) i r⟩
theorem Reps.keep{H H':Hp}(s:SameT H H'):∀{ds:List Dat} {xs:List V},Dat.imms ds=true->Reps K H ds xs->Reps K H' ds xs
 | [],_,_,h=>h
 | d::ds,_,i,h=>by
  obtain⟨x,r,e,h1,h2⟩:=h
  have i':(d.imm&&Dat.imms ds)=true:=i
  rw[qV] at i'
  exact⟨x,r,e,Rep.keep s i'.1 h1,Reps.keep s i'.2 h2⟩
end
theorem Reps.snoc{H:Hp}{d:Dat}{v:V}(h:Rep K H d v):∀{ds:List Dat} {xs:List V},Reps K H ds xs->Reps K H (ds++[d]) (xs++[v])
 | [],_,e=>by rw[show _=_ from e];exact⟨v,[],rfl,h,rfl⟩
 | _::_,_,e=>by
  obtain⟨x,r,e1,h1,h2⟩:=e
  subst e1
  exact⟨x,r++[v],rfl,h1,Reps.snoc h h2⟩
end
theorem yE{α β:Type}{f:α->β}{ys ws:List β}(h:ys.Perm ws):∀{xs:List α},ws=xs.map f->∃zs:List α,zs.Perm xs/\ys=zs.map f:=by
 induction h with
 | nil=>
  intro xs e
  have:xs=[]:=by simpa using e.symm
  exact⟨[],by rw[this],rfl⟩
 | @cons x l1 l2 p ih=>
  intro xs e
  cases xs with
  | nil=>simp at e
  | cons a as=>
   rw[jP] at e
   injection e with e1 e2
   obtain⟨zs,p1,p2⟩:=ih e2
   exact⟨a::zs,p1.cons a,by rw[jP,<- p2,<- e1]⟩
 | swap x y l=>
  intro xs e
  cases xs with
  | nil=>simp at e
  | cons a as=>
   cases as with
   | nil=>simp at e
   | cons c cs=>
    rw[jP,jP] at e
    injection e with e1 e2
    injection e2 with e2 e3
    exact⟨c::a::cs,.swap a c cs,by rw[jP,jP,<- e1,<- e2,<- e3]⟩
 | trans p q ih1 ih2=>
  intro xs e
  obtain⟨zs,p1,p2⟩:=ih2 e
  obtain⟨us,p3,p4⟩:=ih1 p2
  exact⟨us,p3.trans p1,p4⟩
def qP(p:Nat×Nat):Dat:=.tup [.int p.1,.int p.2]
def Za(as:List (Nat×Nat)):Dat:=.tup (as.map qP)
theorem qv:∀(as:List (Nat×Nat)),Dat.imms (as.map qP)=true
 | []=>rfl
 | p::as=>by
  show(Dat.imm (qP p)&&Dat.imms (as.map qP))=true
  rw[qv as];rfl
def ByOrd(ord:List Nat)(as:List (Nat×Nat)):Prop:=∀p∈as,∃k l:Nat,k<l/\ord[k]? =some p.1/\ord[l]? =some p.2
section
variable{P:Program}{w:World}{K:PySem.W.Frag}{mg:Str->Option Value}{base:Heap}
theorem Reps.take{H:Hp}:∀(n:Nat) {ds:List Dat} {xs:List V},Reps K H ds xs->Reps K H (ds.take n) (xs.take n)
 | 0,_,_,_=>rfl
 | n+1,[],_,h=>by rw[show _=_ from h];exact rfl
 | n+1,d::ds,_,h=>by
  obtain⟨x,r,e,h1,h2⟩:=h
  subst e
  exact⟨x,r.take n,rfl,h1,Reps.take n h2⟩
theorem Reps.app{H:Hp}:∀{ds es:List Dat} {xs ys:List V},Reps K H ds xs->Reps K H es ys->Reps K H (ds++es) (xs++ys)
 | [],_,_,_,h,h'=>by rw[show _=_ from h];exact h'
 | d::ds,_,_,_,h,h'=>by
  obtain⟨x,r,e,h1,h2⟩:=h
  subst e
  exact⟨x,r++_,rfl,h1,Reps.app h2 h'⟩
inductive Qg(K:PySem.W.Frag)(vs:List V)(H:Hp)(Q:VK):Prop
 | mk (b:Addr) (m n:Int) (_:vs=[.ref b,.int m]) (_:BoxAt H b n) (_:n<1000000) (_:0<=m) (_:m<=100) (_:∀(p:Addr) (as:List (Nat×Nat)) (ord:List Nat) H',SameB b H H'->BoxAt H' b (n+800)->Rep K H' (Za as) (.ref p)->ord.Perm (List.range m.toNat)->ByOrd ord as->as.length<=300->Q (.ref p) H'):Qg K vs H Q
def Vp(K:PySem.W.Frag):Sp:=fun vs H Q _=>Qg K vs H Q
theorem Vs:zI ["_law_box_here", "_law_many", "_law_order_here", "_law_found", "_law_turn", "_law_k"] ["_law_box_here", "_law_many"] (zv (topL 34)):=⟨rfl,rfl,rfl,by decide +kernel,rfl,by decide +kernel,by decide +kernel⟩
theorem zgq{m r:Int}(h:0<=r)(h':r<4)(m2:2<=m)(m1:m<=100):∃z:Int,atI [V.int 1,V.int 4,V.int 13,V.int (2*m)] r=some (.int z)/\1<=z/\z<=200:=by
 have hc:r=0\/r=1\/r=2\/r=3:=by omega
 rcases hc with rfl | rfl | rfl | rfl
 ·exact⟨1,rfl,by omega,by omega⟩
 ·exact⟨4,rfl,by omega,by omega⟩
 ·exact⟨13,rfl,by omega,by omega⟩
 ·exact⟨2*m,rfl,by omega,by omega⟩
theorem zcn{ord:List Nat}{i:Int}(h:0<=i)(h':i<ord.length):∃x:Nat,atI (ord.map fun i:Nat=>V.int (i:Int)) i=some (.int (x:Int))/\ord[i.toNat]? =some x:=by
 obtain⟨v,e1,e2⟩:=yn (xs:=ord.map fun i:Nat=>V.int (i:Int)) h (by rw[zq];exact h')
 rw[qr] at e2
 obtain⟨x,hx,rfl⟩:=jc.mp e2
 exact⟨x,e1,hx⟩
def zal(b:_)(m:_)(o:_)(R:_)(H:_)(n:_)(ord:_)(K:_):=fun(i:Nat) (σ:St) (H5:Hp)=>(Ex4 fun(as:List (Nat×Nat)) (xs:List V) (v4 v5:Option V)=>An8 (σ=[some (.ref b),some (.int m),some (.ref o),some (.ref R),v4,v5]) (SameB b H H5) (BoxAt H5 b (n+110+2*i)) (H5 o=some (.lst (ord.map fun i:Nat=>V.int (i:Int)))) (H5 R=some (.lst xs)) (Reps K H5 (as.map qP) xs) (ByOrd ord as) (as.length=i):Prop)
theorem zaX{f:Addr}{fd:FuncData}(F:Fun K "_law_aheads" "_law_aheads" (topL 34) f fd)(B:Blt mg)(D_take:Dfn P w K mg base "_law_take" 1 ["_law_box_here", "_law_size"] jM)(D_shuffled:Dfn P w K mg base "_law_shuffled" 2 ["_law_box_here", "_law_some"] (Zg K)):qS P w K mg base CX0 3 f fd ["_law_box_here", "_law_many"] (Vp K):=by
 have nd:=Vs.nd
 refine F.ok Vs (fun vs H Q E h=>?_) (fun cdv A outer s H vs Q E hr h=>?_)
 ·obtain⟨b,m,n,rfl,_⟩:=h
  rfl
 ·obtain⟨b,m,n,rfl,B0,hn,m0,m1,k⟩:=h
  have hbig:100000<sizeLine:=by rw[sizeLine_eq];decide
  have e62:(2:Int)^62=4611686018427387904:=by decide
  refine⟨_,(zf (Xb (i:=2) (j:=3) rfl nd rfl rfl (by decide) rfl rfl (za (zg D_shuffled (hr.mono (by decide)) rfl (za (pv 0) (za (yF rfl rfl B.list rfl B.range qZ (za (pv 1) zc)) zc))) (za (zO zc) zc)) (by rfl))
   (zf (qe (zA YO (pv 1) ze (zB _))
   (zi (zt (zX zc)))
   zJ)
   (zf (ja jB rfl (qY rfl B.range (za (zg D_take (hr.mono (by decide)) rfl (za (pv 0) (za (zE zS (zO (za ze (za ze (za ze (za (zw xW ze (pv 1)) zc))))) (zg D_take (hr.mono (by decide)) rfl (za (pv 0) (za ze zc))) (fun _ _=>rfl)) zc))) zc)) (zr (i:=4) nd rfl (Or.inl rfl))
   (zf (zF (i:=5) nd rfl (Or.inl rfl) (zg D_take (hr.mono (by decide)) rfl (za (pv 0) (za (zw jZ (pv 1) ze) zc))))
    (zi (jn (xz xG wz wx jz (pv 3) (za (zX (za (zE zS (pv 2) (pv 5) (fun _ _=>rfl)) (za (zE zS (pv 2) (zw zU (zw zU (pv 5) ze) (zg D_take (hr.mono (by decide)) rfl (za (pv 0) (za (zw jZ (zw jZ (pv 1) ze) (pv 5)) zc)))) (fun _ _=>rfl)) zc))) zc))))))
   (zi (zt (zY qN rfl B.tuple zT (za (zw jv (pv 3) (zM qO (pv 3) qy (zP (zY Zp rfl B.int vy (za (qK qQ (zg D_take (hr.mono (by decide)) rfl (za (pv 0) (za ze zc))) ze (zB _)) zc))))) zc))))))),?_⟩
  refine⟨_,rfl,_,rfl,m,rfl,m0,by omega,fun l0 h0=>?_⟩
  have len0:((List.range m.toNat).map fun i:Nat=>V.int (i:Int)).length=m.toNat:=by rw[zq,QJ]
  refine⟨b,l0,n,_,rfl,B0.new h0,by omega,.inl ⟨B0.nne h0,zb⟩,by rw[len0];omega,fun o ys H1 S1 B1 no oN ho pm=>⟨le0,fun R hR=>⟨_,_,rfl,?_⟩⟩⟩
  obtain⟨ord,op,rfl⟩:=yE pm rfl
  have ol:ord.length=m.toNat:=by rw[op.length_eq,QJ]
  rw[len0] at B1
  have nR:=B1.nne hR
  have oR:o≠R:=zn ho hR
  have S1':=((SameB.refl b H).new h0).trans S1
  have RH:H R=none:=S1'.none hR nR
  have S2:=S1'.new (o:=.lst []) hR
  have B2:=B1.new (o:=.lst []) hR
  have O2:=(zd (o:=.lst []) hR) _ _ ho
  have R2:upd H1 R (.lst []) R=some (.lst []):=zb
  generalize upd H1 R (.lst [])=H2 at S2 B2 O2 R2
  refine⟨_,rfl,_,_,rfl,rfl,_,rfl,z7 (fun c=>?_) (fun c=>?_)⟩
  ·exact⟨le0,fun p hp=>k p [] ord _ (S2.new hp) ((B2.new hp).mono (by omega)) ⟨p,[],rfl,SqT.of zb,rfl⟩ op (fun p h=>nomatch h) (qo _)⟩
  have m2:2<=m:=by
   have:¬m<2:=fun z=>c (qF z)
   omega
  refine⟨_,rfl,_,rfl,_,_,rfl,rfl,.inl ⟨by decide,by decide⟩,le4,fun l1 h1=>⟨_,rfl,b,4,_,rfl,B2.new h1,by omega,by decide,by decide,fun r H3 r0 r1 B3 S3=>?_⟩⟩
  have L3:=S3 l1 _ zb (B2.nne h1)
  obtain⟨z,ez,z0,z1⟩:=zgq r0 r1 m2 m1
  refine⟨l1,_,_,_,rfl,rfl,SqL.of L3,ez,b,z,_,rfl,B3,by omega,by omega,by omega,fun cnt H4 c0 c1 B4 S4=>⟨_,rfl,(by rw[e62];omega),(by rw[e62];omega),?_⟩⟩
  have U4:=((SameB.refl b H2).new h1).trans (S3.trans S4)
  have S4':=S2.trans U4
  have O4:=U4 _ _ O2 no
  have R4:=U4 _ _ R2 nR
  clear S2 B2 O2 R2 S3 S4 U4 L3 h1 B3
  refine jL (zal b m o R H n ord K)
   ⟨[],[],_,_,rfl,S4',B4.mono (by omega),O4,R4,rfl,(fun p h=>nomatch h),rfl⟩ ?_ ?_
  ·rintro i σ H5 hi ⟨as,xs,v4,v5,rfl,S5,B5,O5,R5,rp,bo,asl⟩
   have xl:xs.length=i:=by rw[rp.len,zq,asl]
   refine⟨_,rfl,_,rfl,_,_,rfl,rfl,b,_,_,rfl,B5,by omega,by omega,by omega,fun kk H6 k0 k1 B6 S6=>?_⟩
   have O6:=S6 _ _ O5 no
   obtain⟨x1,ex1,ox1⟩:=zcn (ord:=ord) k0 (by omega)
   refine⟨_,rfl,.inl ⟨rfl,_,SqL.of (S6 _ _ R5 nR)⟩,_,rfl,_,rfl,o,_,_,_,rfl,rfl,SqL.of O6,ex1,?_⟩
   refine⟨_,rfl,_,rfl,_,_,rfl,rfl,_,rfl,_,rfl,_,_,rfl,rfl,_,rfl,_,_,rfl,rfl,b,_,_,rfl,B6,by omega,by omega,by omega,fun q H7 q0 q1 B7 S7=>⟨_,_,rfl,rfl,?_⟩⟩
   have O7:=S7 _ _ O6 no
   have R7:=S7 _ _ (S6 _ _ R5 nR) nR
   obtain⟨x2,ex2,ox2⟩:=zcn (ord:=ord) (i:=kk+1+q) (by omega) (by omega)
   refine⟨o,_,_,_,rfl,rfl,SqL.of O7,ex2,le2,fun T hT=>⟨R,xs,.ref T,rfl,rfl,(zd hT) _ _ R7,by omega,?_⟩⟩
   have R8:=(zd (o:=.tup [.int (x1:Int),.int (x2:Int)]) hT) _ _ R7
   have st:SameT H5 (upd (upd H7 T (.tup [.int (x1:Int),.int (x2:Int)])) R (.lst (xs++[.ref T]))):=((SameT.draw B5 (S6.trans S7)).trans (.of (zd hT))).trans (.put R8)
   refine⟨as++[(x1,x2)],_,_,_,rfl,(((S5.trans S6).trans S7).new hT).put RH,((B7.new hT).other nR).mono (by omega),by rw[zo oR];exact(zd hT) _ _ O7,zb,?_,fun pq hpq=>?_,by rw[qJ,asl];rfl⟩
   ·rw[zW]
    refine Reps.snoc ?_ (Reps.keep st (qv as) rp)
    refine⟨T,_,rfl,SqT.of ?_,_,_,rfl,rfl,_,_,rfl,rfl,rfl⟩
    rw[zo (fun zz=>by rw[zz,R7] at hT;cases hT)]
    exact zb
   ·rcases qL.mp hpq with w1 | w1
    ·exact bo pq w1
    ·rw[qR.mp w1]
     exact⟨kk.toNat,(kk+1+q).toNat,by omega,ox1,ox2⟩
  ·rintro σ H5 ⟨as,xs,v4,v5,rfl,S5,B5,O5,R5,rp,bo,asl⟩
   have xl:xs.length=as.length:=by rw[rp.len,zq]
   refine⟨_,rfl,_,rfl,_,rfl,b,4,_,rfl,B5,by omega,by decide,by decide,fun r9 H6 r90 r91 B6 S6=>⟨rfl,.inr ⟨_,rfl,_,rfl,R,xs,rfl,SqL.of (S6 _ _ R5 nR),fun s1 hs1=>?_⟩⟩⟩
   have R6:=S6 _ _ R5 nR
   obtain⟨t,et⟩:∃t:Nat,zQ xs none (some (if decide (V.int r9=V.int 0)=true then(1:Int) else 0))=xs.take t/\t<=1:=by
    unfold zQ
    by_cases hd:decide (V.int r9=V.int 0)=true
    ·rw[if_pos hd,show(some (1:Int))=some ((1:Nat):Int) from rfl,HT.sIx_nat,HT.sIx_none]
     refine⟨min 1 xs.length,by simp,by omega⟩
    ·rw[if_neg hd,show(some (0:Int))=some ((0:Nat):Int) from rfl,HT.sIx_nat,HT.sIx_none]
     refine⟨0,by simp,by omega⟩
   rw[et.1]
   have st:SameT H5 H6:=.draw B5 S6
   have rp6:=Reps.keep st (qv as) rp
   have tl:(xs.take t).length<=1:=by rw[z9];omega
   refine⟨R,s1,_,_,rfl,rfl,(zd hs1) _ _ R6,zb,by omega,fun c1 hc1=>⟨c1,_,rfl,.inl ⟨SqL.of zb,fun p hp=>?_⟩⟩⟩
   have sm:=((zd (o:=.lst (xs.take t)) hs1).trans (zd (o:=.lst (xs++xs.take t)) hc1)).trans (zd (o:=.tup (xs++xs.take t)) hp)
   refine k p (as++as.take t) ord _ ((((S5.trans S6).new hs1).new hc1).new hp) ((((B6.new hs1).new hc1).new hp).mono (by omega)) ⟨p,_,rfl,SqT.of zb,?_⟩ op (fun pq hpq=>?_) (by rw[qJ,z9];omega)
   ·have rp7:=Reps.keep (SameT.of sm) (qv as) rp6
    have rt:=Reps.take t rp7
    rw[<- QR] at rt
    have:=Reps.app rp7 rt
    rw[<- zW] at this
    exact this
   ·rcases qL.mp hpq with w1 | w1
    ·exact bo pq w1
    ·exact bo pq (ZN w1)
end
structure Wg where
 k:Str
 x:Int
 y:Int
structure Z1 where
 k:Str
 x:Int
 y:Int
 m:Int
def xV(p:Wg):Dat:=.tup [.str p.k,.tup [.int p.x,.int p.y]]
def wj(p:Z1):Dat:=.tup [.str p.k,.tup [.int p.x,.int p.y],.int p.m]
theorem xQ:∀(as:List Z1),Dat.imms (as.map wj)=true
 | []=>rfl
 | p::as=>by
  show(Dat.imm (wj p)&&Dat.imms (as.map wj))=true
  rw[xQ as];rfl
theorem j8:∀(as:List Wg),Dat.imms (as.map xV)=true
 | []=>rfl
 | p::as=>by
  show(Dat.imm (xV p)&&Dat.imms (as.map xV))=true
  rw[j8 as];rfl
def inP(x y:Int):Prop:=0<=x/\x<=1000/\0<=y/\y<=1000
section
variable{P:Program}{w:World}{K:PySem.W.Frag}{mg:Str->Option Value}{base:Heap}
inductive Vn(K:PySem.W.Frag)(vs:List V)(H:Hp)(Q:VK):Prop
 | mk (b ks ps:Addr) (pl:Bool) (n:Int) (kinds:List Str) (parts:List Wg) (_:vs=[.ref b,.ref ks,.ref ps,.bl pl]) (_:BoxAt H b n) (_:n<900000) (_:ks≠b) (_:Row H ks kinds) (_:1<=kinds.length) (_:kinds.length<=12) (_:Rep K H (.tup (parts.map xV)) (.ref ps)) (_:parts.length<=100) (_:∀(p:Addr) (fs:List Z1) (es:List Str) H',SameB b H H'->BoxAt H' b (n+400)->Rep K H' (.tup (fs.map wj)) (.ref p)->(fs.map (·.k)).Perm (kinds++es)->(∀e∈es,e∈kinds)->fs.length<=40->(∀f∈fs,Nm f.k/\inP f.x f.y/\0<=f.m/\f.m<=400)->Q (.ref p) H'):Vn K vs H Q
def zbN(K:PySem.W.Frag):Sp:=fun vs H Q _=>Vn K vs H Q
theorem zb5:zI ["_law_box_here", "_law_kinds", "_law_parts", "_law_plenty", "_law_great", "_law_more", "_law_some", "_law_found", "_law_kind", "_law_need", "_law_many"] ["_law_box_here", "_law_kinds", "_law_parts", "_law_plenty"] (zv (topL 33)):=⟨rfl,rfl,rfl,by decide +kernel,rfl,by decide +kernel,by decide +kernel⟩
theorem zby{ns:List Str}{i:Int}(h:0<=i)(h':i<ns.length):∃x,atI (ns.map V.str) i=some (.str x)/\x∈ns:=by
 obtain⟨v,e1,e2⟩:=yn (xs:=ns.map V.str) h (by rw[zq];exact h')
 rw[qr] at e2
 obtain⟨x,hx,rfl⟩:=jc.mp e2
 exact⟨x,e1,jl hx⟩
theorem zgp{a c r:Int}(h:0<=r)(h':r<3)(a0:0<=a)(a1:a<=400)(c0:0<=c)(c1:c<=400):∃z:Int,atI [V.int a,V.int c,V.int 400] r=some (.int z)/\0<=z/\z<=400:=by
 have hc:r=0\/r=1\/r=2:=by omega
 rcases hc with rfl | rfl | rfl
 ·exact⟨a,rfl,a0,a1⟩
 ·exact⟨c,rfl,c0,c1⟩
 ·exact⟨400,rfl,by omega,by omega⟩
def zak(kinds:List Str)(b:_)(H2:_)(n:_):=fun(j:Nat) (zs:List V) (H3:Hp)=>(Ex1 fun(es:List Str)=>An5 (zs=es.map V.str) (es.length=j) ((∀x∈es,x∈kinds)) (SameB b H2 H3) (BoxAt H3 b (n+2+j)):Prop)
theorem zdO{f:Addr}{fd:FuncData}(F:Fun K "_law_feeders" "_law_feeders" (topL 33) f fd)(B:Blt mg)(D_take:Dfn P w K mg base "_law_take" 1 ["_law_box_here", "_law_size"] jM)(D_shuffled:Dfn P w K mg base "_law_shuffled" 2 ["_law_box_here", "_law_some"] (Zg K))(D_place:Dfn P w K mg base "_law_place" 2 ["_law_box_here", "_law_taken"] (Z4 K)):qS P w K mg base CX0 3 f fd ["_law_box_here", "_law_kinds", "_law_parts", "_law_plenty"] (zbN K):=by
 have nd:=zb5.nd
 refine F.ok zb5 (fun vs H Q E h=>?_) (fun cdv A outer s H vs Q E hr h=>?_)
 ·obtain⟨b,ks,ps,pl,n,kinds,parts,rfl,_⟩:=h
  rfl
 ·obtain⟨b,ks,ps,pl,n,kinds,parts,rfl,B0,hn,nk,Rk,k0,k1,hp,lp,k⟩:=h
  have hbig:100000<sizeLine:=by rw[sizeLine_eq];decide
  have e62:(2:Int)^62=4611686018427387904:=by decide
  have ek:(kinds.map V.str).length=kinds.length:=zq ..
  refine⟨_,(zf (zF (i:=4) nd rfl (Or.inl rfl) (qK qQ (zg D_take (hr.mono (by decide)) rfl (za (pv 0) (za ze zc))) ze (zB _)))
   (zf (xM (zF (i:=5) nd rfl (Or.inl rfl) (zg D_take (hr.mono (by decide)) rfl (za (pv 0) (za (jT (qG (pv 4)) (zw jZ ze (zj zp rfl B.len boot_len (za (pv 1) zc))) ze) zc)))))
   (zf (zF (i:=6) nd rfl (Or.inl rfl) (zw jv (pv 1) (jS ["_law_kinds", "_law_box_here"] [1,0] rfl rfl (by kernel_rfl) (qY rfl B.range (za (pv 5) zc)) (fun _ _ _ _=>jb) (fun _ _ _ _=>(zE (Qw (K:=K) rfl) (pv 1) (zg D_take (hr.mono (by decide)) rfl (za (pv 2) (za (zj (xx (K:=K) rfl) rfl B.len boot_len (za (pv 1) zc)) zc))) (fun _ _=>rfl))))))
   (zf (zF (i:=7) nd rfl (Or.inl rfl) (zO zc))
   (zf (ja jB rfl (jO (zg D_shuffled (hr.mono (by decide)) rfl (za (pv 0) (za (pv 6) zc)))) (zr (i:=8) nd rfl (Or.inr rfl))
   (zf (zF (i:=9) nd rfl (Or.inl rfl) (zj zp rfl B.len boot_len (za (jS ["_law_kind"] [8] rfl rfl (by kernel_rfl) (jX (pv 2)) (fun _ _ _ _=>(yj (zA qQ (zE (jq (K:=K) rfl) (pv 0) ze (fun _ _=>rfl)) (pv 1) (zB _)))) (fun _ _ _ _=>(pv 0))) zc)))
    (zf (xM (zF (i:=10) nd rfl (Or.inl rfl) (jT (qG (pv 3)) (zE zS (zO (za (pv 9) (za (zw zU (pv 9) (zg D_take (hr.mono (by decide)) rfl (za (pv 0) (za ze zc)))) (za ze zc)))) (zg D_take (hr.mono (by decide)) rfl (za (pv 0) (za ze zc))) (fun _ _=>rfl)) (zg D_take (hr.mono (by decide)) rfl (za (pv 0) (za ze zc))))))
    (zi (jn (xz xG wz wx jz (pv 7) (za (zX (za (pv 8) (za (zg D_place (hr.mono (by decide)) rfl (za (pv 0) (za (zO zc) zc))) (za (pv 10) zc)))) zc)))))))
   (zi (zt (zY qN rfl B.tuple zT (za (pv 7) zc))))))))),?_⟩
  refine⟨_,rfl,b,8,n,rfl,B0,by omega,by decide,by decide,fun r H1 r0 r1 B1 S1=>⟨rfl,?_⟩⟩
  have Rk1:=Rk.draw S1 nk
  refine⟨fun σ' H'=>Ex1 fun(more:Int)=>An5 (σ'=[some (.ref b),some (.ref ks),some (.ref ps),some (.bl pl),some (.bl (decide (V.int r=V.int 0))),some (.int more),none,none,none,none,none]) (0<=more) (more<=20) (SameB b H H') (BoxAt H' b (n+2)),?_,?_⟩
  ·refine⟨_,rfl,_,rfl,_,rfl,z7 (fun c=>?_) (fun c=>?_)⟩
   ·exact⟨_,rfl,ks,_,rfl,.inl (SqL.of Rk1.1),_,_,rfl,rfl,b,_,_,rfl,B1,by omega,by omega,by omega,fun more H2 a0 a1 B2 S2=>⟨_,rfl,a0,by omega,S1.trans S2,B2.mono (by omega)⟩⟩
   ·exact⟨b,4,_,rfl,B1,by omega,by decide,by decide,fun more H2 a0 a1 B2 S2=>⟨_,rfl,a0,by omega,S1.trans S2,B2.mono (by omega)⟩⟩
  rintro σ' H2 ⟨more,rfl,mo0,mo1,S2,B2⟩
  clear S1 B1 Rk1
  have Rk2:=Rk.draw S2 nk
  refine⟨_,rfl,_,rfl,_,rfl,(by rw[e62];omega),(by rw[e62];omega),yI (zak kinds b H2 n) ⟨[],rfl,rfl,(fun x h=>nomatch h),SameB.refl _ _,B2.mono (by omega)⟩ ?_ ?_⟩
  ·rintro j zs H3 hj ⟨es,rfl,el,ee,S3,B3⟩
   refine⟨rfl,⟨_,rfl,_,rfl,_,rfl,ks,_,rfl,.inl (SqL.of (Rk2.draw S3 nk).1),b,_,_,rfl,B3,by omega,by omega,by omega,fun q H4 q0 q1 B4 S4=>?_⟩⟩
   obtain⟨y,ey,my⟩:=zby (ns:=kinds) q0 (by omega)
   refine⟨ks,_,_,_,rfl,rfl,SqL.of (Rk2.draw (S3.trans S4) nk).1,ey,by rw[zq,el];omega,es++[y],by rw[zW];rfl,by rw[qJ,el];rfl,fun x hx=>?_,S3.trans S4,B4.mono (by omega)⟩
   rcases qL.mp hx with pq | pq
   ·exact ee x pq
   ·rw[qR.mp pq];exact my
  rintro zs H3 ⟨es,rfl,el,ee,S3,B3⟩
  refine⟨by rw[zq,el];omega,fun D hD=>?_⟩
  have S3':=(S2.trans S3).new (o:=.lst (es.map V.str)) hD
  have Rk3:=(Rk2.draw S3 nk).same (zd (o:=.lst (es.map V.str)) hD)
  refine⟨ks,D,_,_,rfl,rfl,Rk3.1,zb,by rw[ek,zq,el];omega,fun sm hs=>?_⟩
  have B4:=(B3.new (o:=.lst (es.map V.str)) hD).new (o:=.lst (kinds.map V.str++es.map V.str)) hs
  have S4:=S3'.new (o:=.lst (kinds.map V.str++es.map V.str)) hs
  have ns:=(B3.new (o:=.lst (es.map V.str)) hD).nne hs
  have M4:upd (upd H3 D (.lst (es.map V.str))) sm (.lst (kinds.map V.str++es.map V.str)) sm=some (.lst ((kinds++es).map V.str)):=by rw[zb,zW]
  generalize upd (upd H3 D (.lst (es.map V.str))) sm (.lst (kinds.map V.str++es.map V.str))=H4 at B4 S4 M4
  clear S2 S3 S3' Rk2 Rk3 B2 B3 hD hs
  refine⟨le0,fun R hR=>?_⟩
  have nR:=B4.nne hR
  have RH:H R=none:=S4.none hR nR
  have lenk:((kinds++es).map V.str).length<=32:=by rw[zq,qJ,el];omega
  refine⟨_,rfl,_,rfl,b,sm,_,_,rfl,B4.new hR,by omega,.inl ⟨ns,(zd hR) _ _ M4⟩,by omega,fun l ys H5 S5 B5 nl lN hl pm=>?_⟩
  obtain⟨sh,shp,rfl⟩:=yE pm rfl
  have S5':=(S4.new (o:=.lst []) hR).trans S5
  have R5:H5 R=some (.lst []):=S5 _ _ zb nR
  have lR:l≠R:=fun z=>by rw[z,zb] at lN;cases lN
  have shl:sh.length<=32:=by rw[shp.length_eq];rw[zq] at lenk;exact lenk
  have shn:∀x∈sh,Nm x:=fun x hx=>by
   rcases qL.mp (shp.mem_iff.mp hx) with q | q
   ·exact Rk.2 x q
   ·exact Rk.2 x (ee x q)
  clear pm M4 S4 S5 B4 hR
  refine⟨l,rfl,⟨_,SqL.of hl⟩,xZ (K:=K) (a:=l) (xs:=sh.map V.str) (fun i σ H6=>Ex6 fun(fs:List Z1) (xs:List V) (v6 v8 v9 v10:Option V)=>An8 (σ=[some (.ref b),some (.ref ks),some (.ref ps),some (.bl pl),some (.bl (decide (V.int r=V.int 0))),some (.int more),v6,some (.ref R),v8,v9,v10]) (SameB b H H6) (BoxAt H6 b (n+60+6*i)) (H6 l=some (.lst (sh.map V.str))) (H6 R=some (.lst xs)) (Reps K H6 (fs.map wj) xs) (fs.map (·.k)=sh.take i) (∀f∈fs,Nm f.k/\inP f.x f.y/\0<=f.m/\f.m<=400))
   ⟨[],[],_,_,_,_,rfl,S5',B5.mono (by omega),hl,R5,rfl,rfl,(fun f h=>nomatch h)⟩ (fun i σ H6 _ ⟨_,_,_,_,_,_,_,_,_,h,_,_,_,_⟩=>SqL.of h) ?_ ?_⟩
  ·rintro i x σ H6 hx ⟨fs,xs,v6,v8,v9,v10,rfl,S6,B6,L6,R6,rp,fk,fa⟩
   rw[qr] at hx
   obtain⟨kd,hkd,rfl⟩:=jc.mp hx
   have hi:=(zN.mp hkd).1
   have fl:fs.length=i:=by
    have:=congrArg List.length fk
    rw[zq,z9] at this
    omega
   have xl:xs.length=i:=by rw[rp.len,zq,fl]
   have hp6:=Rep.keep (d:=.tup (parts.map xV)) (SameT.draw B0 S6) (j8 parts) hp
   obtain⟨_,pxs,ep,hq,hps⟩:=hp6
   cases ep
   have pl':pxs.length=parts.length:=by rw[hps.len,zq]
   refine⟨_,rfl,ps,rfl,⟨_,hq⟩,j6 (K:=K) (a:=ps) (xs:=pxs) (fun j zs H7=>zs.length<=j/\Same H6 H7) ⟨zC _,Same.refl _⟩ (fun j zs H7 ⟨_,s7⟩=>s7.sqT hq) ?_ ?_⟩
   ·rintro j v zs H7 hv ⟨zl,s7⟩
    have hj:=(zN.mp hv).1
    obtain⟨d,hd,rd⟩:=hps.get hv
    rw[qr] at hd
    obtain⟨pt,_,rfl⟩:=jc.mp hd
    obtain⟨c,cxs,rfl,hc,u1,r1',e1,e2,e3⟩:=rd
    subst e1
    cases(show u1=.str pt.k from e2)
    refine⟨rfl,⟨_,rfl,c,_,_,.str pt.k,rfl,rfl,s7.sqT hc,qI (j:=0) rfl,_,rfl,rfl,_,rfl,z7 (fun dd=>⟨_,rfl,by omega,by rw[qJ];simp;omega,s7⟩) (fun dd=>⟨by omega,s7⟩)⟩⟩
   rintro zs H7 ⟨zl,s7⟩
   refine⟨by omega,fun D2 hD2=>⟨D2,zs,rfl,.inl (SqL.of zb),?_⟩⟩
   have s8:=s7.trans (zd (o:=.lst zs) hD2)
   have B8:=B6.same s8
   generalize upd H7 D2 (.lst zs)=H8 at s8 B8
   refine⟨fun σ' H'=>Ex1 fun(many:Int)=>An5 (σ'=[some (.ref b),some (.ref ks),some (.ref ps),some (.bl pl),some (.bl (decide (V.int r=V.int 0))),some (.int more),v6,some (.ref R),some (.str kd),some (.int (zs.length:Int)),some (.int many)]) (0<=many) (many<=400) (SameB b H8 H') (BoxAt H' b (n+60+6*i+2)),?_,?_⟩
   ·refine⟨_,rfl,_,rfl,z7 (fun c=>?_) (fun c=>?_)⟩
    ·refine⟨_,rfl,_,rfl,_,rfl,b,9,_,rfl,B8,by omega,by decide,by decide,fun q9 H9 a0 a1 B9 S9=>⟨_,_,rfl,rfl,le3,fun l3 h3=>⟨_,rfl,b,3,_,rfl,B9.new h3,by omega,by decide,by decide,fun q3 H10 c0 c1 B10 S10=>?_⟩⟩⟩
     have L10:=S10 l3 _ zb (B9.nne h3)
     obtain⟨z,ez,z0,z1⟩:=zgp (a:=(zs.length:Int)) (c:=(zs.length:Int)+q9) c0 c1 (by omega) (by omega) (by omega) (by omega)
     exact⟨l3,_,_,_,rfl,rfl,SqL.of L10,ez,z,rfl,z0,z1,(S9.new h3).trans S10,B10.mono (by omega)⟩
    ·exact⟨_,rfl,b,4,_,rfl,B8,by omega,by decide,by decide,fun q9 H9 a0 a1 B9 S9=>⟨q9,rfl,a0,by omega,S9,B9.mono (by omega)⟩⟩
   rintro σ' H9 ⟨many,rfl,y0,y1,S9,B9⟩
   have S9':=(SameB.of (b:=b) s8).trans S9
   have R9:=S9' _ _ R6 nR
   refine⟨_,rfl,.inl ⟨rfl,_,SqL.of R9⟩,_,rfl,_,rfl,le0,fun e he=>⟨b,e,_,[],rfl,B9.new he,by omega,B9.nne he,zb,qo _,(fun a h=>nomatch h),fun pp H10 S10 B10 ppN pa=>⟨_,rfl,le3,fun T hT=>?_⟩⟩⟩
   obtain⟨px,py,hpp,b1,b2,b3,b4⟩:=pa
   have R10:=S10 _ _ ((zd he) _ _ R9) nR
   have R11:=(zd (o:=.tup [.str kd,.ref pp,.int many]) hT) _ _ R10
   refine⟨R,xs,.ref T,rfl,rfl,R11,by omega,?_⟩
   have S11:=(S9'.new he).trans (S10.new (o:=.tup [.str kd,.ref pp,.int many]) hT)
   have st:SameT H6 (upd (upd H10 T (.tup [.str kd,.ref pp,.int many])) R (.lst (xs++[.ref T]))):=(SameT.draw B6 S11).trans (.put R11)
   have TR:T≠R:=fun z=>by rw[z,R10] at hT;cases hT
   have ppR:pp≠R:=fun z=>by rw[z,R10] at hpp;cases hpp
   have ppT:pp≠T:=fun z=>by rw[z,hT] at hpp;cases hpp
   refine⟨fs++[⟨kd,px,py,many⟩],_,_,_,_,_,rfl,(S6.trans S11).put RH,((B10.new hT).other nR).mono (by omega),by rw[zo lR];exact S11 _ _ L6 nl,zb,?_,?_,fun g hgm=>?_⟩
   ·rw[zW]
    refine Reps.snoc ?_ (Reps.keep st (xQ fs) rp)
    refine⟨T,_,rfl,SqT.of (by rw[zo TR];exact zb),_,_,rfl,rfl,_,_,rfl,⟨pp,_,rfl,SqT.of (by rw[zo ppR,zo ppT];exact hpp),_,_,rfl,rfl,_,_,rfl,rfl,rfl⟩,_,_,rfl,rfl,rfl⟩
   ·rw[zW,fk]
    obtain⟨h1,h2⟩:=zN.mp hkd
    rw[<- y9 h1,h2]
    rfl
   ·rcases qL.mp hgm with q | q
    ·exact fa g q
    ·rw[qR.mp q]
     exact⟨shn kd (jl hkd),⟨b1,b2,b3,b4⟩,y0,y1⟩
  ·rintro σ H6 ⟨fs,xs,v6,v8,v9,v10,rfl,S6,B6,L6,R6,rp,fk,fa⟩
   rw[zq,je] at fk
   have fl:fs.length<=32:=by
    have:=congrArg List.length fk
    rw[zq] at this
    omega
   refine⟨_,rfl,R,xs,rfl,.inl ⟨SqL.of R6,fun p hp'=>?_⟩⟩
   refine k p fs es _ (S6.new hp') ((B6.new hp').mono (by rw[zq] at *;omega)) ⟨p,_,rfl,SqT.of zb,Reps.keep (SameT.of (zd hp')) (xQ fs) rp⟩ (by rw[fk];exact shp) ee (by omega) fa
end
structure Job where
 gx:Int
 gy:Int
 hd:Int
 fs:List Z1
 ps:List Wg
 as:List (Nat×Nat)
def vj(J:Job):Dat:=.tup [.tup [.int J.gx,.int J.gy],.int J.hd,.tup (J.fs.map wj),.tup (J.ps.map xV),Za J.as]
theorem wf(J:Job):(vj J).imm=true:=by
 show(true&&(true&&(Dat.imms (J.fs.map wj)&&(Dat.imms (J.ps.map xV)&&(Dat.imms (J.as.map qP)&&true)))))=true
 rw[xQ,j8,qv];rfl
structure JobOk(J:Job)(ord:List Nat):Prop where
 gate:inP J.gx J.gy
 hd0:1<=J.hd
 hd1:J.hd<=4
 fl:J.fs.length<=40
 fa:∀f∈J.fs,Nm f.k/\inP f.x f.y/\0<=f.m/\f.m<=400
 pl:J.ps.length<=60
 pa:∀p∈J.ps,Nm p.k/\inP p.x p.y/\∃f∈J.fs,f.k=p.k
 op:ord.Perm (List.range J.ps.length)
 bo:ByOrd ord J.as
 al:J.as.length<=300
 f0:1<=J.fs.length
theorem zds{r:Int}(h0:0<=r)(h1:r<4):∃z:Int,atI [V.int 3,V.int 3,V.int 3,V.int 12] r=some (.int z)/\3<=z/\z<=12:=by
 have hc:r=0\/r=1\/r=2\/r=3:=by omega
 rcases hc with rfl | rfl | rfl | rfl
 ·exact⟨3,rfl,by decide,by decide⟩
 ·exact⟨3,rfl,by decide,by decide⟩
 ·exact⟨3,rfl,by decide,by decide⟩
 ·exact⟨12,rfl,by decide,by decide⟩
section
variable{P:Program}{w:World}{K:PySem.W.Frag}{mg:Str->Option Value}{base:Heap}
inductive Ys(K:PySem.W.Frag)(vs:List V)(H:Hp)(Q:VK):Prop
 | mk (b:Addr) (few most n:Int) (pl:Bool) (_:vs=[.ref b,.int few,.int most,.bl pl]) (_:BoxAt H b n) (_:n<500000) (_:0<=few) (_:few<=60) (_:0<=most) (_:most<=60) (_:∀(p:Addr) (J:Job) (ord:List Nat) H',SameB b H H'->BoxAt H' b (n+3000)->Rep K H' (vj J) (.ref p)->JobOk J ord->Q (.ref p) H'):Ys K vs H Q
def zbK(K:PySem.W.Frag):Sp:=fun vs H Q _=>Ys K vs H Q
theorem zeu:zI ["_law_box_here", "_law_few", "_law_most", "_law_plenty", "_law_many", "_law_kinds", "_law_parts", "_law_feeders_here"] ["_law_box_here", "_law_few", "_law_most", "_law_plenty"] (zv (topL 35)):=⟨rfl,rfl,rfl,by decide +kernel,rfl,by decide +kernel,by decide +kernel⟩
def zaj(b:_)(few:_)(most:_)(pl:_)(H:_)(n:_):=fun(σ':St) (H':Hp)=>(Ex1 fun(m:Int)=>An5 (σ'=[some (.ref b),some (.int few),some (.int most),some (.bl pl),some (.int m),none,none,none]) (0<=m) (m<=60) (SameB b H H') (BoxAt H' b (n+2)):Prop)
def zai(K:_)(kinds:List Str)(b:_)(H6:_)(n:_):=fun(j:Nat) (zs:List V) (H7:Hp)=>(Ex1 fun(qs:List Wg)=>An5 (Reps K H7 (qs.map xV) zs) (qs.length=j) ((∀q∈qs,q.k∈kinds/\inP q.x q.y)) (SameB b H6 H7) (BoxAt H7 b (n+700+j)):Prop)
theorem zfj{f:Addr}{fd:FuncData}(F:Fun K "_law_job" "_law_job" (topL 35) f fd)(B:Blt mg)(D_take:Dfn P w K mg base "_law_take" 1 ["_law_box_here", "_law_size"] jM)(D_names:Dfn P w K mg base "_law_names" 3 ["_law_box_here", "_law_many"] Yp)(D_place:Dfn P w K mg base "_law_place" 2 ["_law_box_here", "_law_taken"] (Z4 K))(D_places:Dfn P w K mg base "_law_places" 3 ["_law_box_here", "_law_many"] Vg)
  (D_feeders:Dfn P w K mg base "_law_feeders" 3 ["_law_box_here", "_law_kinds", "_law_parts", "_law_plenty"] (zbN K)) (D_aheads:Dfn P w K mg base "_law_aheads" 3 ["_law_box_here", "_law_many"] (Vp K)):qS P w K mg base CX0 4 f fd ["_law_box_here", "_law_few", "_law_most", "_law_plenty"] (zbK K):=by
 have nd:=zeu.nd
 refine F.ok zeu (fun vs H Q E h=>?_) (fun cdv A outer s H vs Q E hr h=>?_)
 ·obtain⟨b,few,most,n,pl,rfl,_⟩:=h
  rfl
 ·obtain⟨b,few,most,n,pl,rfl,B0,hn,f0,f1,mo0,mo1,k⟩:=h
  have hbig:100000<sizeLine:=by rw[sizeLine_eq];decide
  refine⟨_,(zf (xM (zF (i:=4) nd rfl (Or.inl rfl) (zg D_take (hr.mono (by decide)) rfl (za (pv 0) (za (zw zU (jT (zA VC (zg D_take (hr.mono (by decide)) rfl (za (pv 0) (za ze zc))) ze (zB _)) (pv 1) (pv 2)) ze) zc)))))
   (zf (zF (i:=5) nd rfl (Or.inr rfl) (zg D_names (hr.mono (by decide)) rfl (za (pv 0) (za (zw zU ze (zg D_take (hr.mono (by decide)) rfl (za (pv 0) (za (zE zS (zO (za ze (za ze (za ze (za ze zc))))) (zg D_take (hr.mono (by decide)) rfl (za (pv 0) (za ze zc))) (fun _ _=>rfl)) zc)))) zc))))
   (zf (zF (i:=6) nd rfl (Or.inl rfl) (zY qN rfl B.tuple zT (za (jS ["_law_kinds", "_law_box_here"] [5,0] rfl rfl (by kernel_rfl) (jO (zg D_places (hr.mono (by decide)) rfl (za (pv 0) (za (pv 4) zc)))) (fun _ _ _ _=>jb) (fun _ _ _ _=>(zX (za (zE (Qw (K:=K) rfl) (pv 1) (zg D_take (hr.mono (by decide)) rfl (za (pv 2) (za (zj (xx (K:=K) rfl) rfl B.len boot_len (za (pv 1) zc)) zc))) (fun _ _=>rfl)) (za (pv 0) zc))))) zc)))
   (zf (zF (i:=7) nd rfl (Or.inl rfl) (zg D_feeders (hr.mono (by decide)) rfl (za (pv 0) (za (pv 5) (za (pv 6) (za (pv 3) zc))))))
   (zi (zt (zX (pa5 (zg D_place (hr.mono (by decide)) rfl (za (pv 0) (za (zO zc) zc))) (zw zU ze (zg D_take (hr.mono (by decide)) rfl (za (pv 0) (za ze zc)))) (pv 7) (pv 6) (zg D_aheads (hr.mono (by decide)) rfl (za (pv 0) (za (pv 4) zc))))))))))),?_⟩
  refine⟨zaj b few most pl H n,?_,?_⟩
  ·refine⟨_,rfl,_,rfl,b,8,n,rfl,B0,by omega,by decide,by decide,fun r H1 r0 r1 B1 S1=>⟨_,_,rfl,rfl,_,rfl,z7 (fun c=>⟨_,rfl,_,_,rfl,rfl,?_⟩) (fun c=>⟨_,rfl,_,_,rfl,rfl,?_⟩)⟩⟩
   ·exact⟨b,_,_,rfl,B1,by omega,by omega,by omega,fun m H2 a0 a1 B2 S2=>⟨m,rfl,a0,by omega,S1.trans S2,B2.mono (by omega)⟩⟩
   ·exact⟨b,_,_,rfl,B1,by omega,by omega,by omega,fun m H2 a0 a1 B2 S2=>⟨m,rfl,a0,by omega,S1.trans S2,B2.mono (by omega)⟩⟩
  rintro σ' H2 ⟨m,rfl,m0,m1,S2,B2⟩
  refine⟨_,rfl,_,rfl,le4,fun l1 h1=>⟨_,rfl,b,4,_,rfl,B2.new h1,by omega,by decide,by decide,fun r H3 r0 r1 B3 S3=>?_⟩⟩
  have L3:=S3 l1 _ zb (B2.nne h1)
  obtain⟨z,ez,z0,z1⟩:=zds r0 r1
  refine⟨l1,_,_,_,rfl,rfl,SqL.of L3,ez,b,z,_,rfl,B3,by omega,by omega,by omega,fun q H4 q0 q1 B4 S4=>⟨_,_,rfl,rfl,b,1+q,_,rfl,B4,by omega,by omega,by omega,fun ks kinds H5 S5 B5 nk kN Rk kl=>?_⟩⟩
  have S5':=(((S2.new h1).trans S3).trans S4).trans S5
  have ek:(kinds.map V.str).length=kinds.length:=zq ..
  clear S2 S3 S4 S5 B2 B3 B4 L3 h1
  refine⟨_,rfl,_,rfl,b,m,_,rfl,B5,by omega,m0,by omega,fun l as H6 S6 B6 nl lN hl pa al=>?_⟩
  have Rk6:=Rk.draw S6 nk
  refine⟨l,rfl,⟨_,SqL.of hl⟩,xw (K:=K) (a:=l) (xs:=as.map V.ref) (zai K kinds b H6 n) ⟨[],rfl,rfl,(fun x h=>nomatch h),SameB.refl _ _,B6.mono (by omega)⟩ (fun j zs H7 ⟨_,_,_,_,s7,_⟩=>SqL.of (s7 _ _ hl nl)) ?_ ?_⟩
  ·rintro j x zs H7 hx ⟨qs,rq,ql,qa,S7,B7⟩
   rw[qr] at hx
   obtain⟨a,ha,rfl⟩:=jc.mp hx
   have hj:=(zN.mp ha).1
   have zl:zs.length=j:=by rw[rq.len,zq,ql]
   refine⟨rfl,⟨_,rfl,_,rfl,_,rfl,ks,_,rfl,.inl (SqL.of (Rk6.draw S7 nk).1),b,_,_,rfl,B7,by omega,by omega,by omega,fun q H8 c0 c1 B8 S8=>?_⟩⟩
   obtain⟨y,ey,my⟩:=zby (ns:=kinds) c0 (by omega)
   obtain⟨px,py,hpp,b1,b2,b3,b4⟩:=(pa a (jl ha)).draw B6 (S7.trans S8)
   refine⟨ks,_,_,_,rfl,rfl,SqL.of (Rk6.draw (S7.trans S8) nk).1,ey,_,rfl,le2,fun T hT=>⟨by omega,qs++[⟨y,px,py⟩],?_,by rw[qJ,ql];rfl,fun q hq=>?_,(S7.trans S8).new hT,(B8.new hT).mono (by omega)⟩⟩
   ·rw[zW]
    have rT:Rep K (upd H8 T (.tup [.str y,.ref a])) (xV ⟨y,px,py⟩) (.ref T):=⟨T,_,rfl,SqT.of zb,_,_,rfl,rfl,_,_,rfl,⟨a,_,rfl,SqT.of ((zd hT) _ _ hpp),_,_,rfl,rfl,_,_,rfl,rfl,rfl⟩,rfl⟩
    exact Reps.snoc rT (Reps.keep ((SameT.draw B7 S8).trans (.of (zd hT))) (j8 qs) rq)
   ·rcases qL.mp hq with w1 | w1
    ·exact qa q w1
    ·rw[qR.mp w1];exact⟨my,b1,b2,b3,b4⟩
  rintro zs H7 ⟨qs,rq,ql,qa,S7,B7⟩
  rw[zq] at ql
  have B7:BoxAt H7 b (n+800):=B7.mono (by rw[zq];omega)
  have zl:zs.length=as.length:=by rw[rq.len,zq,ql]
  refine⟨by omega,fun D hD=>⟨D,zs,rfl,.inl ⟨SqL.of zb,fun ps hps=>?_⟩⟩⟩
  have sm:=(zd (o:=.lst zs) hD).trans (zd (o:=.tup zs) hps)
  have S8:=(S5'.trans S6).trans (S7.trans (SameB.of (b:=b) sm))
  have B8:=B7.same sm
  have Rk8:=(Rk6.draw S7 nk).same sm
  have P8:Rep K (upd (upd H7 D (.lst zs)) ps (.tup zs)) (.tup (qs.map xV)) (.ref ps):=⟨ps,_,rfl,SqT.of zb,Reps.keep (.of sm) (j8 qs) rq⟩
  generalize upd (upd H7 D (.lst zs)) ps (.tup zs)=H8 at sm S8 B8 Rk8 P8
  clear S5' S6 S7 B5 B6 B7 Rk Rk6 rq hD hps pa hl
  refine⟨_,rfl,_,rfl,_,rfl,_,rfl,b,ks,ps,pl,_,kinds,qs,rfl,B8,by omega,nk,Rk8,by omega,by omega,P8,by omega,fun fp fs es H9 S9 B9 F9 fperm ee fl fa=>?_⟩
  have P9:=Rep.keep (d:=.tup (qs.map xV)) (SameT.draw B8 S9) (j8 qs) P8
  refine⟨_,rfl,le0,fun t ht=>⟨b,t,_,[],rfl,B9.new ht,by omega,B9.nne ht,zb,qo _,(fun a h=>nomatch h),fun gp H10 S10 B10 gN ga=>?_⟩⟩
  obtain⟨gx,gy,hgp,g1,g2,g3,g4⟩:=ga
  refine⟨_,rfl,b,4,_,rfl,B10,by omega,by decide,by decide,fun hd H11 d0 d1 B11 S11=>⟨_,_,rfl,rfl,_,rfl,_,rfl,_,rfl,_,rfl,b,m,_,rfl,B11,by omega,m0,by omega,fun ap aas ord H12 S12 B12 A12 op bo al2=>⟨leN (by show 5<=1000;decide),fun p hp=>?_⟩⟩⟩
  have t9:SameT H9 H12:=((SameT.of (zd ht)).trans (.draw (B9.new ht) S10)).trans ((SameT.draw B10 S11).trans (.draw B11 S12))
  have t10:SameT H10 H12:=(SameT.draw B10 S11).trans (.draw B11 S12)
  have up:Same H12 (upd H12 p (.tup [.ref gp,.int (1+hd),.ref fp,.ref ps,.ref ap])):=zd hp
  have F12:=Rep.keep (d:=.tup (fs.map wj)) (t9.trans (.of up)) (xQ fs) F9
  have P12:=Rep.keep (d:=.tup (qs.map xV)) (t9.trans (.of up)) (j8 qs) P9
  have A13:=Rep.keep (d:=Za aas) (.of up) (qv aas) A12
  have G12:=(t10.trans (.of up)) gp _ hgp (fun xs h=>nomatch h) (fun xs h=>nomatch h)
  have qlm:qs.length=m.toNat:=by omega
  have fk:∀kd∈kinds,∃f∈fs,f.k=kd:=fun kd hkd=>by
   have:=fperm.mem_iff.mpr (xc es hkd)
   obtain⟨f,hf,e⟩:=jC.mp this
   exact⟨f,hf,e⟩
  refine k p ⟨gx,gy,1+hd,fs,qs,aas⟩ ord _ (((S8.trans S9).trans ((SameB.of (zd ht)).trans S10)).trans ((S11.trans S12).new hp)) ((B12.new hp).mono (by omega)) ?_ ?_
  ·exact⟨p,_,rfl,SqT.of zb,_,_,rfl,⟨gp,_,rfl,SqT.of G12,_,_,rfl,rfl,_,_,rfl,rfl,rfl⟩,_,_,rfl,rfl,_,_,rfl,F12,_,_,rfl,P12,_,_,rfl,A13,rfl⟩
  ·refine⟨⟨g1,g2,g3,g4⟩,by show 1<=1+hd;omega,by show 1+hd<=4;omega,fl,fa,by show qs.length<=60;omega,fun q hq=>?_,by show ord.Perm (List.range qs.length);rw[qlm];exact op,bo,al2,?_⟩
   ·obtain⟨hk,hi⟩:=qa q hq
    exact⟨Rk8.2 q.k hk,hi,fk q.k hk⟩
   ·have:=fperm.length_eq
    rw[zq,qJ] at this
    show 1<=fs.length
    omega
end
theorem qg{α:Type}{l:List α}{i:Nat}{x:α}(h:l[i]? =some x):l.take (i+1)=l.take i++[x]:=by
 obtain⟨h1,h2⟩:=zN.mp h
 rw[<- h2,y9]
def zu(os:List Nat):List V:=os.map fun i:Nat=>V.int (i:Int)
theorem zH(os:List Nat):(zu os).length=os.length:=zq ..
theorem VG(os:List Nat):zu os=(os.map fun i:Nat=>(i:Int)).map V.int:=by unfold zu;rw[xn];rfl
theorem j9:∀os:List Nat,(zu os).all xK=true
 | []=>rfl
 | o::os=>by
  show(true&&(zu os).all xK)=true
  rw[j9 os];rfl
theorem x9(k:Nat):∀os:List Nat,inV (.int (k:Int)) (zu os)=decide (k∈os)
 | []=>rfl
 | o::os=>by
  show((o:Int)==(k:Int)||inV (.int (k:Int)) (zu os))=_
  rw[x9 k os]
  by_cases h:o=k
  ·subst h;simp
  ·have e:((o:Int)==(k:Int))=false:=by simp;omega
   rw[e,Bool.false_or,decide_eq_decide]
   exact⟨fun z=>jE _ z,fun z=>(qq.mp z).resolve_left fun y=>h y.symm⟩
theorem JK(k:Nat):∀os:List Nat,((os.map fun i:Nat=>(i:Int)).erase (k:Int))=(os.erase k).map fun i:Nat=>(i:Int)
 | []=>rfl
 | o::os=>by
  rw[jP,List.erase_cons,List.erase_cons]
  by_cases h:(o==k)=true
  ·have e:((o:Int)==(k:Int))=true:=by
    have:=eq_of_beq h
    simp[this]
   rw[if_pos h,if_pos e]
  ·have e:¬((o:Int)==(k:Int))=true:=fun z=>h (by
    have:=eq_of_beq z
    have:o=k:=by omega
    simp[this])
   rw[if_neg h,if_neg e,jP,JK k os]
theorem yG{os:List Nat}{i:Nat}{x:V}(h:(zu os)[i]? =some x):∃k,os[i]? =some k/\x=.int (k:Int):=by
 unfold zu at h
 rw[qr] at h
 obtain⟨k,hk,rfl⟩:=jc.mp h
 exact⟨k,hk,rfl⟩
def Early(os:List Nat)(as:List (Nat×Nat)):Prop:=∀p∈as,∀l:Nat,os[l]? =some p.2->∃k:Nat,k<l/\os[k]? =some p.1
theorem Early.snoc{os:List Nat}{as:List (Nat×Nat)}{k:Nat}(h:Early os as)(hk:∀p∈as,p.2=k->p.1∈os):Early (os++[k]) as:=by
 intro p hp l hl
 by_cases hlt:l<os.length
 ·rw[vW hlt] at hl
  obtain⟨j,h1,h2⟩:=h p hp l hl
  exact⟨j,h1,by rw[vW (by omega)];exact h2⟩
 ·have hle:l=os.length:=by
   have:=(zN.mp hl).1
   rw[qJ] at this
   simp at this
   omega
  subst hle
  rw[vF (zC _),Nat.sub_self] at hl
  have e:k=p.2:=by simpa using hl
  obtain⟨j,hj,ej⟩:=Q2.mp (hk p hp e.symm)
  exact⟨j,hj,by rw[vW hj,<- ej];simp[hj]⟩
theorem ByOrd.mem1{ord:List Nat}{as:List (Nat×Nat)}(h:ByOrd ord as){p:Nat×Nat}(hp:p∈as):p.1∈ord:=by
 obtain⟨k,l,_,e,_⟩:=h p hp
 exact jl e
theorem ByOrd.mem2{ord:List Nat}{as:List (Nat×Nat)}(h:ByOrd ord as){p:Nat×Nat}(hp:p∈as):p.2∈ord:=by
 obtain⟨k,l,_,_,e⟩:=h p hp
 exact jl e
theorem Early.ord{os ord:List Nat}{as:List (Nat×Nat)}(h:Early os as)(b:ByOrd ord as)(hp:os.Perm ord):ByOrd os as:=by
 intro p hq
 obtain⟨l,hl,el⟩:=Q2.mp (hp.mem_iff.mpr (b.mem2 hq))
 have e:os[l]? =some p.2:=by rw[<- el];simp[hl]
 obtain⟨k,h1,h2⟩:=h p hq l e
 exact⟨k,l,h1,h2,e⟩
def qU(left:List Nat)(as:List (Nat×Nat)):List Nat:=(as.filter fun p=>decide (p.1∈left)).map fun p=>p.2
def jN(left:List Nat)(as:List (Nat×Nat)):List Nat:=left.filter fun k=>!decide (k∈qU left as)
theorem VN{left:List Nat}{as:List (Nat×Nat)}{c:Nat}:c∈qU left as↔∃p∈as,p.1∈left/\p.2=c:=by
 unfold qU
 rw[jC]
 constructor
 ·rintro⟨p,hp,rfl⟩
  obtain⟨h1,h2⟩:=vT.mp hp
  exact⟨p,h1,qW h2,rfl⟩
 ·rintro⟨p,h1,h2,rfl⟩
  exact⟨p,vT.mpr ⟨h1,qF h2⟩,rfl⟩
theorem za8{left ord:List Nat}{as:List (Nat×Nat)}(b:ByOrd ord as)(nd:ord.Nodup)(hs:∀k∈left,k∈ord)(hne:left≠[]):jN left as≠[]:=by
 have key:∀(n:Nat) (k:Nat),k∈left->(∃i,i<n/\ord[i]? =some k)->∃c∈left,c∉qU left as:=by
  intro n
  induction n with
  | zero=>rintro k _ ⟨i,hi,_⟩;omega
  | succ n ih=>
   rintro k hk ⟨i,hi,ei⟩
   by_cases hl:k∈qU left as
   ·obtain⟨p,hp,h1,rfl⟩:=VN.mp hl
    obtain⟨x,y,hxy,ex,ey⟩:=b p hp
    have e:y=i:=by
     have h1:=(zN.mp ei).1
     have h2:=(zN.mp ey).1
     have h3:ord[y]=ord[i]:=by
      rw[jj h1] at ei
      rw[jj h2] at ey
      exact(jJ ey).trans (jJ ei).symm
     exact(Zx nd).mp h3
    exact ih p.1 h1 ⟨x,by omega,ex⟩
   ·exact⟨k,hk,hl⟩
 obtain⟨k,hk⟩:∃k,k∈left:=by
  cases left with
  | nil=>exact absurd rfl hne
  | cons a r=>exact⟨a,by simp⟩
 obtain⟨i,hi,ei⟩:=Q2.mp (hs k hk)
 obtain⟨c,hc,hn⟩:=key (i+1) k hk ⟨i,by omega,by rw[<- ei];simp[hi]⟩
 intro z
 have:c∈jN left as:=vT.mpr ⟨hc,by simp[hn]⟩
 rw[z] at this
 cases this
section
variable{P:Program}{w:World}{K:PySem.W.Frag}{mg:Str->Option Value}{base:Heap}
theorem VS{H:Hp}{J:Job}{jp:Addr}(h:Rep K H (vj J) (.ref jp)):∃g fs ps as:Addr,SqT K H jp [.ref g,.int J.hd,.ref fs,.ref ps,.ref as]/\Rep K H (.tup [.int J.gx,.int J.gy]) (.ref g)/\Rep K H (.tup (J.fs.map wj)) (.ref fs)/\Rep K H (.tup (J.ps.map xV)) (.ref ps)/\Rep K H (Za J.as) (.ref as):=by
 obtain⟨a,xs,e,q,x0,r0,e0,h0,x1,r1,e1,h1,x2,r2,e2,h2,x3,r3,e3,h3,x4,r4,e4,h4,e5⟩:=h
 cases e
 subst e0 e1 e2 e3 e4
 have e5':r4=[]:=e5
 subst e5'
 have h1':x1=.int J.hd:=h1
 subst h1'
 obtain⟨g,gx,rfl,gq⟩:=h0
 obtain⟨fs,fx,rfl,fq⟩:=h2
 obtain⟨ps,px,rfl,pq⟩:=h3
 obtain⟨as,ax,rfl,aq⟩:=h4
 exact⟨g,fs,ps,as,q,⟨g,gx,rfl,gq⟩,⟨fs,fx,rfl,fq⟩,⟨ps,px,rfl,pq⟩,⟨as,ax,rfl,aq⟩⟩
theorem yD{H:Hp}{ds:List Dat}{a:Addr}(h:Rep K H (.tup ds) (.ref a)):∃xs,SqT K H a xs/\Reps K H ds xs:=by
 obtain⟨a',xs,e,q,r⟩:=h
 cases e
 exact⟨xs,q,r⟩
inductive Jv(K:PySem.W.Frag)(vs:List V)(H:Hp)(Q:VK):Prop
 | mk (b jp:Addr) (J:Job) (ord:List Nat) (n:Int) (_:vs=[.ref b,.ref jp]) (_:BoxAt H b n) (_:n<600000) (_:Rep K H (vj J) (.ref jp)) (_:JobOk J ord) (_:∀(l:Addr) (os:List Nat) H',SameB b H H'->BoxAt H' b (n+60)->l≠b->H l=none->H' l=some (.lst (zu os))->os.Perm (List.range J.ps.length)->ByOrd os J.as->Q (.ref l) H'):Jv K vs H Q
def Yl(K:PySem.W.Frag):Sp:=fun vs H Q _=>Jv K vs H Q
inductive zg0(b jp l0 l1:Addr)(H:Hp)(n:Int)(J:Job)(m:Nat)(σ:St)(H4:Hp):Prop
 | mk (left os:List Nat) (v4 v5:Option V) (_:σ=[some (.ref b),some (.ref jp),some (.ref l0),some (.ref l1),v4,v5]) (_:m=left.length) (_:SameB b H H4) (_:BoxAt H4 b (n+os.length)) (_:H4 l0=some (.lst (zu left))) (_:H4 l1=some (.lst (zu os))) (_:(left++os).Perm (List.range J.ps.length)) (_:Early os J.as):zg0 b jp l0 l1 H n J m σ H4
inductive zg1(b jp l0 l1:Addr)(H:Hp)(n:Int)(J:Job)(left:List Nat)(σ:St)(H4:Hp):Prop
 | mk (left' os:List Nat) (v4 v5:Option V) (_:left'.length<left.length) (_:σ=[some (.ref b),some (.ref jp),some (.ref l0),some (.ref l1),v4,v5]) (_:SameB b H H4) (_:BoxAt H4 b (n+os.length)) (_:H4 l0=some (.lst (zu left'))) (_:H4 l1=some (.lst (zu os))) (_:(left'++os).Perm (List.range J.ps.length)) (_:Early os J.as):zg1 b jp l0 l1 H n J left σ H4
theorem YE:zI ["_law_box_here", "_law_job_here", "_law_left", "_law_found", "_law_late", "_law_free"] ["_law_box_here", "_law_job_here"] (zv (topL 36)):=⟨rfl,rfl,rfl,by decide +kernel,rfl,by decide +kernel,by decide +kernel⟩
theorem zcv{f:Addr}{fd:FuncData}(F:Fun K "_law_order" "_law_order" (topL 36) f fd)(B:Blt mg)(D_take:Dfn P w K mg base "_law_take" 1 ["_law_box_here", "_law_size"] jM):qS P w K mg base CX0 2 f fd ["_law_box_here", "_law_job_here"] (Yl K):=by
 have nd:=YE.nd
 refine F.ok YE (fun vs H Q E h=>?_) (fun cdv A outer s H vs Q E hr h=>?_)
 ·obtain⟨b,jp,J,ord,n,rfl,_⟩:=h
  rfl
 ·obtain⟨b,jp,J,ord,n,rfl,B0,hn,rj,jo,k⟩:=h
  have hu:=hr.units0
  have hbig:100000<sizeLine:=by rw[sizeLine_eq];decide
  have pl:=jo.pl
  have al:=jo.al
  obtain⟨g,fs,ps,as,qj,_,_,rp,ra⟩:=VS rj
  obtain⟨pv',qp,rp'⟩:=yD rp
  obtain⟨av,qa,ra'⟩:=yD ra
  have lp:=rp'.len
  rw[zq] at lp
  have la:=ra'.len
  rw[zq] at la
  refine⟨_,(zf (jH (zX (za (yF rfl rfl B.list rfl B.range qZ (za (zj zp rfl B.len boot_len (za (zE qD (pv 1) ze (fun _ _=>rfl)) zc)) zc)) (za (zO zc) zc))) (qT rfl (zx (zr (i:=2) nd rfl (Or.inr rfl)) (zx (zr (i:=3) nd rfl (Or.inl rfl)) qB))))
   (zf (Vx jB (zA (Qp hu) (pv 2) (zO zc) (zB _))
   (zf (zF (i:=4) nd rfl (Or.inr rfl) (wa ["_law_left"] [2] rfl rfl (by kernel_rfl) (jX (zE qD (pv 1) ze (fun _ _=>rfl))) (fun _ _ _ _=>(yj (zA (vK (K:=K) rfl) (pv 0) (pv 2) (by with_unfolding_all rfl)))) (fun _ _ _ _=>(pv 1))))
    (zf (zcc ["_law_late"] [4] rfl rfl (by kernel_rfl) (jO (pv 2)) (fun _ _ _ _=>(yj (zA (Jc (K:=K) rfl) (pv 0) (pv 1) (by with_unfolding_all rfl)))) (fun _ _ _ _=>(pv 0)) (zr (i:=5) nd rfl (Or.inl rfl)))
    (zf (jn (xz xG wz wx jz (pv 3) (za (zE zS (pv 5) (zg D_take (hr.mono (by decide)) rfl (za (pv 0) (za (zj zp rfl B.len boot_len (za (pv 5) zc)) zc))) (fun _ _=>rfl)) zc)))
    (zi (jn (xz xG PySem.F.slot_list_remove PySem.F.type_list_remove WB (pv 2) (za (zE zS (pv 3) (Vy Qc ze) (fun _ _=>rfl)) zc))))))))
   (zi (zt (pv 3))))),?_⟩
  refine⟨_,rfl,jp,_,_,_,rfl,rfl,qj,rfl,ps,_,rfl,.inr qp,_,rfl,by omega,by omega,fun l0 h0=>⟨le0,fun l1 h1=>⟨le2,fun t ht=>?_⟩⟩⟩
  have eN:((List.range ((pv'.length:Int)).toNat).map fun i:Nat=>V.int (i:Int))=zu (List.range J.ps.length):=by
   unfold zu
   rw[show((pv'.length:Int)).toNat=J.ps.length by omega]
  have n0:=B0.nne h0
  have S0:=(SameB.refl b H).new (o:=.lst ((List.range ((pv'.length:Int)).toNat).map fun i:Nat=>V.int (i:Int))) h0
  have B1:=B0.new (o:=.lst ((List.range ((pv'.length:Int)).toNat).map fun i:Nat=>V.int (i:Int))) h0
  have L0:upd H l0 (.lst ((List.range ((pv'.length:Int)).toNat).map fun i:Nat=>V.int (i:Int))) l0=some (.lst (zu (List.range J.ps.length))):=by rw[zb,eN]
  generalize upd H l0 (.lst ((List.range ((pv'.length:Int)).toNat).map fun i:Nat=>V.int (i:Int)))=H1 at S0 B1 L0 h1 ht
  have n1:=B1.nne h1
  have N1:=S0.none h1 n1
  have n01:l0≠l1:=zn L0 h1
  have S1:=S0.new (o:=.lst []) h1
  have B2:=B1.new (o:=.lst []) h1
  have L02:=(zd (o:=.lst []) h1) _ _ L0
  have L1:upd H1 l1 (.lst []) l1=some (.lst []):=zb
  generalize upd H1 l1 (.lst [])=H2 at S1 B2 L02 L1 ht
  have S2:=S1.new (o:=.tup [.ref l0,.ref l1]) ht
  have B3:=B2.new (o:=.tup [.ref l0,.ref l1]) ht
  have L03:=(zd (o:=.tup [.ref l0,.ref l1]) ht) _ _ L02
  have L13:=(zd (o:=.tup [.ref l0,.ref l1]) ht) _ _ L1
  have T3:upd H2 t (.tup [.ref l0,.ref l1]) t=some (.tup [.ref l0,.ref l1]):=zb
  generalize upd H2 t (.tup [.ref l0,.ref l1])=H3 at S2 B3 L03 L13 T3
  refine⟨t,_,rfl,SqT.of T3,rfl,_,_,rfl,_,_,rfl,rfl,?_⟩
  clear S0 S1 B1 B2 L0 L02 L1 ht h1 T3
  refine⟨zg0 b jp l0 l1 H n J,
   ⟨_,List.range J.ps.length,[],none,none,rfl,rfl,S2,B3.mono (by simp),L03,L13,by rw[xL],fun p _ l hl=>by simp at hl⟩,?_⟩
  clear S2 B3 L03 L13
  rintro m σ H4 ⟨left,os,v4,v5,rfl,rfl,S4,B4,LL,LO,pm,ea⟩
  have plen:=pm.length_eq
  rw[qJ,QJ] at plen
  refine⟨_,rfl,le0,fun q hq=>⟨l0,q,_,rfl,rfl,SqL.of ((zd hq) _ _ LL),SqL.of zb,_,rfl,?_⟩⟩
  have S5:=S4.new (o:=.lst []) hq
  have B5:=B4.new (o:=.lst []) hq
  have LL5:=(zd (o:=.lst []) hq) _ _ LL
  have LO5:=(zd (o:=.lst []) hq) _ _ LO
  generalize upd H4 q (.lst [])=H5 at S5 B5 LL5 LO5
  clear S4 B4 LL LO hq
  cases left with
  | nil=>
   refine ifF rfl ⟨_,rfl,k l1 os H5 S5 (B5.mono (by simp at plen;omega)) n1 N1 LO5 (by simpa using pm) (ea.ord jo.bo ?_)⟩
   have:os.Perm (List.range J.ps.length):=by simpa using pm
   exact this.trans jo.op.symm
  | cons c rest=>
   refine ifT rfl ?_
   have hne:c::rest≠[]:=fun z=>by cases z
   generalize c::rest=left at *
   clear c rest
   refine⟨zg1 b jp l0 l1 H n J left,
    fun σ' H' ⟨left',os',v4,v5,hlt,e,a1,a2,a3,a4,a5,a6⟩=>⟨_,hlt,left',os',v4,v5,e,rfl,a1,a2,a3,a4,a5,a6⟩,?_⟩
   have T5:=SameT.trans (SameT.draw B0 S5) (SameT.refl H5)
   have qj5:=qj.keep T5
   have qa5:=qa.keep T5
   have ra5:=ra'.keep T5 (qv J.as)
   refine⟨_,rfl,jp,_,_,_,rfl,rfl,qj5,rfl,as,rfl,⟨_,qa5⟩,j6 (K:=K) (a:=as) (xs:=av) (fun i zs H6=>zs=zu (qU left (J.as.take i))/\Same H5 H6) ⟨rfl,Same.refl _⟩ (fun i zs H6 ⟨_,sm⟩=>sm.sqT qa5) ?_ ?_⟩
   ·rintro i x zs H6 hx ⟨rfl,sm⟩
    obtain⟨d,e1,r1⟩:=(ra5.same sm).get hx
    rw[qr] at e1
    obtain⟨p,ep,rfl⟩:=jc.mp e1
    obtain⟨pa,xs,rfl,qp',y0,r0,f0,g0,y1,r1',f1,g1,f2⟩:=r1
    subst f0 f1
    cases(show r1'=[] from f2)
    cases(show y0=_ from g0)
    cases(show y1=_ from g1)
    have hi:i<J.as.length:=(zN.mp ep).1
    refine⟨pa,_,rfl,qp',rfl,_,_,rfl,_,_,rfl,rfl,rfl,?_⟩
    refine⟨_,rfl,_,rfl,l0,zu left,rfl,.inl (SqL.of (sm _ _ LL5)),rfl,j9 left,_,rfl,?_⟩
    have et:J.as.take (i+1)=J.as.take i++[p]:=qg ep
    have ein:(if false=true then !inV (.int (p.1:Int)) (zu left) else inV (.int (p.1:Int)) (zu left))=decide (p.1∈left):=x9 p.1 left
    rw[ein]
    refine z7 (fun c=>⟨_,rfl,?_,?_,sm⟩) (fun c=>⟨?_,sm⟩)
    ·have:(qU left (J.as.take i)).length<=J.as.length:=by
      unfold qU
      rw[zq]
      refine jt (yZ _ _) ?_
      rw[z9];omega
     rw[zH];omega
    ·rw[et]
     unfold qU
     rw[QK,zW,List.filter_cons_of_pos (by exact c)]
     unfold zu
     rw[zW]
     rfl
    ·rw[et]
     unfold qU
     rw[QK,List.filter_cons_of_neg (by exact c),List.filter_nil,xL]
   rintro zs H6 ⟨rfl,sm⟩
   have eall:J.as.take av.length=J.as:=by rw[la,je]
   rw[eall]
   have latel:(qU left J.as).length<=300:=by
    unfold qU
    rw[zq]
    exact jt (yZ _ _) al
   refine⟨by rw[zH];omega,fun la' hla=>?_⟩
   have S6:=(S5.trans (SameB.of sm)).new (o:=.lst (zu (qU left J.as))) hla
   have B6:=(B5.same sm).new (o:=.lst (zu (qU left J.as))) hla
   have LL6:=(zd (o:=.lst (zu (qU left J.as))) hla) _ _ (sm _ _ LL5)
   have LO6:=(zd (o:=.lst (zu (qU left J.as))) hla) _ _ (sm _ _ LO5)
   have LA6:upd H6 la' (.lst (zu (qU left J.as))) la'=some (.lst (zu (qU left J.as))):=zb
   generalize upd H6 la' (.lst (zu (qU left J.as)))=H7 at S6 B6 LL6 LO6 LA6
   clear S5 B5 LL5 LO5 sm hla T5 qj5 qa5 ra5
   refine⟨_,rfl,l0,rfl,⟨_,SqL.of LL6⟩,xw (K:=K) (a:=l0) (xs:=zu left) (fun i zs H8=>zs=zu ((left.take i).filter fun k=>!decide (k∈qU left J.as))/\Same H7 H8) ⟨rfl,Same.refl _⟩ (fun i zs H8 ⟨_,sm⟩=>SqL.of (sm _ _ LL6)) ?_ ?_⟩
   ·rintro i x zs H8 hx ⟨rfl,sm⟩
    obtain⟨c,ec,rfl⟩:=yG hx
    have hi:i<left.length:=(zN.mp ec).1
    refine⟨rfl,?_⟩
    refine⟨_,rfl,_,rfl,la',zu (qU left J.as),rfl,.inl (SqL.of (sm _ _ LA6)),rfl,j9 _,_,rfl,?_⟩
    have ein:(if true=true then !inV (.int (c:Int)) (zu (qU left J.as)) else inV (.int (c:Int)) (zu (qU left J.as)))=!decide (c∈qU left J.as):=by rw[x9];rfl
    rw[ein,qg ec]
    refine z7 (fun d=>⟨_,rfl,?_,?_,sm⟩) (fun d=>⟨?_,sm⟩)
    ·have:=yZ (fun k=>!decide (k∈qU left J.as)) (left.take i)
     rw[z9] at this
     rw[zH];omega
    ·rw[QK,List.filter_cons_of_pos (by exact d)]
     unfold zu
     rw[zW]
     rfl
    ·rw[QK,List.filter_cons_of_neg (by exact d),List.filter_nil,xL]
   rintro zs H8 ⟨rfl,sm⟩
   have etk:left.take (zu left).length=left:=by rw[zH,je]
   rw[etk]
   have fre:(left.filter fun k=>!decide (k∈qU left J.as))=jN left J.as:=rfl
   rw[fre]
   have frl:(jN left J.as).length<=left.length:=yZ _ _
   refine⟨by rw[zH];omega,fun lf hlf=>?_⟩
   have S7:=(S6.trans (SameB.of sm)).new (o:=.lst (zu (jN left J.as))) hlf
   have B7:=(B6.same sm).new (o:=.lst (zu (jN left J.as))) hlf
   have LL7:=(zd (o:=.lst (zu (jN left J.as))) hlf) _ _ (sm _ _ LL6)
   have LO7:=(zd (o:=.lst (zu (jN left J.as))) hlf) _ _ (sm _ _ LO6)
   have LF7:upd H8 lf (.lst (zu (jN left J.as))) lf=some (.lst (zu (jN left J.as))):=zb
   have nlf:=(B6.same sm).nne hlf
   generalize upd H8 lf (.lst (zu (jN left J.as)))=H9 at S7 B7 LL7 LO7 LF7
   clear S6 B6 LL6 LO6 LA6 sm hlf
   have inr:∀x∈left,x∈ord:=fun x hx=>by
    have h1:=pm.mem_iff.mp (xc os hx)
    exact jo.op.mem_iff.mpr h1
   have ordnd:ord.Nodup:=jo.op.nodup_iff.mpr QW
   have fne:=za8 jo.bo ordnd inr hne
   have fpos:0<(jN left J.as).length:=Q0.mpr fne
   refine⟨_,rfl,.inl ⟨rfl,_,SqL.of LO7⟩,_,rfl,_,rfl,_,rfl,lf,_,rfl,.inl (SqL.of LF7),b,_,_,rfl,B7,by omega,by rw[zH];omega,by rw[zH];omega,fun r Ha r0 r1 Ba Sa=>?_⟩
   rw[zH] at r1
   have hr':r.toNat<(jN left J.as).length:=by omega
   have er:(zu (jN left J.as))[r.toNat]? =some (.int (((jN left J.as)[r.toNat]:Nat):Int)):=by
    unfold zu
    rw[qr,jj hr']
    rfl
   have er':atI (zu (jN left J.as)) r=some (.int (((jN left J.as)[r.toNat]:Nat):Int)):=by
    have:=qI er
    rwa[show((r.toNat:Nat):Int)=r by omega] at this
   have hcm:=yr hr'
   generalize (jN left J.as)[r.toNat]=c at er er' hcm
   obtain⟨cl,cn⟩:=vT.mp hcm
   have cn':c∉qU left J.as:=by simpa using cn
   have LFa:=Sa _ _ LF7 nlf
   have LOa:=Sa _ _ LO7 n1
   have LLa:=Sa _ _ LL7 n0
   refine⟨lf,_,_,_,rfl,rfl,SqL.of LFa,er',l1,_,_,rfl,rfl,LOa,by rw[zH];omega,?_⟩
   have eO:zu os++[V.int (c:Int)]=zu (os++[c]):=by unfold zu;rw[zW];rfl
   rw[eO]
   have Sb:=(S7.trans Sa).put (o:=.lst (zu (os++[c]))) N1
   have Bb:=Ba.other (o:=.lst (zu (os++[c]))) n1
   have LOb:upd Ha l1 (.lst (zu (os++[c]))) l1=some (.lst (zu (os++[c]))):=zb
   have LLb:upd Ha l1 (.lst (zu (os++[c]))) l0=some (.lst (zu left)):=by rw[zo n01];exact LLa
   generalize upd Ha l1 (.lst (zu (os++[c])))=Hb at Sb Bb LOb LLb
   have elast:atI (zu (os++[c])) (-1)=some (.int (c:Int)):=by
    have:zu (os++[c])=zu os++[V.int (c:Int)]:=eO.symm
    rw[this]
    exact zc4 _ _
   refine⟨_,rfl,.inl ⟨rfl,_,SqL.of LLb⟩,_,rfl,_,rfl,l1,_,_,_,rfl,rfl,SqL.of LOb,elast,l0,left.map fun i:Nat=>(i:Int),(c:Int),rfl,rfl,by rw[LLb,VG],jC.mpr ⟨c,cl,rfl⟩,?_⟩
   have eE:((left.map fun i:Nat=>(i:Int)).erase (c:Int)).map V.int=zu (left.erase c):=by rw[JK,VG]
   rw[eE]
   have N0:H l0=none:=h0
   have hlen:(left.erase c).length+1=left.length:=by
    have:=List.length_erase_of_mem cl
    have:=List.length_pos_of_mem cl
    omega
   refine⟨left.erase c,os++[c],_,_,by omega,rfl,Sb.put N0,(Bb.other n0).mono (by rw[qJ];simp;omega),zb,by rw[zo n01.symm];exact LOb,?_,?_⟩
   ·have h1:(left++os).Perm (c::(left.erase c)++os):=(List.perm_cons_erase cl).append_right os
    have h2:(left.erase c++(os++[c])).Perm (c::left.erase c++os):=by
     rw[<- vU]
     exact List.perm_append_comm
    exact(h2.trans h1.symm).trans pm
   ·refine ea.snoc fun p hp e=>?_
    have h1:p.1∈left++os:=pm.mem_iff.mpr (jo.op.mem_iff.mp (jo.bo.mem1 hp))
    rcases qL.mp h1 with z | z
    ·exact absurd (VN.mpr ⟨p,hp,z,e⟩) cn'
    ·exact z
end
structure qM where
 pk:List (Nat×Nat)
 ly:List Nat
def xN(k:Nat):Dat:=.int (k:Int)
def jm(t:qM):Dat:=.tup [.tup (t.pk.map qP),.tup (t.ly.map xN)]
theorem VF:∀(l:List Nat),Dat.imms (l.map xN)=true
 | []=>rfl
 | k::l=>by
  show(true&&Dat.imms (l.map xN))=true
  rw[VF l];rfl
theorem Ze(t:qM):(jm t).imm=true:=by
 show(Dat.imms (t.pk.map qP)&&(Dat.imms (t.ly.map xN)&&true))=true
 rw[qv,VF];rfl
theorem xP:∀(l:List qM),Dat.imms (l.map jm)=true
 | []=>rfl
 | t::l=>by
  show((jm t).imm&&Dat.imms (l.map jm))=true
  rw[Ze,xP l];rfl
section
variable{P:Program}{w:World}{K:PySem.W.Frag}{mg:Str->Option Value}{base:Heap}
theorem Reps.perm{H:Hp}{α:Type}{f:α->Dat}{ys xs:List V}(h:ys.Perm xs):∀{as:List α},Reps K H (as.map f) xs->∃bs:List α,bs.Perm as/\Reps K H (bs.map f) ys:=by
 induction h with
 | nil=>intro as h;exact⟨as,List.Perm.refl _,h⟩
 | cons x hp ih=>
  intro as h
  cases as with
  | nil=>cases(show _=[] from h)
  | cons a as=>
   obtain⟨y,r,e,h1,h2⟩:=h
   cases e
   obtain⟨bs,p,q⟩:=ih h2
   exact⟨a::bs,p.cons a,⟨_,_,rfl,h1,q⟩⟩
 | swap x y l=>
  intro as h
  cases as with
  | nil=>cases(show _=[] from h)
  | cons a as=>
   obtain⟨u,r,e,h1,h2⟩:=h
   cases e
   cases as with
   | nil=>cases(show _=[] from h2)
   | cons c as=>
    obtain⟨u,r,e,h3,h4⟩:=h2
    cases e
    exact⟨c::a::as,List.Perm.swap a c as,⟨_,_,rfl,h3,_,_,rfl,h1,h4⟩⟩
 | trans h1 h2 ih1 ih2=>
  intro as h
  obtain⟨bs,p,q⟩:=ih2 h
  obtain⟨cs,p',q'⟩:=ih1 q
  exact⟨cs,p'.trans p,q'⟩
theorem wM{H:Hp}:∀(l:List Nat),Reps K H (l.map xN) (zu l)
 | []=>rfl
 | k::l=>⟨_,_,rfl,rfl,wM l⟩
theorem xp{H:Hp}{p:Nat×Nat}{x:V}(h:Rep K H (qP p) x):∃a,x=.ref a/\SqT K H a [.int p.1,.int p.2]:=by
 obtain⟨pa,xs,rfl,qp',y0,r0,f0,g0,y1,r1',f1,g1,f2⟩:=h
 subst f0 f1
 cases(show r1'=[] from f2)
 cases(show y0=_ from g0)
 cases(show y1=_ from g1)
 exact⟨pa,rfl,qp'⟩
inductive Vc(K:PySem.W.Frag)(vs:List V)(H:Hp)(Q:VK):Prop
 | mk (b pk:Addr) (n:Int) (xs:List V) (ps:List (Nat×Nat)) (_:vs=[.ref b,.ref pk]) (_:BoxAt H b n) (_:n<900000) (_:pk≠b) (_:H pk=some (.lst xs)) (_:Reps K H (ps.map qP) xs) (_:ps.length<=1000) (_:∀(p:Addr) (sh:List (Nat×Nat)) H',SameB b H H'->BoxAt H' b (n+ps.length)->sh.Perm ps->Rep K H' (jm ⟨sh,ps.map (·.1)⟩) (.ref p)->Q (.ref p) H'):Vc K vs H Q
def zbC(K:PySem.W.Frag):Sp:=fun vs H Q _=>Vc K vs H Q
theorem zbU:zI ["_law_box_here", "_law_picks"] ["_law_box_here", "_law_picks"] (zv (topL 37)):=⟨rfl,rfl,rfl,by decide +kernel,rfl,by decide +kernel,by decide +kernel⟩
theorem zdE{f:Addr}{fd:FuncData}(F:Fun K "_law_trip" "_law_trip" (topL 37) f fd)(B:Blt mg)(D_shuffled:Dfn P w K mg base "_law_shuffled" 2 ["_law_box_here", "_law_some"] (Zg K)):qS P w K mg base CX0 3 f fd ["_law_box_here", "_law_picks"] (zbC K):=by
 have nd:=zbU.nd
 refine F.ok zbU (fun vs H Q E h=>?_) (fun cdv A outer s H vs Q E hr h=>?_)
 ·obtain⟨b,pk,n,xs,ps,rfl,_⟩:=h
  rfl
 ·obtain⟨b,pk,n,xs,ps,rfl,B0,hn,npb,hp,rp,lp,k⟩:=h
  have hbig:100000<sizeLine:=by rw[sizeLine_eq];decide
  have lx:xs.length=ps.length:=by have:=rp.len;rwa[zq] at this
  refine⟨_,(zi (zt (zX (za (zY qN rfl B.tuple zT (za (zg D_shuffled (hr.mono (by decide)) rfl (za (pv 0) (za (pv 1) zc))) zc)) (za (zY qN rfl B.tuple zT (za (wa [] [] rfl rfl (by kernel_rfl) (jO (pv 1)) (fun _ _ _ _=>jb) (fun _ _ _ _=>(pv 0))) zc)) zc))))),?_⟩
  refine⟨_,rfl,_,rfl,b,pk,n,xs,rfl,B0,by omega,.inl ⟨npb,hp⟩,by omega,fun l ys H1 S1 B1 nl hl hL pm=>?_⟩
  have T1:=SameT.draw B0 S1
  obtain⟨sh,shp,rsh⟩:=Reps.perm pm (rp.keep T1 (qv ps))
  have rp1:=rp.keep T1 (qv ps)
  refine⟨l,ys,rfl,.inl ⟨SqL.of hL,fun t1 ht1=>?_⟩⟩
  have s1:=zd (o:=.tup ys) ht1
  have hp2:=s1 _ _ (S1 _ _ hp npb)
  have rp2:=rp1.same s1
  have rsh2:=rsh.same s1
  have t12:upd H1 t1 (.tup ys) t1=some (.tup ys):=zb
  have S2:=S1.new (o:=.tup ys) ht1
  have B2:=B1.new (o:=.tup ys) ht1
  generalize upd H1 t1 (.tup ys)=H2 at s1 hp2 rp2 rsh2 t12 S2 B2
  refine⟨_,rfl,pk,rfl,⟨_,SqL.of hp2⟩,xw (K:=K) (a:=pk) (xs:=xs) (fun i zs H3=>zs=zu ((ps.map (·.1)).take i)/\Same H2 H3) ⟨rfl,Same.refl _⟩ (fun i zs H3 ⟨_,sm⟩=>SqL.of (sm _ _ hp2)) ?_ ?_⟩
  ·rintro i x zs H3 hx ⟨rfl,sm⟩
   obtain⟨d,e1,r1⟩:=(rp2.same sm).get hx
   rw[qr] at e1
   obtain⟨p,ep,rfl⟩:=jc.mp e1
   obtain⟨pa,rfl,qp⟩:=xp r1
   have hi:i<ps.length:=(zN.mp ep).1
   refine⟨pa,_,rfl,qp,rfl,_,_,rfl,_,_,rfl,rfl,rfl,?_⟩
   refine⟨_,rfl,?_,?_,sm⟩
   ·rw[zH,z9,zq];omega
   ·have ep':(ps.map (·.1))[i]? =some p.1:=by rw[qr,ep];rfl
    rw[qg ep']
    unfold zu
    rw[zW]
    rfl
  rintro zs H3 ⟨rfl,sm⟩
  have etk:(ps.map (·.1)).take xs.length=ps.map (·.1):=by rw[lx,<- zq (f:=(·.1)),je]
  rw[etk]
  refine⟨by rw[zH,zq];omega,fun l2 hl2=>⟨l2,_,rfl,.inl ⟨SqL.of zb,fun t2 ht2=>⟨le2,fun q hq=>?_⟩⟩⟩⟩
  have s2:=(sm.trans (zd (o:=.lst (zu (ps.map (·.1)))) hl2)).trans (zd (o:=.tup (zu (ps.map (·.1)))) ht2)
  have s3:=s2.trans (zd (o:=.tup [.ref t1,.ref t2]) hq)
  refine k q sh _ (S2.trans (SameB.of s3)) (B2.same s3 |>.mono (by omega)) shp ?_
  refine⟨q,_,rfl,SqT.of zb,_,_,rfl,⟨t1,ys,rfl,SqT.of (s3 _ _ t12),rsh2.same s3⟩,_,_,rfl,⟨t2,_,rfl,SqT.of ((zd hq) _ _ zb),wM _⟩,rfl⟩
end
def W4(J:Job)(p:Nat×Nat):Prop:=∃pa fe,J.ps[p.1]? =some pa/\J.fs[p.2]? =some fe/\fe.k=pa.k
structure W3(J:Job)(t:qM):Prop where
 p1:1<=t.pk.length
 p2:(t.pk.length:Int)<=J.hd
 ok:∀p∈t.pk,W4 J p
 ly:t.ly.Perm (t.pk.map (·.1))
def zK(ts:List qM):List Nat:=ts.flatMap (·.ly)
theorem xC(ts:List qM)(t:qM):zK (ts++[t])=zK ts++t.ly:=by
 unfold zK
 rw[XM]
 simp
def vZ(ts:List qM):List (Nat×Nat):=ts.flatMap (·.pk)
theorem yi(ts:List qM)(t:qM):vZ (ts++[t])=vZ ts++t.pk:=by
 unfold vZ
 rw[XM]
 simp
structure StL(J:Job)(st:List Int)(l:List (Nat×Nat)):Prop where
 len:st.length=J.fs.length
 nn:∀(f:Nat) (z:Int),st[f]? =some z->0<=z
 cnt:∀(f:Nat) (z:Int) (fe:Z1),st[f]? =some z->J.fs[f]? =some fe->z=fe.m-((l.map (·.2)).count f:Int)
theorem StL.nil{J:Job}(h:∀f∈J.fs,0<=f.m):StL J (J.fs.map (·.m)) []:=by
 refine⟨zq ..,fun f z e=>?_,fun f z fe e ef=>?_⟩
 ·rw[qr] at e
  obtain⟨x,ex,rfl⟩:=jc.mp e
  exact h x (jl ex)
 ·rw[qr,ef] at e
  cases e
  show fe.m=fe.m-((0:Nat):Int)
  omega
theorem StL.perm{J:Job}{st:List Int}{l l':List (Nat×Nat)}(s:StL J st l)(p:l.Perm l'):StL J st l':=⟨s.len,s.nn,fun f z fe e ef=>by rw[<- (p.map (·.2)).count_eq];exact s.cnt f z fe e ef⟩
theorem StL.take{J:Job}{st:List Int}{l:List (Nat×Nat)}(s:StL J st l){c f:Nat}{z:Int}(e:st[f]? =some z)(h:0<z):StL J (st.set f (z-1)) (l++[(c,f)]):=by
 refine⟨by rw[List.length_set];exact s.len,fun g y eg=>?_,fun g y fe eg ef=>?_⟩
 ·rw[List.getElem?_set] at eg
  split at eg
  ·split at eg
   ·cases eg;omega
   ·cases eg
  ·exact s.nn g y eg
 ·rw[zW,QI]
  show _=_-((_+[f].count g:Nat):Int)
  rw[List.getElem?_set] at eg
  split at eg
  ·split at eg
   ·cases eg
    rename_i x _
    subst x
    have:=s.cnt f z fe e ef
    rw[WY]
    omega
   ·cases eg
  ·rename_i x
   have:=s.cnt g y fe eg ef
   rw[List.count_eq_zero_of_not_mem (a:=g) (l:=[f]) (fun z=>x (qR.mp z).symm)]
   omega
structure PlanOk(J:Job)(os:List Nat)(ts:List qM):Prop where
 tr:∀t∈ts,W3 J t
 sub:(zK ts).Sublist os
 len:ts.length<=60
 cl:∀p∈J.as,p.2∈zK ts->p.1∈zK ts
 stk:∃st,StL J st (vZ ts)
structure PlC(J:Job)(ou laid pre:List Nat):Prop where
 a1:∀x∈pre,x∈laid\/x∈ou
 a2:∀p∈J.as,p.2∈laid->p.1∈laid
theorem PlC.out{J:Job}{ou laid pre:List Nat}{c:Nat}(h:PlC J ou laid pre):PlC J (ou++[c]) laid (pre++[c]):=⟨fun x hx=>by
 rcases qL.mp hx with z | z
 ·exact(h.a1 x z).imp id fun y=>xc _ y
 ·exact .inr (qX _ z),h.a2⟩
theorem PlC.lay{J:Job}{ou laid os:List Nat}{c i:Nat}(h:PlC J ou laid (os.take i))(ec:os[i]? =some c)(nd:os.Nodup)(bo:ByOrd os J.as)(hc:∀p∈J.as,p.2=c->p.1∉ou):PlC J ou (laid++[c]) (os.take i++[c]):=⟨fun x hx=>by
 rcases qL.mp hx with z | z
 ·exact(h.a1 x z).imp (fun y=>xc _ y) id
 ·exact .inl (qX _ z),fun p hp hl=>by
 rcases qL.mp hl with z | z
 ·exact xc _ (h.a2 p hp z)
 ·have e:p.2=c:=qR.mp z
  obtain⟨k,l,kl,e1,e2⟩:=bo p hp
  have il:l=i:=by
   obtain⟨h1,g1⟩:=zN.mp e2
   obtain⟨h2,g2⟩:=zN.mp ec
   exact(Zx nd).mp (g1.trans (e.trans g2.symm))
  have:p.1∈os.take i:=yY.mpr ⟨k,by rw[XI,if_pos (by omega)];exact e1⟩
  rcases h.a1 _ this with y | y
  ·exact xc _ y
  ·exact absurd y (hc p hp e)⟩
section
variable{P:Program}{w:World}{K:PySem.W.Frag}{mg:Str->Option Value}{base:Heap}
structure PlS(K:PySem.W.Frag)(H:Hp)(b ls lf lp lo lq:Addr)(st:List Int)(tr pk:List V)(ou os:List Nat)(ts:List qM)(pks:List (Nat×Nat))(H':Hp)(n:Int):Prop where
 s:SameB b H H'
 bx:BoxAt H' b n
 nb:ls≠b/\lf≠b/\lp≠b/\lo≠b/\lq≠b
 nn:ls≠lf/\ls≠lp/\ls≠lo/\ls≠lq/\lf≠lp/\lf≠lo/\lf≠lq/\lp≠lo/\lp≠lq/\lo≠lq
 hN:H ls=none/\H lf=none/\H lp=none/\H lo=none
 hs:H' ls=some (.lst (st.map V.int))
 hf:H' lf=some (.lst tr)
 hp:H' lp=some (.lst pk)
 ho:H' lo=some (.lst (zu ou))
 hq:H' lq=some (.lst (zu os))
 rt:Reps K H' (ts.map jm) tr
 rk:Reps K H' (pks.map qP) pk
variable{H H' H'':Hp}{b ls lf lp lo lq:Addr}{st:List Int}{tr pk:List V}{ou os:List Nat}{ts:List qM}{pks:List (Nat×Nat)}{n m:Int}
theorem PlS.draw(g:PlS K H b ls lf lp lo lq st tr pk ou os ts pks H' n)(S:SameB b H' H'')(B:BoxAt H'' b m):PlS K H b ls lf lp lo lq st tr pk ou os ts pks H'' m:=by
 obtain⟨n1,n2,n3,n4,n5⟩:=g.nb
 have T:=SameT.draw g.bx S
 exact⟨g.s.trans S,B,g.nb,g.nn,g.hN,S _ _ g.hs n1,S _ _ g.hf n2,S _ _ g.hp n3,S _ _ g.ho n4,S _ _ g.hq n5,g.rt.keep T (xP ts),g.rk.keep T (qv pks)⟩
theorem PlS.same(g:PlS K H b ls lf lp lo lq st tr pk ou os ts pks H' n)(S:Same H' H''):PlS K H b ls lf lp lo lq st tr pk ou os ts pks H'' n:=g.draw (SameB.of S) (g.bx.same S)
theorem PlS.new{q:Addr}{o:HO}(g:PlS K H b ls lf lp lo lq st tr pk ou os ts pks H' n)(h:H' q=none):PlS K H b ls lf lp lo lq st tr pk ou os ts pks (upd H' q o) n:=g.same (zd h)
theorem PlS.mono(g:PlS K H b ls lf lp lo lq st tr pk ou os ts pks H' n)(h:n<=m):PlS K H b ls lf lp lo lq st tr pk ou os ts pks H' m:=⟨g.s,g.bx.mono h,g.nb,g.nn,g.hN,g.hs,g.hf,g.hp,g.ho,g.hq,g.rt,g.rk⟩
theorem PlS.putO{ou':List Nat}(g:PlS K H b ls lf lp lo lq st tr pk ou os ts pks H' n):PlS K H b ls lf lp lo lq st tr pk ou' os ts pks (upd H' lo (.lst (zu ou'))) n:=by
 obtain⟨n1,n2,n3,n4,n5⟩:=g.nb
 obtain⟨a1,a2,a3,a4,a5,a6,a7,a8,a9,a10⟩:=g.nn
 have T:=SameT.put (ys:=zu ou') g.ho
 exact⟨g.s.put g.hN.2.2.2,g.bx.other n4,g.nb,g.nn,g.hN,by rw[zo a3];exact g.hs,by rw[zo a6];exact g.hf,by rw[zo a8];exact g.hp,zb,by rw[zo a10.symm];exact g.hq,g.rt.keep T (xP ts),g.rk.keep T (qv pks)⟩
theorem PlS.putS{st':List Int}(g:PlS K H b ls lf lp lo lq st tr pk ou os ts pks H' n):PlS K H b ls lf lp lo lq st' tr pk ou os ts pks (upd H' ls (.lst (st'.map V.int))) n:=by
 obtain⟨n1,n2,n3,n4,n5⟩:=g.nb
 obtain⟨a1,a2,a3,a4,a5,a6,a7,a8,a9,a10⟩:=g.nn
 have T:=SameT.put (ys:=st'.map V.int) g.hs
 exact⟨g.s.put g.hN.1,g.bx.other n1,g.nb,g.nn,g.hN,zb,by rw[zo a1.symm];exact g.hf,by rw[zo a2.symm];exact g.hp,by rw[zo a3.symm];exact g.ho,by rw[zo a4.symm];exact g.hq,g.rt.keep T (xP ts),g.rk.keep T (qv pks)⟩
theorem PlS.putF{v:V}{t:qM}(g:PlS K H b ls lf lp lo lq st tr pk ou os ts pks H' n)(hv:Rep K H' (jm t) v):PlS K H b ls lf lp lo lq st (tr++[v]) pk ou os (ts++[t]) pks (upd H' lf (.lst (tr++[v]))) n:=by
 obtain⟨n1,n2,n3,n4,n5⟩:=g.nb
 obtain⟨a1,a2,a3,a4,a5,a6,a7,a8,a9,a10⟩:=g.nn
 have T:=SameT.put (ys:=tr++[v]) g.hf
 refine⟨g.s.put g.hN.2.1,g.bx.other n2,g.nb,g.nn,g.hN,by rw[zo a1];exact g.hs,zb,by rw[zo a5.symm];exact g.hp,by rw[zo a6.symm];exact g.ho,by rw[zo a7.symm];exact g.hq,?_,g.rk.keep T (qv pks)⟩
 rw[zW]
 exact Reps.snoc (hv.keep T (Ze t)) (g.rt.keep T (xP ts))
theorem PlS.putP{v:V}{p:Nat×Nat}(g:PlS K H b ls lf lp lo lq st tr pk ou os ts pks H' n)(hv:Rep K H' (qP p) v):PlS K H b ls lf lp lo lq st tr (pk++[v]) ou os ts (pks++[p]) (upd H' lp (.lst (pk++[v]))) n:=by
 obtain⟨n1,n2,n3,n4,n5⟩:=g.nb
 obtain⟨a1,a2,a3,a4,a5,a6,a7,a8,a9,a10⟩:=g.nn
 have T:=SameT.put (ys:=pk++[v]) g.hp
 refine⟨g.s.put g.hN.2.2.1,g.bx.other n3,g.nb,g.nn,g.hN,by rw[zo a2];exact g.hs,by rw[zo a5];exact g.hf,zb,by rw[zo a8.symm];exact g.ho,by rw[zo a9.symm];exact g.hq,g.rt.keep T (xP ts),?_⟩
 rw[zW]
 exact Reps.snoc (hv.keep T (by rfl)) (g.rk.keep T (qv pks))
theorem PlS.newP{q:Addr}(g:PlS K H b ls lf lp lo lq st tr pk ou os ts pks H' n)(h:H' q=none):PlS K H b ls lf q lo lq st tr [] ou os ts [] (upd H' q (.lst [])) n:=by
 obtain⟨n1,n2,n3,n4,n5⟩:=g.nb
 obtain⟨a1,a2,a3,a4,a5,a6,a7,a8,a9,a10⟩:=g.nn
 have g':=g.new (o:=.lst []) h
 have nq:=g.bx.nne h
 exact⟨g'.s,g'.bx,⟨n1,n2,nq,n4,n5⟩,⟨a1,zn g.hs h,a3,a4,zn g.hf h,a6,a7,(zn g.ho h).symm,(zn g.hq h).symm,a10⟩,⟨g.hN.1,g.hN.2.1,g.s.none h nq,g.hN.2.2.2⟩,g'.hs,g'.hf,zb,g'.ho,g'.hq,g'.rt,rfl⟩
end
inductive zfP(t:TT)(σ:St)(H:Hp)(Q:Bool->Hp->Prop):Prop
 | mk (J:Bool->Hp->Prop) (_:t σ H J) (_:∀c H',J c H'->Q c H'):zfP t σ H Q
theorem YM{X:Cx}{e:Expr}{t:TT}(h:PT X e t):PT X e (zfP t):=by
 intro pins s σ H Q I hw
 obtain⟨J,q1,q2⟩:=hw
 exact thn (h pins s σ H J I q1) fun c s1 ⟨H1,I1,q⟩=>⟨H1,I1,q2 _ _ q⟩
section
variable{P:Program}{w:World}{K:PySem.W.Frag}{mg:Str->Option Value}{base:Heap}
theorem xR{H:Hp}{p:Z1}{x:V}(h:Rep K H (wj p) x):∃a c,x=.ref a/\SqT K H a [.str p.k,.ref c,.int p.m]/\SqT K H c [.int p.x,.int p.y]:=by
 obtain⟨a,xs,rfl,q,y0,r0,f0,g0,y1,r1,f1,g1,y2,r2,f2,g2,f3⟩:=h
 subst f0 f1 f2
 cases(show r2=[] from f3)
 cases(show y0=_ from g0)
 cases(show y2=_ from g2)
 obtain⟨c,ys,rfl,q',z0,s0,e0,i0,z1,s1,e1,i1,e2⟩:=g1
 subst e0 e1
 cases(show s1=[] from e2)
 cases(show z0=_ from i0)
 cases(show z1=_ from i1)
 exact⟨a,c,rfl,q,q'⟩
theorem wI{H:Hp}{p:Wg}{x:V}(h:Rep K H (xV p) x):∃a c,x=.ref a/\SqT K H a [.str p.k,.ref c]/\SqT K H c [.int p.x,.int p.y]:=by
 obtain⟨a,xs,rfl,q,y0,r0,f0,g0,y1,r1,f1,g1,f3⟩:=h
 subst f0 f1
 cases(show r1=[] from f3)
 cases(show y0=_ from g0)
 obtain⟨c,ys,rfl,q',z0,s0,e0,i0,z1,s1,e1,i1,e2⟩:=g1
 subst e0 e1
 cases(show s1=[] from e2)
 cases(show z0=_ from i0)
 cases(show z1=_ from i1)
 exact⟨a,c,rfl,q,q'⟩
theorem wt{H:Hp}{α:Type}{f:α->Dat}{as:List α}{xs:List V}(h:Reps K H (as.map f) xs){i:Nat}{a:α}(hi:as[i]? =some a):∃v,xs[i]? =some v/\Rep K H (f a) v:=by
 have hl:=h.len
 rw[zq] at hl
 have hlt:i<xs.length:=by have:=(zN.mp hi).1;omega
 obtain⟨d,e,r⟩:=h.get (i:=i) (x:=xs[i]) (by simp[hlt])
 rw[qr,hi] at e
 cases e
 exact⟨xs[i],by simp[hlt],r⟩
inductive Vf(K:PySem.W.Frag)(vs:List V)(H:Hp)(Q:VK):Prop
 | mk (b jp:Addr) (J:Job) (ord:List Nat) (most n:Int) (_:vs=[.ref b,.ref jp,.int most]) (_:BoxAt H b n) (_:n<500000) (_:Rep K H (vj J) (.ref jp)) (_:JobOk J ord) (_:0<=most) (_:most<=100) (_:∀(l:Addr) (os:List Nat) (ts:List qM) (tr:List V) H',SameB b H H'->BoxAt H' b (n+1000)->l≠b->H l=none->H' l=some (.lst tr)->Reps K H' (ts.map jm) tr->os.Perm (List.range J.ps.length)->ByOrd os J.as->PlanOk J os ts->Q (.ref l) H'):Vf K vs H Q
def Wq(K:PySem.W.Frag):Sp:=fun vs H Q _=>Vf K vs H Q
theorem zbY:zI ["_law_box_here", "_law_job_here", "_law_most", "_law_stock", "_law_found", "_law_picks", "_law_out", "_law_part", "_law_some", "_law_lost", "_law_at"] ["_law_box_here", "_law_job_here", "_law_most"] (zv (topL 38)):=⟨rfl,rfl,rfl,by decide +kernel,rfl,by decide +kernel,by decide +kernel⟩
def zah(b:_)(jp:_)(most:_)(ls:_)(lf:_)(lo:_)(K:_)(H:_)(lq:_)(os:List Nat)(n:_)(J:Job):=fun(i:Nat) (σ:St) (H':Hp)=>(zg5 fun(lp:Addr) (v7 v8 v9 v10:Option V) (st:List Int) (tr pk:List V) (ou:List Nat) (ts:List qM) (pks:List (Nat×Nat))=>zg8 (σ=[some (.ref b),some (.ref jp),some (.int most),some (.ref ls),some (.ref lf),some (.ref lp),some (.ref lo),v7,v8,v9,v10]) (PlS K H b ls lf lp lo lq st tr pk ou os ts pks H' (n+60+10*i)) (StL J st (vZ ts++pks)) ((∀t∈ts,W3 J t)) ((∀p∈pks,W4 J p)) ((pks.length:Int)<J.hd) ((zK ts++pks.map (·.1)).Sublist (os.take i)) (ts.length+pks.length<=i) (ou.length<=i) (PlC J ou (zK ts++pks.map (·.1)) (os.take i)):Prop)
def zag(J:Job)(pa:Wg)(st:List Int)(H8:_):=fun(i':Nat) (zs:List V) (H9:Hp)=>(Ex1 fun(ks:List Nat)=>An4 (zs=zu ks) (ks.length<=i') ((∀k'∈ks,∃fe,J.fs[k']? =some fe/\fe.k=pa.k/\∃z,st[k']? =some z/\0<z)) (Same H8 H9):Prop)
theorem zdH{f:Addr}{fd:FuncData}(F:Fun K "_law_plan" "_law_plan" (topL 38) f fd)(B:Blt mg)(D_take:Dfn P w K mg base "_law_take" 1 ["_law_box_here", "_law_size"] jM)(D_order:Dfn P w K mg base "_law_order" 2 ["_law_box_here", "_law_job_here"] (Yl K))(D_trip:Dfn P w K mg base "_law_trip" 3 ["_law_box_here", "_law_picks"] (zbC K)):qS P w K mg base CX0 4 f fd ["_law_box_here", "_law_job_here", "_law_most"] (Wq K):=by
 have nd:=zbY.nd
 refine F.ok zbY (fun vs H Q E h=>?_) (fun cdv A outer s H vs Q E hr h=>?_)
 ·obtain⟨b,jp,J,ord,most,n,rfl,_⟩:=h
  rfl
 ·obtain⟨b,jp,J,ord,most,n,rfl,B0,hn,rj,jo,mo0,mo1,k⟩:=h
  have hu:=hr.units0
  have hbig:100000<sizeLine:=by rw[sizeLine_eq];decide
  have pl:=jo.pl
  have al:=jo.al
  have fl:=jo.fl
  have hd0:=jo.hd0
  have hd1:=jo.hd1
  obtain⟨g,fs,ps,as,qj,_,rf,rp,ra⟩:=VS rj
  obtain⟨fv,qf,rf'⟩:=yD rf
  obtain⟨pv',qp,rp'⟩:=yD rp
  obtain⟨av,qa,ra'⟩:=yD ra
  have lfv:=rf'.len
  rw[zq] at lfv
  have lp:=rp'.len
  rw[zq] at lp
  have la:=ra'.len
  rw[zq] at la
  refine⟨_,(zf (zF (i:=3) nd rfl (Or.inr rfl) (jS [] [] rfl rfl (by kernel_rfl) (jX (zE qD (pv 1) ze (fun _ _=>rfl))) (fun _ _ _ _=>jb) (fun _ _ _ _=>(zE (jq (K:=K) rfl) (pv 0) ze (fun _ _=>rfl)))))
   (zf (jH (zX (za (zO zc) (za (zO zc) (za (zO zc) zc)))) (qT rfl (zx (zr (i:=4) nd rfl (Or.inl rfl)) (zx (zr (i:=5) nd rfl (Or.inl rfl)) (zx (zr (i:=6) nd rfl (Or.inr rfl)) qB)))))
   (zf (ja jB rfl (jO (zg D_order (hr.mono (by decide)) rfl (za (pv 0) (za (pv 1) zc)))) (zr (i:=7) nd rfl (Or.inr rfl))
   (zf (Wv ["_law_stock", "_law_part", "_law_job_here"] [3,7,1] rfl rfl (by kernel_rfl) (v0 rfl B.enumerate (za (zE qD (pv 1) ze (fun _ _=>rfl)) zc)) (fun _ _ _ _=>(yj (PW.pt (Wu (zA qQ (zE (jq (K:=K) rfl) (pv 1) ze (fun _ _=>rfl)) (zE (jq (K:=K) rfl) (zE (jq (K:=K) rfl) (zE (jq (K:=K) rfl) (pv 4) ze (fun _ _=>rfl)) (pv 3) (fun _ _=>rfl)) ze (fun _ _=>rfl)) (zB _)) (Xa (zA VC (zE (Qw (K:=K) rfl) (pv 2) (pv 0) (fun _ _=>rfl)) ze (zB _))))))) (fun _ _ _ _=>(pv 0)) (zr (i:=8) nd rfl (Or.inl rfl)))
    (zf (xM (zF (i:=9) nd rfl (Or.inl rfl) (zgs (qK (VD hu) (pv 8) (zO zc) (zB _)) (xo (zj (zbh rfl) rfl B.any zc0 (za (wa ["_law_part", "_law_out"] [7,6] rfl rfl (by kernel_rfl) (jX (zE qD (pv 1) ze (fun _ _=>rfl))) (fun _ _ _ _=>jb) (fun _ _ _ _=>(xg (qK qQ (pv 1) (pv 2) (zB _)) (xo (qK (vK (K:=K) rfl) (pv 0) (pv 3) (by with_unfolding_all rfl)))))) zc))))))
    (zf (xM (qe (YM (PW.pt (xf (qG (pv 9)) (j5 (PW.pt (Wu (zA VC (pv 2) ze (zB _)) (Xa (zA qQ (zg D_take (hr.mono (by decide)) rfl (za (pv 0) (za (pv 2) zc))) ze (zB _)))))))))
    (zi (jn (xz xG wz wx jz (pv 6) (za (pv 7) zc))))
    (zf (zF (i:=10) nd rfl (Or.inl rfl) (zE zS (pv 8) (zg D_take (hr.mono (by decide)) rfl (za (pv 0) (za (zj zp rfl B.len boot_len (za (pv 8) zc)) zc))) (fun _ _=>rfl)))
     (zf (jH (zw jZ (zE zS (pv 3) (pv 10) (fun _ _=>rfl)) ze) (Zi (pv 3) (pv 10) vt))
     (zi (jn (xz xG wz wx jz (pv 5) (za (zX (za (pv 7) (za (pv 10) zc))) zc))))))))
    (zi (qe (YM (PW.pt (Wu (zA (Qp hu) (pv 5) (zO zc) (zB _)) (Xa (PW.pt (xf (zA qQ (zj zp rfl B.len boot_len (za (pv 5) zc)) (zE qD (pv 1) ze (fun _ _=>rfl)) (zB _)) (j5 (zA qQ (zg D_take (hr.mono (by decide)) rfl (za (pv 0) (za ze zc))) ze (zB _)))))))))
    (zf (jn (xz xG wz wx jz (pv 4) (za (zg D_trip (hr.mono (by decide)) rfl (za (pv 0) (za (pv 5) zc))) zc)))
     (zi (zF (i:=5) nd rfl (Or.inl rfl) (zO zc))))
    zJ))))))
   (zi (zt (zw jv (pv 4) (zw zfd (zO (za (zg D_trip (hr.mono (by decide)) rfl (za (pv 0) (za (pv 5) zc))) zc)) (zY Zp rfl B.int vy (za (qK (Qp hu) (pv 5) (zO zc) (zB _)) zc))))))))),?_⟩
  refine⟨_,rfl,jp,_,_,_,rfl,rfl,qj,rfl,fs,rfl,⟨_,qf⟩,j6 (K:=K) (a:=fs) (xs:=fv) (fun i zs H1=>zs=((J.fs.take i).map (·.m)).map V.int/\Same H H1) ⟨rfl,Same.refl _⟩ (fun i zs H1 ⟨_,sm⟩=>sm.sqT qf) ?_ ?_⟩
  ·rintro i x zs H1 hx ⟨rfl,sm⟩
   obtain⟨d,e1,r1⟩:=(rf'.same sm).get hx
   rw[qr] at e1
   obtain⟨p,ep,rfl⟩:=jc.mp e1
   obtain⟨a,c,rfl,q,q'⟩:=xR r1
   have hi:i<J.fs.length:=(zN.mp ep).1
   refine⟨rfl,⟨_,rfl,a,_,_,_,rfl,rfl,q,rfl,?_,?_,sm⟩⟩
   ·rw[zq,zq,z9];omega
   ·rw[qg ep,zW,zW];rfl
  rintro zs H1 ⟨rfl,sm⟩
  have etk:J.fs.take fv.length=J.fs:=by rw[lfv,je]
  rw[etk]
  refine⟨by rw[zq,zq];omega,fun ls hls=>?_⟩
  have st0l:StL J (J.fs.map (·.m)) []:=.nil fun f hf=>(jo.fa f hf).2.2.1
  generalize J.fs.map (·.m)=st0 at st0l
  have S1:=(SameB.of (b:=b) sm).new (o:=.lst (st0.map V.int)) hls
  have B1:=(B0.same sm).new (o:=.lst (st0.map V.int)) hls
  have LS:upd H1 ls (.lst (st0.map V.int)) ls=some (.lst (st0.map V.int)):=zb
  have NS:H ls=none:=(SameB.of (b:=b) sm).none hls ((B0.same sm).nne hls)
  have nsb:=(B0.same sm).nne hls
  generalize upd H1 ls (.lst (st0.map V.int))=H2 at S1 B1 LS
  refine⟨le0,fun lf hlf=>⟨le0,fun lp' hlp=>⟨le0,fun lo hlo=>⟨le3,fun t ht=>?_⟩⟩⟩⟩
  have nfb:=B1.nne hlf
  have NF:=S1.none hlf nfb
  have S2:=S1.new (o:=.lst []) hlf
  have B2:=B1.new (o:=.lst []) hlf
  have LS2:=(zd (o:=.lst []) hlf) _ _ LS
  have LF2:upd H2 lf (.lst []) lf=some (.lst []):=zb
  generalize upd H2 lf (.lst [])=H3 at S2 B2 LS2 LF2 hlp hlo ht
  have npb:=B2.nne hlp
  have NP:=S2.none hlp npb
  have S3:=S2.new (o:=.lst []) hlp
  have B3:=B2.new (o:=.lst []) hlp
  have LS3:=(zd (o:=.lst []) hlp) _ _ LS2
  have LF3:=(zd (o:=.lst []) hlp) _ _ LF2
  have LP3:upd H3 lp' (.lst []) lp'=some (.lst []):=zb
  generalize upd H3 lp' (.lst [])=H4 at S3 B3 LS3 LF3 LP3 hlo ht
  have nob:=B3.nne hlo
  have NO:=S3.none hlo nob
  have S4:=S3.new (o:=.lst []) hlo
  have B4:=B3.new (o:=.lst []) hlo
  have LS4:=(zd (o:=.lst []) hlo) _ _ LS3
  have LF4:=(zd (o:=.lst []) hlo) _ _ LF3
  have LP4:=(zd (o:=.lst []) hlo) _ _ LP3
  have LO4:upd H4 lo (.lst []) lo=some (.lst []):=zb
  have a1:ls≠lf:=zn LS hlf
  have a2:ls≠lp':=zn LS2 hlp
  have a3:ls≠lo:=zn LS3 hlo
  have a5:lf≠lp':=zn LF2 hlp
  have a6:lf≠lo:=zn LF3 hlo
  have a8:lp'≠lo:=zn LP3 hlo
  generalize upd H4 lo (.lst [])=H5 at S4 B4 LS4 LF4 LP4 LO4 ht
  have s5:=zd (o:=.tup [.ref lf,.ref lp',.ref lo]) ht
  have T5:upd H5 t (.tup [.ref lf,.ref lp',.ref lo]) t=some (.tup [.ref lf,.ref lp',.ref lo]):=zb
  have S5:=S4.new (o:=.tup [.ref lf,.ref lp',.ref lo]) ht
  have B5:=B4.new (o:=.tup [.ref lf,.ref lp',.ref lo]) ht
  have LS5:=s5 _ _ LS4
  have LF5:=s5 _ _ LF4
  have LP5:=s5 _ _ LP4
  have LO5:=s5 _ _ LO4
  generalize upd H5 t (.tup [.ref lf,.ref lp',.ref lo])=H6 at s5 T5 S5 B5 LS5 LF5 LP5 LO5
  refine⟨t,_,rfl,SqT.of T5,rfl,_,_,rfl,_,_,rfl,_,_,rfl,rfl,?_⟩
  clear S1 S2 S3 S4 B1 B2 B3 B4 LS LS2 LS3 LS4 LF2 LF3 LF4 LP3 LP4 LO4 hls hlf hlp hlo ht s5 T5
  have rj6:=rj.keep (SameT.draw B0 S5) (wf J)
  refine⟨_,rfl,_,rfl,b,jp,J,ord,n,rfl,B5.mono (by omega),by omega,rj6,jo,fun lq os H7 S7 B7 nqb hqN LQ7 pm ob=>?_⟩
  have osl:os.length=J.ps.length:=by have:=pm.length_eq;rwa[QJ] at this
  have a4:ls≠lq:=zn LS5 hqN
  have a7:lf≠lq:=zn LF5 hqN
  have a9:lp'≠lq:=zn LP5 hqN
  have a10:lo≠lq:=zn LO5 hqN
  have g0:PlS K H b ls lf lp' lo lq st0 [] [] [] os [] [] H7 (n+60):=⟨S5.trans S7,B7,⟨nsb,nfb,npb,nob,nqb⟩,⟨a1,a2,a3,a4,a5,a6,a7,a8,a9,a10⟩,⟨NS,NF,NP,NO⟩,S7 _ _ LS5 nsb,S7 _ _ LF5 nfb,S7 _ _ LP5 npb,S7 _ _ LO5 nob,LQ7,rfl,rfl⟩
  clear S5 S7 B5 B7 LS5 LF5 LP5 LO5 LQ7 hqN rj6 sm
  refine⟨lq,rfl,⟨_,SqL.of g0.hq⟩,xZ (K:=K) (a:=lq) (xs:=zu os) (zah b jp most ls lf lo K H lq os n J)
   ⟨lp',none,none,none,none,st0,[],[],[],[],[],rfl,g0.mono (by omega),st0l,(fun _ h=>nomatch h),(fun _ h=>nomatch h),(by show((0:Nat):Int)<_;omega),List.Sublist.refl _,zC _,zC _,⟨(fun x hx=>by rw[List.take_zero] at hx;cases hx),(fun p _ h=>by cases(show p.2∈([]:List Nat) from h))⟩⟩
   (fun i σ H' _ ⟨_,_,_,_,_,_,_,_,_,_,_,_,g,_,_,_,_,_,_,_,_⟩=>SqL.of g.hq) ?_ ?_⟩
  ·rintro i x σ H8 hx ⟨lp,v7,v8,v9,v10,st,tr,pk,ou,ts,pks,rfl,g,stl,tok,pok,pkl,sub,cnt,oul,pc⟩
   have ndo:os.Nodup:=pm.nodup_iff.mpr QW
   obtain⟨c,ec,rfl⟩:=yG hx
   have stn:=stl.len
   have hi:i<os.length:=(zN.mp ec).1
   have hc:c<J.ps.length:=wZ.mp (pm.mem_iff.mp (jl ec))
   obtain⟨pa,epa⟩:∃pa,J.ps[c]? =some pa:=⟨J.ps[c],by simp[hc]⟩
   have T8:=SameT.draw B0 g.s
   have qj8:=qj.keep T8
   have qf8:=qf.keep T8
   have qp8:=qp.keep T8
   have qa8:=qa.keep T8
   have rf8:=rf'.keep T8 (xQ J.fs)
   have rp8:=rp'.keep T8 (j8 J.ps)
   have ra8:=ra'.keep T8 (qv J.as)
   obtain⟨pv0,epv,rpv⟩:=wt rp8 epa
   obtain⟨pad,pac,rfl,qpa,_⟩:=wI rpv
   refine⟨_,rfl,jp,_,_,_,rfl,rfl,qj8,rfl,fs,rfl,⟨_,qf8⟩,zcH (K:=K) (a:=fs) (xs:=fv) (zag J pa st H8) ⟨[],rfl,zC _,(fun _ h=>nomatch h),Same.refl _⟩ (fun i' zs H9 ⟨_,_,_,_,sm⟩=>sm.sqT qf8) ?_ ?_⟩
   ·rintro i' x zs H9 T hx' ⟨ks,rfl,kl,kk,sm⟩ hT
    obtain⟨d,e1,r1⟩:=(rf8.same sm).get hx'
    rw[qr] at e1
    obtain⟨fe,efe,rfl⟩:=jc.mp e1
    have hi':i'<J.fs.length:=(zN.mp efe).1
    have sT:=sm.trans (zd (o:=.tup [.int (i':Int),x]) hT)
    obtain⟨fa,fc,rfl,qfa,_⟩:=xR (r1.same (zd (o:=.tup [.int (i':Int),x]) hT))
    refine⟨T,_,rfl,SqT.of zb,rfl,_,_,rfl,_,_,rfl,rfl,rfl,?_⟩
    refine⟨_,rfl,fa,_,_,_,rfl,rfl,qfa,rfl,_,rfl,jp,_,_,_,rfl,rfl,sT.sqT qj8,rfl,_,rfl,ps,_,_,_,rfl,rfl,sT.sqT qp8,qI epv,pad,_,_,_,rfl,rfl,sT.sqT qpa,rfl,rfl,_,rfl,z7 (fun c1=>?_) (fun c1=>?_)⟩
    ·have ek:fe.k=pa.k:=by have:=qW c1;exact V.str.inj this
     have hst:i'<st.length:=by omega
     refine⟨_,rfl,_,rfl,ls,_,_,.int st[i'],rfl,rfl,SqL.of (sT _ _ g.hs),qI (by rw[qr,jj hst];rfl),_,_,rfl,rfl,_,rfl,z7 (fun c2=>?_) (fun c2=>?_)⟩
     ·refine⟨_,rfl,by rw[zH];omega,ks++[i'],?_,by rw[qJ];show _+1<=_;omega,fun k' hk'=>?_,sT⟩
      ·unfold zu
       rw[zW]
       rfl
      ·rcases qL.mp hk' with z | z
       ·exact kk k' z
       ·rw[qR.mp z]
        exact⟨fe,efe,ek,_,jj hst,qW c2⟩
     ·exact⟨ks,rfl,by omega,kk,sT⟩
    ·exact ifF rfl ⟨ks,rfl,by omega,kk,sT⟩
   rintro zs H9 ⟨ks,rfl,kl,kk,sm⟩
   refine⟨by rw[zH];omega,fun lm hlm=>?_⟩
   have sm1:=sm.trans (zd (o:=.lst (zu ks)) hlm)
   have LM:upd H9 lm (.lst (zu ks)) lm=some (.lst (zu ks)):=zb
   have nmb:lm≠b:=(g.same sm).bx.nne hlm
   generalize upd H9 lm (.lst (zu ks))=Ha at sm1 LM
   clear sm hlm
   refine⟨fun σ' H'=>Ex1 fun(lost:Bool)=>An4 (σ'=[some (.ref b),some (.ref jp),some (.int most),some (.ref ls),some (.ref lf),some (.ref lp),some (.ref lo),some (.int (c:Int)),some (.ref lm),some (.bl lost),v10]) (Same H8 H') (H' lm=some (.lst (zu ks))) ((lost=false->ks≠[]/\∀p∈J.as,p.2=c->p.1∉ou)),?_,?_⟩
   ·refine⟨_,rfl,le0,fun q hq=>⟨lm,q,zu ks,rfl,rfl,SqL.of ((zd hq) _ _ LM),SqL.of zb,_,rfl,z7 (fun c1=>?_) (fun c1=>?_)⟩⟩
    ·exact⟨true,rfl,sm1.trans (zd hq),(zd hq) _ _ LM,fun z=>nomatch z⟩
    ·have kne:ks≠[]:=fun z=>c1 (by rw[z];rfl)
     have sm2:=sm1.trans (zd (o:=.lst []) hq)
     have LM2:=(zd (o:=.lst []) hq) _ _ LM
     generalize upd Ha q (.lst [])=Hb at sm2 LM2
     refine⟨_,rfl,jp,_,_,_,rfl,rfl,sm2.sqT qj8,rfl,as,rfl,⟨_,sm2.sqT qa8⟩,j6 (K:=K) (a:=as) (xs:=av) (fun i' zs H9=>Ex1 fun(bs:List Bool)=>An4 (zs=bs.map V.bl) (bs.length<=i') ((bs.any id=false->∀p∈J.as.take i',p.2=c->p.1∉ou)) (Same Hb H9)) ⟨[],rfl,zC _,(fun _ p hp=>by rw[List.take_zero] at hp;cases hp),Same.refl _⟩ (fun i' zs H9 ⟨_,_,_,_,sm⟩=>(sm2.trans sm).sqT qa8) ?_ ?_⟩
     ·rintro i' x zs H9 hx' ⟨bs,rfl,bl,bn,sm⟩
      obtain⟨d,e1,r1⟩:=(ra8.same (sm2.trans sm)).get hx'
      rw[qr] at e1
      obtain⟨p,ep,rfl⟩:=jc.mp e1
      obtain⟨pp,rfl,qpp⟩:=xp r1
      have hi':i'<J.as.length:=(zN.mp ep).1
      refine⟨pp,_,rfl,qpp,rfl,_,_,rfl,_,_,rfl,rfl,rfl,?_⟩
      have nxt:∀v:Bool,(v=false->p.2=c->p.1∉ou)->((bs++[v]).any id=false->∀p∈J.as.take (i'+1),p.2=c->p.1∉ou):=fun v hv ha u hu=>by
       rw[List.any_append,Bool.or_eq_false_iff] at ha
       rw[qg ep] at hu
       rcases qL.mp hu with z | z
       ·exact bn ha.1 u z
       ·rw[qR.mp z]
        exact hv (by simpa using ha.2)
      refine⟨_,rfl,_,rfl,rfl,_,rfl,z7 (fun c2=>?_) (fun c2=>?_)⟩
      ·refine⟨_,rfl,_,rfl,lo,zu ou,rfl,.inl (SqL.of ((sm2.trans sm) _ _ g.ho)),rfl,j9 _,by rw[zq];omega,bs++[inV (.int (p.1:Int)) (zu ou)],?_,by rw[qJ];show _+1<=_;omega,nxt _ (fun z _ hm=>by rw[x9] at z;exact absurd hm (of_decide_eq_false z)),sm⟩
       rw[zW]
       rfl
      ·refine⟨by rw[zq];omega,bs++[false],?_,by rw[qJ];show _+1<=_;omega,nxt _ (fun _ z=>absurd (show decide (V.int (p.2:Int)=V.int (c:Int))=true by rw[z];exact qF rfl) c2),sm⟩
       rw[zW]
       rfl
     ·rintro zs H9 ⟨bs,rfl,bl,bn,sm⟩
      rw[la,je] at bn
      refine⟨by rw[zq];omega,fun D hD=>⟨D,bs,rfl,SqL.of zb,?_⟩⟩
      have sm3:=(sm2.trans sm).trans (zd (o:=.lst (bs.map V.bl)) hD)
      exact⟨bs.any id,rfl,sm3,(zd (o:=.lst (bs.map V.bl)) hD) _ _ (sm _ _ LM2),fun z=>⟨kne,bn z⟩⟩
   rintro σ' Hb ⟨lost,rfl,sm2,LM2,kne⟩
   have g2:=g.same sm2
   clear sm1 LM
   have sub1:(zK ts++pks.map (·.1)).Sublist (os.take (i+1)):=sub.trans (by rw[qg ec];exact List.sublist_append_left _ _)
   have eO:zu ou++[V.int (c:Int)]=zu (ou++[c]):=by unfold zu;rw[zW];rfl
   refine⟨fun σ' H'=>Ex5 fun(v10:Option V) (st':List Int) (pk':List V) (ou':List Nat) (pks':List (Nat×Nat))=>An9 (σ'=[some (.ref b),some (.ref jp),some (.int most),some (.ref ls),some (.ref lf),some (.ref lp),some (.ref lo),some (.int (c:Int)),some (.ref lm),some (.bl lost),v10]) (PlS K H b ls lf lp lo lq st' tr pk' ou' os ts pks' H' (n+60+10*i+3)) (StL J st' (vZ ts++pks')) ((∀p∈pks',W4 J p)) ((pks'.length:Int)<=J.hd) ((zK ts++pks'.map (·.1)).Sublist (os.take (i+1))) (ts.length+pks'.length<=i+1) (ou'.length<=i+1) (PlC J ou' (zK ts++pks'.map (·.1)) (os.take (i+1))),?_,?_⟩
   ·have outC:∀(H':Hp) (m:Int),PlS K H b ls lf lp lo lq st tr pk ou os ts pks H' m->m<=n+60+10*i+3->PlS K H b ls lf lp lo lq st tr pk (ou++[c]) os ts pks (upd H' lo (.lst (zu ou++[V.int (c:Int)]))) (n+60+10*i+3):=fun H' m g' hm=>by
     rw[eO]
     exact(g'.mono hm).putO
    have oul2:(ou++[c]).length<=i+1:=by rw[qJ];show _+1<=_;omega
    refine⟨fun(d:Bool) (H':Hp)=>PlS K H b ls lf lp lo lq st tr pk ou os ts pks H' (n+60+10*i+1)/\H' lm=some (.lst (zu ks))/\(d=false->ks≠[]/\∀p∈J.as,p.2=c->p.1∉ou),?_,?_⟩
    ·refine⟨_,rfl,_,rfl,z7 (fun c1=>⟨g2.mono (by omega),LM2,(fun z=>nomatch z)⟩) (fun c1=>?_)⟩
     have kne':=kne (by simpa using c1)
     exact⟨_,rfl,_,_,rfl,rfl,_,rfl,z7 (fun c2=>⟨_,rfl,_,rfl,b,most,_,rfl,g2.bx,by omega,qW c2,by omega,fun r Hc r0 r1 Bc Sc=>⟨rfl,_,rfl,(g2.draw Sc Bc).mono (by omega),Sc _ _ LM2 nmb,fun _=>kne'⟩⟩) (fun c2=>⟨g2.mono (by omega),LM2,fun _=>kne'⟩)⟩
    rintro d Hc ⟨g3,LM3,kn⟩
    refine z7 (fun c1=>?_) (fun c1=>?_)
    ·exact⟨_,rfl,.inl ⟨rfl,_,SqL.of g3.ho⟩,_,rfl,lo,_,_,rfl,rfl,g3.ho,by rw[zH];omega,_,st,pk,ou++[c],pks,rfl,outC _ _ g3 (by omega),stl,pok,by omega,sub1,by omega,oul2,by rw[qg ec];exact pc.out⟩
    ·have kpos:0<ks.length:=Q0.mpr (kn (by simpa using c1)).1
     have kc:=(kn (by simpa using c1)).2
     refine⟨_,rfl,_,rfl,_,rfl,lm,_,rfl,.inl (SqL.of LM3),b,_,_,rfl,g3.bx,by omega,by rw[zH];omega,by rw[zH];omega,fun r' Hd r0' r1' Bd Sd=>?_⟩
     rw[zH] at r1'
     have hr':r'.toNat<ks.length:=by omega
     have er':atI (zu ks) r'=some (.int ((ks[r'.toNat]:Nat):Int)):=by
      have er:(zu ks)[r'.toNat]? =some (.int ((ks[r'.toNat]:Nat):Int)):=by
       unfold zu
       rw[qr,jj hr']
       rfl
      have:=qI er
      rwa[show((r'.toNat:Nat):Int)=r' by omega] at this
     obtain⟨fe,efe,ekf,z0,ez0,hz0⟩:=kk _ (yr hr')
     generalize ks[r'.toNat]=kf at er' efe ez0
     have hkf:kf<J.fs.length:=(zN.mp efe).1
     have hst:kf<st.length:=by omega
     have g5:=g3.draw Sd Bd
     refine⟨lm,_,_,_,rfl,rfl,SqL.of (Sd _ _ LM3 nmb),er',?_⟩
     refine⟨_,rfl,_,rfl,ls,_,_,.int st[kf],rfl,rfl,SqL.of g5.hs,qI (by rw[qr,jj hst];rfl),_,_,rfl,rfl,_,rfl,_,rfl,ls,_,_,kf,rfl,rfl,g5.hs,Xn (by rw[zq];omega),?_⟩
     have eS:(st.map V.int).set kf (V.int (st[kf]-1))=(st.set kf (st[kf]-1)).map V.int:=by rw[List.map_set]
     rw[eS]
     have g6:=g5.putS (st':=st.set kf (st[kf]-1))
     generalize upd Hd ls (.lst ((st.set kf (st[kf]-1)).map V.int))=He at g6
     refine⟨_,rfl,.inl ⟨rfl,_,SqL.of g6.hp⟩,_,rfl,_,rfl,le2,fun q hq=>?_⟩
     have g7:=g6.new (o:=.tup [.int (c:Int),.int (kf:Int)]) hq
     have rq:Rep K (upd He q (.tup [.int (c:Int),.int (kf:Int)])) (qP (c,kf)) (.ref q):=⟨q,_,rfl,SqT.of zb,_,_,rfl,rfl,_,_,rfl,rfl,rfl⟩
     have pkn:pk.length=pks.length:=by have:=g.rk.len;rwa[zq] at this
     refine⟨lp,_,_,rfl,rfl,g7.hp,by omega,_,st.set kf (st[kf]-1),pk++[.ref q],ou,pks++[(c,kf)],rfl,(g7.putP rq).mono (by omega),by rw[<- vU];exact stl.take (jj hst) (by rw[jj hst] at ez0;rw[jJ ez0];exact hz0),fun p' hp'=>?_,by rw[qJ];show((_+1:Nat):Int)<=_;omega,?_,by rw[qJ];show _+(_+1)<=_;omega,by omega,by rw[zW,<- vU,qg ec];exact pc.lay ec ndo ob kc⟩
     ·rcases qL.mp hp' with z | z
      ·exact pok p' z
      ·rw[qR.mp z]
       exact⟨pa,fe,epa,efe,ekf⟩
     ·rw[zW,<- vU,qg ec]
      exact sub.append (List.Sublist.refl _)
   rintro σ' Hc ⟨v10',st',pk',ou',pks',rfl,g4,stl',pok',pkl',sub',cnt',oul',pc'⟩
   have pkn:pk'.length=pks'.length:=by have:=g4.rk.len;rwa[zq] at this
   have trn:tr.length=ts.length:=by have:=g4.rt.len;rwa[zq] at this
   have T9:=SameT.draw B0 g4.s
   refine⟨fun(d:Bool) (H':Hp)=>PlS K H b ls lf lp lo lq st' tr pk' ou' os ts pks' H' (n+60+10*i+4)/\(d=true->1<=pks'.length)/\(d=false->(pks'.length:Int)<J.hd),?_,?_⟩
   ·refine⟨_,rfl,le0,fun q hq=>⟨lp,q,_,rfl,rfl,SqL.of (g4.new (o:=.lst []) hq).hp,SqL.of zb,_,rfl,z7 (fun c1=>?_) (fun c1=>?_)⟩⟩
    ·have g5:=g4.new (o:=.lst []) hq
     have qj5:=(qj.keep T9).keep (SameT.of (zd (o:=.lst []) hq))
     generalize upd Hc q (.lst [])=Hd at g5 qj5
     have pne:1<=pks'.length:=by
      cases pk' with
      | nil=>cases c1
      | cons x r=>simp at pkn;omega
     refine⟨_,rfl,lp,_,rfl,.inl (SqL.of g5.hp),_,rfl,jp,_,_,_,rfl,rfl,qj5,rfl,rfl,_,rfl,z7 (fun c2=>⟨g5.mono (by omega),fun _=>pne,fun z=>nomatch z⟩) (fun c2=>⟨_,rfl,b,3,_,rfl,g5.bx,by omega,by decide,by decide,fun r He r0 r1 Be Se=>⟨rfl,_,rfl,(g5.draw Se Be).mono (by omega),fun _=>pne,fun _=>?_⟩⟩)⟩
     have hne:¬(pk'.length:Int)=J.hd:=fun z=>c2 (by rw[z];simp)
     omega
    ·have pe:pks'=[]:=by
      cases pks' with
      | nil=>rfl
      | cons x r=>
       cases pk' with
       | nil=>simp at pkn
       | cons y r'=>exact absurd rfl c1
     exact⟨(g4.new (o:=.lst []) hq).mono (by omega),(fun z=>nomatch z),fun _=>by rw[pe];show((0:Nat):Int)<_;omega⟩
   rintro d Hd ⟨G,pne,hlt⟩
   refine z7 (fun c1=>?_) (fun c1=>?_)
   ·have pne:=pne c1
    refine⟨_,rfl,.inl ⟨rfl,_,SqL.of G.hf⟩,_,rfl,_,rfl,b,lp,_,pk',pks',rfl,G.bx,by omega,G.nb.2.2.1,G.hp,G.rk,by omega,fun p sh Hg Sg Bg shp rt=>?_⟩
    have G2:=G.draw Sg Bg
    have shl:sh.length=pks'.length:=shp.length_eq
    refine⟨lf,_,_,rfl,rfl,G2.hf,by omega,?_⟩
    have G3:=G2.putF rt
    generalize upd Hg lf (.lst (tr++[.ref p]))=Hh at G3
    refine⟨le0,fun lp2 hlp2=>⟨lp2,_,_,_,_,st',tr++[.ref p],[],ou',ts++[⟨sh,pks'.map (·.1)⟩],[],rfl,(G3.newP hlp2).mono (by omega),by rw[yi,xL];exact stl'.perm (shp.symm.append_left _),?_,(fun _ h=>nomatch h),(by show((0:Nat):Int)<_;omega),?_,?_,oul',by rw[xC,Zr,xL];exact pc'⟩⟩
    ·intro t' ht'
     rcases qL.mp ht' with z | z
     ·exact tok t' z
     ·rw[qR.mp z]
      exact⟨by show 1<=sh.length;omega,by show(sh.length:Int)<=_;omega,fun p' hp'=>pok' p' (shp.mem_iff.mp hp'),(shp.map (·.1)).symm⟩
    ·rw[xC]
     simpa using sub'
    ·rw[qJ]
     show _+1+0<=_
     omega
   ·exact⟨lp,_,_,_,_,st',tr,pk',ou',ts,pks',rfl,G.mono (by omega),stl',tok,pok',hlt (by simpa using c1),sub',cnt',oul',pc'⟩
  ·rintro σ H8 ⟨lp,v7,v8,v9,v10,st,tr,pk,ou,ts,pks,rfl,g,stl,tok,pok,pkl,sub,cnt,oul,pc⟩
   rw[zH] at sub cnt oul
   rw[zH] at g
   rw[je] at sub
   have pkn:pk.length=pks.length:=by have:=g.rk.len;rwa[zq] at this
   have trn:tr.length=ts.length:=by have:=g.rt.len;rwa[zq] at this
   refine⟨_,rfl,_,rfl,_,rfl,b,lp,_,pk,pks,rfl,g.bx,by omega,g.nb.2.2.1,g.hp,g.rk,by omega,fun p sh Hg Sg Bg shp rt=>?_⟩
   have g2:=g.draw Sg Bg
   have shl:sh.length=pks.length:=shp.length_eq
   refine⟨le1,fun l1 hl1=>?_⟩
   have g3:=g2.new (o:=.lst [.ref p]) hl1
   have rt3:=rt.same (zd (o:=.lst [.ref p]) hl1)
   have L1:upd Hg l1 (.lst [.ref p]) l1=some (.lst [.ref p]):=zb
   generalize upd Hg l1 (.lst [.ref p])=Hh at g3 rt3 L1
   refine⟨_,rfl,le0,fun q hq=>⟨lp,q,_,rfl,rfl,SqL.of (g3.new (o:=.lst []) hq).hp,SqL.of zb,.inr ⟨_,rfl,l1,_,_,rfl,rfl,(zd hq) _ _ L1,?_,?_,?_,fun l2 hl2=>?_⟩⟩⟩
   ·split<;>decide
   ·split<;>decide
   ·show 1*_<=sizeLine
    split<;>(first| (show 1*1<=_;omega) | (show 1*0<=_;omega))
   have g4:=g3.new (o:=.lst []) hq
   have rt4:=rt3.same (zd (o:=.lst []) hq)
   generalize upd Hh q (.lst [])=Hi at g4 rt4 hl2
   have fin:∀(zs:List V) (us:List qM),Reps K Hi (us.map jm) zs->zs.length<=1->us.length+ts.length<=60->(∀t∈us,W3 J t)->(zK (ts++us)).Sublist os->zK (ts++us)=zK ts++pks.map (·.1)->(vZ ts++pks).Perm (vZ (ts++us))->zdm (V.ref lf) (V.ref l2) (upd Hi l2 (.lst zs)) Q:=by
    intro zs us rz zl ul uo us' hcl up
    have g5:=g4.new (o:=.lst zs) hl2
    have rz5:=rz.same (zd (o:=.lst zs) hl2)
    refine⟨lf,l2,tr,zs,rfl,rfl,g5.hf,zb,by omega,fun l3 hl3=>?_⟩
    have n3:=g5.bx.nne hl3
    have g6:=g5.new (o:=.lst (tr++zs)) hl3
    refine k l3 os (ts++us) (tr++zs) _ g6.s (g6.bx.mono (by omega)) n3 (g5.s.none hl3 n3) zb ?_ pm ob ⟨fun t ht=>?_,us',by rw[qJ];omega,by rw[hcl];exact pc.a2,st,stl.perm up⟩
    ·rw[zW]
     exact Reps.app g6.rt (rz5.same (zd hl3))
    ·rcases qL.mp ht with z | z
     ·exact tok t z
     ·exact uo t z
   cases pks with
   | nil=>
    have e:pk=[]:=List.length_eq_zero_iff.mp (by rw[pkn];rfl)
    subst e
    exact fin [] [] rfl (qo _) (by show 0+_<=_;omega) (fun _ h=>nomatch h) (by rw[xL];simpa using sub) (by simp) (by rw[xL,xL])
   | cons x r=>
    have hne:∃y r',pk=y::r':=by
     cases pk with
     | nil=>simp at pkn
     | cons y r'=>exact⟨y,r',rfl⟩
    obtain⟨y,r',rfl⟩:=hne
    refine fin [.ref p] [⟨sh,(x::r).map (·.1)⟩] ⟨_,_,rfl,rt4,rfl⟩ (zC _) (by simp at cnt;show 1+_<=_;omega) (fun t ht=>?_) (by rw[xC];exact sub) (by rw[xC]) (by rw[yi];exact shp.symm.append_left _)
    rw[qR.mp ht]
    exact⟨by show 1<=sh.length;rw[shl];exact Nat.succ_le_succ (qo _),by show(sh.length:Int)<=_;omega,fun p' hp'=>pok p' (shp.mem_iff.mp hp'),(shp.map (·.1)).symm⟩
def prD(p:Int×Int):Dat:=.tup [.int p.1,.int p.2]
inductive Jp(K:PySem.W.Frag)(vs:List V)(H:Hp)(Q:VK):Prop
 | mk (t:Addr) (xs:List V) (as:List (Int×Int)) (_:vs=[.ref t]) (_:SqT K H t xs) (_:Reps K H (as.map prD) xs) (_:as.length<=1000) (_:∀(l:Addr) (ys:List V) H',Same H H'->H' l=some (.lst ys)->Reps K H' (as.map fun p=>prD p.swap) ys->Q (.ref l) H'):Jp K vs H Q
def Yc(K:PySem.W.Frag):Sp:=fun vs H Q _=>Jp K vs H Q
theorem Yz:zI ["pairs"] ["pairs"] (zv (topL 6)):=⟨rfl,rfl,rfl,by decide +kernel,rfl,by decide +kernel,by decide +kernel⟩
theorem zcq{f:Addr}{fd:FuncData}(F:Fun K "turned" "turned" (topL 6) f fd)(B:Blt mg):qS P w K mg base CX0 1 f fd ["pairs"] (Yc K):=by
 have nd:=Yz.nd
 refine F.ok Yz (fun vs H Q E h=>?_) (fun cdv A outer s H vs Q E hr h=>?_)
 ·obtain⟨t,xs,as,rfl,_⟩:=h
  rfl
 ·obtain⟨t,xs,as,rfl,ht,rp,la,k⟩:=h
  have hbig:100000<sizeLine:=by rw[sizeLine_eq];decide
  have lx:=rp.len
  rw[zq] at lx
  refine⟨_,(zi (zt (wa [] [] rfl rfl (by kernel_rfl) (jX (pv 0)) (fun _ _ _ _=>jb) (fun _ _ _ _=>(zX (za (pv 1) (za (pv 0) zc))))))),?_⟩
  have l2:∀x y:V,[x,y].length<=sizeLine:=fun x y=>by rw[sizeLine_eq];show 2<=_;decide
  refine⟨_,rfl,t,rfl,⟨_,ht⟩,j6 (K:=K) (a:=t) (xs:=xs) (fun i zs H'=>Reps K H' ((as.take i).map fun p=>prD p.swap) zs/\Same H H') ⟨rfl,Same.refl _⟩ (fun i zs H' ⟨_,sm⟩=>sm.sqT ht) ?_ ?_⟩
  ·rintro i x zs H1 hx ⟨rz,sm⟩
   obtain⟨d,e1,r1⟩:=(rp.same sm).get hx
   rw[qr] at e1
   obtain⟨p,ep,rfl⟩:=jc.mp e1
   have hi:i<as.length:=(zN.mp ep).1
   obtain⟨a,ws,rfl,qa,x1,r1',rfl,e2,x2,r2',rfl,e3,e4⟩:=r1
   cases e2
   cases e3
   cases e4
   refine⟨a,_,rfl,qa,rfl,_,_,rfl,_,_,rfl,rfl,rfl,?_⟩
   refine⟨_,rfl,_,rfl,l2 _ _,fun q hq=>⟨?_,?_,sm.trans (zd hq)⟩⟩
   ·have:=rz.len
    rw[zq,z9] at this
    omega
   ·have e5:as.take (i+1)=as.take i++[p]:=by
     obtain⟨h1,h2⟩:=zN.mp ep
     rw[<- h2,y9]
    rw[e5,zW]
    exact Reps.snoc (d:=prD p.swap) ⟨q,_,rfl,SqT.of zb,_,_,rfl,rfl,_,_,rfl,rfl,rfl⟩ (rz.same (zd hq))
  ·rintro zs H1 ⟨rz,sm⟩
   rw[lx,je] at rz
   refine⟨by have:=rz.len;rw[zq] at this;omega,fun l hl=>k l zs _ (sm.trans (zd hl)) zb (rz.same (zd hl))⟩
def vG(as:List (Int×Int))(i:Int):List Int:=(as.filter fun p=>decide (p.1=i)).map (·.2)
structure NB(H0 H:Hp)(kvs:List (Key×V))(as:List (Int×Int)):Prop where
 at_:∀i v,jk kvs (Sum.inl i)=some v->∃l,v=.ref l/\H0 l=none/\H l=some (.lst ((vG as i).map V.int))
 no:∀i,jk kvs (Sum.inl i)=none->vG as i=[]
 inj:∀i j l,jk kvs (Sum.inl i)=some (.ref l)->jk kvs (Sum.inl j)=some (.ref l)->i=j
 few:kvs.length<=as.length
theorem wG(as:List (Int×Int))(x y i:Int):vG (as++[(x,y)]) i=vG as i++(if x=i then [y] else []):=by
 unfold vG
 rw[QK,zW]
 congr 1
 by_cases h:x=i<;>simp[h]
theorem zdd(as:List (Int×Int))(i:Int):(vG as i).length<=as.length:=by
 unfold vG
 rw[zq]
 exact yZ _ _
theorem NB.old{H0 H H1:Hp}{kvs:List (Key×V)}{as:List (Int×Int)}{x y:Int}{l:Addr}(n:NB H0 H kvs as)(s:Same H H1)(e:jk kvs (Sum.inl x)=some (.ref l)) :
  NB H0 (upd H1 l (.lst ((vG as x).map V.int++[.int y]))) kvs (as++[(x,y)]):=by
 refine⟨fun i v hv=>?_,fun i hv=>?_,n.inj,by rw[qJ];have:=n.few;omega⟩
 ·obtain⟨l',rfl,h0,h1⟩:=n.at_ i v hv
  refine⟨l',rfl,h0,?_⟩
  rw[wG]
  by_cases hx:x=i
  ·subst hx
   rw[e] at hv
   cases hv
   rw[zb,if_pos rfl,zW]
   rfl
  ·have ne:l'≠l:=fun z=>hx (n.inj x i l e (by rw[<- z];exact hv))
   rw[zo ne,if_neg hx,xL]
   exact s _ _ h1
 ·rw[wG,n.no i hv,if_neg (fun z=>by rw[<- z,e] at hv;cases hv)]
  rfl
theorem NB.new{H0 H:Hp}{kvs:List (Key×V)}{as:List (Int×Int)}{x y:Int}{m d:Addr}(n:NB H0 H kvs as)(hm:H m=none)(h0:H0 m=none)(hd:H d=some (.dK kvs))(e:jk kvs (Sum.inl x)=none) :
  NB H0 (upd (upd (upd H m (.lst [])) d (.dK (xm kvs (Sum.inl x) (.ref m)))) m (.lst ([]++[.int y]))) (xm kvs (Sum.inl x) (.ref m)) (as++[(x,y)]):=by
 have old:∀i l,jk kvs (Sum.inl i)=some (.ref l)->H l=some (.lst ((vG as i).map V.int))/\l≠m/\l≠d:=fun i l h=>by
  obtain⟨l',z,_,h1⟩:=n.at_ i _ h
  cases z
  refine⟨h1,fun z=>?_,fun z=>?_⟩
  ·rw[z,hm] at h1;cases h1
  ·rw[z,hd] at h1;cases h1
 refine⟨fun i v hv=>?_,fun i hv=>?_,fun i j l hi hj=>?_,?_⟩
 ·rw[Z9] at hv
  rw[wG]
  by_cases hx:i=x
  ·subst hx
   rw[if_pos rfl] at hv
   cases hv
   refine⟨m,rfl,h0,?_⟩
   rw[zb,n.no _ e,if_pos rfl]
   rfl
  ·rw[if_neg (fun z=>hx (vo z))] at hv
   obtain⟨l,rfl,h1,h2⟩:=n.at_ i v hv
   obtain⟨_,n1,n2⟩:=old i l hv
   refine⟨l,rfl,h1,?_⟩
   rw[zo n1,zo n2,zo n1,if_neg (qH hx),xL]
   exact h2
 ·rw[Z9] at hv
  by_cases hx:i=x
  ·subst hx;rw[if_pos rfl] at hv;cases hv
  ·rw[if_neg (fun z=>hx (vo z))] at hv
   rw[wG,n.no i hv,if_neg (qH hx)]
   rfl
 ·rw[Z9] at hi hj
  by_cases h1:i=x<;>by_cases h2:j=x
  ·rw[h1,h2]
  ·rw[if_pos (by rw[h1])] at hi
   rw[if_neg (fun z=>h2 (vo z))] at hj
   cases hi
   exact absurd rfl (old j _ hj).2.1
  ·rw[if_neg (fun z=>h1 (vo z))] at hi
   rw[if_pos (by rw[h2])] at hj
   cases hj
   exact absurd rfl (old i _ hi).2.1
  ·rw[if_neg (fun z=>h1 (vo z))] at hi
   rw[if_neg (fun z=>h2 (vo z))] at hj
   exact n.inj i j l hi hj
 ·have:=xB kvs (Sum.inl x) (.ref m)
  have:=n.few
  rw[qJ,List.length_singleton]
  omega
inductive Vk(K:PySem.W.Frag)(vs:List V)(H:Hp)(Q:VK):Prop
 | mk (t:Addr) (xs:List V) (as:List (Int×Int)) (_:vs=[.ref t]) (_:(SqL K H t xs\/SqT K H t xs)) (_:Reps K H (as.map prD) xs) (_:as.length<=1000) (_:∀(d:Addr) (kvs:List (Key×V)) H',Same H H'->H d=none->H' d=some (.dK kvs)->NB H H' kvs as->Q (.ref d) H'):Vk K vs H Q
def zbH(K:PySem.W.Frag):Sp:=fun vs H Q _=>Vk K vs H Q
theorem zb2:zI ["pairs", "rows", "one", "other"] ["pairs"] (zv (topL 7)):=⟨rfl,rfl,rfl,by decide +kernel,rfl,by decide +kernel,by decide +kernel⟩
theorem zdL{f:Addr}{fd:FuncData}(F:Fun K "next_by" "next_by" (topL 7) f fd)(B:Blt mg):qS P w K mg base CX0 1 f fd ["pairs"] (zbH K):=by
 have nd:=zb2.nd
 refine F.ok zb2 (fun vs H Q E h=>?_) (fun cdv A outer s H vs Q E hr h=>?_)
 ·obtain⟨t,xs,as,rfl,_⟩:=h
  rfl
 ·obtain⟨t,xs,as,rfl,ht,rp,la,k⟩:=h
  have hbig:100000<sizeLine:=by rw[sizeLine_eq];decide
  have hu1:=zcO hr
  have lx:=rp.len
  rw[zq] at lx
  refine⟨_,(zf (zF (i:=1) nd rfl (Or.inl rfl) zcl)
   (zf (ja jB rfl (Wy (pv 0)) (qT rfl (zx (zr (i:=2) nd rfl (Or.inl rfl)) (zx (zr (i:=3) nd rfl (Or.inl rfl)) qB)))
   (zi (jn (xz xG wz wx jz (zfc (pv 1) (pv 2) (zO zc) ⟨rfl,rfl,rfl,rfl⟩) (za (pv 3) zc)))))
   (zi (zt (pv 1))))),?_⟩
  refine fun d hd=>?_
  have e0:NB H (upd H d (.dK [])) [] ([]:List (Int×Int)):=⟨(fun i v z=>nomatch z),(fun _ _=>rfl),(fun i j l z=>nomatch z),zC _⟩
  have s0:Same H (upd H d (.dK [])):=zd hd
  have step:∀(i:Nat) (x:V) (H1:Hp) (kvs:List (Key×V)),xs[i]? =some x->H1 d=some (.dK kvs)->NB H H1 kvs (as.take i)->Same H H1->∃(a:Addr) (p:Int×Int),x=.ref a/\SqT K H1 a [.int p.1,.int p.2]/\as[i]? =some p/\i<as.length/\as.take (i+1)=as.take i++[p]:=fun i x H1 kvs hx _ _ sm=>by
   obtain⟨dd,e1,r1⟩:=(rp.same sm).get hx
   rw[qr] at e1
   obtain⟨p,ep,rfl⟩:=jc.mp e1
   obtain⟨h1,h2⟩:=zN.mp ep
   obtain⟨a,ws,rfl,qa,x1,r1',rfl,e2,x2,r2',rfl,e3,e4⟩:=r1
   cases e2
   cases e3
   cases e4
   exact⟨a,p,rfl,qa,ep,h1,by rw[<- h2,y9]⟩
  refine⟨_,rfl,t,rfl,ht.elim (fun hL=>.inl ⟨⟨_,s0.seq hL⟩,xZ (K:=K) (a:=t) (xs:=xs) (fun i σ H'=>Ex3 fun(v2 v3:Option V) (kvs:List (Key×V))=>An4 (σ=[some (.ref t),some (.ref d),v2,v3]) (H' d=some (.dK kvs)) (NB H H' kvs (as.take i)) (Same H H'))
   ⟨_,_,[],rfl,zb,e0,s0⟩ (fun i σ H' _ ⟨_,_,_,_,_,_,sm⟩=>sm.seq hL) ?s1 ?e1⟩) (fun hT=>.inr ⟨⟨_,s0.sqT hT⟩,Xu (K:=K) (a:=t) (xs:=xs) (fun i σ H'=>Ex3 fun(v2 v3:Option V) (kvs:List (Key×V))=>An4 (σ=[some (.ref t),some (.ref d),v2,v3]) (H' d=some (.dK kvs)) (NB H H' kvs (as.take i)) (Same H H'))
   ⟨_,_,[],rfl,zb,e0,s0⟩ (fun i σ H' _ ⟨_,_,_,_,_,_,sm⟩=>sm.sqT hT) ?s2 ?e2⟩)⟩
  case e1 | e2=>
   rintro σ H1 ⟨v2,v3,kvs,rfl,h1,n1,sm⟩
   rw[lx,je] at n1
   exact⟨_,rfl,k d kvs H1 sm hd h1 n1⟩
  case s1 | s2=>
   rintro i x σ H1 hx ⟨v2,v3,kvs,rfl,h1,n1,sm⟩
   obtain⟨a,p,rfl,qa,ep,hi,et⟩:=step i x H1 kvs hx h1 n1 sm
   rw[et]
   have few:=n1.few
   rw[z9] at few
   refine⟨a,_,rfl,qa,rfl,_,_,rfl,_,_,rfl,rfl,?_⟩
   refine⟨_,rfl,d,rfl,.inl ⟨_,.inl h1⟩,_,rfl,le0,fun m hm=>⟨kvs,Sum.inl p.1,(zd (o:=.lst []) hm) _ _ h1,rfl,by omega,fun v hv=>?_,fun hv=>?_⟩⟩
   ·obtain⟨l,rfl,l0,ll⟩:=n1.at_ _ v hv
    have L:=(zd (o:=.lst []) hm) _ _ ll
    have nd:d≠l:=fun z=>by rw[<- z,h1] at ll;cases ll
    have sl:=zdd (as.take i) p.1
    rw[z9] at sl
    refine⟨.inl ⟨rfl,_,SqL.of L⟩,_,rfl,l,_,_,rfl,rfl,L,by rw[zq];omega,?_⟩
    exact⟨_,_,kvs,rfl,by rw[zo nd];exact(zd (o:=.lst []) hm) _ _ h1,n1.old (zd hm) hv,fun c o e=>by rw[zo (zn e l0)];exact(zd hm) _ _ (sm _ _ e)⟩
   ·have nmd:m≠d:=fun z=>by rw[z,h1] at hm;cases hm
    have m0:H m=none:=by
     cases z:H m with
     | none=>rfl
     | some o=>rw[sm _ _ z] at hm;cases hm
    have L:upd (upd H1 m (.lst [])) d (.dK (xm kvs (Sum.inl p.1) (.ref m))) m=some (.lst []):=by rw[zo nmd];exact zb
    refine⟨.inl ⟨rfl,_,SqL.of L⟩,_,rfl,m,_,_,rfl,rfl,L,by show 0<_;omega,?_⟩
    exact⟨_,_,_,rfl,by rw[zo (qH nmd)];exact zb,n1.new hm m0 h1 hv,fun c o e=>by rw[zo (zn e m0),zo (zn e hd),zo (zn e m0)];exact sm _ _ e⟩
end
def Wk(as:List (Int×Int)):Nat->Int->Int->Prop
 | 0,i,j=>i=j
 | n+1,i,j=>∃m,(i,m)∈as/\Wk as n m j
section
variable{as:List (Int×Int)}
theorem Wk.snoc:∀{n:Nat} {i j k:Int},Wk as n i j->(j,k)∈as->Wk as (n+1) i k
 | 0,i,j,k,h,e=>by cases(show i=j from h);exact⟨k,e,rfl⟩
 | n+1,i,j,k,⟨m,h,h'⟩,e=>⟨m,h,Wk.snoc h' e⟩
theorem Wk.add:∀{n m:Nat} {i j k:Int},Wk as n i j->Wk as m j k->Wk as (n+m) i k
 | 0,m,i,j,k,h,e=>by cases(show i=j from h);rw[Nat.zero_add];exact e
 | n+1,m,i,j,k,⟨x,h,h'⟩,e=>by rw[Nat.add_right_comm];exact⟨x,h,Wk.add h' e⟩
theorem Wk.split:∀{n m:Nat} {i k:Int},Wk as (n+m) i k->∃j,Wk as n i j/\Wk as m j k
 | 0,m,i,k,h=>by rw[Nat.zero_add] at h;exact⟨i,rfl,h⟩
 | n+1,m,i,k,h=>by
  rw[Nat.add_right_comm] at h
  obtain⟨x,h1,h2⟩:=h
  obtain⟨j,h3,h4⟩:=Wk.split h2
  exact⟨j,⟨x,h1,h3⟩,h4⟩
theorem Wk.closed{C:Int->Prop}(c:∀x y,C x->(x,y)∈as->C y):∀{n:Nat} {i j:Int},C i->Wk as n i j->C j
 | 0,i,j,h,e=>by cases(show i=j from e);exact h
 | n+1,i,j,h,⟨m,e,w⟩=>Wk.closed c (c i m h e) w
theorem Wk.back:∀{n:Nat} {i j:Int},Wk as n i j->Wk (as.map Prod.swap) n j i
 | 0,i,j,h=>Eq.symm h
 | n+1,i,j,⟨m,e,w⟩=>Wk.snoc (Wk.back w) (jC.mpr ⟨(i,m),e,rfl⟩)
theorem VM{i j:Int}:j∈vG as i↔(i,j)∈as:=by
 unfold vG
 rw[jC]
 constructor
 ·rintro⟨⟨a,b⟩,h,rfl⟩
  obtain⟨h1,h2⟩:=vT.mp h
  rw[<- qW h2]
  exact h1
 ·intro h
  exact⟨(i,j),vT.mpr ⟨h,qF rfl⟩,rfl⟩
end
theorem Q9(as:List (Int×Int)):(as.map Prod.swap).map Prod.swap=as:=by
 rw[xn]
 exact List.map_id'' (fun _=>rfl) as
def dkI(ps:List (Int×Int)):List (Key×V):=ps.map fun p=>(Sum.inl p.1,V.int p.2)
theorem Y7(ps:List (Int×Int)):(dkI ps).length=ps.length:=zq _
theorem Xy:∀(ps:List (Int×Int)) (i:Int),(∃v,jk (dkI ps) (Sum.inl i)=some (.int v)/\i∈ps.map (·.1))\/(jk (dkI ps) (Sum.inl i)=none/\i∉ps.map (·.1))
 | [],i=>.inr ⟨rfl,by simp⟩
 | p::ps,i=>by
  by_cases h:p.1=i
  ·exact .inl ⟨p.2,jx (by show Sum.inl p.1=_;rw[h]),by simp[h]⟩
  ·have e:jk (dkI (p::ps)) (Sum.inl i)=jk (dkI ps) (Sum.inl i):=jy (fun z=>h (vo z))
   rcases Xy ps i with ⟨v,h1,h2⟩ | ⟨h1,h2⟩
   ·exact .inl ⟨v,e.trans h1,by simp only[jP,qq];exact .inr h2⟩
   ·exact .inr ⟨e.trans h1,by simp only[jP,qq];rintro(z | z);exact h z.symm;exact h2 z⟩
theorem zd6{ps:List (Int×Int)}{i v:Int}(h:jk (dkI ps) (Sum.inl i)=none):xm (dkI ps) (Sum.inl i) (.int v)=dkI (ps++[(i,v)]):=by
 rw[Vw _ h]
 unfold dkI
 rw[zW]
 rfl
theorem JC{α:Type}[DecidableEq α]:∀{l m:List α},l.Nodup->(∀x∈l,x∈m)->l.length<=m.length
 | [],_,_,_=>qo _
 | x::l,m,h,s=>by
  have hx:=s x (by simp)
  have h':=QV.mp h
  have:=JC (l:=l) (m:=m.erase x) h'.2 fun y hy=>(List.mem_erase_of_ne (fun e:y=x=>h'.1 (e▸hy))).mpr (s y (jE _ hy))
  rw[List.length_erase_of_mem hx] at this
  have:=List.length_pos_of_mem hx
  rw[vd];omega
def InN(n:Nat)(i:Int):Prop:=0<=i/\i<n
theorem vv{n:Nat}{l:List Int}(h:l.Nodup)(s:∀x∈l,InN n x):l.length<=n:=by
 have:=JC (m:=(List.range n).map fun k:Nat=>(k:Int)) h fun x hx=>by
  obtain⟨h0,h1⟩:=s x hx
  exact jC.mpr ⟨x.toNat,wZ.mpr (by omega),by omega⟩
 rwa[zq,QJ] at this
theorem ym{α:Type}{l:List α}{x:α}(h:l.Nodup)(hx:x∉l):(l++[x]).Nodup:=by
 rw[Zy]
 exact⟨h,by simp,fun a ha b hb e=>hx (by rw[qR] at hb;rw[<- hb,<- e];exact ha)⟩
structure zc5(H:Hp)(rk:List (Key×V))(as:List (Int×Int)):Prop where
 at_:∀i v,jk rk (Sum.inl i)=some v->∃l,v=.ref l/\H l=some (.lst ((vG as i).map V.int))
 no:∀i,jk rk (Sum.inl i)=none->vG as i=[]
def WSt(H:Hp)(as:List (Int×Int))(n:Nat)(s:Int)(r d:Addr)(m:Nat)(σ:St)(H':Hp):Prop:=
 ∃(e:Addr) (es:List Int) (ps:List (Int×Int)) (v4 v5 v6:Option V),σ=[some (.int s),some (.ref r),some (.ref d),some (.ref e),v4,v5,v6]/\H e=none/\e≠d/\H' e=some (.lst (es.map V.int))/\H' d=some (.dK (dkI ps))/\Same H H' /\
  (ps.map (·.1)).Nodup/\(∀j∈ps.map (·.1),∃k,Wk as k s j)/\s∈ps.map (·.1)/\(∀j∈es,j∈ps.map (·.1))/\(∀x∈ps.map (·.1),x∉es->∀y,(x,y)∈as->y∈ps.map (·.1))/\es.length<=60/\m=2*(n-ps.length)+(if es=[] then 0 else 1)
structure RSt(as:List (Int×Int))(s:Int)(d l:Addr)(ps:List (Int×Int))(H H':Hp)(qs:List (Int×Int))(rs:List Int):Prop where
 hd:H' d=some (.dK (dkI qs))
 hl:H' l=some (.lst (rs.map V.int))
 sm:Same H H'
 nd:(qs.map (·.1)).Nodup
 snd:∀j∈qs.map (·.1),∃k,Wk as k s j
 eq:qs.map (·.1)=ps.map (·.1)++rs
section
variable{P:Program}{w:World}{K:PySem.W.Frag}{mg:Str->Option Value}{base:Heap}
inductive Jq(K:PySem.W.Frag)(vs:List V)(H:Hp)(Q:VK):Prop
 | mk (s:Int) (r:Addr) (rk:List (Key×V)) (as:List (Int×Int)) (n:Nat) (_:vs=[.int s,.ref r]) (_:H r=some (.dK rk)) (_:zc5 H rk as) (_:n<=60) (_:InN n s) (_:(∀p∈as,InN n p.2)) (_:as.length<=1000) (_:∀(d:Addr) (ps:List (Int×Int)) H',Same H H'->H d=none->H' d=some (.dK (dkI ps))->(ps.map (·.1)).Nodup->ps.length<=n->(∀j,j∈ps.map (·.1)↔∃k,Wk as k s j)->Q (.ref d) H'):Jq K vs H Q
def Yg(K:PySem.W.Frag):Sp:=fun vs H Q _=>Jq K vs H Q
theorem YA:zI ["start", "rows", "steps", "edge", "reached", "part", "other"] ["start", "rows"] (zv (topL 8)):=⟨rfl,rfl,rfl,by decide +kernel,rfl,by decide +kernel,by decide +kernel⟩
theorem zcr{f:Addr}{fd:FuncData}(F:Fun K "steps_from" "steps_from" (topL 8) f fd)(B:Blt mg):qS P w K mg base CX0 1 f fd ["start", "rows"] (Yg K):=by
 have nd:=YA.nd
 refine F.ok YA (fun vs H Q E h=>?_) (fun cdv A outer s H vs Q E hr h=>?_)
 ·obtain⟨s,r,rk,as,n,rfl,_⟩:=h
  rfl
 ·obtain⟨s,r,rk,as,n,rfl,hR,ro,n60,ins,ina,al,k⟩:=h
  have hbig:100000<sizeLine:=by rw[sizeLine_eq];decide
  have hu1:=zcO hr
  refine⟨_,(zf (zF (i:=2) nd rfl (Or.inl rfl) (zdx (zcd (pv 0) ze zdp) rfl rfl (by intro z;cases z) (by show 1<=15;decide)))
   (zf (zF (i:=3) nd rfl (Or.inl rfl) (zO (za (pv 0) zc)))
   (zf (Vx jB (zdn (pv 3))
   (zf (zF (i:=4) nd rfl (Or.inl rfl) (zO zc))
    (zf (ja jB rfl (jO (pv 3)) (zr (i:=5) nd rfl (Or.inl rfl))
    (zi (ja jB rfl (jO (zcm hu1 (pv 1) (pv 5) (zO zc) ⟨rfl,rfl,rfl,rfl⟩)) (zr (i:=6) nd rfl (Or.inl rfl))
     (zi (qe (ze3 (zaV hu1 (pv 6) (pv 2)))
      (zf (zdo hu1 (pv 2) (pv 6) (zw zU (zdy hu1 (pv 2) (pv 5) (fun _ _=>rfl)) ze) rfl)
       (zi (jn (xz xG wz wx jz (pv 4) (za (pv 6) zc)))))
      zJ)))))
    (zi (zF (i:=3) nd rfl (Or.inl rfl) (pv 4))))))
   (zi (zt (pv 2)))))),?_⟩
  refine fun d hd=>⟨_,rfl,zb,[(Sum.inl s,.int 0)],rfl,(by show 1<=15;decide),_,rfl,le1,fun e he=>?_⟩
  have ed:e≠d:=fun z=>by rw[z,zb] at he;cases he
  have e0:H e=none:=by rw[zo ed,zo ed] at he;exact he
  have s0:Same H (upd (upd (upd H d (.dK [])) d (.dK (j3 [] [(Sum.inl s,V.int 0)]))) e (.lst [.int s])):=fun c o z=>by rw[zo (zn z e0),zo (zn z hd),zo (zn z hd)];exact z
  have dd0:(upd (upd (upd H d (.dK [])) d (.dK (j3 [] [(Sum.inl s,V.int 0)]))) e (.lst [.int s])) d=some (.dK (dkI [(s,0)])):=by rw[zo (qH ed),zb];rfl
  have ee0:(upd (upd (upd H d (.dK [])) d (.dK (j3 [] [(Sum.inl s,V.int 0)]))) e (.lst [.int s])) e=some (.lst ([s].map V.int)):=zb
  generalize upd (upd (upd H d (.dK [])) d (.dK (j3 [] [(Sum.inl s,V.int 0)]))) e (.lst [.int s])=H1 at s0 dd0 ee0
  refine⟨WSt H as n s r d,⟨_,e,[s],[(s,0)],_,_,_,rfl,e0,ed,ee0,dd0,s0,by simp,fun j hj=>⟨0,by simp at hj;exact hj.symm⟩,by simp,by simp,fun x hx hn=>absurd hx (by simpa using hn),by simp,rfl⟩,?_⟩
  rintro m σ H2 ⟨e,es,ps,v4,v5,v6,rfl,en,ned,he2,hd2,s2,nd2,snd,hs2,sub2,cl2,el,rfl⟩
  have inn:∀j∈ps.map (·.1),InN n j:=fun j hj=>by
   obtain⟨k,wk⟩:=snd j hj
   exact Wk.closed (C:=InN n) (fun x y _ h=>ina _ h) ins wk
  have pl:ps.length<=n:=by have:=vv nd2 inn;rwa[zq] at this
  refine⟨_,rfl,e,_,rfl,SqL.of he2,?_⟩
  cases es with
  | nil=>
   refine ifF (by rfl) ?_
   refine⟨_,rfl,k d ps H2 s2 hd hd2 nd2 pl fun j=>⟨snd j,fun ⟨k,wk⟩=>Wk.closed (C:=fun j=>j∈ps.map (·.1)) (fun x y hx h=>cl2 x hx (by simp) y h) hs2 wk⟩⟩
  | cons e1 er=>
   refine ifT (by rfl) ?_
   refine⟨fun σ' H'=>∃m',m'<2*(n-ps.length)+(if e1::er=[] then 0 else 1)/\WSt H as n s r d m' σ' H',fun _ _ h=>h,?_⟩
   refine⟨le0,fun l hl=>?_⟩
   have lH:H l=none:=by
    cases z:H l with
    | none=>rfl
    | some o=>rw[s2 _ _ z] at hl;cases hl
   have ld:l≠d:=fun z=>by rw[z,hd2] at hl;cases hl
   have le:l≠e:=fun z=>by rw[z,he2] at hl;cases hl
   refine⟨_,rfl,e,rfl,⟨_,SqL.of ((zd hl) _ _ he2)⟩,xZ (K:=K) (a:=e) (xs:=(e1::er).map V.int) (fun i σ H'=>Ex4 fun(v5 v6:Option V) (qs:List (Int×Int)) (rs:List Int)=>An4 (σ=[some (.int s),some (.ref r),some (.ref d),some (.ref e),some (.ref l),v5,v6]) (H' e=some (.lst ((e1::er).map V.int))) (RSt as s d l ps H H' qs rs) ((∀x∈(e1::er).take i,∀y,(x,y)∈as->y∈qs.map (·.1))))
    ⟨_,_,ps,[],rfl,(zd hl) _ _ he2,⟨(zd hl) _ _ hd2,zb,s2.trans (zd hl),nd2,snd,by simp⟩,by simp⟩ (fun i σ H' _ ⟨_,_,_,_,_,h,_,_⟩=>SqL.of h) ?_ ?_⟩
   ·rintro i x σ H3 hx ⟨v5,v6,qs,rs,rfl,he3,R3,cl3⟩
    rw[qr] at hx
    obtain⟨x,ex,rfl⟩:=jc.mp hx
    have et:(e1::er).take (i+1)=(e1::er).take i++[x]:=by
     obtain⟨h1,h2⟩:=zN.mp ex
     rw[<- h2,y9]
    have xk:x∈ps.map (·.1):=sub2 x (jl ex)
    have xq:x∈qs.map (·.1):=by rw[R3.eq];exact xc _ xk
    refine⟨_,rfl,r,rfl,.inl ⟨_,.inl (R3.sm _ _ hR)⟩,_,rfl,le0,fun q hq=>?_⟩
    have sq:=zd (H:=H3) (o:=.lst []) hq
    have qd:q≠d:=fun z=>by rw[z,R3.hd] at hq;cases hq
    have ql:q≠l:=fun z=>by rw[z,R3.hl] at hq;cases hq
    refine⟨_,.inl ⟨rk,Sum.inl x,.inl (sq _ _ (R3.sm _ _ hR)),rfl,rfl⟩,?_⟩
    have tt:∃t,(jk rk (Sum.inl x)).getD (.ref q)=.ref t/\upd H3 q (.lst []) t=some (.lst ((vG as x).map V.int))/\t≠d/\t≠l:=by
     cases z:jk rk (Sum.inl x) with
     | none=>exact⟨q,rfl,by rw[ro.no x z];exact zb,qd,ql⟩
     | some v=>
      obtain⟨t,rfl,ht⟩:=ro.at_ x v z
      exact⟨t,rfl,sq _ _ (R3.sm _ _ ht),zn ht hd,zn ht lH⟩
    obtain⟨t,etq,ht,td,tl⟩:=tt
    rw[etq]
    refine⟨t,rfl,⟨_,SqL.of ht⟩,xZ (K:=K) (a:=t) (xs:=(vG as x).map V.int) (fun k σ H'=>Ex3 fun(v6:Option V) (qs:List (Int×Int)) (rs:List Int)=>An6 (σ=[some (.int s),some (.ref r),some (.ref d),some (.ref e),some (.ref l),some (.int x),v6]) (H' e=some (.lst ((e1::er).map V.int))) (H' t=some (.lst ((vG as x).map V.int))) (RSt as s d l ps H H' qs rs) ((∀x∈(e1::er).take i,∀y,(x,y)∈as->y∈qs.map (·.1))) (∀y∈(vG as x).take k,y∈qs.map (·.1)))
     ⟨_,qs,rs,rfl,sq _ _ he3,ht,⟨sq _ _ R3.hd,sq _ _ R3.hl,R3.sm.trans sq,R3.nd,R3.snd,R3.eq⟩,cl3,by simp⟩ (fun i σ H' _ ⟨_,_,_,_,_,h,_,_,_⟩=>SqL.of h) ?_ ?_⟩
    ·rintro j y σ H4 hy ⟨v6,qs,rs,rfl,he4,ht4,R4,cl4,dn4⟩
     rw[qr] at hy
     obtain⟨y,ey,rfl⟩:=jc.mp hy
     have ety:(vG as x).take (j+1)=(vG as x).take j++[y]:=by
      obtain⟨h1,h2⟩:=zN.mp ey
      rw[<- h2,y9]
     have xy:(x,y)∈as:=VM.mp (jl ey)
     have xk4:x∈qs.map (·.1):=by rw[R4.eq];exact xc _ xk
     refine⟨_,rfl,_,rfl,d,_,rfl,.inl ⟨_,Sum.inl y,.inl R4.hd,rfl,rfl⟩,?_⟩
     rcases Xy qs y with ⟨v,hv,my⟩ | ⟨hv,my⟩
     ·rw[hv]
      refine⟨_,rfl,ifF (by rfl) ?_⟩
      refine⟨_,qs,rs,rfl,he4,ht4,R4,cl4,fun z hz=>?_⟩
      rw[ety] at hz
      rcases qL.mp hz with h | h
      ·exact dn4 z h
      ·rw[qR.mp h];exact my
     ·rw[hv]
      refine⟨_,rfl,ifT (by rfl) ?_⟩
      rcases Xy qs x with ⟨vx,hvx,_⟩ | ⟨_,z⟩
      ·have inq:∀j∈qs.map (·.1),InN n j:=fun j hj=>by
        obtain⟨k,wk⟩:=R4.snd j hj
        exact Wk.closed (C:=InN n) (fun x y _ h=>ina _ h) ins wk
       have ql:qs.length<=n:=by have:=vv R4.nd inq;rwa[zq] at this
       have lq:qs.length=ps.length+rs.length:=by
        have:=congrArg List.length R4.eq
        rwa[qJ,zq,zq] at this
       refine⟨_,rfl,_,rfl,d,_,rfl,.inl ⟨_,Sum.inl x,.inl R4.hd,rfl,hvx.symm⟩,_,_,rfl,rfl,_,rfl,_,rfl,d,_,rfl,.inl ⟨_,Sum.inl y,R4.hd,rfl,by rw[Y7];omega,rfl⟩,?_⟩
       rw[zd6 hv]
       have H5l:upd H4 d (.dK (dkI (qs++[(y,vx+1)]))) l=some (.lst (rs.map V.int)):=by rw[zo ld];exact R4.hl
       refine⟨_,rfl,.inl ⟨rfl,_,SqL.of H5l⟩,_,rfl,l,_,_,rfl,rfl,H5l,by rw[zq];omega,?_⟩
       refine⟨_,qs++[(y,vx+1)],rs++[y],rfl,by rw[zo (qH le),zo ned];exact he4,by rw[zo tl,zo td];exact ht4,⟨by rw[zo (qH ld)];exact zb,by rw[zb,zW];rfl,fun c o z=>by rw[zo (zn z lH),zo (zn z hd)];exact R4.sm _ _ z,?_,?_,by rw[zW,R4.eq,vU];rfl⟩,fun z hz u hu=>?_,fun z hz=>?_⟩
       ·rw[zW]
        exact ym R4.nd my
       ·intro z hz
        rw[zW] at hz
        rcases qL.mp hz with h | h
        ·exact R4.snd z h
        ·obtain⟨k,wk⟩:=R4.snd x xk4
         rw[qR.mp h]
         exact⟨k+1,wk.snoc xy⟩
       ·rw[zW]
        exact xc _ (cl4 z hz u hu)
       ·rw[ety] at hz
        rw[zW]
        rcases qL.mp hz with h | h
        ·exact xc _ (dn4 z h)
        ·exact qX _ h
      ·exact absurd xk4 z
    ·rintro σ H4 ⟨v6,qs,rs,rfl,he4,ht4,R4,cl4,dn4⟩
     rw[zq,je] at dn4
     refine⟨_,_,qs,rs,rfl,he4,R4,fun z hz y hy=>?_⟩
     rw[et] at hz
     rcases qL.mp hz with h | h
     ·exact cl4 z h y hy
     ·rw[qR.mp h] at hy
      exact dn4 y (VM.mpr hy)
   ·rintro σ H3 ⟨v5,v6,qs,rs,rfl,he3,R3,cl3⟩
    rw[zq,je] at cl3
    have inq:∀j∈qs.map (·.1),InN n j:=fun j hj=>by
     obtain⟨k,wk⟩:=R3.snd j hj
     exact Wk.closed (C:=InN n) (fun x y _ h=>ina _ h) ins wk
    have ql:qs.length<=n:=by have:=vv R3.nd inq;rwa[zq] at this
    have lq:qs.length=ps.length+rs.length:=by
     have:=congrArg List.length R3.eq
     rwa[qJ,zq,zq] at this
    refine⟨_,rfl,2*(n-qs.length)+(if rs=[] then 0 else 1),?_,l,rs,qs,_,_,_,rfl,lH,ld,R3.hl,R3.hd,R3.sm,R3.nd,R3.snd,by rw[R3.eq];exact xc _ hs2,fun j hj=>by rw[R3.eq];exact qX _ hj,fun x hx hn y hy=>?_,by omega,rfl⟩
    ·rw[if_neg (by simp:¬e1::er=[])]
     split
     ·omega
     ·rename_i h
      have:=Q0.mpr h
      omega
    ·rw[R3.eq] at hx
     rcases qL.mp hx with h | h
     ·by_cases hx2:x∈e1::er
      ·exact cl3 x hx2 y hy
      ·rw[R3.eq];exact xc _ (cl2 x h hx2 y hy)
     ·exact absurd h hn
end
theorem zei{ms ns:List Int}(p:ms.Perm ns)(nd:ns.Nodup)(h:ms.Pairwise (·<= ·)):ms.Pairwise (·< ·):=by
 have n':ms.Pairwise (·≠ ·):=p.nodup_iff.mpr nd
 exact(h.and n').imp fun ⟨a,b⟩=>by omega
section
variable{P:Program}{w:World}{K:PySem.W.Frag}{mg:Str->Option Value}{base:Heap}
inductive Yw(K:PySem.W.Frag)(vs:List V)(H:Hp)(Q:VK):Prop
 | mk (s:Int) (r:Addr) (rk:List (Key×V)) (as:List (Int×Int)) (n:Nat) (_:vs=[.int s,.ref r]) (_:H r=some (.dK rk)) (_:zc5 H rk as) (_:n<=60) (_:InN n s) (_:(∀p∈as,InN n p.2)) (_:as.length<=1000) (_:∀(l:Addr) (ms:List Int) H',Same H H'->H l=none->H' l=some (.lst (ms.map V.int))->ms.length<=60->ms.Pairwise (·< ·)->(∀j,j∈ms↔j≠s/\∃k,Wk as k s j)->Q (.ref l) H'):Yw K vs H Q
def zeo(K:PySem.W.Frag):Sp:=fun vs H Q _=>Yw K vs H Q
theorem zey:zI ["part", "rows"] ["part", "rows"] (zv (topL 9)):=⟨rfl,rfl,rfl,by decide +kernel,rfl,by decide +kernel,by decide +kernel⟩
theorem zfn{f:Addr}{fd:FuncData}(F:Fun K "all_from" "all_from" (topL 9) f fd)(B:Blt mg)(Dsteps_from:Dfn P w K mg base "steps_from" 1 ["start", "rows"] (Yg K)):qS P w K mg base CX0 2 f fd ["part", "rows"] (zeo K):=by
 have nd:=zey.nd
 refine F.ok zey (fun vs H Q E h=>?_) (fun cdv A outer s H vs Q E hr h=>?_)
 ·obtain⟨s,r,rk,as,n,rfl,_⟩:=h
  rfl
 ·obtain⟨s,r,rk,as,n,rfl,hR,ro,n60,ins,ina,al,k⟩:=h
  have hbig:100000<sizeLine:=by rw[sizeLine_eq];decide
  refine⟨_,(zi (zt (zj vQ rfl B.sorted xb (za (jS ["part"] [0] rfl rfl (by kernel_rfl) (zcj (zg Dsteps_from (hr.mono (by decide)) rfl (za (pv 0) (za (pv 1) zc)))) (fun _ _ _ _=>(yj (zA ZC (pv 0) (pv 1) (zB _)))) (fun _ _ _ _=>(pv 0))) zc)))),?_⟩
  refine⟨_,rfl,_,rfl,s,r,rk,as,n,rfl,hR,ro,n60,ins,ina,al,fun d ps H1 s1 hd hd1 nd1 lp mem=>⟨d,_,rfl,hd1,fun o=>zcI (d:=d) (o:=o) (kvs:=dkI ps) (fun i zs H'=>zs=(((ps.take i).map (·.1)).filter fun j=>decide (j≠s)).map V.int/\H'=upd H1 d (.frz o (.dK (dkI ps)))) ⟨rfl,rfl⟩ (fun i zs H' ⟨_,h⟩=>by rw[h];exact zb) ?_ ?_⟩⟩
  ·rintro i kk v zs H2 hx ⟨rfl,rfl⟩
   unfold dkI at hx
   rw[qr] at hx
   obtain⟨p,ep,e1⟩:=jc.mp hx
   cases e1
   have et:ps.take (i+1)=ps.take i++[p]:=by
    obtain⟨h1,h2⟩:=zN.mp ep
    rw[<- h2,y9]
   have hi:=(zN.mp ep).1
   rw[et,zW,QK,zW]
   have lf:=yZ (fun j=>decide (j≠s)) ((ps.take i).map (·.1))
   rw[zq,z9] at lf
   refine⟨rfl,_,rfl,_,rfl,rfl,_,rfl,?_⟩
   by_cases c:p.1=s
   ·refine ifF (by show(!decide (V.int p.1=V.int s))=false;rw[c];simp) ⟨?_,rfl⟩
    simp[c]
   ·refine ifT (by show(!decide (V.int p.1=V.int s))=true;rw[jQ (fun z=>c (V.int.inj z))];rfl) ⟨_,rfl,by rw[zq];omega,?_,rfl⟩
    simp[c,kV]
  ·rintro zs H2 ⟨rfl,rfl⟩
   rw[Y7,je]
   have lf:=yZ (fun j=>decide (j≠s)) (ps.map (·.1))
   rw[zq] at lf
   refine⟨by rw[zq];omega,fun l hl=>⟨l,(ps.map (·.1)).filter fun j=>decide (j≠s),rfl,SqL.of zb,by omega,fun l2 ms hl2 pm pw=>?_⟩⟩
   have ld:l≠d:=fun z=>by rw[z,zb] at hl;cases hl
   have h1l:H1 l=none:=by rw[zo ld] at hl;exact hl
   have s3:Same H (upd (upd H1 d (.frz o (.dK (dkI ps)))) l (.lst (((ps.map (·.1)).filter fun j=>decide (j≠s)).map V.int))):=fun c o z=>by
    rw[zo (zn (s1 _ _ z) h1l),zo (zn z hd)]
    exact s1 _ _ z
   refine k l2 ms _ (s3.trans (zd hl2)) ?_ zb (by rw[pm.length_eq];omega) (zei pm (nd1.filter _) pw) fun j=>?_
   ·cases z:H l2 with
    | none=>rfl
    | some o=>rw[s3 _ _ z] at hl2;cases hl2
   ·rw[pm.mem_iff,vT,mem j]
    constructor
    ·rintro⟨a,b⟩;exact⟨qW b,a⟩
    ·rintro⟨a,b⟩;exact⟨b,qF a⟩
def asI(J:Job):List (Int×Int):=J.as.map fun p=>((p.1:Int),(p.2:Int))
theorem zed(J:Job):(asI J).map prD=J.as.map qP:=by
 unfold asI
 rw[xn]
 rfl
theorem Z7(J:Job):(asI J).length=J.as.length:=zq _
inductive Jx(K:PySem.W.Frag)(vs:List V)(H:Hp)(Q:VK):Prop
 | mk (s:Int) (p:Addr) (J:Job) (_:vs=[.ref p,.int s]) (_:Rep K H (vj J) (.ref p)) (_:J.ps.length<=60) (_:InN J.ps.length s) (_:(∀q∈asI J,InN J.ps.length q.1/\InN J.ps.length q.2)) (_:J.as.length<=300) (_:∀(l:Addr) (ms:List Int) H',Same H H'->H l=none->H' l=some (.lst (ms.map V.int))->ms.length<=60->ms.Pairwise (·< ·)->(∀j,j∈ms↔j≠s/\∃k,Wk (asI J) k j s)->Q (.ref l) H'):Jx K vs H Q
def Yx(K:PySem.W.Frag):Sp:=fun vs H Q _=>Jx K vs H Q
theorem Qv{J:Job}{H:Hp}{p:Addr}(h:Rep K H (vj J) (.ref p)):∃(t:Addr) (x0 x1 x2 x3:V) (xs:List V),SqT K H p [x0,x1,x2,x3,.ref t]/\SqT K H t xs/\Reps K H ((asI J).map prD) xs:=by
 obtain⟨a,xs,e,qa,x0,_,rfl,_,x1,_,rfl,_,x2,_,rfl,_,x3,_,rfl,_,x4,r4,rfl,e4,rfl⟩:=h
 cases e
 obtain⟨t,ys,rfl,qt,ry⟩:=e4
 exact⟨t,_,_,_,_,ys,qa,qt,by rw[zed];exact ry⟩
theorem YH:zI ["job", "part"] ["job", "part"] (zv (topL 10)):=⟨rfl,rfl,rfl,by decide +kernel,rfl,by decide +kernel,by decide +kernel⟩
theorem zcy{f:Addr}{fd:FuncData}(F:Fun K "ahead_of" "ahead_of" (topL 10) f fd)(B:Blt mg)(Dturned:Dfn P w K mg base "turned" 1 ["pairs"] (Yc K))(Dnext_by:Dfn P w K mg base "next_by" 1 ["pairs"] (zbH K))(Dall_from:Dfn P w K mg base "all_from" 2 ["part", "rows"] (zeo K)):qS P w K mg base CX0 3 f fd ["job", "part"] (Yx K):=by
 have nd:=YH.nd
 refine F.ok YH (fun vs H Q E h=>?_) (fun cdv A outer s H vs Q E hr h=>?_)
 ·obtain⟨s,p,J,rfl,_⟩:=h
  rfl
 ·obtain⟨s,p,J,rfl,rp,n60,ins,ina,al,k⟩:=h
  have hbig:100000<sizeLine:=by rw[sizeLine_eq];decide
  refine⟨_,(zi (zt (zg Dall_from (hr.mono (by decide)) rfl (za (pv 1) (za (zg Dnext_by (hr.mono (by decide)) rfl (za (zg Dturned (hr.mono (by decide)) rfl (za (zE qD (pv 0) ze (fun _ _=>rfl)) zc)) zc)) zc))))),?_⟩
  obtain⟨t,x0,x1,x2,x3,xs,qa,qt,rx⟩:=Qv rp
  refine⟨_,rfl,_,rfl,p,_,_,_,rfl,rfl,qa,rfl,t,xs,asI J,rfl,qt,rx,by rw[Z7];omega,fun l0 ys H0 s0 hl0 ry=>?_⟩
  have em:((asI J).map Prod.swap).map prD=(asI J).map fun p=>prD p.swap:=by rw[xn];rfl
  refine⟨l0,ys,(asI J).map Prod.swap,rfl,.inl (SqL.of hl0),by rw[em];exact ry,by rw[zq,Z7];omega,fun d kvs H1 s1 hd hd1 nb=>?_⟩
  refine⟨s,d,kvs,(asI J).map Prod.swap,J.ps.length,rfl,hd1,⟨fun i v hv=>let ⟨l,a,_,b⟩:=nb.at_ i v hv;⟨l,a,b⟩,nb.no⟩,n60,ins,fun q hq=>?_,by rw[zq,Z7];omega,fun l ms H2 s2 hl hl2 mlen pw mem=>?_⟩
  ·obtain⟨q',hq',rfl⟩:=jC.mp hq
   exact(ina q' hq').1
  refine k l ms H2 (s0.trans (s1.trans s2)) ?_ hl2 mlen pw fun j=>?_
  ·cases z:H l with
   | none=>rfl
   | some o=>rw[s1 _ _ (s0 _ _ z)] at hl;cases hl
  ·rw[mem j]
   refine⟨fun ⟨a,k,b⟩=>⟨a,k,?_⟩,fun ⟨a,k,b⟩=>⟨a,k,b.back⟩⟩
   have:=b.back
   rwa[Q9] at this
end
def dkB(ks:List Int):List (Key×V):=ks.map fun j=>(Sum.inl j,V.bl true)
def X0(ks:List Int)(j:Int):List Int:=if j∈ks then ks else ks++[j]
def yy(ks js:List Int):List Int:=js.foldl X0 ks
theorem Y8:∀(ks:List Int) (i:Int),(jk (dkB ks) (Sum.inl i)=some (.bl true)/\i∈ks)\/(jk (dkB ks) (Sum.inl i)=none/\i∉ks)
 | [],i=>.inr ⟨rfl,by simp⟩
 | p::ps,i=>by
  by_cases h:p=i
  ·exact .inl ⟨jx (by show Sum.inl p=_;rw[h]),by simp[h]⟩
  ·have e:jk (dkB (p::ps)) (Sum.inl i)=jk (dkB ps) (Sum.inl i):=jy (fun z=>h (vo z))
   rcases Y8 ps i with ⟨h1,h2⟩ | ⟨h1,h2⟩
   ·exact .inl ⟨e.trans h1,jE _ h2⟩
   ·exact .inr ⟨e.trans h1,by simp only[qq];rintro(z | z);exact h z.symm;exact h2 z⟩
theorem zd7(ks:List Int)(j:Int):xm (dkB ks) (Sum.inl j) (.bl true)=dkB (X0 ks j):=by
 unfold X0
 rcases Y8 ks j with ⟨h1,h2⟩ | ⟨h1,h2⟩
 ·rw[if_pos h2]
  unfold xm
  rw[if_pos (by rw[vp,h1];rfl)]
  unfold dkB
  rw[xn]
  refine List.map_congr_left fun x _=>?_
  show(if(Sum.inl x:Key)=Sum.inl j then((Sum.inl x:Key),V.bl true) else(Sum.inl x,V.bl true))=_
  split<;>rfl
 ·rw[if_neg h2,Vw _ h1]
  unfold dkB
  rw[zW]
  rfl
theorem Zn:∀(js ks:List Int),j3 (dkB ks) (dkB js)=dkB (yy ks js)
 | [],ks=>rfl
 | j::js,ks=>by
  show j3 (xm (dkB ks) (Sum.inl j) (.bl true)) (dkB js)=dkB (yy (X0 ks j) js)
  rw[zd7,Zn js]
theorem zcA{ks:List Int}{j x:Int}:x∈X0 ks j↔x∈ks\/x=j:=by
 unfold X0
 split
 ·rename_i h
  constructor
  ·exact .inl
  ·rintro(z | z)
   ·exact z
   ·rw[z];exact h
 ·rw[qL,qR]
theorem vw:∀{js ks:List Int} {x:Int},x∈yy ks js↔x∈ks\/x∈js
 | [],ks,x=>by simp[yy]
 | j::js,ks,x=>by
  show x∈yy (X0 ks j) js↔_
  rw[vw,zcA,qq,or_assoc]
theorem Wz{ks:List Int}{j:Int}(h:ks.Nodup):(X0 ks j).Nodup:=by
 unfold X0
 split
 ·exact h
 ·rename_i z
  exact ym h z
theorem yk:∀{js ks:List Int},ks.Nodup->(yy ks js).Nodup
 | [],_,h=>h
 | j::js,ks,h=>yk (js:=js) (Wz h)
theorem Z6(ks:List Int):(dkB ks).length=ks.length:=zq _
theorem Jn{α:Type}{l:List α}{i:Nat}{x:α}(h:l[i]? =some x):l.take (i+1)=l.take i++[x]:=by
 obtain⟨h1,h2⟩:=zN.mp h
 rw[<- h2,y9]
structure Ov(H H':Hp)(ds:List Addr)(κ:Nat->List Int):Prop where
 nd:ds.Nodup
 at_:∀(p:Nat) (d:Addr),ds[p]? =some d->H d=none/\H' d=some (.dK (dkB (κ p)))
 sm:Same H H'
theorem Ov.snoc{H H1 H2:Hp}{ds:List Addr}{κ:Nat->List Int}{d:Addr}(o:Ov H H1 ds κ)(s:Same H1 H2)(h1:H1 d=none)(h2:H2 d=some (.dK (dkB (κ ds.length)))):Ov H H2 (ds++[d]) κ:=by
 refine⟨ym o.nd fun z=>?_,fun p e he=>?_,o.sm.trans s⟩
 ·obtain⟨p,hp⟩:=List.getElem?_of_mem z
  rw[(o.at_ p d hp).2] at h1
  cases h1
 ·by_cases hp:p<ds.length
  ·rw[vW hp] at he
   exact⟨(o.at_ p e he).1,s _ _ (o.at_ p e he).2⟩
  ·rw[vF (by omega)] at he
   have:p=ds.length:=by
    have:=(zN.mp he).1
    simp at this;omega
   subst this
   simp at he
   subst he
   refine⟨?_,h2⟩
   cases z:H d with
   | none=>rfl
   | some o'=>rw[o.sm _ _ z] at h1;cases h1
def WH(as:List (Int×Int))(p:Nat):List Int:=yy [] ((as.filter fun q=>decide (q.2=(p:Int))).map (·.1))
theorem XD{ds:List Addr}{p:Nat}{d:Addr}(h:ds[p]? =some d):atI (ds.map V.ref) (p:Int)=some (.ref d):=by
 have hp:=(zN.mp h).1
 obtain⟨v,h1,h2⟩:=yn (xs:=ds.map V.ref) (i:=(p:Int)) (by omega) (by rw[zq];omega)
 rw[h1,<- h2,vf,qr,h]
 rfl
theorem Ov.upd{H H':Hp}{ds:List Addr}{κ:Nat->List Int}{p:Nat}{d:Addr}(o:Ov H H' ds κ)(h:ds[p]? =some d)(ks:List Int):Ov H (upd H' d (.dK (dkB ks))) ds (fun x=>if x=p then ks else κ x):=by
 refine⟨o.nd,fun q e he=>⟨(o.at_ q e he).1,?_⟩,fun c o' z=>by rw[zo (zn z (o.at_ p d h).1)];exact o.sm _ _ z⟩
 by_cases c:q=p
 ·subst c
  rw[h] at he
  cases he
  rw[zb,if_pos rfl]
 ·have ne:e≠d:=fun z=>by
   subst z
   obtain⟨h1,h2⟩:=zN.mp h
   obtain⟨h3,h4⟩:=zN.mp he
   exact c ((Zx o.nd).mp (h4.trans h2.symm))
  rw[zo ne,if_neg c]
  exact(o.at_ q e he).2
theorem Ov.same{H H' H2:Hp}{ds:List Addr}{κ:Nat->List Int}(o:Ov H H' ds κ)(s:Same H' H2):Ov H H2 ds κ:=⟨o.nd,fun p d h=>⟨(o.at_ p d h).1,s _ _ (o.at_ p d h).2⟩,o.sm.trans s⟩
def W6(as:List (Int×Int))(κ:Nat->List Int):Prop:=∀p:Nat,(κ p).Nodup/\∀q∈κ p,∃k,1<=k/\Wk as k q p
def zeg(as:List (Int×Int))(κ:Nat->List Int)(m p:Nat):Prop:=∀q k,1<=k->k<=m->Wk as k q p->q∈κ p
theorem VO{as:List (Int×Int)}{p:Nat}{q:Int}:q∈WH as p↔(q,(p:Int))∈as:=by
 unfold WH
 rw[vw,jC]
 constructor
 ·rintro(z | ⟨⟨a,b⟩,h,rfl⟩)
  ·exact absurd z (by simp)
  ·obtain⟨h1,h2⟩:=vT.mp h
   rw[<- qW h2]
   exact h1
 ·intro h
  exact .inr ⟨_,vT.mpr ⟨h,qF rfl⟩,rfl⟩
theorem zgR(as:List (Int×Int)):W6 as (WH as):=fun p=>⟨yk List.nodup_nil,fun q h=>⟨1,zC _,_,VO.mp h,rfl⟩⟩
theorem zgS(as:List (Int×Int))(p:Nat):zeg as (WH as) 1 p:=fun q k h1 h2 wk=>by
 cases(show k=1 by omega)
 obtain⟨m,h,e⟩:=wk
 cases(show m=(p:Int) from e)
 exact VO.mpr h
theorem Wk.rank{as:List (Int×Int)}{rk:Int->Nat}(h:∀q∈as,rk q.1<rk q.2):∀{k:Nat} {a b:Int},Wk as k a b->rk a+k<=rk b
 | 0,a,b,e=>by cases(show a=b from e);exact zC _
 | k+1,a,b,⟨m,e,w⟩=>by
  have:=Wk.rank h w
  have:rk a<rk m:=h (a,m) e
  omega
theorem Wk.in1{as:List (Int×Int)}{n:Nat}(h:∀q∈as,InN n q.1/\InN n q.2):∀{k:Nat} {a b:Int},1<=k->Wk as k a b->InN n a
 | k+1,a,b,_,⟨m,e,w⟩=>(h _ e).1
theorem zd1{as:List (Int×Int)}{κ:Nat->List Int}{p o:Nat}(g:W6 as κ)(h:(o:Int)∈κ p):W6 as (fun x=>if x=p then yy (κ p) (κ o) else κ x):=fun x=>by
 dsimp only
 by_cases c:x=p
 ·subst c
  rw[if_pos rfl]
  refine⟨yk (g x).1,fun q hq=>?_⟩
  rcases vw.mp hq with z | z
  ·exact(g x).2 q z
  ·obtain⟨k1,a1,w1⟩:=(g o).2 q z
   obtain⟨k2,a2,w2⟩:=(g x).2 _ h
   exact⟨k1+k2,by omega,w1.add w2⟩
 ·rw[if_neg c]
  exact g x
theorem za7{as:List (Int×Int)}{κ κ':Nat->List Int}{n m p:Nat}{ks:List Int}(ina:∀q∈as,InN n q.1/\InN n q.2)(f:∀x<n,zeg as κ m x)(hp:p<n)(sub:∀x q,q∈κ x->q∈κ' x)(s1:∀q∈κ' p,q∈ks)(s2:∀o∈κ' p,∀q∈κ' o.toNat,q∈ks) :
  ∀q k,1<=k->k<=2*m->Wk as k q p->q∈ks:=fun q k h1 h2 wk=>by
 by_cases c:k<=m
 ·exact s1 q (sub p q (f p hp q k h1 c wk))
 ·have e:k=m+(k-m):=by omega
  rw[e] at wk
  by_cases m0:m=0
  ·omega
  obtain⟨j,w1,w2⟩:=wk.split
  have hj:=Wk.in1 ina (by omega) w2
  have ej:((j.toNat:Nat):Int)=j:=by have:=hj.1;omega
  have mj:=sub p j (f p hp j (k-m) (by omega) (by omega) w2)
  refine s2 j mj q (sub _ _ (f j.toNat (by have:=hj.1;have:=hj.2;omega) q m (by omega) (zC _) ?_))
  rw[ej]
  exact w1
def Rws(H H':Hp)(mss:List (List Int))(zs:List V):Prop:=zs.length=mss.length/\∀(p:Nat) (ms:List Int),mss[p]? =some ms->∃a,zs[p]? =some (.ref a)/\H a=none/\H' a=some (.lst (ms.map V.int))
theorem Rws.same{H H' H'':Hp}{mss:List (List Int)}{zs:List V}(h:Rws H H' mss zs)(s:Same H' H''):Rws H H'' mss zs:=⟨h.1,fun p ms e=>by
 obtain⟨a,e1,e2,e3⟩:=h.2 p ms e
 exact⟨a,e1,e2,s _ _ e3⟩⟩
theorem Rws.snoc{H H':Hp}{mss:List (List Int)}{zs:List V}{l:Addr}{ms:List Int}(h:Rws H H' mss zs)(h0:H l=none)(e:H' l=some (.lst (ms.map V.int))):Rws H H' (mss++[ms]) (zs++[.ref l]):=by
 refine⟨by rw[qJ,qJ,h.1];rfl,fun p ms' e'=>?_⟩
 by_cases c:p<mss.length
 ·rw[vW c] at e'
  rw[vW (by rw[h.1];exact c)]
  exact h.2 p ms' e'
 ·rw[vF (by omega)] at e'
  rw[vF (by rw[h.1];omega),h.1]
  have:p-mss.length=0:=by
   have:=(zN.mp e').1
   simp at this;omega
  rw[this] at e' ⊢
  cases e'
  exact⟨l,rfl,h0,e⟩
section
variable{P:Program}{w:World}{K:PySem.W.Frag}{mg:Str->Option Value}{base:Heap}
inductive Vi(K:PySem.W.Frag)(vs:List V)(H:Hp)(Q:VK):Prop
 | mk (t:Addr) (xs:List V) (as:List (Int×Int)) (n:Nat) (rk:Int->Nat) (_:vs=[.int n,.ref t]) (_:(SqL K H t xs\/SqT K H t xs)) (_:Reps K H (as.map prD) xs) (_:as.length<=1000) (_:n<=60) (_:(∀q∈as,InN n q.1/\InN n q.2)) (_:(∀q∈as,rk q.1<rk q.2)) (_:(∀i,rk i<=60)) (_:∀(l:Addr) (mss:List (List Int)) H',Same H H'->H l=none->(∃zs,H' l=some (.lst zs)/\Rws H H' mss zs)->mss.length=n->(∀p ms,mss[p]? =some ms->ms.Pairwise (·< ·)/\∀j,j∈ms↔∃k,1<=k/\Wk as k j (p:Nat))->Q (.ref l) H'):Vi K vs H Q
def zbE(K:PySem.W.Frag):Sp:=fun vs H Q _=>Vi K vs H Q
theorem zb0:zI ["_law_many", "_law_aheads_here", "_law_found", "_law_turn", "_law_part", "_law_one"] ["_law_many", "_law_aheads_here"] (zv (topL 39)):=⟨rfl,rfl,rfl,by decide +kernel,rfl,by decide +kernel,by decide +kernel⟩
theorem zdJ{f:Addr}{fd:FuncData}(F:Fun K "_law_over" "_law_over" (topL 39) f fd)(B:Blt mg):qS P w K mg base CX0 1 f fd ["_law_many", "_law_aheads_here"] (zbE K):=by
 have nd:=zb0.nd
 refine F.ok zb0 (fun vs H Q E h=>?_) (fun cdv A outer s H vs Q E hr h=>?_)
 ·obtain⟨t,xs,as,n,rk,rfl,_⟩:=h
  rfl
 ·obtain⟨t,xs,as,n,rk,rfl,ht,rp,al,n60,ina,rks,rk60,k⟩:=h
  have hbig:100000<sizeLine:=by rw[sizeLine_eq];decide
  have hu1:=zcO hr
  have lx:=rp.len
  rw[zq] at lx
  refine⟨_,(zf (ze4 ["_law_aheads_here"] [1] rfl rfl (by kernel_rfl) (qY rfl B.range (za (pv 0) zc)) (fun _ _ _ _=>jb) (fun _ _ _ _=>(zY (WN hr.hd) rfl B.dict zbi (za (zdv (K:=K) rfl ["_law_part"] [0] rfl rfl (by kernel_rfl) (zdt (K:=K) rfl (pv 1)) (fun _ _ _ _=>(yj (zA qQ (pv 1) (pv 2) (zB _)))) (fun _ _ _ _=>(zX (za (pv 0) (za jW zc))))) zc))) (zr (i:=2) nd rfl (Or.inl rfl)))
   (zf (ja jB rfl (qY rfl B.range (za ze zc)) (zr (i:=3) nd rfl (Or.inl rfl))
   (zi (ja jB rfl (qY rfl B.range (za (pv 0) zc)) (zr (i:=4) nd rfl (Or.inl rfl))
    (zi (ja jB rfl (jO (zY (V6 hr.hd) rfl B.list qZ (za (zE zS (pv 2) (pv 4) (fun _ _=>rfl)) zc))) (zr (i:=5) nd rfl (Or.inl rfl))
     (zi (jn (zdw (zE zS (pv 2) (pv 4) (fun _ _=>rfl)) (zE zS (pv 2) (pv 5) (fun _ _=>rfl)) ⟨rfl,rfl,rfl,rfl⟩))))))))
   (zi (zt (jS [] [] rfl rfl (by kernel_rfl) (jO (pv 2)) (fun _ _ _ _=>jb) (fun _ _ _ _=>(zj (Je hr.hd) rfl B.sorted xb (za (pv 0) zc)))))))),?_⟩
  have e62:(2:Int)^62=4611686018427387904:=by decide
  have l2:∀x y:V,[x,y].length<=sizeLine:=fun x y=>by rw[sizeLine_eq];show 2<=_;decide
  refine⟨_,rfl,_,rfl,(by rw[e62];omega),(by rw[e62];omega),yI (fun i zs H1=>∃ds:List Addr,zs=ds.map V.ref/\ds.length=i/\Ov H H1 ds (WH as)) ⟨[],rfl,rfl,List.nodup_nil,(fun p d e=>by simp at e),Same.refl _⟩ ?_ ?_⟩
  ·rintro i zs H1 hi ⟨ds,rfl,ld,ov⟩
   have rp1:=rp.same ov.sm
   have i0:(0:Int)+(i:Int)=(i:Int):=Int.zero_add _
   rw[i0]
   refine⟨rfl,_,rfl,t,rfl,ht.elim (fun hL=>.inl ⟨⟨_,ov.sm.seq hL⟩,xw (K:=K) (a:=t) (xs:=xs) (fun j ys H2=>PrsL H2 ys (dkB (((as.take j).filter fun q=>decide (q.2=(i:Int))).map (·.1)))/\Same H1 H2) ⟨PrsL.nil,Same.refl _⟩ (fun j ys H2 ⟨_,sm⟩=>(ov.sm.trans sm).seq hL) ?s1 ?e1⟩)
    (fun hT=>.inr ⟨⟨_,ov.sm.sqT hT⟩,j6 (K:=K) (a:=t) (xs:=xs) (fun j ys H2=>PrsL H2 ys (dkB (((as.take j).filter fun q=>decide (q.2=(i:Int))).map (·.1)))/\Same H1 H2) ⟨PrsL.nil,Same.refl _⟩ (fun j ys H2 ⟨_,sm⟩=>(ov.sm.trans sm).sqT hT) ?s2 ?e2⟩)⟩
   case s1 | s2=>
    rintro j x ys H2 hx ⟨pr,sm⟩
    obtain⟨dd,e1,r1⟩:=(rp1.same sm).get hx
    rw[qr] at e1
    obtain⟨q,eq,rfl⟩:=jc.mp e1
    obtain⟨a,ws,rfl,qa,x1,r1',rfl,e2,x2,r2',rfl,e3,e4⟩:=r1
    cases e2
    cases e3
    cases e4
    have hj:=(zN.mp eq).1
    rw[Jn eq,QK,zW]
    refine⟨a,_,rfl,qa,rfl,_,_,rfl,_,_,rfl,rfl,rfl,_,rfl,_,rfl,rfl,_,rfl,?_⟩
    by_cases c:q.2=(i:Int)
    ·refine ifT (by show decide (V.int q.2=V.int (i:Int))=true;rw[c];exact qF rfl) ⟨_,rfl,l2 _ _,fun T hT=>⟨?_,?_,sm.trans (zd hT)⟩⟩
     ·have:=pr.1
      have:=yZ (fun q:Int×Int=>decide (q.2=(i:Int))) (as.take j)
      rw[Z6,zq] at *
      rw[z9] at this
      omega
     ·rw[Zw,if_pos (qF c)]
      have e:∀a b,dkB (a++b)=dkB a++dkB b:=fun a b=>zW
      rw[e]
      exact(pr.same (zd hT)).snoc (k:=Sum.inl q.1) zb
    ·refine ifF (by show decide (V.int q.2=V.int (i:Int))=false;exact jQ fun z=>c (V.int.inj z)) ⟨?_,sm⟩
     rw[Zw,if_neg (by simpa using c)]
     simpa using pr
   case e1 | e2=>
    rintro ys H2 ⟨pr,sm⟩
    rw[lx,je] at pr
    have ly:ys.length<=1000:=by
     have:=pr.1
     have:=yZ (fun q:Int×Int=>decide (q.2=(i:Int))) as
     rw[Z6,zq] at *
     omega
    refine⟨by omega,fun l hl=>⟨l,ys,_,rfl,zb,pr.same (zd hl),fun d hd=>⟨by rw[zq];omega,ds++[d],by rw[zW];rfl,by rw[qJ,ld];rfl,?_⟩⟩⟩
    have dl:d≠l:=fun z=>by rw[z,zb] at hd;cases hd
    have d2:H2 d=none:=by rw[zo dl] at hd;exact hd
    refine ov.snoc (d:=d) ((sm.trans (zd hl)).trans (zd hd)) ?_ ?_
    ·cases z:H1 d with
     | none=>rfl
     | some o'=>rw[sm _ _ z] at d2;cases d2
    ·rw[zb,ld]
     have:(j3 [] (dkB ((as.filter fun q=>decide (q.2=(i:Int))).map (·.1))))=dkB (WH as i):=Zn _ []
     rw[this]
  ·rintro zs H1 ⟨ds,rfl,ld,ov⟩
   rw[vf] at ld
   have lr:(ds.map V.ref).length=n:=by rw[zq];exact ld
   refine⟨by omega,fun F hF=>?_⟩
   have F0:H F=none:=by
    cases z:H F with
    | none=>rfl
    | some o'=>rw[ov.sm _ _ z] at hF;cases hF
   refine⟨7,rfl,(by decide),(by decide),jL (fun t' σ H2=>Ex4 fun(v3 v4 v5:Option V) (κ:Nat->List Int)=>An5 (σ=[some (.int n),some (.ref t),some (.ref F),v3,v4,v5]) (H2 F=some (.lst (ds.map V.ref))) (Ov H H2 ds κ) (W6 as κ) (∀x<n,zeg as κ (2^t') x))
    ⟨_,_,_,WH as,rfl,zb,ov.same (zd hF),zgR as,fun x _=>zgS as x⟩ ?_ ?_⟩
   ·rintro t' σ H2 ht' ⟨v3,v4,v5,κ,rfl,hF2,ov2,g2,f2⟩
    refine⟨_,rfl,_,rfl,(by rw[e62];omega),(by rw[e62];omega),jL (fun p σ H3=>Ex3 fun(v4 v5:Option V) (κ':Nat->List Int)=>An6 (σ=[some (.int n),some (.ref t),some (.ref F),some (.int (0+(t':Int))),v4,v5]) (H3 F=some (.lst (ds.map V.ref))) (Ov H H3 ds κ') (W6 as κ') ((∀x q,q∈κ x->q∈κ' x)) (∀x<p,zeg as κ' (2^(t'+1)) x))
     ⟨_,_,κ,rfl,hF2,ov2,g2,fun _ _ h=>h,fun x hx=>absurd hx (yU _)⟩ ?_ ?_⟩
    ·rintro p σ H3 hp ⟨v4,v5,κ',rfl,hF3,ov3,g3,sub3,f3⟩
     rw[vf] at hp
     have i0:(0:Int)+(p:Int)=(p:Int):=Int.zero_add _
     rw[i0]
     have ed:ds[p]? =some (ds[p]'(by omega)):=jj _
     generalize ds[p]'(by omega)=d at ed
     obtain⟨d0,hd3⟩:=ov3.at_ p d ed
     refine⟨_,rfl,_,rfl,F,_,_,_,rfl,rfl,SqL.of hF3,XD ed,d,_,rfl,.inl hd3,fun L hL=>⟨L,rfl,⟨_,SqL.of zb⟩,?_⟩⟩
     have em:(dkB (κ' p)).map (fun kv=>kV kv.1)=(κ' p).map V.int:=by
      unfold dkB
      rw[xn]
      rfl
     rw[em]
     have Ld:L≠d:=fun z=>by rw[z,hd3] at hL;cases hL
     refine xZ (K:=K) (a:=L) (xs:=(κ' p).map V.int) (fun i σ H4=>Ex2 fun(v5:Option V) (ks:List Int)=>An7 (σ=[some (.int n),some (.ref t),some (.ref F),some (.int (0+(t':Int))),some (.int (p:Int)),v5]) (H4 F=some (.lst (ds.map V.ref))) (H4 L=some (.lst ((κ' p).map V.int))) (Ov H H4 ds (fun x=>if x=p then ks else κ' x)) (W6 as (fun x=>if x=p then ks else κ' x)) ((∀q∈κ' p,q∈ks)) (∀o∈(κ' p).take i,∀q∈κ' o.toNat,q∈ks))
      ⟨_,κ' p,rfl,(zd hL) _ _ hF3,zb,?_,?_,fun _ h=>h,fun o ho=>absurd ho (by simp)⟩ (fun i σ H' _ ⟨_,_,_,_,h,_,_,_,_⟩=>SqL.of h) ?_ ?_
     ·have:(fun x=>if x=p then κ' p else κ' x)=κ':=funext fun x=>by by_cases c:x=p<;>simp[c]
      rw[this]
      exact ov3.same (zd hL)
     ·have:(fun x=>if x=p then κ' p else κ' x)=κ':=funext fun x=>by by_cases c:x=p<;>simp[c]
      rw[this]
      exact g3
     ·rintro i x σ H4 hx ⟨v5,ks,rfl,hF4,hL4,ov4,g4,a4,b4⟩
      rw[qr] at hx
      obtain⟨o,eo,rfl⟩:=jc.mp hx
      have mo:o∈κ' p:=jl eo
      obtain⟨k1,hk1,wk1⟩:=(g3 p).2 o mo
      obtain⟨o0,o1⟩:=Wk.in1 ina hk1 wk1
      have oi:((o.toNat:Nat):Int)=o:=by omega
      have nop:o.toNat≠p:=fun z=>by
       have:=wk1.rank rks
       rw[z] at oi
       rw[oi] at this
       omega
      have ee:ds[o.toNat]? =some (ds[o.toNat]'(by omega)):=jj _
      generalize ds[o.toNat]'(by omega)=e at ee
      have hd4:=(ov4.at_ p d ed).2
      have he4:=(ov4.at_ o.toNat e ee).2
      rw[if_pos rfl] at hd4
      rw[if_neg nop] at he4
      have nde:d≠e:=fun z=>by
       subst z
       obtain⟨h1,h2⟩:=zN.mp ed
       obtain⟨h3,h4⟩:=zN.mp ee
       exact nop ((Zx ov4.nd).mp (h4.trans h2.symm))
      have ao:=XD ee
      rw[oi] at ao
      have inq:∀(κ:Nat->List Int),W6 as κ->∀x,(κ x).length<=60:=fun κ g x=>by
       have:=vv (n:=n) (g x).1 fun q hq=>let ⟨k,h1,w⟩:=(g x).2 q hq;Wk.in1 ina h1 w
       omega
      have l1:=inq _ g4 p
      rw[if_pos rfl] at l1
      have l2:=inq _ g3 o.toNat
      have LF:L≠F:=fun z=>by rw[z,hF3] at hL;cases hL
      have Fd:F≠d:=fun z=>by rw[z,hd4] at hF4;cases hF4
      refine⟨_,rfl,_,rfl,F,_,_,_,rfl,rfl,SqL.of hF4,XD ed,d,rfl,.inl ⟨_,.inl hd4⟩,_,rfl,_,rfl,F,_,_,_,rfl,rfl,SqL.of hF4,ao,e,_,_,rfl,nde,hd4,he4,by rw[Z6,Z6];omega,?_⟩
      rw[Zn]
      have ef:(fun x=>if x=p then yy ks (κ' o.toNat) else(fun x=>if x=p then ks else κ' x) x)=fun x=>if x=p then yy ks (κ' o.toNat) else κ' x:=funext fun x=>by by_cases c:x=p<;>simp[c]
      have eg:(fun x=>if x=p then yy ((fun x=>if x=p then ks else κ' x) p) ((fun x=>if x=p then ks else κ' x) o.toNat) else(fun x=>if x=p then ks else κ' x) x)=fun x=>if x=p then yy ks (κ' o.toNat) else κ' x:=funext fun x=>by by_cases c:x=p<;>simp[c,nop]
      refine⟨_,yy ks (κ' o.toNat),rfl,by rw[zo Fd];exact hF4,by rw[zo Ld];exact hL4,?_,?_,fun q hq=>vw.mpr (.inl (a4 q hq)),fun z hz q hq=>?_⟩
      ·have:=ov4.upd ed (yy ks (κ' o.toNat))
       rw[ef] at this
       exact this
      ·have:=zd1 (p:=p) (o:=o.toNat) g4 (by rw[if_pos rfl,oi];exact a4 o mo)
       rw[eg] at this
       exact this
      ·rw[Jn eo] at hz
       rcases qL.mp hz with h | h
       ·exact vw.mpr (.inl (b4 z h q hq))
       ·rw[qR.mp h] at hq
        exact vw.mpr (.inr hq)
     ·rintro σ H4 ⟨v5,ks,rfl,hF4,hL4,ov4,g4,a4,b4⟩
      rw[zq,je] at b4
      refine⟨_,_,_,rfl,hF4,ov4,g4,fun x q hq=>?_,fun x hx=>?_⟩
      ·show q∈(if x=p then ks else κ' x)
       by_cases c:x=p
       ·rw[if_pos c]
        subst c
        exact a4 q (sub3 x q hq)
       ·rw[if_neg c]
        exact sub3 x q hq
      ·by_cases c:x=p
       ·subst c
        intro q k h1 h2 wk
        show q∈(if x=x then ks else κ' x)
        rw[if_pos rfl]
        exact za7 ina f2 hp sub3 a4 b4 q k h1 (by rw[Nat.pow_succ,Nat.mul_comm] at h2;exact h2) wk
       ·have:=f3 x (by omega)
        intro q k h1 h2 wk
        show q∈(if x=p then ks else κ' x)
        rw[if_neg c]
        exact this q k h1 h2 wk
    ·rintro σ H3 ⟨v4,v5,κ',rfl,hF3,ov3,g3,sub3,f3⟩
     rw[vf] at f3
     exact⟨_,_,_,κ',rfl,hF3,ov3,g3,f3⟩
   ·rintro σ H2 ⟨v3,v4,v5,κ,rfl,hF2,ov2,g2,f2⟩
    have all:∀(p:Nat),p<n->∀j,j∈κ p↔∃k,1<=k/\Wk as k j p:=fun p hp j=>⟨fun h=>(g2 p).2 j h,fun ⟨k,h1,wk⟩=>f2 p hp j k h1 (by have:=wk.rank rks;have:=rk60 (p:Int);show k<=128;omega) wk⟩
    refine⟨_,rfl,F,rfl,⟨_,SqL.of hF2⟩,xw (K:=K) (a:=F) (xs:=ds.map V.ref) (fun i zs H3=>Ex1 fun(mss:List (List Int))=>An4 (mss.length=i) (Rws H H3 mss zs) (Same H2 H3) (∀p ms,mss[p]? =some ms->ms.Pairwise (·< ·)/\∀j,j∈ms↔j∈κ p)) ⟨[],rfl,⟨rfl,fun p ms e=>by simp at e⟩,Same.refl _,fun p ms e=>by simp at e⟩ (fun i zs H3 ⟨_,_,_,sm,_⟩=>SqL.of (sm _ _ hF2)) ?_ ?_⟩
    ·rintro i x zs H3 hx ⟨mss,lm,rm,sm,am⟩
     rw[qr] at hx
     obtain⟨d,ed,rfl⟩:=jc.mp hx
     have hi:=(zN.mp ed).1
     have hd:=sm _ _ (ov2.at_ i d ed).2
     have lk:(κ i).length<=60:=by
      have:=vv (n:=n) (g2 i).1 fun q hq=>let ⟨k,h1,w⟩:=(g2 i).2 q hq;Wk.in1 ina h1 w
      omega
     have ek:dkB (κ i)=((κ i).map fun j=>(j,V.bl true)).map fun kv=>(Sum.inl kv.1,kv.2):=by unfold dkB;rw[xn];rfl
     have ek2:((κ i).map fun j=>(j,V.bl true)).map (·.1)=κ i:=by rw[xn];exact List.map_id'' (fun _=>rfl) _
     refine⟨rfl,_,rfl,d,(κ i).map fun j=>(j,V.bl true),rfl,.inl (by rw[<- ek];exact hd),by rw[zq];omega,fun l ms hl pm pw=>⟨?_,mss++[ms],by rw[qJ,lm];rfl,?_,sm.trans (zd hl),fun p ms' e=>?_⟩⟩
     ·have:=rm.1
      omega
     ·exact(rm.same (zd hl)).snoc ((ov2.sm.trans sm).free hl) zb
     ·rw[ek2] at pm
      by_cases c:p<mss.length
      ·rw[vW c] at e
       exact am p ms' e
      ·rw[vF (by omega)] at e
       have:p=mss.length:=by
        have:=(zN.mp e).1
        simp at this;omega
       subst this
       simp at e
       subst e
       rw[lm]
       exact⟨zei pm (g2 i).1 pw,fun j=>pm.mem_iff⟩
    ·rintro zs H3 ⟨mss,lm,rm,sm,am⟩
     rw[lr] at lm
     have lz:=rm.1
     refine⟨by omega,fun l hl=>k l mss _ ((ov2.sm.trans sm).trans (zd hl)) ?_ ⟨zs,zb,rm.same (zd hl)⟩ lm fun p ms e=>?_⟩
     ·cases z:H l with
      | none=>rfl
      | some o'=>rw[(ov2.sm.trans sm) _ _ z] at hl;cases hl
     ·have hp:=(zN.mp e).1
      obtain⟨a,b⟩:=am p ms e
      exact⟨a,fun j=>by rw[b j,all p (by omega) j]⟩
end
theorem Same.none{H H1:Hp}{t:Addr}(s:Same H H1)(h:H1 t=Option.none):H t=Option.none:=s.free h
section
variable{P:Program}{w:World}{K:PySem.W.Frag}{mg:Str->Option Value}{base:Heap}
theorem wO{H:Hp}{J:Job}{jp:Addr}(h:Rep K H (vj J) (.ref jp)):∃(g fs ps as:Addr) (fv pv:List V),SqT K H jp [.ref g,.int J.hd,.ref fs,.ref ps,.ref as]/\Rep K H (.tup [.int J.gx,.int J.gy]) (.ref g)/\SqT K H fs fv/\Reps K H (J.fs.map wj) fv/\SqT K H ps pv/\Reps K H (J.ps.map xV) pv/\Rep K H (Za J.as) (.ref as):=by
 obtain⟨a,xs,e,q,x0,r0,e0,h0,x1,r1,e1,h1,x2,r2,e2,h2,x3,r3,e3,h3,x4,r4,e4,h4,e5⟩:=h
 cases e
 subst e0 e1 e2 e3 e4
 have e5':r4=[]:=e5
 subst e5'
 have h1':x1=.int J.hd:=h1
 subst h1'
 obtain⟨g,gx,rfl,gq⟩:=h0
 obtain⟨fs,fx,rfl,fq,fr⟩:=h2
 obtain⟨ps,px,rfl,pq,pr⟩:=h3
 obtain⟨as,ax,rfl,aq⟩:=h4
 exact⟨g,fs,ps,as,fx,px,q,⟨g,gx,rfl,gq⟩,fq,fr,pq,pr,⟨as,ax,rfl,aq⟩⟩
end
mutual
def Dat.gd(k:Nat):Dat->Bool
 | .int i=>decide (i.natAbs<=10000000000+k)
 | .str x=>x.cps.toList.all fun c=>decide (c<1000000)
 | .lst ds=>Dat.gds k ds
 | .tup ds=>Dat.gds k ds
 | _=>true
def Dat.gds(k:Nat):List Dat->Bool
 | []=>true
 | d::ds=>d.gd k&&Dat.gds k ds
end
mutual
theorem Dat.gd_up{k m:Nat}(h:k<=m):∀{d:Dat},d.gd k=true->d.gd m=true
 | .int i,e=>qF (by have:=qW (p:=i.natAbs<=10000000000+k) e;omega)
 | .str _,e=>e
 | .lst ds,e=>Dat.gds_up h (ds:=ds) e
 | .tup ds,e=>Dat.gds_up h (ds:=ds) e
 | .non,_=>rfl
 | .bl _,_=>rfl
theorem Dat.gds_up{k m:Nat}(h:k<=m):∀{ds:List Dat},Dat.gds k ds=true->Dat.gds m ds=true
 | [],_=>rfl
 | d::ds,e=>by
  have e':(d.gd k&&Dat.gds k ds)=true:=e
  rw[qV] at e'
  show(d.gd m&&Dat.gds m ds)=true
  rw[Dat.gd_up h e'.1,Dat.gds_up h e'.2];rfl
end
mutual
theorem Dat.gd_shw{k:Nat}(h:k<=1000):∀{d:Dat},d.gd k=true->d.shw=true
 | .int i,e=>qF (by have:=qW (p:=i.natAbs<=10000000000+k) e;omega)
 | .str _,e=>e
 | .lst ds,e=>Dat.gds_shw h (ds:=ds) e
 | .tup ds,e=>Dat.gds_shw h (ds:=ds) e
 | .non,_=>rfl
 | .bl _,_=>rfl
theorem Dat.gds_shw{k:Nat}(h:k<=1000):∀{ds:List Dat},Dat.gds k ds=true->Dat.shws ds=true
 | [],_=>rfl
 | d::ds,e=>by
  have e':(d.gd k&&Dat.gds k ds)=true:=e
  rw[qV] at e'
  show(d.shw&&Dat.shws ds)=true
  rw[Dat.gd_shw h e'.1,Dat.gds_shw h e'.2];rfl
end
structure GdD(k z D:Nat)(d:Dat):Prop where
 g:d.gd k=true
 b:d.blk<=z
 p:d.py.depth<=D
theorem GdD.up{k z D k' z' D':Nat}{d:Dat}(h:GdD k z D d)(h1:k<=k')(h2:z<=z')(h3:D<=D'):GdD k' z' D' d:=⟨Dat.gd_up h1 h.g,jt h.b h2,jt h.p h3⟩
section
variable{P:Program}{w:World}{K:PySem.W.Frag}{mg:Str->Option Value}{base:Heap}
def DS(K:PySem.W.Frag)(F:Hp)(k z D:Nat)(v:V):Prop:=∃d,Rep K F d v/\GdD k z D d
theorem DS.up{F F':Hp}{k z D k' z' D':Nat}{v:V}(h:DS K F k z D v)(s:Same F F')(h1:k<=k')(h2:z<=z')(h3:D<=D'):DS K F' k' z' D' v:=let ⟨d,r,g⟩:=h;⟨d,r.same s,g.up h1 h2 h3⟩
theorem yC{F:Hp}{k z D:Nat}:∀{xs:List V},(∀x∈xs,DS K F k z D x)->∃ds,Reps K F ds xs/\Dat.gds k ds=true/\Dat.blks ds<=(z+1)*xs.length/\PyData.depthAll (Dat.pys ds)<=D
 | [],_=>⟨[],rfl,rfl,qo _,qo _⟩
 | x::xs,h=>by
  obtain⟨d,r,g⟩:=h x (by simp)
  obtain⟨ds,r',g',b',p'⟩:=yC (xs:=xs) fun y hy=>h y (jE _ hy)
  refine⟨d::ds,⟨x,xs,rfl,r,r'⟩,?_,?_,?_⟩
  ·show(d.gd k&&Dat.gds k ds)=true
   rw[g.g,g'];rfl
  ·show d.blk+1+Dat.blks ds<=_
   have:=g.b
   rw[vd,Nat.mul_succ]
   omega
  ·show max d.py.depth (PyData.depthAll (Dat.pys ds))<=D
   have:=g.p
   omega
theorem DS.lst{F:Hp}{k z D z':Nat}{a:Addr}{xs:List V}(h:SqL K F a xs)(all:∀x∈xs,DS K F k z D x)(hz:(z+1)*xs.length<=z'):DS K F k z' (D+1) (.ref a):=by
 obtain⟨ds,r,g,b,p⟩:=yC all
 refine⟨.lst ds,⟨a,xs,rfl,h,r⟩,g,jt b hz,?_⟩
 show PyData.depth (.list (Dat.pys ds))<=_
 simp only[PyData.depth]
 omega
theorem DS.tup{F:Hp}{k z D z':Nat}{a:Addr}{xs:List V}(h:SqT K F a xs)(all:∀x∈xs,DS K F k z D x)(hz:(z+1)*xs.length<=z'):DS K F k z' (D+1) (.ref a):=by
 obtain⟨ds,r,g,b,p⟩:=yC all
 refine⟨.tup ds,⟨a,xs,rfl,h,r⟩,g,jt b hz,?_⟩
 show PyData.depth (.tuple (Dat.pys ds))<=_
 simp only[PyData.depth]
 omega
theorem WQ{F:Hp}{k z D:Nat}:∀{ds:List Dat} {xs:List V},Reps K F ds xs->Dat.gds k ds=true->Dat.blks ds<=z->PyData.depthAll (Dat.pys ds)<=D->xs.length<=z/\∀x∈xs,DS K F k (z-1) D x
 | [],_,h,_,_,_=>by rw[show _=_ from h];exact⟨qo _,fun x hx=>nomatch hx⟩
 | d::ds,_,h,g,b,p=>by
  obtain⟨v,r,e,h1,h2⟩:=h
  subst e
  have g':(d.gd k&&Dat.gds k ds)=true:=g
  rw[qV] at g'
  have b':d.blk+1+Dat.blks ds<=z:=b
  have p':max d.py.depth (PyData.depthAll (Dat.pys ds))<=D:=p
  obtain⟨l,al⟩:=WQ (z:=z-1) (k:=k) (D:=D) h2 g'.2 (by omega) (by omega)
  refine⟨by rw[vd];omega,fun x hx=>?_⟩
  rcases qq.mp hx with q | q
  ·rw[q];exact⟨d,h1,g'.1,by omega,by omega⟩
  ·exact(al x q).up (Same.refl _) (zC _) (by omega) (zC _)
theorem SqQ.same{H H':Hp}{t:Bool}{a:Addr}{xs:List V}(h:SqQ K H t a xs)(s:Same H H'):SqQ K H' t a xs:=by
 cases t with
 | true=>exact s.sqT h
 | false=>exact s.seq h
theorem SqQ.or{H:Hp}{t:Bool}{a:Addr}{xs:List V}(h:SqQ K H t a xs):SqL K H a xs\/SqT K H a xs:=by
 cases t with
 | true=>exact .inr h
 | false=>exact .inl h
def tyQ(t:Bool):String:=if t=true then "tuple" else "list"
theorem SqQ.ty{H:Hp}{t:Bool}{a:Addr}{xs:List V}(h:SqQ K H t a xs):TyN K H (.ref a) (tyQ t):=by
 cases t with
 | true=>exact .inr ⟨rfl,xs,h⟩
 | false=>exact .inl ⟨rfl,xs,h⟩
theorem zfx{k:Nat}{i:Int}(h:i.natAbs<=10000000000+k)(z D:Nat):GdD k z D (.int i):=⟨qF h,qo _,by show PyData.depth (.int i)<=_;simp[PyData.depth]⟩
theorem DS.non{F:Hp}{k z D:Nat}:DS K F k z D .non:=⟨.non,rfl,rfl,qo _,by show PyData.depth .none<=_;simp[PyData.depth]⟩
theorem DS.bl{F:Hp}{k z D:Nat}(b:Bool):DS K F k z D (.bl b):=⟨.bl b,rfl,rfl,qo _,by show PyData.depth (.bool b)<=_;simp[PyData.depth]⟩
theorem DS.int{F:Hp}{k z D:Nat}{i:Int}(h:i.natAbs<=10000000000+k):DS K F k z D (.int i):=⟨.int i,rfl,zfx h z D⟩
theorem DS.str{F:Hp}{k z D:Nat}{x:Str}(h:x.length<=z)(hc:∀c∈x.cps.toList,c<1000000):DS K F k z D (.str x):=⟨.str x,rfl,jh.mpr fun c hc'=>qF (hc c hc'),h,by show PyData.depth (.str x)<=_;simp[PyData.depth]⟩
theorem DS.istr{F:Hp}{k z D:Nat}{i:Int}(h:i.natAbs<1000000000000)(hz:13<=z):DS K F k z D (.str (toString i)):=by
 refine DS.str (jt (WJ h) hz) fun c hc=>?_
 have e:(Str.ofString (toString i)).cps.toList=(toString i).toList.map Char.toNat:=by rw[Str.ofString_eq_toList]
 have hc':c∈(Str.ofString (toString i)).cps.toList:=hc
 rw[e] at hc'
 obtain⟨ch,h1,rfl⟩:=jC.mp hc'
 have:=int_ascii i ch h1
 omega
theorem zgX(xs:List V)(a b:Nat):(zQ xs (some (a:Int)) (some (b:Int))).length<=b-a/\(zQ xs (some (a:Int)) (some (b:Int))).length<=xs.length-a:=by
 unfold zQ
 rw[HT.sIx_nat,HT.sIx_nat]
 rw[z9,xF]
 omega
end
structure Ex(H:Hp)(b:Addr)(ex:List Addr):Prop where
 mem:b∈ex
 al:∀e∈ex,∃o,H e=some o
theorem Ex.next{H H':Hp}{b:Addr}{ex:List Addr}{m:Int}(h:Ex H b ex)(s:SameB b H H')(B:BoxAt H' b m):Ex H' b ex:=⟨h.mem,fun e he=>by
 by_cases z:e=b
 ·rw[z];exact B.some
 ·obtain⟨o,q⟩:=h.al e he
  exact⟨o,s e o q z⟩⟩
theorem Ex.same{H H':Hp}{b:Addr}{ex:List Addr}(h:Ex H b ex)(s:Same H H'):Ex H' b ex:=⟨h.mem,fun e he=>let ⟨o,q⟩:=h.al e he;⟨o,s e o q⟩⟩
theorem Ex.out{H:Hp}{b p:Addr}{ex:List Addr}(h:Ex H b ex)(hp:H p=none):p∉ex:=fun z=>by
 obtain⟨o,q⟩:=h.al p z
 rw[hp] at q;cases q
theorem Ex.cons{H:Hp}{b m:Addr}{o:HO}{ex:List Addr}(h:Ex H b ex)(hm:H m=some o):Ex H b (m::ex):=⟨jE _ h.mem,fun e he=>(qq.mp he).elim (fun z=>⟨o,by rw[z];exact hm⟩) (h.al e)⟩
theorem WX.draw{ex:List Addr}{H H':Hp}{b:Addr}(h:b∈ex)(s:SameB b H H'):Same (WX ex H) (WX ex H'):=fun c u e=>by
 unfold WX at e ⊢
 split at e
 ·cases e
 ·rename_i hc
  rw[if_neg hc]
  exact s c u e (fun z=>hc (by rw[z];exact h))
theorem zfw{n:Nat}{i:Int}(h:0<=i)(h':i<n):ixN n i=some i.toNat:=by
 unfold ixN
 rw[if_pos h,if_pos h']
section
variable{P:Program}{w:World}{K:PySem.W.Frag}{mg:Str->Option Value}{base:Heap}
end
theorem Y3{k:Nat}:∀{ds:List Dat} {i:Nat} {d:Dat},Dat.gds k ds=true->d.gd k=true->Dat.gds k (ds.set i d)=true
 | [],_,_,h,_=>h
 | a::ds,0,d,h,h'=>by
  have e:(a.gd k&&Dat.gds k ds)=true:=h
  rw[qV] at e
  show(d.gd k&&Dat.gds k ds)=true
  rw[h',e.2];rfl
 | a::ds,i+1,d,h,h'=>by
  have e:(a.gd k&&Dat.gds k ds)=true:=h
  rw[qV] at e
  show(a.gd k&&Dat.gds k (ds.set i d))=true
  rw[e.1,Y3 e.2 h'];rfl
theorem Wb:∀{ds:List Dat} {i:Nat} {d:Dat},Dat.blks (ds.set i d)<=Dat.blks ds+d.blk
 | [],_,_=>qo _
 | a::ds,0,d=>by
  show d.blk+1+Dat.blks ds<=a.blk+1+Dat.blks ds+d.blk
  omega
 | a::ds,i+1,d=>by
  show a.blk+1+Dat.blks (ds.set i d)<=a.blk+1+Dat.blks ds+d.blk
  have:=Wb (ds:=ds) (i:=i) (d:=d)
  omega
theorem V3:∀{ds:List Dat} {i:Nat} {d:Dat},PyData.depthAll (Dat.pys (ds.set i d))<=max (PyData.depthAll (Dat.pys ds)) d.py.depth
 | [],_,_=>qo _
 | a::ds,0,d=>Nat.max_le.mpr ⟨XF _ _,jt (XF _ _) (Nat.le_max_left _ _)⟩
 | a::ds,i+1,d=>Nat.max_le.mpr ⟨jt (Nat.le_max_left _ _) (Nat.le_max_left _ _),jt (V3 (ds:=ds) (i:=i) (d:=d)) (Nat.max_le.mpr ⟨jt (XF _ _) (Nat.le_max_left _ _),XF _ _⟩)⟩
section
variable{P:Program}{w:World}{K:PySem.W.Frag}{mg:Str->Option Value}{base:Heap}
theorem Reps.set{H:Hp}:∀{ds:List Dat} {xs:List V} {i:Nat} {d:Dat} {v:V},Reps K H ds xs->Rep K H d v->Reps K H (ds.set i d) (xs.set i v)
 | [],_,_,_,_,h,_=>by rw[show _=_ from h];exact rfl
 | a::ds,_,0,d,v,h,h'=>by
  obtain⟨x,r,e,_,h2⟩:=h
  subst e
  exact⟨v,r,rfl,h',h2⟩
 | a::ds,_,i+1,d,v,h,h'=>by
  obtain⟨x,r,e,h1,h2⟩:=h
  subst e
  exact⟨x,r.set i v,rfl,h1,Reps.set h2 h'⟩
end
theorem QG:∀a b:List Dat,Dat.blks (a++b)=Dat.blks a+Dat.blks b
 | [],b=>by show Dat.blks b=0+Dat.blks b;omega
 | d::a,b=>by
  have:=QG a b
  show d.blk+1+Dat.blks (a++b)=d.blk+1+Dat.blks a+Dat.blks b
  omega
theorem Y4{k:Nat}:∀{a b:List Dat},Dat.gds k a=true->Dat.gds k b=true->Dat.gds k (a++b)=true
 | [],_,_,h=>h
 | d::a,b,h,h'=>by
  have e:(d.gd k&&Dat.gds k a)=true:=h
  rw[qV] at e
  show(d.gd k&&Dat.gds k (a++b))=true
  rw[e.1,Y4 e.2 h'];rfl
theorem JF{k:Nat}:∀{a b:List Dat},Dat.gds k (a++b)=true->Dat.gds k a=true/\Dat.gds k b=true
 | [],_,h=>⟨rfl,h⟩
 | d::a,b,h=>by
  have e:(d.gd k&&Dat.gds k (a++b))=true:=h
  rw[qV] at e
  obtain⟨h1,h2⟩:=JF e.2
  refine⟨?_,h2⟩
  show(d.gd k&&Dat.gds k a)=true
  rw[e.1,h1];rfl
theorem QD:∀a b:List Dat,PyData.depthAll (Dat.pys (a++b))=max (PyData.depthAll (Dat.pys a)) (PyData.depthAll (Dat.pys b))
 | [],b=>by show PyData.depthAll (Dat.pys b)=max 0 (PyData.depthAll (Dat.pys b));omega
 | d::a,b=>by
  have:=QD a b
  show max d.py.depth (PyData.depthAll (Dat.pys (a++b)))=max (max d.py.depth (PyData.depthAll (Dat.pys a))) (PyData.depthAll (Dat.pys b))
  omega
section
variable{P:Program}{w:World}{K:PySem.W.Frag}{mg:Str->Option Value}{base:Heap}
def GL(K:PySem.W.Frag)(F:Hp)(k z D:Nat)(xs:List V):Prop:=∃ds,Reps K F ds xs/\Dat.gds k ds=true/\Dat.blks ds<=z/\PyData.depthAll (Dat.pys ds)<=D
theorem GL.up{F F':Hp}{k z D k' z' D':Nat}{xs:List V}(h:GL K F k z D xs)(s:Same F F')(h1:k<=k')(h2:z<=z')(h3:D<=D'):GL K F' k' z' D' xs:=let ⟨ds,r,g,b,p⟩:=h;⟨ds,r.same s,Dat.gds_up h1 g,jt b h2,jt p h3⟩
theorem Reps.parts{H:Hp}:∀{ds:List Dat} {xs ys:List V},Reps K H ds (xs++ys)->∃d1 d2,ds=d1++d2/\Reps K H d1 xs/\Reps K H d2 ys
 | ds,[],ys,h=>⟨[],ds,rfl,rfl,h⟩
 | [],x::xs,ys,h=>by cases(show x::(xs++ys)=[] from h)
 | d::ds,x::xs,ys,h=>by
  obtain⟨v,r,e,h1,h2⟩:=h
  cases e
  obtain⟨d1,d2,rfl,r1,r2⟩:=Reps.parts (xs:=xs) (ys:=ys) h2
  exact⟨d::d1,d2,rfl,⟨_,_,rfl,h1,r1⟩,r2⟩
theorem GL.parts{F:Hp}{k z D:Nat}{xs ys:List V}(h:GL K F k z D (xs++ys)):∃z1 z2,z1+z2=z/\GL K F k z1 D xs/\GL K F k z2 D ys:=by
 obtain⟨ds,r,g,b,p⟩:=h
 obtain⟨d1,d2,rfl,r1,r2⟩:=Reps.parts r
 obtain⟨g1,g2⟩:=JF g
 rw[QG] at b
 rw[QD] at p
 exact⟨Dat.blks d1,z-Dat.blks d1,by omega,⟨d1,r1,g1,zC _,by omega⟩,⟨d2,r2,g2,by omega,by omega⟩⟩
theorem GL.app{F:Hp}{k z1 z2 D:Nat}{xs ys:List V}(h:GL K F k z1 D xs)(h':GL K F k z2 D ys):GL K F k (z1+z2) D (xs++ys):=by
 obtain⟨d1,r1,g1,b1,p1⟩:=h
 obtain⟨d2,r2,g2,b2,p2⟩:=h'
 exact⟨d1++d2,Reps.app r1 r2,Y4 g1 g2,by rw[QG];omega,by rw[QD];omega⟩
theorem GL.one{F:Hp}{k z D:Nat}{v:V}(h:DS K F k z D v):GL K F k (z+1) D [v]:=by
 obtain⟨d,r,g,b,p⟩:=h
 refine⟨[d],⟨v,[],rfl,r,rfl⟩,?_,?_,?_⟩
 ·show(d.gd k&&true)=true
  rw[g];rfl
 ·show d.blk+1+0<=_
  omega
 ·show max d.py.depth 0<=D
  omega
theorem GL.take{F:Hp}{k z D:Nat}{xs:List V}(n:Nat)(h:GL K F k z D xs):GL K F k z D (xs.take n):=by
 rw[<- QP n xs] at h
 obtain⟨z1,z2,e,h1,_⟩:=h.parts
 exact h1.up (Same.refl _) (zC _) (by omega) (zC _)
theorem GL.drop{F:Hp}{k z D:Nat}{xs:List V}(n:Nat)(h:GL K F k z D xs):GL K F k z D (xs.drop n):=by
 rw[<- QP n xs] at h
 obtain⟨z1,z2,e,_,h2⟩:=h.parts
 exact h2.up (Same.refl _) (zC _) (by omega) (zC _)
theorem GL.cut{F:Hp}{k z D:Nat}{xs:List V}(lo hi:Option Int)(h:GL K F k z D xs):GL K F k z D (zQ xs lo hi):=by
 unfold zQ
 first| exact(h.drop _).take _ | exact(h.take _).drop _
theorem GL.lst{F:Hp}{k z D:Nat}{a:Addr}{xs:List V}(q:SqL K F a xs)(h:GL K F k z D xs):DS K F k z (D+1) (.ref a):=by
 obtain⟨ds,r,g,b,p⟩:=h
 refine⟨.lst ds,⟨a,xs,rfl,q,r⟩,g,b,?_⟩
 show PyData.depth (.list (Dat.pys ds))<=_
 simp only[PyData.depth]
 omega
theorem GL.tup{F:Hp}{k z D:Nat}{a:Addr}{xs:List V}(q:SqT K F a xs)(h:GL K F k z D xs):DS K F k z (D+1) (.ref a):=by
 obtain⟨ds,r,g,b,p⟩:=h
 refine⟨.tup ds,⟨a,xs,rfl,q,r⟩,g,b,?_⟩
 show PyData.depth (.tuple (Dat.pys ds))<=_
 simp only[PyData.depth]
 omega
theorem GL.all{F:Hp}{k z D:Nat}{xs:List V}(h:GL K F k z D xs):xs.length<=z/\∀x∈xs,DS K F k z D x:=by
 obtain⟨ds,r,g,b,p⟩:=h
 obtain⟨l,al⟩:=WQ r g b p
 exact⟨l,fun x hx=>(al x hx).up (Same.refl _) (zC _) (by omega) (zC _)⟩
theorem GL.some{F:Hp}{k z D:Nat}{xs zs:List V}(h:GL K F k z D xs)(m:∀y∈zs,y∈xs):GL K F k ((z+1)*zs.length) D zs:=yC fun y hy=>h.all.2 y (m y hy)
end
def wg:Dat->Bool
 | .int _=>true
 | _=>false
def VT:Dat->Bool
 | .bl _=>true
 | _=>false
def iD:Dat->Int
 | .int i=>i
 | _=>0
def X6(k:Nat):Dat->Bool
 | .tup ds=>decide (ds.length=k)
 | _=>false
theorem Yb(d:Dat):xj d.tyN "int" = (wg d||VT d):=by
 cases d with
 | non=>exact(by decide:xj "NoneType" "int" = false)
 | bl _=>exact(by decide:xj "bool" "int" = true)
 | int _=>exact(by decide:xj "int" "int" = true)
 | str _=>exact(by decide:xj "str" "int" = false)
 | lst _=>exact(by decide:xj "list" "int" = false)
 | tup _=>exact(by decide:xj "tuple" "int" = false)
theorem X5(d:Dat):xj d.tyN "bool" = VT d:=by
 cases d with
 | non=>exact(by decide:xj "NoneType" "bool" = false)
 | bl _=>exact(by decide:xj "bool" "bool" = true)
 | int _=>exact(by decide:xj "int" "bool" = false)
 | str _=>exact(by decide:xj "str" "bool" = false)
 | lst _=>exact(by decide:xj "list" "bool" = false)
 | tup _=>exact(by decide:xj "tuple" "bool" = false)
def xX:Dat->Bool
 | .tup _=>true
 | _=>false
theorem yz(d:Dat):xj d.tyN "tuple" = xX d:=by
 cases d with
 | non=>exact(by decide:xj "NoneType" "tuple" = false)
 | bl _=>exact(by decide:xj "bool" "tuple" = false)
 | int _=>exact(by decide:xj "int" "tuple" = false)
 | str _=>exact(by decide:xj "str" "tuple" = false)
 | lst _=>exact(by decide:xj "list" "tuple" = false)
 | tup _=>exact(by decide:xj "tuple" "tuple" = true)
theorem zfp(d:Dat):(if(wg d||VT d)=true then !VT d else(wg d||VT d))=wg d:=by cases d<;>rfl
def zG(lo hi:Int):Dat->Bool
 | .int i=>decide (lo<=i)&&decide (i<=hi)
 | _=>false
def zbu(m:Int):Dat->Bool
 | .tup ds=>decide ((ds.length:Int)<=m)
 | _=>false
section
variable{P:Program}{w:World}{K:PySem.W.Frag}{mg:Str->Option Value}{base:Heap}
inductive Yo(K:PySem.W.Frag)(vs:List V)(H:Hp)(Q:VK):Prop
 | mk (v:V) (d:Dat) (_:vs=[v]) (_:Rep K H d v) (_:Q (.bl (wg d)) H):Yo K vs H Q
def zel(K:PySem.W.Frag):Sp:=fun vs H Q _=>Yo K vs H Q
theorem zev:zI ["thing"] ["thing"] (zv (topL 1)):=⟨rfl,rfl,rfl,by decide +kernel,rfl,by decide +kernel,by decide +kernel⟩
theorem zfl{f:Addr}{fd:FuncData}(F:Fun K "is_number" "is_number" (topL 1) f fd)(B:Blt mg):qS P w K mg base CX0 1 f fd ["thing"] (zel K):=by
 have nd:=zev.nd
 refine F.ok zev (fun vs H Q E h=>?_) (fun cdv A outer s H vs Q E hr h=>?_)
 ·obtain⟨v,d,rfl,_⟩:=h
  rfl
 ·obtain⟨v,d,rfl,rd,k⟩:=h
  refine⟨_,(zi (zt (xg (zj qm rfl B.isinstance boot_isinstance (za (pv 0) (za (qh (v:=.ty "int") rfl B.int vy rfl) zc))) (xo (zck (zj qm rfl B.isinstance boot_isinstance (za (pv 0) (za (qh (v:=.ty "bool") rfl B.bool vz rfl) zc)))))))),?_⟩
  refine⟨_,rfl,v,d.tyN, "int",rfl,rd.ty,(by decide),?_⟩
  rw[Yb]
  rw[<- zfp d] at k
  refine⟨_,rfl,z7 (fun c=>?_) (fun c=>?_)⟩
  ·rw[if_pos c] at k
   refine⟨_,rfl,v,d.tyN, "bool",rfl,rd.ty,(by decide),?_⟩
   rw[X5]
   exact⟨_,rfl,k⟩
  ·rw[if_neg c,(ZL _).mp c] at k
   exact k
inductive X9(K:PySem.W.Frag)(vs:List V)(H:Hp)(Q:VK):Prop
 | mk (v:V) (d:Dat) (lo hi:Int) (_:vs=[v,.int lo,.int hi]) (_:Rep K H d v) (_:Q (.bl (zG lo hi d)) H):X9 K vs H Q
def Qe(K:PySem.W.Frag):Sp:=fun vs H Q _=>X9 K vs H Q
theorem zf7:zI ["thing", "least", "most"] ["thing", "least", "most"] (zv (topL 2)):=⟨rfl,rfl,rfl,by decide +kernel,rfl,by decide +kernel,by decide +kernel⟩
theorem zgw{f:Addr}{fd:FuncData}(F:Fun K "is_number_within" "is_number_within" (topL 2) f fd)(B:Blt mg)(Dis_number:Dfn P w K mg base "is_number" 1 ["thing"] (zel K)):qS P w K mg base CX0 2 f fd ["thing", "least", "most"] (Qe K):=by
 have nd:=zf7.nd
 refine F.ok zf7 (fun vs H Q E h=>?_) (fun cdv A outer s H vs Q E hr h=>?_)
 ·obtain⟨v,d,lo,hi,rfl,_⟩:=h
  rfl
 ·obtain⟨v,d,lo,hi,rfl,rd,k⟩:=h
  refine⟨_,(zi (zt (xg (zg Dis_number (hr.mono (by decide)) rfl (za (pv 0) zc)) (xo (Vz JA JA (pv 1) (pv 0) (pv 2)))))),?_⟩
  refine⟨_,rfl,v,d,rfl,rd,_,rfl,z7 (fun c1=>?_) (fun c1=>?_)⟩
  ·obtain⟨i,rfl⟩:∃i,d=.int i:=by cases d<;>first| exact⟨_,rfl⟩ | cases c1
   cases(show v=.int i from rd)
   refine⟨_,rfl,_,rfl,_,_,rfl,rfl,_,rfl,z7 (fun c2=>⟨_,rfl,_,_,rfl,rfl,?_⟩) (fun c2=>?_)⟩
   ·rw[show zG lo hi (.int i)=decide (i<=hi) by
     show(decide (lo<=i)&&decide (i<=hi))=_
     rw[c2];rfl] at k
    exact k
   ·rw[show zG lo hi (.int i)=false by
     show(decide (lo<=i)&&decide (i<=hi))=_
     rw[(ZL _).mp c2];rfl] at k
    exact k
  ·rw[show zG lo hi d=false by cases d<;>first| rfl | exact absurd rfl c1] at k
   exact k
theorem zes:zI ["_law_thing", "_law_least", "_law_most"] ["_law_thing", "_law_least", "_law_most"] (zv (topL 40)):=⟨rfl,rfl,rfl,by decide +kernel,rfl,by decide +kernel,by decide +kernel⟩
theorem zfh{f:Addr}{fd:FuncData}(F:Fun K "_law_is_number" "_law_is_number" (topL 40) f fd)(B:Blt mg):qS P w K mg base CX0 1 f fd ["_law_thing", "_law_least", "_law_most"] (Qe K):=by
 have nd:=zes.nd
 refine F.ok zes (fun vs H Q E h=>?_) (fun cdv A outer s H vs Q E hr h=>?_)
 ·obtain⟨v,d,lo,hi,rfl,_⟩:=h
  rfl
 ·obtain⟨v,d,lo,hi,rfl,rd,k⟩:=h
  have no:wg d=false->zG lo hi d=false:=fun z=>by cases d<;>first| rfl | cases z
  refine⟨_,(zi (zt (xg (zj qm rfl B.isinstance boot_isinstance (za (pv 0) (za (qh (v:=.ty "int") rfl B.int vy rfl) zc))) (xg (zck (zj qm rfl B.isinstance boot_isinstance (za (pv 0) (za (qh (v:=.ty "bool") rfl B.bool vz rfl) zc)))) (xo (Vz JA JA (pv 1) (pv 0) (pv 2))))))),?_⟩
  refine⟨_,rfl,v,d.tyN, "int",rfl,rd.ty,(by decide),?_⟩
  rw[Yb]
  refine⟨_,rfl,z7 (fun c=>?_) (fun c=>?_)⟩
  ·refine⟨_,rfl,v,d.tyN, "bool",rfl,rd.ty,(by decide),?_⟩
   rw[X5]
   refine⟨_,rfl,_,rfl,z7 (fun c1=>?_) (fun c1=>?_)⟩
   ·obtain⟨i,rfl⟩:∃i,d=.int i:=by cases d<;>first| exact⟨_,rfl⟩ | exact Bool.noConfusion (show false=true from c1) | exact Bool.noConfusion (show false=true from c)
    cases(show v=.int i from rd)
    refine⟨_,rfl,_,rfl,_,_,rfl,rfl,_,rfl,z7 (fun c2=>⟨_,rfl,_,_,rfl,rfl,?_⟩) (fun c2=>?_)⟩
    ·rw[show zG lo hi (.int i)=decide (i<=hi) by
      show(decide (lo<=i)&&decide (i<=hi))=_
      rw[c2];rfl] at k
     exact k
    ·rw[show zG lo hi (.int i)=false by
      show(decide (lo<=i)&&decide (i<=hi))=_
      rw[(ZL _).mp c2];rfl] at k
     exact k
   ·rw[no (by cases d<;>first| rfl | exact absurd rfl c1)] at k
    exact k
  ·rw[no (by cases d<;>first| rfl | exact absurd rfl c)] at k
   exact k
inductive Yd(K:PySem.W.Frag)(vs:List V)(H:Hp)(Q:VK):Prop
 | mk (v:V) (d:Dat) (n:Nat) (_:vs=[v,.int (n:Int)]) (_:Rep K H d v) (_:Q (.bl (X6 n d)) H):Yd K vs H Q
def Ye(K:PySem.W.Frag):Sp:=fun vs H Q _=>Yd K vs H Q
theorem zf9:zI ["thing", "many"] ["thing", "many"] (zv (topL 4)):=⟨rfl,rfl,rfl,by decide +kernel,rfl,by decide +kernel,by decide +kernel⟩
theorem zgy{f:Addr}{fd:FuncData}(F:Fun K "is_tuple_of" "is_tuple_of" (topL 4) f fd)(B:Blt mg):qS P w K mg base CX0 1 f fd ["thing", "many"] (Ye K):=by
 have nd:=zf9.nd
 refine F.ok zf9 (fun vs H Q E h=>?_) (fun cdv A outer s H vs Q E hr h=>?_)
 ·obtain⟨v,d,n,rfl,_⟩:=h
  rfl
 ·obtain⟨v,d,n,rfl,rd,k⟩:=h
  refine⟨_,(zi (zt (xg (zj qm rfl B.isinstance boot_isinstance (za (pv 0) (za (qh (v:=.ty "tuple") rfl B.tuple zT rfl) zc))) (xo (qK qQ (zj zp rfl B.len boot_len (za (pv 0) zc)) (pv 1) (zB _)))))),?_⟩
  refine⟨_,rfl,v,d.tyN, "tuple",rfl,rd.ty,(by decide),?_⟩
  rw[yz]
  refine⟨_,rfl,z7 (fun c=>?_) (fun c=>?_)⟩
  ·cases d with
   | tup ds=>
    obtain⟨a,xs,rfl,hq,rx⟩:=rd
    have lds:=rx.len
    refine⟨_,rfl,a,xs,rfl,.inr hq,_,rfl,?_⟩
    rw[show X6 n (.tup ds)=decide (V.int (xs.length:Int)=V.int (n:Int)) by
     show decide (ds.length=n)=_
     rw[lds]
     refine decide_eq_decide.mpr ⟨fun h=>by rw[h],fun h=>?_⟩
     cases h
     rfl] at k
    exact⟨rfl,k⟩
   | _=>cases c
  ·rw[show X6 n d=false by cases d<;>first| rfl | exact absurd rfl c] at k
   exact k
inductive Vb(K:PySem.W.Frag)(vs:List V)(H:Hp)(Q:VK):Prop
 | mk (v:V) (d:Dat) (m:Int) (_:vs=[v,.int m]) (_:Rep K H d v) (_:Q (.bl (zbu m d)) H):Vb K vs H Q
def zbB(K:PySem.W.Frag):Sp:=fun vs H Q _=>Vb K vs H Q
theorem zf8:zI ["thing", "most"] ["thing", "most"] (zv (topL 5)):=⟨rfl,rfl,rfl,by decide +kernel,rfl,by decide +kernel,by decide +kernel⟩
theorem zgx{f:Addr}{fd:FuncData}(F:Fun K "is_tuple_upto" "is_tuple_upto" (topL 5) f fd)(B:Blt mg):qS P w K mg base CX0 1 f fd ["thing", "most"] (zbB K):=by
 have nd:=zf8.nd
 refine F.ok zf8 (fun vs H Q E h=>?_) (fun cdv A outer s H vs Q E hr h=>?_)
 ·obtain⟨v,d,m,rfl,_⟩:=h
  rfl
 ·obtain⟨v,d,m,rfl,rd,k⟩:=h
  refine⟨_,(zi (zt (xg (zj qm rfl B.isinstance boot_isinstance (za (pv 0) (za (qh (v:=.ty "tuple") rfl B.tuple zT rfl) zc))) (xo (qK JA (zj zp rfl B.len boot_len (za (pv 0) zc)) (pv 1) (zB _)))))),?_⟩
  refine⟨_,rfl,v,d.tyN, "tuple",rfl,rd.ty,(by decide),?_⟩
  rw[yz]
  refine⟨_,rfl,z7 (fun c=>?_) (fun c=>?_)⟩
  ·cases d with
   | tup ds=>
    obtain⟨a,xs,rfl,hq,rx⟩:=rd
    refine⟨_,rfl,a,xs,rfl,.inr hq,_,rfl,_,_,rfl,rfl,?_⟩
    rw[show zbu m (.tup ds)=decide ((xs.length:Int)<=m) by rw[rx.len];rfl] at k
    exact k
   | _=>cases c
  ·rw[show zbu m d=false by cases d<;>first| rfl | exact absurd rfl c] at k
   exact k
end
def ji(np nf:Int):Dat->Bool
 | .tup [p,f]=>zG 0 (np-1) p&&zG 0 (nf-1) f
 | _=>false
def zhs:Dat->Dat
 | .tup (p::_)=>p
 | d=>d
def zR(d:Dat):Int:=iD (zhs d)
def vi(us:List Int):Bool:=decide ((xi [] (us.map Sum.inl:List Key)).length=us.length)
def Qm:Dat->List Int
 | .tup ds=>ds.map zR
 | _=>[]
def vJ(np nf hd:Int):Dat->Bool
 | .tup ds=>decide ((ds.length:Int)<=hd)&&(!decide (ds.length=0)&&(ds.all (ji np nf)&&vi (ds.map zR)))
 | _=>false
def ZE(np:Int)(us:List Int):Dat->Bool
 | .tup ds=>decide (ds.length=us.length)&&(ds.all (zG 0 (np-1))&&(ds.map iD).isPerm us)
 | _=>false
def j7(np nf hd:Int):Dat->Bool
 | .tup [p,l]=>vJ np nf hd p&&ZE np (Qm p) l
 | _=>false
theorem zdu{a b:List Int}(h:a.Perm b)(ha:a.Pairwise (·<= ·))(hb:b.Pairwise (·<= ·)):a=b:=by
 induction a generalizing b with
 | nil=>exact(List.Perm.nil_eq h)
 | cons x a ih=>
  cases b with
  | nil=>exact absurd h.length_eq (by simp)
  | cons y b=>
   rw[List.pairwise_cons] at ha hb
   have xy:x=y:=by
    have h1:y∈x::a:=h.mem_iff.mpr jD
    have h2:x∈y::b:=h.mem_iff.mp jD
    rcases qq.mp h1 with z | z
    ·exact z.symm
    ·rcases qq.mp h2 with u | u
     ·exact u
     ·have:=ha.1 y z
      have:=hb.1 x u
      omega
   subst xy
   rw[ih (List.Perm.cons_inv h) ha.2 hb.2]
theorem Yy{ms ns us vs:List Int}(h1:ms.Perm us)(s1:ms.Pairwise (·<= ·))(h2:ns.Perm vs)(s2:ns.Pairwise (·<= ·)):decide (ms=ns)=us.isPerm vs:=by
 rw[wu,ww,QT]
 exact⟨fun e=>(h1.symm.trans (e▸.refl _)).trans h2,fun p=>zdu ((h1.trans p).trans h2.symm) s1 s2⟩
theorem at2{x y z:V}{r:List V}:atI (x::y::z::r) 2=some z:=qI (j:=2) rfl
theorem at3{x y z u:V}{r:List V}:atI (x::y::z::u::r) 3=some u:=qI (j:=3) rfl
theorem Z3{d:Dat}(h:X6 2 d=true):∃d0 d1,d=.tup [d0,d1]:=by
 match d,h with
 | .tup [a,b],_=>exact⟨a,b,rfl⟩
 | .tup [],h=>exact Bool.noConfusion (show false=true from h)
 | .tup [_],h=>exact Bool.noConfusion (show false=true from h)
 | .tup (x::y::z::l),h=>exact absurd (qW (p:=(x::y::z::l).length=2) h) (by simp)
section
variable{P:Program}{w:World}{K:PySem.W.Frag}{mg:Str->Option Value}{base:Heap}
theorem Z5{H:Hp}{J:Job}{jp:Addr}(h:Rep K H (vj J) (.ref jp)):∃(g fs ps as:Addr) (fv pv:List V),SqT K H jp [.ref g,.int J.hd,.ref fs,.ref ps,.ref as]/\SqT K H fs fv/\fv.length=J.fs.length/\SqT K H ps pv/\pv.length=J.ps.length:=by
 obtain⟨a,xs,e,q,x0,r0,e0,h0,x1,r1,e1,h1,x2,r2,e2,h2,x3,r3,e3,h3,x4,r4,e4,h4,e5⟩:=h
 cases e
 subst e0 e1 e2 e3 e4
 have e5':r4=[]:=e5
 subst e5'
 have h1':x1=.int J.hd:=h1
 subst h1'
 obtain⟨g,gx,rfl,gq⟩:=h0
 obtain⟨fs,fx,rfl,fq,fr⟩:=h2
 obtain⟨ps,px,rfl,pq,pr⟩:=h3
 obtain⟨as,ax,rfl,aq⟩:=h4
 have lf:=fr.len
 have lp:=pr.len
 rw[zq] at lf lp
 exact⟨g,fs,ps,as,fx,px,q,fq,lf,pq,lp⟩
inductive Vh(K:PySem.W.Frag)(vs:List V)(H:Hp)(Q:VK):Prop
 | mk (jp:Addr) (J:Job) (v:V) (d:Dat) (_:vs=[.ref jp,v]) (_:Rep K H (vj J) (.ref jp)) (_:Rep K H d v) (_:Q (.bl (ji J.ps.length J.fs.length d)) H):Vh K vs H Q
def zbD(K:PySem.W.Frag):Sp:=fun vs H Q _=>Vh K vs H Q
theorem zbZ:zI ["job", "thing", "part", "feeder"] ["job", "thing"] (zv (topL 17)):=⟨rfl,rfl,rfl,by decide +kernel,rfl,by decide +kernel,by decide +kernel⟩
theorem zdI{f:Addr}{fd:FuncData}(F:Fun K "is_pick" "is_pick" (topL 17) f fd)(B:Blt mg)(Dis_tuple_of:Dfn P w K mg base "is_tuple_of" 1 ["thing", "many"] (Ye K))(Dis_number_within:Dfn P w K mg base "is_number_within" 2 ["thing", "least", "most"] (Qe K)):qS P w K mg base CX0 3 f fd ["job", "thing"] (zbD K):=by
 have nd:=zbZ.nd
 refine F.ok zbZ (fun vs H Q E h=>?_) (fun cdv A outer s H vs Q E hr h=>?_)
 ·obtain⟨jp,J,v,d,rfl,_⟩:=h
  rfl
 ·obtain⟨jp,J,v,d,rfl,rj,rd,k⟩:=h
  obtain⟨g,fs,ps,as,fv,px,qj,qf,lf,qp,lp⟩:=Z5 rj
  refine⟨_,(zf (qe (ju (qG (zg Dis_tuple_of (hr.mono (by decide)) rfl (za (pv 1) (za ze zc)))))
   (zi (zt jW))
   zJ)
   (zf (jH (pv 1) (qT rfl (zx (zr (i:=2) nd rfl (Or.inl rfl)) (zx (zr (i:=3) nd rfl (Or.inl rfl)) qB))))
   (zi (zt (xg (zg Dis_number_within (hr.mono (by decide)) rfl (za (pv 2) (za ze (za (zw jZ (zj zp rfl B.len boot_len (za (zE qD (pv 0) ze (fun _ _=>rfl)) zc)) ze) zc)))) (xo (zg Dis_number_within (hr.mono (by decide)) rfl (za (pv 3) (za ze (za (zw jZ (zj zp rfl B.len boot_len (za (zE qD (pv 0) ze (fun _ _=>rfl)) zc)) ze) zc)))))))))),?_⟩
  refine⟨_,rfl,v,d,2,rfl,rd,_,rfl,z7 (fun c=>?_) (fun c=>?_)⟩
  ·rw[show ji J.ps.length J.fs.length d=false by
    match d,c with
    | .tup [],_=>rfl
    | .tup [_],_=>rfl
    | .tup (_::_::_::_),_=>rfl
    | .non,_=>rfl
    | .bl _,_=>rfl
    | .int _,_=>rfl
    | .str _,_=>rfl
    | .lst _,_=>rfl] at k
   exact k
  ·obtain⟨d0,d1,rfl⟩:∃d0 d1,d=.tup [d0,d1]:=Z3 (by simpa using c)
   obtain⟨a,xs,rfl,qa,x0,r0,e0,h0,x1,r1,e1,h1,e2⟩:=rd
   subst e0 e1
   cases(show r1=[] from e2)
   refine⟨_,rfl,a,_,rfl,qa,rfl,_,_,rfl,_,_,rfl,rfl,?_⟩
   refine⟨_,rfl,_,rfl,jp,_,_,_,rfl,rfl,qj,at3,ps,_,rfl,.inr qp,_,_,rfl,rfl,x0,d0,_,_,rfl,h0,?_⟩
   rw[lp]
   have k':Q (.bl (zG 0 ((J.ps.length:Int)-1) d0&&zG 0 ((J.fs.length:Int)-1) d1)) H:=k
   refine⟨_,rfl,z7 (fun c1=>?_) (fun c1=>?_)⟩
   ·refine⟨_,rfl,_,rfl,jp,_,_,_,rfl,rfl,qj,at2,fs,_,rfl,.inr qf,_,_,rfl,rfl,x1,d1,_,_,rfl,h1,?_⟩
    rw[c1,vR] at k'
    rw[lf]
    exact k'
   ·rw[(ZL _).mp c1,Zs] at k'
    exact k'
end
theorem at1{x y:V}{r:List V}:atI (x::y::r) 1=some y:=qI (j:=1) rfl
theorem zaF{κ:Type}[DecidableEq κ](ks js:List κ)(k:κ):xi ks (js++[k])=xh (xi ks js) k:=by unfold xi;rw[List.foldl_append];rfl
theorem Qk{np nf:Int}{d:Dat}(h:ji np nf d=true):∃(p:Int) (f:Dat),d=.tup [.int p,f]:=by
 match d,h with
 | .tup [.int p,f],_=>exact⟨p,f,rfl⟩
 | .tup [.non,f],h=>exact Bool.noConfusion (show false=true from h)
 | .tup [.bl _,f],h=>exact Bool.noConfusion (show false=true from h)
 | .tup [.str _,f],h=>exact Bool.noConfusion (show false=true from h)
 | .tup [.lst _,f],h=>exact Bool.noConfusion (show false=true from h)
 | .tup [.tup _,f],h=>exact Bool.noConfusion (show false=true from h)
 | .tup [],h=>exact Bool.noConfusion (show false=true from h)
 | .tup [_],h=>exact Bool.noConfusion (show false=true from h)
 | .tup (_::_::_::_),h=>exact Bool.noConfusion (show false=true from h)
section
variable{P:Program}{w:World}{K:PySem.W.Frag}{mg:Str->Option Value}{base:Heap}
inductive Ju(K:PySem.W.Frag)(vs:List V)(H:Hp)(Q:VK):Prop
 | mk (jp:Addr) (J:Job) (v:V) (d:Dat) (_:vs=[.ref jp,v]) (_:Rep K H (vj J) (.ref jp)) (_:Rep K H d v) (_:J.hd<=4) (_:∀H',Same H H'->Q (.bl (vJ J.ps.length J.fs.length J.hd d)) H'):Ju K vs H Q
def Yj(K:PySem.W.Frag):Sp:=fun vs H Q _=>Ju K vs H Q
theorem YD:zI ["job", "thing"] ["job", "thing"] (zv (topL 18)):=⟨rfl,rfl,rfl,by decide +kernel,rfl,by decide +kernel,by decide +kernel⟩
theorem zcu{f:Addr}{fd:FuncData}(F:Fun K "are_picks" "are_picks" (topL 18) f fd)(B:Blt mg)(Dis_tuple_upto:Dfn P w K mg base "is_tuple_upto" 1 ["thing", "most"] (zbB K))(Dis_pick:Dfn P w K mg base "is_pick" 3 ["job", "thing"] (zbD K)):qS P w K mg base CX0 4 f fd ["job", "thing"] (Yj K):=by
 have nd:=YD.nd
 refine F.ok YD (fun vs H Q E h=>?_) (fun cdv A outer s H vs Q E hr h=>?_)
 ·obtain⟨jp,J,v,d,rfl,_⟩:=h
  rfl
 ·obtain⟨jp,J,v,d,rfl,rj,rd,hd4,k⟩:=h
  obtain⟨g,fs,ps,as,fv,px,qj,qf,lf,qp,lp⟩:=Z5 rj
  have hbig:1000000<sizeLine:=by rw[sizeLine_eq];decide
  refine⟨_,(zf (qe (PW.pt (xf (ju (qG (zg Dis_tuple_upto (hr.mono (by decide)) rfl (za (pv 1) (za (zE qD (pv 0) ze (fun _ _=>rfl)) zc))))) (j5 (zA qQ (zj zp rfl B.len boot_len (za (pv 1) zc)) ze (zB _)))))
   (zi (zt jW))
   zJ)
   (zf (qe (ju (qG (zj (jA rfl) rfl B.all boot_all (za (jS ["job"] [0] rfl rfl (by kernel_rfl) (jX (pv 1)) (fun _ _ _ _=>jb) (fun _ _ _ _=>(zg Dis_pick (hr.mono (by decide)) rfl (za (pv 1) (za (pv 0) zc))))) zc))))
   (zi (zt jW))
   zJ)
   (zi (zt (qK qQ (zj JP rfl B.len boot_len (za (zfa [] [] rfl rfl (by kernel_rfl) (jX (pv 1)) (fun _ _ _ _=>jb) (fun _ _ _ _=>(pv 0))) zc)) (zj zp rfl B.len boot_len (za (pv 1) zc)) (zB _)))))),?_⟩
  refine⟨_,rfl,_,rfl,jp,_,_,_,rfl,rfl,qj,at1,v,d,_,rfl,rd,_,rfl,z7 (fun c=>?_) (fun c=>?_)⟩
  ·have k':=k H (Same.refl _)
   rw[show vJ J.ps.length J.fs.length J.hd d=false by
    cases d with
    | tup ds=>
     have c':decide ((ds.length:Int)<=J.hd)=false:=by simpa [zbu] using c
     show(decide ((ds.length:Int)<=J.hd)&&_)=false
     rw[c'];rfl
    | _=>rfl] at k'
   exact k'
  ·have c':zbu J.hd d=true:=by simpa using c
   obtain⟨ds,rfl⟩:∃ds,d=.tup ds:=by cases d<;>first| exact⟨_,rfl⟩ | cases c'
   obtain⟨a,xs,rfl,qa,rx⟩:=rd
   have lx:=rx.len
   have dl:(ds.length:Int)<=J.hd:=qW c'
   have kk:∀H',Same H H'->Q (.bl (!decide (ds.length=0)&&(ds.all (ji J.ps.length J.fs.length)&&vi (ds.map zR)))) H':=fun H' s'=>by
    have:=k H' s'
    rw[show vJ J.ps.length J.fs.length J.hd (.tup ds)=(decide ((ds.length:Int)<=J.hd)&&(!decide (ds.length=0)&&(ds.all (ji J.ps.length J.fs.length)&&vi (ds.map zR)))) from rfl,qF dl,vR] at this
    exact this
   clear k
   refine⟨_,rfl,a,xs,rfl,.inr qa,rfl,_,rfl,z7 (fun c1=>?_) (fun c1=>?_)⟩
   ·have e0:ds.length=0:=by rw[<- lx];exact Int.ofNat.inj (V.int.inj (qW c1))
    have k':=kk H (Same.refl _)
    rw[qF e0] at k'
    exact k'
   ·have e0:¬ds.length=0:=fun z=>c1 (qF (by rw[lx,z];rfl))
    have kk':∀H',Same H H'->Q (.bl (ds.all (ji J.ps.length J.fs.length)&&vi (ds.map zR))) H':=fun H' s'=>by
     have:=kk H' s'
     rw[jQ e0] at this
     exact this
    clear kk c1 c c'
    refine⟨_,rfl,a,rfl,⟨_,qa⟩,j6 (K:=K) (a:=a) (xs:=xs) (fun i zs H1=>zs=((ds.take i).map (ji J.ps.length J.fs.length)).map V.bl/\Same H H1) ⟨rfl,Same.refl _⟩ (fun i zs H1 ⟨_,s1⟩=>s1.sqT qa) ?_ ?_⟩
    ·rintro i x zs H1 hx ⟨rfl,s1⟩
     obtain⟨d,ed,rd⟩:=(rx.same s1).get hx
     have il:=(zN.mp ed).1
     refine⟨rfl,_,rfl,_,rfl,jp,J,x,d,rfl,rj.same s1,rd,?_,?_,s1⟩
     ·rw[zq,zq,z9];omega
     ·rw[qg ed,zW,zW];rfl
    rintro zs H1 ⟨rfl,s1⟩
    rw[lx,je]
    refine⟨by rw[zq,zq];omega,fun D hD=>⟨D,_,rfl,SqL.of zb,?_⟩⟩
    have s2:=s1.trans (zd (H:=H1) (o:=.lst ((ds.map (ji J.ps.length J.fs.length)).map V.bl)) hD)
    generalize upd H1 D (.lst ((ds.map (ji J.ps.length J.fs.length)).map V.bl))=H2 at s2
    have ea:(ds.map (ji J.ps.length J.fs.length)).all id=ds.all (ji J.ps.length J.fs.length):=by rw[List.all_map];rfl
    rw[ea]
    refine⟨_,rfl,z7 (fun c=>?_) (fun c=>?_)⟩
    ·have c':ds.all (ji J.ps.length J.fs.length)=false:=by simpa using c
     have k':=kk' H2 s2
     rw[c'] at k'
     exact k'
    have c':ds.all (ji J.ps.length J.fs.length)=true:=by simpa using c
    have all:=jh.mp c'
    refine⟨_,rfl,a,rfl,⟨_,s2.sqT qa⟩,zeV (K:=K) (a:=a) (xs:=xs) (fun i ks H3=>ks=xi [] (((ds.take i).map zR).map Sum.inl:List Key)/\Same H2 H3) ⟨rfl,Same.refl _⟩ (fun i ks H3 ⟨_,s3⟩=>(s2.trans s3).sqT qa) ?_ ?_⟩
    ·rintro i x ks H3 hx ⟨rfl,s3⟩
     obtain⟨d,ed,rd⟩:=(rx.same (s2.trans s3)).get hx
     have il:=(zN.mp ed).1
     obtain⟨p,fd,rfl⟩:=Qk (all d (jl ed))
     obtain⟨u,ys,rfl,qu,x0,r0,e0,h0,x1,r1,e1,h1,e2⟩:=rd
     subst e0 e1
     cases(show r1=[] from e2)
     cases(show x0=_ from h0)
     refine⟨u,_,rfl,qu,rfl,_,_,rfl,_,_,rfl,rfl,rfl,?_⟩
     have:=X4 (((ds.take i).map zR).map Sum.inl:List Key) []
     rw[zq,zq,z9,Zv] at this
     refine⟨_,rfl,Sum.inl p,rfl,by omega,?_,s3⟩
     rw[qg ed,zW,zW]
     exact(zaF _ _ _).symm
    rintro ks H3 ⟨rfl,s3⟩
    rw[lx,je]
    intro D2 hD2
    refine⟨D2,_,rfl,zb,?_⟩
    have s4:=(s2.trans s3).trans (zd (H:=H3) (o:=Qi P w D2 (xi [] ((ds.map zR).map Sum.inl:List Key))) hD2)
    have k':=kk' _ s4
    rw[c',vR] at k'
    refine⟨_,rfl,a,xs,rfl,.inr (s4.sqT qa),rfl,?_⟩
    rw[show vi (ds.map zR)=decide (V.int (((xi [] ((ds.map zR).map Sum.inl:List Key)).length:Nat):Int)=V.int (xs.length:Int)) by
     unfold vi
     rw[lx,zq]
     exact decide_eq_decide.mpr ⟨fun h=>by rw[h],fun h=>Int.ofNat.inj (V.int.inj h)⟩] at k'
    exact k'
end
theorem Qj{K:PySem.W.Frag}{H:Hp}:∀{us:List Int} {xs:List V},Reps K H (us.map Dat.int) xs->xs=us.map V.int
 | [],_,h=>h
 | u::us,_,⟨x,r,e,h1,h2⟩=>by
  rw[e,show x=V.int u from h1,Qj h2]
  rfl
theorem JB{ds:List Dat}(h:ds.all wg=true):ds=(ds.map iD).map Dat.int:=by
 induction ds with
 | nil=>rfl
 | cons d ds ih=>
  rw[List.all_cons,qV] at h
  rw[jP,jP,<- ih h.2]
  cases d with
  | int i=>rfl
  | _=>cases h.1
theorem Z8{lo hi:Int}{d:Dat}(h:zG lo hi d=true):wg d=true:=by
 cases d with
 | int i=>rfl
 | _=>cases h
section
variable{P:Program}{w:World}{K:PySem.W.Frag}{mg:Str->Option Value}{base:Heap}
inductive Vl(K:PySem.W.Frag)(vs:List V)(H:Hp)(Q:VK):Prop
 | mk (jp pk:Addr) (J:Job) (v:V) (d:Dat) (ds:List Dat) (_:vs=[.ref jp,v,.ref pk]) (_:Rep K H (vj J) (.ref jp)) (_:Rep K H d v) (_:Rep K H (.tup ds) (.ref pk)) (_:ds.all (ji J.ps.length J.fs.length)=true) (_:ds.length<=4) (_:∀H',Same H H'->Q (.bl (ZE J.ps.length (ds.map zR) d)) H'):Vl K vs H Q
def zbI(K:PySem.W.Frag):Sp:=fun vs H Q _=>Vl K vs H Q
theorem zb3:zI ["job", "thing", "picks"] ["job", "thing", "picks"] (zv (topL 19)):=⟨rfl,rfl,rfl,by decide +kernel,rfl,by decide +kernel,by decide +kernel⟩
theorem zdM{f:Addr}{fd:FuncData}(F:Fun K "are_lays" "are_lays" (topL 19) f fd)(B:Blt mg)(Dis_tuple_of:Dfn P w K mg base "is_tuple_of" 1 ["thing", "many"] (Ye K))(Dis_number_within:Dfn P w K mg base "is_number_within" 2 ["thing", "least", "most"] (Qe K)):qS P w K mg base CX0 4 f fd ["job", "thing", "picks"] (zbI K):=by
 have nd:=zb3.nd
 refine F.ok zb3 (fun vs H Q E h=>?_) (fun cdv A outer s H vs Q E hr h=>?_)
 ·obtain⟨jp,pk,J,v,d,ds,rfl,_⟩:=h
  rfl
 ·obtain⟨jp,pk,J,v,d,ds,rfl,rj,rd,⟨pk',pxs,epk,qpk,rpx⟩,pall,d4,k⟩:=h
  cases epk
  have all:=jh.mp pall
  have pl:=rpx.len
  obtain⟨g,fs,ps,as,fv,px,qj,qf,lf,qp,lp⟩:=Z5 rj
  have hbig:1000000<sizeLine:=by rw[sizeLine_eq];decide
  have hu:=hr.units0
  refine⟨_,(zf (qe (ju (qG (zg Dis_tuple_of (hr.mono (by decide)) rfl (za (pv 1) (za (zj zp rfl B.len boot_len (za (pv 2) zc)) zc)))))
   (zi (zt jW))
   zJ)
   (zf (qe (ju (qG (zj (jA rfl) rfl B.all boot_all (za (jS ["job"] [0] rfl rfl (by kernel_rfl) (jX (pv 1)) (fun _ _ _ _=>jb) (fun _ _ _ _=>(zg Dis_number_within (hr.mono (by decide)) rfl (za (pv 0) (za ze (za (zw jZ (zj (xx (K:=K) rfl) rfl B.len boot_len (za (zE (jq (K:=K) rfl) (pv 1) ze (fun _ _=>rfl)) zc)) ze) zc)))))) zc))))
   (zi (zt jW))
   zJ)
   (zi (zt (qK (YR hu) (zj wW rfl B.sorted xb (za (pv 1) zc)) (zj vQ rfl B.sorted xb (za (wa [] [] rfl rfl (by kernel_rfl) (jX (pv 2)) (fun _ _ _ _=>jb) (fun _ _ _ _=>(pv 0))) zc)) (zB _)))))),?_⟩
  refine⟨_,rfl,_,rfl,pk,pxs,rfl,.inr qpk,v,d,pxs.length,rfl,rd,_,rfl,z7 (fun c=>?_) (fun c=>?_)⟩
  ·have k':=k H (Same.refl _)
   rw[show ZE J.ps.length (ds.map zR) d=false by
    cases d with
    | tup es=>
     have c':¬es.length=pxs.length:=by simpa [X6] using c
     show(decide (es.length=(ds.map zR).length)&&_)=false
     rw[zq,<- pl,jQ c'];rfl
    | _=>rfl] at k'
   exact k'
  ·have c':X6 pxs.length d=true:=by simpa using c
   obtain⟨es,rfl⟩:∃es,d=.tup es:=by cases d<;>first| exact⟨_,rfl⟩ | cases c'
   obtain⟨a,xs,rfl,qa,rx⟩:=rd
   have lx:=rx.len
   have el:es.length=pxs.length:=qW c'
   have kk:∀H',Same H H'->Q (.bl (es.all (zG 0 ((J.ps.length:Int)-1))&&(es.map iD).isPerm (ds.map zR))) H':=fun H' s'=>by
    have:=k H' s'
    rw[show ZE J.ps.length (ds.map zR) (.tup es)=(decide (es.length=(ds.map zR).length)&&(es.all (zG 0 ((J.ps.length:Int)-1))&&(es.map iD).isPerm (ds.map zR))) from rfl,qF (by rw[zq,<- pl,el]),vR] at this
    exact this
   clear k c c'
   refine⟨_,rfl,a,rfl,⟨_,qa⟩,j6 (K:=K) (a:=a) (xs:=xs) (fun i zs H1=>zs=((es.take i).map (zG 0 ((J.ps.length:Int)-1))).map V.bl/\Same H H1) ⟨rfl,Same.refl _⟩ (fun i zs H1 ⟨_,s1⟩=>s1.sqT qa) ?_ ?_⟩
   ·rintro i x zs H1 hx ⟨rfl,s1⟩
    obtain⟨d,ed,rd⟩:=(rx.same s1).get hx
    have il:=(zN.mp ed).1
    refine⟨rfl,_,rfl,_,rfl,jp,_,_,_,rfl,rfl,s1.sqT qj,at3,ps,_,rfl,.inr (s1.sqT qp),_,_,rfl,rfl,x,d,0,_,rfl,rd,?_,?_,s1⟩
    ·rw[zq,zq,z9];omega
    ·rw[qg ed,zW,zW,lp];rfl
   rintro zs H1 ⟨rfl,s1⟩
   rw[lx,je]
   refine⟨by rw[zq,zq];omega,fun D hD=>⟨D,_,rfl,SqL.of zb,?_⟩⟩
   have s2:=s1.trans (zd (H:=H1) (o:=.lst ((es.map (zG 0 ((J.ps.length:Int)-1))).map V.bl)) hD)
   generalize upd H1 D (.lst ((es.map (zG 0 ((J.ps.length:Int)-1))).map V.bl))=H2 at s2
   have ea:(es.map (zG 0 ((J.ps.length:Int)-1))).all id=es.all (zG 0 ((J.ps.length:Int)-1)):=by rw[List.all_map];rfl
   rw[ea]
   refine⟨_,rfl,z7 (fun c=>?_) (fun c=>?_)⟩
   ·have c':es.all (zG 0 ((J.ps.length:Int)-1))=false:=by simpa using c
    have k':=kk H2 s2
    rw[c'] at k'
    exact k'
   have c':es.all (zG 0 ((J.ps.length:Int)-1))=true:=by simpa using c
   have en:=JB (ds:=es) (jh.mpr fun d hd=>Z8 (jh.mp c' d hd))
   rw[en] at rx
   have ex:=Qj rx
   rw[ex] at qa
   refine⟨_,rfl,a,es.map iD,rfl,s2.sqT qa,by rw[zq];omega,fun p1 ms h1 m1 m2=>?_⟩
   have s3:=s2.trans (zd (H:=H2) (o:=.lst (ms.map V.int)) h1)
   have P3:=zb (H:=H2) (a:=p1) (o:=.lst (ms.map V.int))
   generalize upd H2 p1 (.lst (ms.map V.int))=H3 at s3 P3
   refine⟨_,rfl,pk,rfl,⟨_,s3.sqT qpk⟩,j6 (K:=K) (a:=pk) (xs:=pxs) (fun i zs H4=>zs=((ds.take i).map zR).map V.int/\Same H3 H4) ⟨rfl,Same.refl _⟩ (fun i zs H4 ⟨_,s4⟩=>(s3.trans s4).sqT qpk) ?_ ?_⟩
   ·rintro i x zs H4 hx ⟨rfl,s4⟩
    obtain⟨d,ed,rd⟩:=(rpx.same (s3.trans s4)).get hx
    have il:=(zN.mp ed).1
    obtain⟨p,fd,rfl⟩:=Qk (all d (jl ed))
    obtain⟨u,ys,rfl,qu,x0,r0,e0,h0,x1,r1,e1,h1,e2⟩:=rd
    subst e0 e1
    cases(show r1=[] from e2)
    cases(show x0=_ from h0)
    refine⟨u,_,rfl,qu,rfl,_,_,rfl,_,_,rfl,rfl,rfl,?_⟩
    refine⟨_,rfl,?_,?_,s4⟩
    ·rw[zq,zq,z9];omega
    ·rw[qg ed,zW,zW];rfl
   rintro zs H4 ⟨rfl,s4⟩
   rw[pl,je]
   refine⟨by rw[zq,zq];omega,fun D2 hD2=>?_⟩
   refine⟨D2,ds.map zR,rfl,SqL.of zb,by rw[zq];omega,fun p2 ns h2 n1 n2=>?_⟩
   have s5:=(s4.trans (zd (H:=H4) (o:=.lst ((ds.map zR).map V.int)) hD2)).trans (zd (o:=.lst (ns.map V.int)) h2)
   refine⟨p1,p2,ms,ns,rfl,rfl,SqL.of (s5 _ _ P3),SqL.of zb,?_⟩
   have k':=kk _ (s3.trans s5)
   rw[c',vR,<- Yy m1 m2 n1 n2] at k'
   exact k'
end
theorem zcf{np nf hd:Int}{d:Dat}(h:vJ np nf hd d=true):∃ds,d=.tup ds/\(ds.length:Int)<=hd/\ds.all (ji np nf)=true:=by
 cases d with
 | tup ds=>
  have h':(decide ((ds.length:Int)<=hd)&&(!decide (ds.length=0)&&(ds.all (ji np nf)&&vi (ds.map zR))))=true:=h
  rw[qV,qV,qV] at h'
  exact⟨ds,rfl,qW h'.1,h'.2.2.1⟩
 | _=>cases h
section
variable{P:Program}{w:World}{K:PySem.W.Frag}{mg:Str->Option Value}{base:Heap}
inductive Yt(K:PySem.W.Frag)(vs:List V)(H:Hp)(Q:VK):Prop
 | mk (jp:Addr) (J:Job) (v:V) (d:Dat) (_:vs=[.ref jp,v]) (_:Rep K H (vj J) (.ref jp)) (_:Rep K H d v) (_:J.hd<=4) (_:∀H',Same H H'->Q (.bl (j7 J.ps.length J.fs.length J.hd d)) H'):Yt K vs H Q
def Yu(K:PySem.W.Frag):Sp:=fun vs H Q _=>Yt K vs H Q
theorem zew:zI ["job", "thing", "picks", "lays"] ["job", "thing"] (zv (topL 20)):=⟨rfl,rfl,rfl,by decide +kernel,rfl,by decide +kernel,by decide +kernel⟩
theorem zfk{f:Addr}{fd:FuncData}(F:Fun K "is_trip" "is_trip" (topL 20) f fd)(B:Blt mg)(Dis_tuple_of:Dfn P w K mg base "is_tuple_of" 1 ["thing", "many"] (Ye K))(Dare_picks:Dfn P w K mg base "are_picks" 4 ["job", "thing"] (Yj K))(Dare_lays:Dfn P w K mg base "are_lays" 4 ["job", "thing", "picks"] (zbI K)):qS P w K mg base CX0 5 f fd ["job", "thing"] (Yu K):=by
 have nd:=zew.nd
 refine F.ok zew (fun vs H Q E h=>?_) (fun cdv A outer s H vs Q E hr h=>?_)
 ·obtain⟨jp,J,v,d,rfl,_⟩:=h
  rfl
 ·obtain⟨jp,J,v,d,rfl,rj,rd,hd4,k⟩:=h
  refine⟨_,(zf (qe (ju (qG (zg Dis_tuple_of (hr.mono (by decide)) rfl (za (pv 1) (za ze zc)))))
   (zi (zt jW))
   zJ)
   (zf (jH (pv 1) (qT rfl (zx (zr (i:=2) nd rfl (Or.inl rfl)) (zx (zr (i:=3) nd rfl (Or.inl rfl)) qB))))
   (zi (zt (xg (zg Dare_picks (hr.mono (by decide)) rfl (za (pv 0) (za (pv 2) zc))) (xo (zg Dare_lays (hr.mono (by decide)) rfl (za (pv 0) (za (pv 3) (za (pv 2) zc)))))))))),?_⟩
  refine⟨_,rfl,v,d,2,rfl,rd,_,rfl,z7 (fun c=>?_) (fun c=>?_)⟩
  ·have k':=k H (Same.refl _)
   rw[show j7 J.ps.length J.fs.length J.hd d=false by
    match d,c with
    | .tup [],_=>rfl
    | .tup [_],_=>rfl
    | .tup (_::_::_::_),_=>rfl
    | .non,_=>rfl
    | .bl _,_=>rfl
    | .int _,_=>rfl
    | .str _,_=>rfl
    | .lst _,_=>rfl] at k'
   exact k'
  ·obtain⟨d0,d1,rfl⟩:∃d0 d1,d=.tup [d0,d1]:=Z3 (by simpa using c)
   obtain⟨a,xs,rfl,qa,x0,r0,e0,h0,x1,r1,e1,h1,e2⟩:=rd
   subst e0 e1
   cases(show r1=[] from e2)
   refine⟨_,rfl,a,_,rfl,qa,rfl,_,_,rfl,_,_,rfl,rfl,?_⟩
   refine⟨_,rfl,_,rfl,jp,J,x0,d0,rfl,rj,h0,hd4,fun H1 s1=>?_⟩
   have kk:∀H',Same H H'->Q (.bl (vJ J.ps.length J.fs.length J.hd d0&&ZE J.ps.length (Qm d0) d1)) H':=k
   refine⟨_,rfl,z7 (fun c1=>?_) (fun c1=>?_)⟩
   ·obtain⟨ds,rfl,dl,da⟩:=zcf c1
    have h0':=h0
    obtain⟨pk,ys,rfl,_⟩:=h0'
    refine⟨_,rfl,_,rfl,_,rfl,jp,pk,J,x1,d1,ds,rfl,rj.same s1,h1.same s1,h0.same s1,da,by omega,fun H2 s2=>?_⟩
    have k':=kk H2 (s1.trans s2)
    rw[c1,vR] at k'
    exact k'
   ·have k':=kk H1 s1
    rw[(ZL _).mp c1,Zs] at k'
    exact k'
end
theorem yJ{d:Dat}(h:xX d=true):∃ds,d=.tup ds:=by cases d<;>first| exact⟨_,rfl⟩ | cases h
theorem X7{np nf hd:Int}{d:Dat}(h:X6 2 d=false):j7 np nf hd d=false:=by
 match d,h with
 | .tup [_,_],h=>exact Bool.noConfusion (show true=false from h)
 | .tup [],_=>rfl
 | .tup [_],_=>rfl
 | .tup (_::_::_::_),_=>rfl
 | .non,_=>rfl
 | .bl _,_=>rfl
 | .int _,_=>rfl
 | .str _,_=>rfl
 | .lst _,_=>rfl
theorem zbv{np nf hd:Int}{d0 d1:Dat}(h:xX d0=false\/xX d1=false):j7 np nf hd (.tup [d0,d1])=false:=by
 show(vJ np nf hd d0&&ZE np (Qm d0) d1)=false
 rcases h with h | h
 ·rw[show vJ np nf hd d0=false by
   cases d0<;>first| rfl | cases h]
  rfl
 ·rw[show ZE np (Qm d0) d1=false by
   cases d1<;>first| rfl | cases h]
  rw[QS]
def WG(np nf hd:Int)(ds es:List Dat):Bool:=ds.all (ji np nf)&&(es.all (zG 0 (np-1))&&(vi (ds.map zR)&&(ds.map zR).isPerm (es.map iD)))
theorem zaJ{np nf hd:Int}{ds es:List Dat}(h0:¬ds.length=0)(h1:(ds.length:Int)<=hd)(h2:es.length=ds.length):j7 np nf hd (.tup [.tup ds,.tup es])=WG np nf hd ds es:=by
 show((decide ((ds.length:Int)<=hd)&&(!decide (ds.length=0)&&(ds.all (ji np nf)&&vi (ds.map zR))))&&(decide (es.length=(ds.map zR).length)&&(es.all (zG 0 (np-1))&&(es.map iD).isPerm (ds.map zR))))=WG np nf hd ds es
 rw[qF h1,jQ h0,zq,qF h2]
 unfold WG
 rw[show(es.map iD).isPerm (ds.map zR)=(ds.map zR).isPerm (es.map iD) by
  rw[wu,QT,QT]
  exact⟨List.Perm.symm,List.Perm.symm⟩]
 cases ds.all (ji np nf)<;>cases vi (ds.map zR)<;>cases es.all (zG 0 (np-1))<;>cases(ds.map zR).isPerm (es.map iD)<;>rfl
theorem zbw{np nf hd:Int}{ds es:List Dat}(h:ds.length=0\/¬(ds.length:Int)<=hd\/¬es.length=ds.length):j7 np nf hd (.tup [.tup ds,.tup es])=false:=by
 show((decide ((ds.length:Int)<=hd)&&(!decide (ds.length=0)&&(ds.all (ji np nf)&&vi (ds.map zR))))&&(decide (es.length=(ds.map zR).length)&&(es.all (zG 0 (np-1))&&(es.map iD).isPerm (ds.map zR))))=false
 rcases h with h | h | h
 ·rw[qF h];simp
 ·rw[jQ h];rfl
 ·rw[zq,jQ h];simp
section
variable{P:Program}{w:World}{K:PySem.W.Frag}{mg:Str->Option Value}{base:Heap}
theorem YG:zI ["_law_job_here", "_law_thing", "_law_picks", "_law_lays", "_law_pick", "_law_parts"] ["_law_job_here", "_law_thing"] (zv (topL 41)):=⟨rfl,rfl,rfl,by decide +kernel,rfl,by decide +kernel,by decide +kernel⟩
theorem zcx{f:Addr}{fd:FuncData}(F:Fun K "_law_is_trip" "_law_is_trip" (topL 41) f fd)(B:Blt mg)(D_is_number:Dfn P w K mg base "_law_is_number" 1 ["_law_thing", "_law_least", "_law_most"] (Qe K)):qS P w K mg base CX0 2 f fd ["_law_job_here", "_law_thing"] (Yu K):=by
 have nd:=YG.nd
 refine F.ok YG (fun vs H Q E h=>?_) (fun cdv A outer s H vs Q E hr h=>?_)
 ·obtain⟨jp,J,v,d,rfl,_⟩:=h
  rfl
 ·obtain⟨jp,J,v,d,rfl,rj,rd,hd4,k⟩:=h
  obtain⟨g,fs,ps,as,fv,px,qj,qf,lf,qp,lp⟩:=Z5 rj
  have hbig:1000000<sizeLine:=by rw[sizeLine_eq];decide
  have hu:=hr.units0
  refine⟨_,(zf (qe (PW.pt (xf (ju (qG (zj qm rfl B.isinstance boot_isinstance (za (pv 1) (za (qh (v:=.ty "tuple") rfl B.tuple zT rfl) zc))))) (xf (zA ZC (zj zp rfl B.len boot_len (za (pv 1) zc)) ze (zB _)) (j5 (ju (qG (zj (jA rfl) rfl B.all boot_all (za (jS [] [] rfl rfl (by kernel_rfl) (jX (pv 1)) (fun _ _ _ _=>jb) (fun _ _ _ _=>(zj (zbg (K:=K) rfl) rfl B.isinstance boot_isinstance (za (pv 0) (za (qh (v:=.ty "tuple") rfl B.tuple zT rfl) zc))))) zc))))))))
   (zi (zt jW))
   zJ)
   (zf (jH (pv 1) (qT rfl (zx (zr (i:=2) nd rfl (Or.inl rfl)) (zx (zr (i:=3) nd rfl (Or.inl rfl)) qB))))
   (zf (qe (PW.pt (xf (zA YO (zj zp rfl B.len boot_len (za (pv 2) zc)) ze (zB _)) (xf (zA VC (zj zp rfl B.len boot_len (za (pv 2) zc)) (zE qD (pv 0) ze (fun _ _=>rfl)) (zB _)) (j5 (zA ZC (zj zp rfl B.len boot_len (za (pv 3) zc)) (zj zp rfl B.len boot_len (za (pv 2) zc)) (zB _))))))
   (zi (zt jW))
   zJ)
   (zf (ja jB rfl (jX (pv 2)) (zr (i:=4) nd rfl (Or.inl rfl))
   (zf (qe (PW.pt (xf (ju (qG (zj qm rfl B.isinstance boot_isinstance (za (pv 4) (za (qh (v:=.ty "tuple") rfl B.tuple zT rfl) zc))))) (xf (zA ZC (zj zp rfl B.len boot_len (za (pv 4) zc)) ze (zB _)) (j5 (ju (qG (zg D_is_number (hr.mono (by decide)) rfl (za (zE qD (pv 4) ze (fun _ _=>rfl)) (za ze (za (zw jZ (zj zp rfl B.len boot_len (za (zE qD (pv 0) ze (fun _ _=>rfl)) zc)) ze) zc))))))))))
    (zi (zt jW))
    zJ)
    (zi (qe (ju (qG (zg D_is_number (hr.mono (by decide)) rfl (za (zE qD (pv 4) ze (fun _ _=>rfl)) (za ze (za (zw jZ (zj zp rfl B.len boot_len (za (zE qD (pv 0) ze (fun _ _=>rfl)) zc)) ze) zc))))))
    (zi (zt jW))
    zJ))))
   (zf (qe (ju (qG (zj (jA rfl) rfl B.all boot_all (za (jS ["_law_job_here"] [0] rfl rfl (by kernel_rfl) (jX (pv 3)) (fun _ _ _ _=>jb) (fun _ _ _ _=>(zg D_is_number (hr.mono (by decide)) rfl (za (pv 0) (za ze (za (zw jZ (zj (xx (K:=K) rfl) rfl B.len boot_len (za (zE (jq (K:=K) rfl) (pv 1) ze (fun _ _=>rfl)) zc)) ze) zc)))))) zc))))
   (zi (zt jW))
   zJ)
   (zf (Wv [] [] rfl rfl (by kernel_rfl) (jX (pv 2)) (fun _ _ _ _=>jb) (fun _ _ _ _=>(pv 0)) (zr (i:=5) nd rfl (Or.inl rfl)))
   (zi (zt (xg (qK qQ (zj JP rfl B.len boot_len (za (zY (zbe hr.hd) rfl B.set boot_set (za (pv 5) zc)) zc)) (zj zp rfl B.len boot_len (za (pv 5) zc)) (zB _)) (xo (qK (YR hu) (zj vQ rfl B.sorted xb (za (pv 5) zc)) (zj wW rfl B.sorted xb (za (pv 3) zc)) (zB _)))))))))))),?_⟩
  refine⟨_,rfl,v,d.tyN, "tuple",rfl,rd.ty,(by decide),?_⟩
  rw[yz]
  refine⟨_,rfl,z7 (fun c=>?_) (fun c=>?_)⟩
  ·have k':=k H (Same.refl _)
   rw[X7 (by cases d<;>first| rfl | cases c)] at k'
   exact k'
  obtain⟨xs0,rfl⟩:=yJ (d:=d) (by simpa using c)
  obtain⟨a,xs,rfl,qa,rx⟩:=rd
  have lx:=rx.len
  refine⟨_,rfl,a,xs,rfl,.inr qa,rfl,_,rfl,z7 (fun c1=>?_) (fun c1=>?_)⟩
  ·have k':=k H (Same.refl _)
   have c1':¬xs0.length=2:=fun z=>by
    rw[lx,z] at c1
    exact absurd c1 (by decide)
   rw[X7 (show X6 2 (.tup xs0)=false from jQ c1')] at k'
   exact k'
  obtain⟨d0,d1,e01⟩:=Z3 (d:=.tup xs0) (qF (by
   rw[<- lx]
   by_cases z:xs.length=2
   ·exact z
   ·exact absurd (by simpa using fun y:(xs.length:Int)=2=>z (by omega)) c1))
  cases e01
  obtain⟨x0,r0,e0,h0,x1,r1,e1,h1,e2⟩:=rx
  subst e0 e1
  cases(show r1=[] from e2)
  refine⟨_,rfl,a,rfl,⟨_,qa⟩,j6 (K:=K) (a:=a) (xs:=[x0,x1]) (fun i zs H1=>zs=(([d0,d1].take i).map xX).map V.bl/\Same H H1) ⟨rfl,Same.refl _⟩ (fun i zs H1 ⟨_,s1⟩=>s1.sqT qa) ?_ ?_⟩
  ·rintro i x zs H1 hx ⟨rfl,s1⟩
   have rx:Reps K H [d0,d1] [x0,x1]:=⟨_,_,rfl,h0,_,_,rfl,h1,rfl⟩
   obtain⟨d,ed,rd⟩:=(rx.same s1).get hx
   refine⟨rfl,_,rfl,x,d.tyN, "tuple",rfl,rd.ty,(by decide),?_,?_,s1⟩
   ·rw[zq,zq,z9];show min i 2<_;omega
   ·rw[qg ed,zW,zW,yz];rfl
  rintro zs H1 ⟨rfl,s1⟩
  refine⟨by show 2<=_;omega,fun D hD=>⟨D,[xX d0,xX d1],rfl,SqL.of zb,?_⟩⟩
  have s2:=s1.trans (zd (H:=H1) (o:=.lst ((([d0,d1].take [x0,x1].length).map xX).map V.bl)) hD)
  generalize upd H1 D (.lst ((([d0,d1].take [x0,x1].length).map xX).map V.bl))=H2 at s2
  refine⟨_,rfl,z7 (fun c2=>?_) (fun c2=>?_)⟩
  ·have k':=k H2 s2
   rw[zbv (by
    cases e0:xX d0 with
    | false=>exact .inl rfl
    | true=>
     cases e1:xX d1 with
     | false=>exact .inr rfl
     | true=>rw[e0,e1] at c2;exact Bool.noConfusion (show false=true from c2))] at k'
   exact k'
  have c2':xX d0=true/\xX d1=true:=by
   cases e0:xX d0 with
   | false=>exact absurd (by rw[e0];rfl) c2
   | true=>
    cases e1:xX d1 with
    | false=>exact absurd (by rw[e0,e1];rfl) c2
    | true=>exact⟨rfl,rfl⟩
  obtain⟨ds,rfl⟩:=yJ c2'.1
  obtain⟨es,rfl⟩:=yJ c2'.2
  clear c2 c2' c c1 lx
  obtain⟨a0,ys,rfl,q0,ry⟩:=h0
  obtain⟨a1,us,rfl,q1,ru⟩:=h1
  have ly:=ry.len
  have lu:=ru.len
  refine⟨_,rfl,a,_,rfl,s2.sqT qa,rfl,_,_,rfl,_,_,rfl,rfl,?_⟩
  have no3:(ds.length=0\/¬(ds.length:Int)<=J.hd\/¬es.length=ds.length)->Q (.bl false) H2:=fun z=>by
   have k':=k H2 s2
   rw[zbw z] at k'
   exact k'
  refine⟨_,rfl,a0,ys,rfl,.inr (s2.sqT q0),_,_,rfl,rfl,_,rfl,z7 (fun c=>no3 (.inl ?_)) (fun c=>⟨_,rfl,a0,ys,rfl,.inr (s2.sqT q0),_,rfl,jp,_,_,_,rfl,rfl,s2.sqT qj,at1,_,_,rfl,rfl,_,rfl,z7 (fun c1=>no3 (.inr (.inl ?_))) (fun c1=>⟨_,rfl,a1,us,rfl,.inr (s2.sqT q1),_,rfl,a0,ys,rfl,.inr (s2.sqT q0),rfl,_,rfl,z7 (fun c3=>no3 (.inr (.inr ?_))) (fun c3=>?_)⟩)⟩)⟩
  ·have:=qW c;omega
  ·have:=qW c1;omega
  ·intro z
   rw[lu,ly,z] at c3
   simp at c3
  have n0:¬ds.length=0:=fun z=>c (qF (by rw[ly,z];decide))
  have n1:(ds.length:Int)<=J.hd:=by
   have:¬((ys.length:Int)>J.hd):=fun z=>c1 (qF z)
   omega
  have n2:es.length=ds.length:=by
   rw[<- lu,<- ly]
   by_cases z:us.length=ys.length
   ·exact z
   ·exact absurd (by simpa using fun y:(us.length:Int)=ys.length=>z (by omega)) c3
  have kk:∀H',Same H H'->Q (.bl (WG J.ps.length J.fs.length J.hd ds es)) H':=fun H' s'=>by
   have k':=k H' s'
   rw[zaJ n0 n1 n2] at k'
   exact k'
  clear k no3 c c1 c3
  have dl4:ds.length<=4:=by omega
  refine⟨_,rfl,a0,rfl,⟨_,s2.sqT q0⟩,Xu (K:=K) (a:=a0) (xs:=ys) (fun i σ H'=>Ex1 fun(v4:Option V)=>An3 (σ=[some (.ref jp),some (.ref a),some (.ref a0),some (.ref a1),v4,none]) (Same H2 H') ((ds.take i).all (ji J.ps.length J.fs.length)=true)) ⟨_,rfl,Same.refl _,rfl⟩ (fun i σ H' _ ⟨_,_,s',_⟩=>(s2.trans s').sqT q0) ?_ ?_⟩
  ·rintro i x σ H3 hx ⟨v4,rfl,s3,al⟩
   obtain⟨d,ed,rd⟩:=(ry.same (s2.trans s3)).get hx
   have no:ji J.ps.length J.fs.length d=false->Q (.bl false) H3:=fun z=>by
    have k':=kk H3 (s2.trans s3)
    rw[show WG J.ps.length J.fs.length J.hd ds es=false by
     unfold WG
     rw[show ds.all (ji J.ps.length J.fs.length)=false from List.all_eq_false.mpr ⟨d,jl ed,by rw[z];exact jf⟩,Zs]] at k'
    exact k'
   have t3:=s2.trans s3
   refine⟨_,rfl,x,d.tyN, "tuple",rfl,rd.ty,(by decide),?_⟩
   rw[yz]
   refine⟨_,rfl,z7 (fun c=>no ?_) (fun c=>?_)⟩
   ·cases d<;>first| rfl | cases c
   obtain⟨zs,rfl⟩:=yJ (d:=d) (by simpa using c)
   obtain⟨u,vs,rfl,qu,rv⟩:=rd
   have lv:=rv.len
   refine⟨_,rfl,u,vs,rfl,.inr qu,rfl,_,rfl,z7 (fun c1=>no ?_) (fun c1=>?_)⟩
   ·have n2:¬zs.length=2:=fun z=>by
     rw[lv,z] at c1
     exact absurd c1 (by decide)
    match zs,n2 with
    | [],_=>rfl
    | [_],_=>rfl
    | [_,_],n2=>exact absurd rfl n2
    | _::_::_::_,_=>rfl
   obtain⟨e0,e1,ez⟩:=Z3 (d:=.tup zs) (qF (by
    rw[<- lv]
    by_cases z:vs.length=2
    ·exact z
    ·exact absurd (by simpa using fun y:(vs.length:Int)=2=>z (by omega)) c1))
   cases ez
   obtain⟨w0,r0,f0,g0,w1,r1,f1,g1,f2⟩:=rv
   subst f0 f1
   cases(show r1=[] from f2)
   refine⟨_,rfl,u,_,_,_,rfl,rfl,qu,rfl,_,rfl,jp,_,_,_,rfl,rfl,t3.sqT qj,at3,ps,_,rfl,.inr (t3.sqT qp),_,_,rfl,rfl,w0,e0,0,_,rfl,g0,?_⟩
   rw[lp]
   refine⟨_,rfl,z7 (fun c2=>no ?_) (fun c2=>?_)⟩
   ·have c2':zG 0 ((J.ps.length:Int)-1) e0=false:=by simpa using c2
    show(zG 0 ((J.ps.length:Int)-1) e0&&_)=false
    rw[c2',Zs]
   have c2':zG 0 ((J.ps.length:Int)-1) e0=true:=by simpa using c2
   refine⟨_,rfl,u,_,_,_,rfl,rfl,qu,rfl,_,rfl,jp,_,_,_,rfl,rfl,t3.sqT qj,at2,fs,_,rfl,.inr (t3.sqT qf),_,_,rfl,rfl,w1,e1,0,_,rfl,g1,?_⟩
   rw[lf]
   refine⟨_,rfl,z7 (fun c3=>no ?_) (fun c3=>?_)⟩
   ·have c3':zG 0 ((J.fs.length:Int)-1) e1=false:=by simpa using c3
    show(_&&zG 0 ((J.fs.length:Int)-1) e1)=false
    rw[c3',QS]
   have c3':zG 0 ((J.fs.length:Int)-1) e1=true:=by simpa using c3
   refine⟨_,rfl,s3,?_⟩
   rw[qg ed,List.all_append,al]
   show(true&&(ji _ _ (.tup [e0,e1])&&true))=true
   rw[show ji J.ps.length J.fs.length (.tup [e0,e1])=(zG 0 ((J.ps.length:Int)-1) e0&&zG 0 ((J.fs.length:Int)-1) e1) from rfl,c2',c3']
   rfl
  rintro σ H3 ⟨v4,rfl,s3,al⟩
  rw[ly,je] at al
  have pall:=jh.mp al
  have t3:=s2.trans s3
  have kk':∀H',Same H3 H'->Q (.bl (es.all (zG 0 ((J.ps.length:Int)-1))&&(vi (ds.map zR)&&(ds.map zR).isPerm (es.map iD)))) H':=fun H' s'=>by
   have k':=kk H' (t3.trans s')
   unfold WG at k'
   rw[al,vR] at k'
   exact k'
  clear kk s2 s3
  refine⟨_,rfl,a1,rfl,⟨_,t3.sqT q1⟩,j6 (K:=K) (a:=a1) (xs:=us) (fun i zs H4=>zs=((es.take i).map (zG 0 ((J.ps.length:Int)-1))).map V.bl/\Same H3 H4) ⟨rfl,Same.refl _⟩ (fun i zs H4 ⟨_,s4⟩=>(t3.trans s4).sqT q1) ?_ ?_⟩
  ·rintro i x zs H4 hx ⟨rfl,s4⟩
   obtain⟨d,ed,rd⟩:=(ru.same (t3.trans s4)).get hx
   have il:=(zN.mp ed).1
   refine⟨rfl,_,rfl,_,rfl,jp,_,_,_,rfl,rfl,(t3.trans s4).sqT qj,at3,ps,_,rfl,.inr ((t3.trans s4).sqT qp),_,_,rfl,rfl,x,d,0,_,rfl,rd,?_,?_,s4⟩
   ·rw[zq,zq,z9];omega
   ·rw[qg ed,zW,zW,lp];rfl
  rintro zs H4 ⟨rfl,s4⟩
  rw[lu,je]
  refine⟨by rw[zq,zq];omega,fun D hD=>⟨D,_,rfl,SqL.of zb,?_⟩⟩
  have s5:=s4.trans (zd (H:=H4) (o:=.lst ((es.map (zG 0 ((J.ps.length:Int)-1))).map V.bl)) hD)
  generalize upd H4 D (.lst ((es.map (zG 0 ((J.ps.length:Int)-1))).map V.bl))=H5 at s5
  have ea:(es.map (zG 0 ((J.ps.length:Int)-1))).all id=es.all (zG 0 ((J.ps.length:Int)-1)):=by rw[List.all_map];rfl
  rw[ea]
  refine⟨_,rfl,z7 (fun c=>?_) (fun c=>?_)⟩
  ·have c':es.all (zG 0 ((J.ps.length:Int)-1))=false:=by simpa using c
   have k':=kk' H5 s5
   rw[c'] at k'
   exact k'
  have c':es.all (zG 0 ((J.ps.length:Int)-1))=true:=by simpa using c
  have en:=JB (ds:=es) (jh.mpr fun d hd=>Z8 (jh.mp c' d hd))
  rw[en] at ru
  have ex:=Qj ru
  rw[ex] at q1
  have kk:∀H',Same H5 H'->Q (.bl (vi (ds.map zR)&&(ds.map zR).isPerm (es.map iD))) H':=fun H' s'=>by
   have k':=kk' H' (s5.trans s')
   rw[c',vR] at k'
   exact k'
  have t5:=t3.trans s5
  clear kk' c c' s4 s5 t3 ea en
  refine⟨_,rfl,a0,rfl,⟨_,t5.sqT q0⟩,j6 (K:=K) (a:=a0) (xs:=ys) (fun i zs H6=>zs=((ds.take i).map zR).map V.int/\Same H5 H6) ⟨rfl,Same.refl _⟩ (fun i zs H6 ⟨_,s6⟩=>(t5.trans s6).sqT q0) ?_ ?_⟩
  ·rintro i x zs H6 hx ⟨rfl,s6⟩
   obtain⟨d,ed,rd⟩:=(ry.same (t5.trans s6)).get hx
   have il:=(zN.mp ed).1
   obtain⟨p,fd,rfl⟩:=Qk (pall d (jl ed))
   obtain⟨u,vs,rfl,qu,x0,r0,e0,h0,x1,r1,e1,h1,e2⟩:=rd
   subst e0 e1
   cases(show r1=[] from e2)
   cases(show x0=_ from h0)
   refine⟨u,_,rfl,qu,rfl,_,_,rfl,_,_,rfl,rfl,rfl,?_⟩
   refine⟨_,rfl,?_,?_,s6⟩
   ·rw[zq,zq,z9];omega
   ·rw[qg ed,zW,zW];rfl
  rintro zs H6 ⟨rfl,s6⟩
  rw[ly,je]
  refine⟨by rw[zq,zq];omega,fun pa hpa=>?_⟩
  have s7:=s6.trans (zd (H:=H6) (o:=.lst ((ds.map zR).map V.int)) hpa)
  have P7:=zb (H:=H6) (a:=pa) (o:=.lst ((ds.map zR).map V.int))
  generalize upd H6 pa (.lst ((ds.map zR).map V.int))=H7 at s7 P7
  have ks:(ds.map zR).map V.int=((ds.map zR).map Sum.inl:List Key).map kV:=by rw[xn (g:=kV)];rfl
  refine⟨_,rfl,pa,(ds.map zR).map Sum.inl,rfl,by rw[P7,ks],by rw[zq,zq];omega,fun se hse=>?_⟩
  refine⟨se,_,rfl,zb,?_⟩
  have s8:=zd (H:=H7) (o:=Qi P w se (xi [] ((ds.map zR).map Sum.inl:List Key))) hse
  have P8:=s8 _ _ P7
  have s8':=s7.trans s8
  refine⟨_,rfl,pa,_,rfl,.inl (SqL.of P8),rfl,?_⟩
  have en:vi (ds.map zR)=decide (V.int (((xi [] ((ds.map zR).map Sum.inl:List Key)).length:Nat):Int)=V.int (((ds.map zR).map V.int).length:Int)):=by
   unfold vi
   rw[zq (f:=V.int)]
   exact decide_eq_decide.mpr ⟨fun h=>by rw[h],fun h=>Int.ofNat.inj (V.int.inj h)⟩
  rw[en] at kk
  clear en
  refine⟨_,rfl,z7 (fun c=>?_) (fun c=>?_)⟩
  ·refine⟨_,rfl,pa,ds.map zR,rfl,SqL.of P8,by rw[zq];omega,fun p1 ms h1 m1 m2=>?_⟩
   have s9:Same (upd H7 se (Qi P w se (xi [] ((ds.map zR).map Sum.inl:List Key)))) _:=zd (o:=.lst (ms.map V.int)) h1
   have P9:=zb (H:=upd H7 se (Qi P w se (xi [] ((ds.map zR).map Sum.inl:List Key)))) (a:=p1) (o:=.lst (ms.map V.int))
   refine⟨_,rfl,a1,es.map iD,rfl,(t5.trans (s8'.trans s9)).sqT q1,by rw[zq];omega,fun p2 ns h2 n1 n2=>?_⟩
   have sA:Same (upd (upd H7 se (Qi P w se (xi [] ((ds.map zR).map Sum.inl:List Key)))) p1 (.lst (ms.map V.int))) _:=zd (o:=.lst (ns.map V.int)) h2
   refine⟨p1,p2,ms,ns,rfl,rfl,SqL.of (sA _ _ P9),SqL.of zb,?_⟩
   have k':=kk _ (s8'.trans (s9.trans sA))
   rw[c,vR,<- Yy m1 m2 n1 n2] at k'
   exact k'
  ·have k':=kk _ s8'
   rw[(ZL _).mp c] at k'
   exact k'
end
theorem vN(i j:Str):(i++j).length=i.length+j.length:=by
 show(i.cps++j.cps).size=_
 rw[XG]
 rfl
theorem zdW{i j:Str}{c:Nat}(h:c∈(i++j).cps.toList):c∈i.cps.toList\/c∈j.cps.toList:=by
 have h':c∈(i.cps++j.cps).toList:=h
 rw[Array.toList_append] at h'
 exact qL.mp h'
section
variable{P:Program}{w:World}{K:PySem.W.Frag}{mg:Str->Option Value}{base:Heap}
theorem zdg{x:Str}{k D:Nat}{F:Hp}(h:decide (x.length<=10)=true)(hc:(x.cps.toList.all fun c=>decide (c<1000000))=true):DS K F k 10 D (.str x):=DS.str (qW h) fun c h'=>qW (jh.mp hc c h')
inductive Ym(K:PySem.W.Frag)(vs:List V)(H:Hp)(Q:VK):Prop
 | mk (b:Addr) (n:Int) (ex:List Addr) (_:vs=[.ref b]) (_:BoxAt H b n) (_:n<1099511627000) (_:Ex H b ex) (_:∀v H',SameB b H H'->BoxAt H' b (n+1)->DS K (WX ex H') 0 10 3 v->Q v H'):Ym K vs H Q
def Yn(K:PySem.W.Frag):Sp:=fun vs H Q _=>Ym K vs H Q
theorem zeq:zI ["_law_box_here", "_law_some"] ["_law_box_here"] (zv (topL 42)):=⟨rfl,rfl,rfl,by decide +kernel,rfl,by decide +kernel,by decide +kernel⟩
theorem zff{f:Addr}{fd:FuncData}(F:Fun K "_law_odd" "_law_odd" (topL 42) f fd)(B:Blt mg)(D_take:Dfn P w K mg base "_law_take" 1 ["_law_box_here", "_law_size"] jM):qS P w K mg base CX0 2 f fd ["_law_box_here"] (Yn K):=by
 have nd:=zeq.nd
 refine F.ok zeq (fun vs H Q E h=>?_) (fun cdv A outer s H vs Q E hr h=>?_)
 ·obtain⟨b,n,ex,rfl,_⟩:=h
  rfl
 ·obtain⟨b,n,ex,rfl,B0,hn,E0,k⟩:=h
  refine⟨_,(zf (zF (i:=1) nd rfl (Or.inl rfl) (zO (zhk jY jW jW ze ze (Vy Qc ze) ze (zw zco ze ze) jR jR jR jR (zX zc) (zO zc) (zX (za ze zc)) (zO (za ze zc)) (zX (za ze (za ze zc))) (zX (za (zX zc) zc)))))
   (zi (zt (zE zS (pv 1) (zg D_take (hr.mono (by decide)) rfl (za (pv 0) (za ze zc))) (fun _ _=>rfl))))),?_⟩
  refine⟨_,rfl,_,_,rfl,rfl,⟨by decide,by decide,by decide⟩,le0,fun p1 h1=>⟨le0,fun p2 h2=>⟨le1,fun p3 h3=>⟨le1,fun p4 h4=>⟨le2,fun p5 h5=>⟨le0,fun p6 h6=>⟨le1,fun p7 h7=>⟨leN (by show 18<=1000;decide),fun l hl=>?_⟩⟩⟩⟩⟩⟩⟩⟩
  have s1:=zd (o:=.tup []) h1
  have s2:=zd (o:=.lst []) h2
  have s3:=zd (o:=.tup [.int 0]) h3
  have s4:=zd (o:=.lst [.int 0]) h4
  have s5:=zd (o:=.tup [.int 0,.int 0]) h5
  have s6:=zd (o:=.tup []) h6
  have s7:=zd (o:=.tup [.ref p6]) h7
  have E1:=E0.same s1
  have E2:=E1.same s2
  have E3:=E2.same s3
  have E4:=E3.same s4
  have E5:=E4.same s5
  have E6:=E5.same s6
  have E7:=E6.same s7
  have sl:=zd (o:=.lst [.non,.bl true,.bl false,.int 0,.int 1,.int (-1),.int 1001,.int (10^(9:Int).toNat),.str "",.str "a",.str "abcdefghi",.str "A",.ref p1,.ref p2,.ref p3,.ref p4,.ref p5,.ref p7]) hl
  have f1:=(s2.trans (s3.trans (s4.trans (s5.trans (s6.trans (s7.trans sl)))))) p1 _ zb
  have f2:=(s3.trans (s4.trans (s5.trans (s6.trans (s7.trans sl))))) p2 _ zb
  have f3:=(s4.trans (s5.trans (s6.trans (s7.trans sl)))) p3 _ zb
  have f4:=(s5.trans (s6.trans (s7.trans sl))) p4 _ zb
  have f5:=(s6.trans (s7.trans sl)) p5 _ zb
  have f6:=(s7.trans sl) p6 _ zb
  have f7:=sl p7 _ zb
  have st:=s1.trans (s2.trans (s3.trans (s4.trans (s5.trans (s6.trans (s7.trans sl))))))
  have n1:=E0.out h1
  have n2:=E1.out h2
  have n3:=E2.out h3
  have n4:=E3.out h4
  have n5:=E4.out h5
  have n6:=E5.out h6
  have n7:=E6.out h7
  have E8:=E7.same sl
  have nl:=E7.out hl
  have B8:=B0.same st
  have fl:=zb (H:=upd (upd (upd (upd (upd (upd (upd H p1 (.tup [])) p2 (.lst [])) p3 (.tup [.int 0])) p4 (.lst [.int 0])) p5 (.tup [.int 0,.int 0])) p6 (.tup [])) p7 (.tup [.ref p6])) (a:=l) (o:=.lst [.non,.bl true,.bl false,.int 0,.int 1,.int (-1),.int 1001,.int (10^(9:Int).toNat),.str "",.str "a",.str "abcdefghi",.str "A",.ref p1,.ref p2,.ref p3,.ref p4,.ref p5,.ref p7])
  clear s1 s2 s3 s4 s5 s6 s7 E1 E2 E3 E4 E5 E6 E7 sl h1 h2 h3 h4 h5 h6 h7 hl B0
  refine⟨_,rfl,_,rfl,b,18,n,rfl,B8,by omega,by decide,by decide,fun r H1 r0 r1 B1 S1=>?_⟩
  have up:∀p o,p∉ex->_=some o->WX ex H1 p=some o:=fun p o hp e=>WX.at hp (S1 p o e (fun z=>hp (by rw[z];exact E0.mem)))
  have g1:=up p1 _ n1 f1
  have g2:=up p2 _ n2 f2
  have g3:=up p3 _ n3 f3
  have g4:=up p4 _ n4 f4
  have g5:=up p5 _ n5 f5
  have g6:=up p6 _ n6 f6
  have g7:=up p7 _ n7 f7
  have gl:=S1 l _ fl (fun z=>nl (by rw[z];exact E0.mem))
  have all:∀x∈[V.non,.bl true,.bl false,.int 0,.int 1,.int (-1),.int 1001,.int (10^(9:Int).toNat),.str "",.str "a",.str "abcdefghi",.str "A",.ref p1,.ref p2,.ref p3,.ref p4,.ref p5,.ref p7],DS K (WX ex H1) 0 10 3 x:=by
   have i0:∀D,DS K (WX ex H1) 0 2 D (.int 0):=fun D=>DS.int (by decide)
   have t6:DS K (WX ex H1) 0 2 1 (.ref p6):=DS.tup (z:=0) (D:=0) (SqT.of g6) fm0 (qo _)
   refine fm DS.non (fm (DS.bl _) (fm (DS.bl _) (fm (DS.int (by decide)) (fm (DS.int (by decide)) (fm (DS.int (by decide)) (fm (DS.int (by decide)) (fm (DS.int (by decide)) (fm (zdg (by decide) (by decide)) (fm (zdg (by decide) (by decide)) (fm (zdg (by decide) (by decide)) (fm (zdg (by decide) (by decide)) ?_)))))))))))
   refine fm ((DS.tup (k:=0) (z:=0) (D:=0) (z':=0) (SqT.of g1) fm0 (qo _)).up (Same.refl _) (by decide) (by decide) (by decide)) (fm ((DS.lst (k:=0) (z:=0) (D:=0) (z':=0) (SqL.of g2) fm0 (qo _)).up (Same.refl _) (by decide) (by decide) (by decide)) (fm (DS.tup (z:=2) (D:=2) (SqT.of g3) (fm (i0 2) fm0) (by decide)) (fm (DS.lst (z:=2) (D:=2) (SqL.of g4) (fm (i0 2) fm0) (by decide)) (fm (DS.tup (z:=2) (D:=2) (SqT.of g5) (fm (i0 2) (fm (i0 2) fm0)) (by decide)) (fm (DS.tup (z:=2) (D:=2) (SqT.of g7) (fm (t6.up (Same.refl _) (by decide) (by decide) (by decide)) fm0) (by show 3*1<=10;decide)) fm0)))))
  obtain⟨v,ev,dv⟩:=zci (α:=fun x=>DS K (WX ex H1) 0 10 3 x) gl r0 r1 all
  exact⟨l,_,_,v,rfl,rfl,SqL.of gl,ev,k v H1 ((SameB.of st).trans S1) B1 dv⟩
end
def okC(x:Str):Prop:=∀c∈x.cps.toList,c<1000000
theorem okC.app{x y:Str}(h:okC x)(g:okC y):okC (x++y):=fun c hc=>(zdW hc).elim (h c) (g c)
theorem okC.sub{x y:Str}(h:okC x)(s:∀c∈y.cps.toList,c∈x.cps.toList):okC y:=fun c hc=>h c (s c hc)
def zdk:Str:= "abcdefghijklmnopqrstuvwxyzA 0_\n"
theorem zeT:(zdk.cps.toList.all fun c=>decide (c<1000000))=true:=by decide
theorem zdj:zdk.cps.toList.length=31:=by decide
section
variable{P:Program}{w:World}{K:PySem.W.Frag}{mg:Str->Option Value}{base:Heap}
inductive Va(vs:List V)(H:Hp)(Q:VK):Prop
 | mk (b:Addr) (x:Str) (n:Int) (N:Nat) (_:vs=[.ref b,.str x]) (_:BoxAt H b n) (_:n<1099511627000) (_:x.length<=N) (_:N<=3000) (_:okC x) (_:∀(y:Str) H',SameB b H H'->BoxAt H' b (n+4)->y.length<=3*N+20->okC y->Q (.str y) H'):Va  vs H Q
def zbA:Sp:=fun vs H Q _=>Va  vs H Q
theorem zbT:zI ["_law_box_here", "_law_word", "_law_at", "_law_way", "_law_sign", "_law_some"] ["_law_box_here", "_law_word"] (zv (topL 43)):=⟨rfl,rfl,rfl,by decide +kernel,rfl,by decide +kernel,by decide +kernel⟩
theorem zdD{f:Addr}{fd:FuncData}(F:Fun K "_law_bent_word" "_law_bent_word" (topL 43) f fd)(B:Blt mg)(D_take:Dfn P w K mg base "_law_take" 1 ["_law_box_here", "_law_size"] jM):qS P w K mg base CX0 2 f fd ["_law_box_here", "_law_word"] zbA:=by
 have nd:=zbT.nd
 refine F.ok zbT (fun vs H Q E h=>?_) (fun cdv A outer s H vs Q E hr h=>?_)
 ·obtain⟨b,x,n,N,rfl,_⟩:=h
  rfl
 ·obtain⟨b,x,n,N,rfl,B0,hn,hx,hN,ox,k⟩:=h
  have hbig:100000<sizeLine:=by rw[sizeLine_eq];decide
  have hz:x.length<=sizeLine:=by omega
  refine⟨_,(zf (Xb (i:=2) (j:=3) rfl nd rfl rfl (by decide) rfl rfl (za (zg D_take (hr.mono (by decide)) rfl (za (pv 0) (za (zw zU (zj XA rfl B.len boot_len (za (pv 1) zc)) ze) zc))) (za (zg D_take (hr.mono (by decide)) rfl (za (pv 0) (za ze zc))) zc)) (by rfl))
   (zf (zF (i:=4) nd rfl (Or.inl rfl) (zE zcM jR (zg D_take (hr.mono (by decide)) rfl (za (pv 0) (za ze zc))) (fun _ _=>rfl)))
   (zf (zF (i:=5) nd rfl (Or.inl rfl) (zO (za (zw xr (zw xr (zM wH (pv 1) qy (zP (pv 2))) (pv 4)) (zM wH (pv 1) (zP (pv 2)) qy)) (za (zw xr (zw xr (zM wH (pv 1) qy (zP (pv 2))) (pv 4)) (zM wH (pv 1) (zP (zw zU (pv 2) ze)) qy)) (za (zw xr (zM wH (pv 1) qy (zP (pv 2))) (zM wH (pv 1) (zP (zw zU (pv 2) ze)) qy)) zc)))))
   (zi (zt (zE zS (zw jv (pv 5) (zO (za (zw VB (pv 1) ze) (za jR zc)))) (pv 3) (fun _ _=>rfl))))))),?_⟩
  refine⟨_,rfl,_,rfl,x,rfl,hz,_,_,rfl,rfl,b,_,n,rfl,B0,by omega,by omega,by omega,fun q H1 q0 q1 B1 S1=>⟨_,rfl,b,5,n+1,rfl,B1,by omega,by decide,by decide,fun way H2 w0 w1 B2 S2=>⟨_,_,rfl,?_⟩⟩⟩
  have S2':=S1.trans S2
  refine⟨_,rfl,b,31,n+1+1,rfl,B2,by omega,by decide,by decide,fun r4 H4 c0 c1 B5 S5=>?_⟩
  obtain⟨c,hc,hm⟩:=yn (xs:=zdk.cps.toList) c0 (by rw[zdj];exact c1)
  refine⟨zdk,_,c,rfl,rfl,by rw[sizeLine_eq];decide,hc,?_⟩
  have oc:okC (⟨#[c]⟩:Str):=fun u hu=>by
   have:u=c:=by simpa using hu
   rw[this]
   exact qW (jh.mp zeT c (jl hm))
  have S5':=S2'.trans S5
  clear S2' S5 S1 S2 B1 B2
  have lc:(⟨#[c]⟩:Str).length=1:=rfl
  refine⟨_,rfl,_,rfl,_,rfl,x,rfl,hz,fun y1 e1 o1=>⟨_,rfl,_,_,rfl,rfl,by omega,_,rfl,_,rfl,_,rfl,x,rfl,hz,fun y2 e2 o2=>⟨_,_,rfl,rfl,by rw[vN];omega,?_⟩⟩⟩
  refine⟨_,rfl,_,rfl,_,rfl,x,rfl,hz,fun y3 e3 o3=>⟨_,rfl,_,_,rfl,rfl,by omega,_,rfl,_,rfl,_,_,rfl,rfl,_,rfl,x,rfl,hz,fun y4 e4 o4=>⟨_,_,rfl,rfl,by rw[vN];omega,?_⟩⟩⟩
  refine⟨_,rfl,_,rfl,_,rfl,x,rfl,hz,fun y5 e5 o5=>⟨_,rfl,_,rfl,_,_,rfl,rfl,_,rfl,x,rfl,hz,fun y6 e6 o6=>⟨_,_,rfl,rfl,by omega,le3,fun l4 h4=>?_⟩⟩⟩
  refine⟨_,rfl,_,rfl,x,3,rfl,rfl,by omega,by decide,by decide,fun y7 e7 o7=>⟨le2,fun l5 h5=>⟨l4,l5,_,_,rfl,rfl,(zd h5) _ _ zb,zb,(by show 3+2<=sizeLine;omega),fun l6 h6=>?_⟩⟩⟩
  have e7':y7.length<=3*x.length:=e7
  have L6:=zb (H:=upd (upd H4 l4 (.lst [.str (y1++(⟨#[c]⟩:Str)++y2),.str (y3++(⟨#[c]⟩:Str)++y4),.str (y5++y6)])) l5 (.lst [.str y7,.str ""])) (a:=l6) (o:=.lst ([.str (y1++(⟨#[c]⟩:Str)++y2),.str (y3++(⟨#[c]⟩:Str)++y4),.str (y5++y6)]++[.str y7,.str ""]))
  have p1:=ox.sub o1
  obtain⟨v,ev,u,rfl,u1,u2⟩:=zci (α:=fun v=>∃u:Str,v=.str u/\u.length<=3*N+20/\okC u) L6 w0 w1 (fm ⟨_,rfl,by rw[vN,vN];omega,((ox.sub o1).app oc).app (ox.sub o2)⟩ (fm ⟨_,rfl,by rw[vN,vN];omega,((ox.sub o3).app oc).app (ox.sub o4)⟩ (fm ⟨_,rfl,by rw[vN];omega,(ox.sub o5).app (ox.sub o6)⟩ (fm ⟨_,rfl,by omega,ox.sub o7⟩ (fm ⟨_,rfl,qo _,fun c hc=>nomatch hc⟩ fm0)))))
  refine⟨_,rfl,l6,_,_,_,rfl,rfl,SqL.of zb,ev,k u _ (((S5'.new h4).new h5).new h6) ((((B5.new h4).new h5).new h6).mono (by omega)) u1 u2⟩
inductive Vj(K:PySem.W.Frag)(vs:List V)(H:Hp)(Q:VK):Prop
 | mk (b:Addr) (i:Int) (n:Int) (kk:Nat) (ex:List Addr) (_:vs=[.ref b,.int i]) (_:BoxAt H b n) (_:n<1099511627000) (_:i.natAbs<=10000000000+kk) (_:kk<=1000) (_:Ex H b ex) (_:∀v H',SameB b H H'->BoxAt H' b (n+1)->DS K (WX ex H') (kk+1) 20 2 v->Q v H'):Vj K vs H Q
def zbG(K:PySem.W.Frag):Sp:=fun vs H Q _=>Vj K vs H Q
theorem zb1:zI ["_law_box_here", "_law_number", "_law_odd_here"] ["_law_box_here", "_law_number"] (zv (topL 44)):=⟨rfl,rfl,rfl,by decide +kernel,rfl,by decide +kernel,by decide +kernel⟩
theorem zdK{f:Addr}{fd:FuncData}(F:Fun K "_law_bent_number" "_law_bent_number" (topL 44) f fd)(B:Blt mg)(D_take:Dfn P w K mg base "_law_take" 1 ["_law_box_here", "_law_size"] jM):qS P w K mg base CX0 2 f fd ["_law_box_here", "_law_number"] (zbG K):=by
 have nd:=zb1.nd
 refine F.ok zb1 (fun vs H Q E h=>?_) (fun cdv A outer s H vs Q E hr h=>?_)
 ·obtain⟨b,i,n,kk,ex,rfl,_⟩:=h
  rfl
 ·obtain⟨b,i,n,kk,ex,rfl,B0,hn,hi,hN,E0,k⟩:=h
  refine⟨_,(zf (zF (i:=2) nd rfl (Or.inl rfl) (zO (zhl (zw zU (pv 1) ze) (zw jZ (pv 1) ze) (zw jZ (Vy Qc ze) (pv 1)) (qK qQ (pv 1) ze (zB _)) (zY yO rfl B.str x5 (za (pv 1) zc)) (zO (za (pv 1) zc)) (zX (za (pv 1) zc)) jY ze ze ze)))
   (zi (zt (zE zS (zw jv (pv 2) (zO (pa5 ze ze ze ze ze))) (zg D_take (hr.mono (by decide)) rfl (za (pv 0) (za ze zc))) (fun _ _=>rfl))))),?_⟩
  refine⟨_,rfl,_,_,rfl,rfl,_,rfl,_,_,rfl,rfl,_,rfl,_,rfl,_,_,rfl,rfl,_,rfl,rfl,_,rfl,i,rfl,Xh (by omega),_,rfl,le1,fun p1 h1=>⟨_,rfl,le1,fun p2 h2=>⟨leN (by show 11<=1000;decide),fun l1 g1=>?_⟩⟩⟩
  refine⟨_,rfl,leN (by show 5<=1000;decide),fun l2 g2=>⟨l1,l2,_,_,rfl,rfl,(zd g2) _ _ zb,zb,(by show 11+5<=sizeLine;rw[sizeLine_eq];decide),fun l3 g3=>?_⟩⟩
  have s2:=zd (o:=.tup [.int i]) h2
  have E1:=E0.same (zd (o:=.lst [.int i]) h1)
  have n1:=E0.out h1
  have n2:=E1.out h2
  have n3:=((((B0.new h1).new h2).new g1).new g2).nne g3
  refine⟨_,rfl,b,16,n,rfl,((((B0.new h1).new h2).new g1).new g2).new g3,by omega,by decide,by decide,fun r H3 r0 r1 B4 S4=>?_⟩
  have L3:=S4 l3 _ zb n3
  have T2:=(SameB.of (b:=b) (((zd g1).trans (zd g2)).trans (zd g3))).trans S4
  have T1:=(SameB.of (b:=b) s2).trans T2
  have T0:=(SameB.of (b:=b) (zd (o:=.lst [.int i]) h1)).trans T1
  have g1':=WX.at n1 (T1 p1 _ zb (fun z=>n1 (by rw[z];exact E0.mem)))
  have g2':=WX.at n2 (T2 p2 _ zb (fun z=>n2 (by rw[z];exact E0.mem)))
  have sm:∀j:Int,j.natAbs<=10000->DS K (WX ex H3) (kk+1) 20 2 (.int j):=fun j hj=>DS.int (by omega)
  have di:DS K (WX ex H3) (kk+1) 3 1 (.int i):=DS.int (by omega)
  obtain⟨v,ev,dv⟩:=zci (α:=fun v=>DS K (WX ex H3) (kk+1) 20 2 v) L3 r0 r1 (fm (DS.int (by omega)) (fm (DS.int (by omega)) (fm (DS.int (by omega)) (fm (DS.bl _) (fm (DS.istr (by omega) (by decide)) (fm (DS.lst (SqL.of g1') (fm di fm0) (by show(3+1)*1<=20;decide)) (fm (DS.tup (SqT.of g2') (fm di fm0) (by show(3+1)*1<=20;decide)) (fm DS.non (fm (sm _ (by decide)) (fm (sm _ (by decide)) (fm (sm _ (by decide)) (fm (sm _ (by decide)) (fm (sm _ (by decide)) (fm (sm _ (by decide)) (fm (sm _ (by decide)) (fm (sm _ (by decide)) fm0))))))))))))))))
  exact⟨l3,_,_,v,rfl,rfl,SqL.of L3,ev,k v H3 T0 B4 dv⟩
inductive Vo(K:PySem.W.Frag)(vs:List V)(H:Hp)(Q:VK):Prop
 | mk (b a:Addr) (t:Bool) (xs:List V) (n:Int) (kk z D:Nat) (ex:List Addr) (_:vs=[.ref b,.ref a]) (_:BoxAt H b n) (_:n<1099511000000) (_:Ex H b ex) (_:SqQ K (WX ex H) t a xs) (_:GL K (WX ex H) kk z D xs) (_:z<=3000) (_:∀v H',SameB b H H'->BoxAt H' b (n+3)->DS K (WX ex H') kk (4*z+20) (D+4) v->Q v H'):Vo K vs H Q
def Wr(K:PySem.W.Frag):Sp:=fun vs H Q _=>Vo K vs H Q
theorem zb7:zI ["_law_box_here", "_law_row", "_law_way", "_law_at", "_law_some"] ["_law_box_here", "_law_row"] (zv (topL 45)):=⟨rfl,rfl,rfl,by decide +kernel,rfl,by decide +kernel,by decide +kernel⟩
def zaD(b:_)(a:_)(way:_)(q:_)(H:_)(n:_)(ex:_)(K:_)(kk:_)(z:_)(D:_):=fun(σ':St) (H':Hp)=>(Ex2 fun(p:Addr) (ys:List V)=>An6 (σ'=[some (.ref b),some (.ref a),some (.int way),some (.int q),some (.ref p)]) (SameB b H H') (BoxAt H' b (n+3)) (p∉ex) (H' p=some (.lst ys)) (GL K (WX ex H') kk (4*z+20) (D+3) ys):Prop)
theorem zdP{f:Addr}{fd:FuncData}(F:Fun K "_law_bent_row" "_law_bent_row" (topL 45) f fd)(B:Blt mg)(D_take:Dfn P w K mg base "_law_take" 1 ["_law_box_here", "_law_size"] jM)(D_odd:Dfn P w K mg base "_law_odd" 2 ["_law_box_here"] (Yn K)):qS P w K mg base CX0 3 f fd ["_law_box_here", "_law_row"] (Wr K):=by
 have nd:=zb7.nd
 refine F.ok zb7 (fun vs H Q E h=>?_) (fun cdv A outer s H vs Q E hr h=>?_)
 ·obtain⟨b,a,t,xs,n,kk,z,D,ex,rfl,_⟩:=h
  rfl
 ·obtain⟨b,a,t,xs,n,kk,z,D,ex,rfl,B0,hn,E0,hq,gl,hN,k⟩:=h
  have hxl:=gl.all.1
  have hbig:100000<sizeLine:=by rw[sizeLine_eq];decide
  have e62:(2:Int)^62=4611686018427387904:=by decide
  have sq:∀H',SameB b H H'->SqQ K H' t a xs:=fun H' s=>hq.same ((WX.draw E0.mem s).trans WX.le)
  have old:∀H',SameB b H H'->GL K (WX ex H') kk z (D+3) xs:=fun H' s=>gl.up (WX.draw E0.mem s) (zC _) (zC _) (by omega)
  refine⟨_,(zf (Xb (i:=2) (j:=3) rfl nd rfl rfl (by decide) rfl rfl (za (zg D_take (hr.mono (by decide)) rfl (za (pv 0) (za ze zc))) (za (zg D_take (hr.mono (by decide)) rfl (za (pv 0) (za (zw zU (zj zp rfl B.len boot_len (za (pv 1) zc)) ze) zc))) zc)) (by rfl))
   (zf (zF (i:=4) nd rfl (Or.inl rfl) (zY xO rfl B.list qZ (za (pv 1) zc)))
   (zf (xM (qe (zA qQ (pv 2) ze (zB _))
   (zi (zF (i:=4) nd rfl (Or.inl rfl) (zw jv (zM qO (pv 4) qy (zP (pv 3))) (zM qO (pv 4) (zP (zw zU (pv 3) ze)) qy))))
   (zi (qe (zA qQ (pv 2) ze (zB _))
    (zi (zF (i:=4) nd rfl (Or.inl rfl) (zw jv (zw jv (zM qO (pv 4) qy (zP (pv 3))) (zM qO (pv 4) (zP (pv 3)) (zP (zw zU (pv 3) ze)))) (zM qO (pv 4) (zP (pv 3)) qy))))
    (zi (qe (zA qQ (pv 2) ze (zB _))
     (zi (jn (xz xG PySem.F.slot_list_insert PySem.F.type_list_insert JD (pv 4) (za (pv 3) (za (zg D_odd (hr.mono (by decide)) rfl (za (pv 0) zc)) zc)))))
     (zi (qe (zA qQ (pv 2) ze (zB _))
      (zi (zF (i:=4) nd rfl (Or.inl rfl) (zw jv (zw jv (zM qO (pv 4) qy (zP (pv 3))) (zaU (zM qO (pv 4) (zP (pv 3)) (zP (zw zU (pv 3) ze))) (zP (Vy Qc ze)))) (zM qO (pv 4) (zP (zw zU (pv 3) ze)) qy))))
      (zi (qe (zA qQ (pv 2) ze (zB _))
       (zi (zt (jT (qG (zj qm rfl B.isinstance boot_isinstance (za (pv 1) (za (qh (v:=.ty "tuple") rfl B.tuple zT rfl) zc)))) (pv 4) (zY qN rfl B.tuple zT (za (pv 4) zc)))))
       (zi (zt (zg D_odd (hr.mono (by decide)) rfl (za (pv 0) zc))))))))))))))
   (zi (zt (jT (qG (zj qm rfl B.isinstance boot_isinstance (za (pv 1) (za (qh (v:=.ty "tuple") rfl B.tuple zT rfl) zc)))) (zY qN rfl B.tuple zT (za (pv 4) zc)) (pv 4))))))),?_⟩
  refine⟨_,rfl,b,6,n,rfl,B0,by omega,by decide,by decide,fun way H1 w0 w1 B1 S1=>⟨_,rfl,_,rfl,a,xs,rfl,(sq _ S1).or,_,_,rfl,rfl,b,_,n+1,rfl,B1,by omega,by omega,by omega,fun q H2 q0 q1 B2 S2=>⟨_,_,rfl,?_⟩⟩⟩
  have S2':=S1.trans S2
  refine⟨_,rfl,a,xs,rfl,(sq _ S2').or,fun m hm=>?_⟩
  have E2:=E0.next S2' B2
  have mH:H m=none:=S2'.none hm (B2.nne hm)
  have mb:=B2.nne hm
  have mx:=E2.out hm
  have S3:=S2'.new (o:=.lst xs) hm
  have B3:=B2.new (o:=.lst xs) hm
  have E3:=E2.same (zd (o:=.lst xs) hm)
  have f3:upd H2 m (.lst xs) m=some (.lst xs):=zb
  generalize upd H2 m (.lst xs)=H3 at S3 B3 E3 f3
  clear S1 S2 B1 B2 E2 hm
  refine⟨zaD b a way q H n ex K kk z D,?_,?_⟩
  ·have len:∀(lo hi:Option Int),(zQ xs lo hi).length<=z:=fun lo hi=>jt (wn xs lo hi) hxl
   refine⟨_,rfl,rfl,_,rfl,z7 (fun c0=>?_) (fun c0=>⟨_,rfl,rfl,_,rfl,z7 (fun c1=>?_) (fun c1=>⟨_,rfl,rfl,_,rfl,z7 (fun c2=>?_) (fun c2=>⟨_,rfl,rfl,_,rfl,z7 (fun c3=>?_) (fun c3=>⟨_,rfl,rfl,_,rfl,z7 (fun c4=>?_) (fun c4=>?_)⟩)⟩)⟩)⟩)⟩
   ·refine⟨_,rfl,_,rfl,_,rfl,m,xs,rfl,SqL.of f3,fun p1 h1=>?_⟩
    refine⟨_,rfl,_,rfl,_,_,rfl,rfl,_,rfl,m,xs,rfl,SqL.of ((zd h1) _ _ f3),fun p2 h2=>?_⟩
    have l1:=len none (some q)
    have l2:=len (some (q+1)) none
    refine⟨p1,p2,_,_,rfl,rfl,(zd h2) _ _ zb,zb,by omega,fun p3 h3=>?_⟩
    have g0:=old _ (((S3.new h1).new h2).new (o:=.lst (zQ xs none (some q)++zQ xs (some (q+1)) none)) h3)
    exact⟨p3,_,rfl,((S3.new h1).new h2).new h3,(((B3.new h1).new h2).new h3).mono (by omega),((E3.same (zd h1)).same (zd h2)).out h3,zb,((g0.cut _ _).app (g0.cut _ _)).up (Same.refl _) (zC _) (by omega) (zC _)⟩
   ·refine⟨_,rfl,_,rfl,_,rfl,m,xs,rfl,SqL.of f3,fun p1 h1=>?_⟩
    refine⟨_,rfl,_,rfl,_,rfl,_,rfl,_,_,rfl,rfl,_,rfl,m,xs,rfl,SqL.of ((zd h1) _ _ f3),fun p2 h2=>?_⟩
    have l1:=len none (some q)
    have l2:=len (some q) (some (q+1))
    have l3:=len (some q) none
    refine⟨p1,p2,_,_,rfl,rfl,(zd h2) _ _ zb,zb,by omega,fun p3 h3=>?_⟩
    refine⟨_,rfl,_,rfl,_,rfl,m,xs,rfl,SqL.of ((((zd h1).trans (zd h2)).trans (zd h3)) _ _ f3),fun p4 h4=>?_⟩
    refine⟨p3,p4,_,_,rfl,rfl,(zd h4) _ _ zb,zb,by rw[qJ];omega,fun p5 h5=>?_⟩
    have g0:=old _ (((((S3.new h1).new h2).new h3).new h4).new (o:=.lst ((zQ xs none (some q)++zQ xs (some q) (some (q+1)))++zQ xs (some q) none)) h5)
    exact⟨p5,_,rfl,((((S3.new h1).new h2).new h3).new h4).new h5,(((((B3.new h1).new h2).new h3).new h4).new h5).mono (by omega),((((E3.same (zd h1)).same (zd h2)).same (zd h3)).same (zd h4)).out h5,zb,(((g0.cut _ _).app (g0.cut _ _)).app (g0.cut _ _)).up (Same.refl _) (zC _) (by omega) (zC _)⟩
   ·refine⟨_,rfl,.inl ⟨rfl,_,SqL.of f3⟩,_,rfl,_,rfl,b,n+1+1,m::ex,rfl,B3,by omega,E3.cons f3,fun v H4 S4 B4 dv=>?_⟩
    have f4:=S4 m _ f3 mb
    refine⟨m,xs,q,v,rfl,rfl,f4,q0,by rw[e62];omega,by omega,?_⟩
    have S5:=(S3.trans S4).put (o:=.lst (xs.take q.toNat++v::xs.drop q.toNat)) mH
    have g0:=old _ S5
    have dv':DS K (WX ex (upd H4 m (.lst (xs.take q.toNat++v::xs.drop q.toNat)))) kk 10 (D+3) v:=dv.up ((WX.put jD).trans WX.cons) (qo _) (zC _) (by omega)
    exact⟨m,_,rfl,S5,(B4.other mb).mono (by omega),mx,zb,((g0.take _).app (xs:=xs.take q.toNat) (ys:=[v]++xs.drop q.toNat) ((GL.one dv').app (g0.drop _))).up (Same.refl _) (zC _) (by omega) (zC _)⟩
   ·refine⟨_,rfl,_,rfl,_,rfl,m,xs,rfl,SqL.of f3,fun p1 h1=>?_⟩
    refine⟨_,rfl,_,rfl,_,rfl,_,rfl,_,_,rfl,rfl,_,rfl,m,xs,rfl,SqL.of ((zd h1) _ _ f3),fun p2 h2=>?_⟩
    have l1:=len none (some q)
    have l2:=len (some q) (some (q+2))
    have l3:=len (some (q+2)) none
    refine⟨_,rfl,_,rfl,p2,_,rfl,(by decide),SqL.of zb,fun zs p3 zm zl h3=>?_⟩
    refine⟨p1,p3,_,_,rfl,rfl,((zd h2).trans (zd h3)) _ _ zb,zb,by omega,fun p4 h4=>?_⟩
    refine⟨_,rfl,_,rfl,_,_,rfl,rfl,_,rfl,m,xs,rfl,SqL.of (((((zd h1).trans (zd h2)).trans (zd h3)).trans (zd h4)) _ _ f3),fun p5 h5=>?_⟩
    refine⟨p4,p5,_,_,rfl,rfl,(zd h5) _ _ zb,zb,by rw[qJ];omega,fun p6 h6=>?_⟩
    have g0:=old _ ((((((S3.new h1).new h2).new h3).new h4).new h5).new (o:=.lst ((zQ xs none (some q)++zs)++zQ xs (some (q+2)) none)) h6)
    have z2:zs.length<=2:=by
     have e1:(some q:Option Int)=some ((q.toNat:Nat):Int):=by rw[Int.toNat_of_nonneg q0]
     have e2:(some (q+2):Option Int)=some ((q.toNat+2:Nat):Int):=by rw[show((q.toNat+2:Nat):Int)=q+2 by omega]
     have:=(zgX xs q.toNat (q.toNat+2)).1
     rw[<- e1,<- e2] at this
     omega
    have gz:=(g0.cut (some q) (some (q+2))).some zm
    have zz:(z+1)*zs.length<=(z+1)*2:=Nat.mul_le_mul_left _ z2
    exact⟨p6,_,rfl,(((((S3.new h1).new h2).new h3).new h4).new h5).new h6,((((((B3.new h1).new h2).new h3).new h4).new h5).new h6).mono (by omega),(((((E3.same (zd h1)).same (zd h2)).same (zd h3)).same (zd h4)).same (zd h5)).out h6,zb,(((g0.cut _ _).app gz).app (g0.cut _ _)).up (Same.refl _) (zC _) (by omega) (zC _)⟩
   ·refine⟨_,rfl,_,tyQ t, "tuple",rfl,(sq _ S3).ty,(by decide),_,rfl,z7 (fun d=>⟨_,rfl,?_⟩) (fun d=>⟨_,rfl,m,xs,rfl,.inl ⟨SqL.of f3,fun p hp=>?_⟩⟩)⟩
    ·exact k _ H3 S3 (B3.mono (by omega)) ((GL.lst (SqL.of (WX.at mx f3)) (old _ S3)).up (Same.refl _) (zC _) (by omega) (zC _))
    ·exact k _ _ (S3.new hp) ((B3.new hp).mono (by omega)) ((GL.tup (SqT.of (WX.at (E3.out hp) zb)) (old _ (S3.new hp))).up (Same.refl _) (zC _) (by omega) (zC _))
   ·exact⟨_,rfl,b,n+1+1,ex,rfl,B3,by omega,E3,fun v H4 S4 B4 dv=>k v H4 (S3.trans S4) (B4.mono (by omega)) (dv.up (Same.refl _) (qo _) (by omega) (by omega))⟩
  ·rintro σ' H4 ⟨p,ys,rfl,S4,B4,px,f4,yg⟩
   refine⟨_,rfl,_,tyQ t, "tuple",rfl,(sq _ S4).ty,(by decide),_,rfl,z7 (fun d=>⟨_,rfl,p,ys,rfl,.inl ⟨SqL.of f4,fun p' hp=>?_⟩⟩) (fun d=>⟨_,rfl,?_⟩)⟩
   ·have E4:=E0.next S4 B4
    exact k _ _ (S4.new hp) (B4.new hp) (GL.tup (SqT.of (WX.at (E4.out hp) zb)) (yg.up (WX.new hp) (zC _) (zC _) (zC _)))
   ·exact k _ H4 S4 B4 (GL.lst (SqL.of (WX.at px f4)) yg)
theorem DS.split3{F:Hp}{k z D:Nat}{v:V}(h:DS K F k z D v):v=.non\/(∃c,v=.bl c)\/(∃i:Int,v=.int i/\i.natAbs<=10000000000+k)\/(∃x:Str,v=.str x/\x.length<=z/\okC x)\/∃(a:Addr) (t:Bool) (xs:List V) (ds:List Dat),v=.ref a/\SqQ K F t a xs/\Reps K F ds xs/\Dat.gds k ds=true/\Dat.blks ds<=z/\PyData.depthAll (Dat.pys ds)+1<=D:=by
 have h':=h
 obtain⟨d,r,g,b,p⟩:=h'
 cases d with
 | str x=>exact .inr (.inr (.inr (.inl ⟨x,r,b,fun c hc=>qW (jh.mp g c hc)⟩)))
 | non=>exact .inl r
 | bl c=>exact .inr (.inl ⟨c,r⟩)
 | int i=>exact .inr (.inr (.inl ⟨i,r,qW g⟩))
 | lst ds=>
  obtain⟨a,xs,e,q,rs⟩:=r
  exact .inr (.inr (.inr (.inr ⟨a,false,xs,ds,e,q,rs,g,b,p⟩)))
 | tup ds=>
  obtain⟨a,xs,e,q,rs⟩:=r
  exact .inr (.inr (.inr (.inr ⟨a,true,xs,ds,e,q,rs,g,b,p⟩)))
def J8(K:PySem.W.Frag):Nat->Sp
 | 0=>fun _ _ _ _=>False
 | j+1=>fun vs H Q _=>∃(b:Addr) (v:V) (n:Int) (kk z D d:Nat) (ex:List Addr),vs=[.ref b,v,.int d]/\BoxAt H b n/\n+10*(j+1)<1099510000000/\Ex H b ex/\DS K (WX ex H) kk z D v/\z<=3000/\kk<=100/\d<=j/\j<=10 /\
  ∀v' H',SameB b H H'->BoxAt H' b (n+6*(j+1))->DS K (WX ex H') (kk+1) ((4*z+20)+(j+1)*(z+2)) (D+4) v'->Q v' H'
theorem zb6:zI ["_law_box_here", "_law_thing", "_law_deep", "_law_at", "_law_some"] ["_law_box_here", "_law_thing", "_law_deep"] (zv (topL 46)):=⟨rfl,rfl,rfl,by decide +kernel,rfl,by decide +kernel,by decide +kernel⟩
def zaC(b:_)(a:_)(d:_)(H:_)(n:_)(xs:List V):=fun(σ':St) (H':Hp)=>(Ex1 fun(q:Int)=>An5 (σ'=[some (.ref b),some (.ref a),some (.int d),some (.int q),none]) (SameB b H H') (BoxAt H' b (n+3)) (0<=q) (q<xs.length):Prop)
theorem YU{f:Addr}{fd:FuncData}(F:Fun K "_law_bent" "_law_bent" (topL 46) f fd)(B:Blt mg)(hm:mg "_law_bent" = some (.ref f))(hb:Binds K fd ["_law_box_here", "_law_thing", "_law_deep"] [])
  (D_take:Dfn P w K mg base "_law_take" 1 ["_law_box_here", "_law_size"] jM) (D_odd:Dfn P w K mg base "_law_odd" 2 ["_law_box_here"] (Yn K)) (D_bent_word:Dfn P w K mg base "_law_bent_word" 2 ["_law_box_here", "_law_word"] zbA) (D_bent_number:Dfn P w K mg base "_law_bent_number" 2 ["_law_box_here", "_law_number"] (zbG K)) (D_bent_row:Dfn P w K mg base "_law_bent_row" 3 ["_law_box_here", "_law_row"] (Wr K)) :
  ∀j:Nat,qS P w K mg base CX0 (j+3) f fd ["_law_box_here", "_law_thing", "_law_deep"] (J8 K j)
 | 0=>⟨fun _ _ _ _ h=>h.elim,fun _ _ _ _ _ _ _ _ _ _ _ _ _ h=>h.elim⟩
 | j+1=>by
  have D_bent:Dfn P w K mg base "_law_bent" (j+3) ["_law_box_here", "_law_thing", "_law_deep"] (J8 K j):=⟨f,fd,YU F B hm hb D_take D_odd D_bent_word D_bent_number D_bent_row j,hm,F.kp,hb⟩
  have nd:=zb6.nd
  refine F.ok zb6 (fun vs H Q E h=>?_) (fun cdv A outer s H vs Q E hr h=>?_)
  ·obtain⟨b,v,n,kk,z,D,d,ex,rfl,_⟩:=h
   rfl
  ·obtain⟨b,v,n,kk,z,D,d,ex,rfl,B0,hn,E0,dv,hN,hk,hd,hj,k⟩:=h
   have hbig:100000<sizeLine:=by rw[sizeLine_eq];decide
   refine⟨_,(zf (qe (qG (zj qm rfl B.isinstance boot_isinstance (za (pv 1) (za (qh (v:=.ty "str") rfl B.str x5 rfl) zc))))
   (zi (zt (jT (zA qQ (zg D_take (hr.mono (by omega)) rfl (za (pv 0) (za ze zc))) ze (zB _)) (zg D_odd (hr.mono (by omega)) rfl (za (pv 0) zc)) (zg D_bent_word (hr.mono (by omega)) rfl (za (pv 0) (za (pv 1) zc))))))
   zJ)
   (zf (qe (ju (qG (zj Zo rfl B.isinstance boot_isinstance (za (pv 1) (za (zX (za (qh (v:=.ty "list") rfl B.list qZ rfl) (za (qh (v:=.ty "tuple") rfl B.tuple zT rfl) zc))) zc)))))
   (zi (zt (jT (PW.pt (xf (zA Xg (pv 1) jY (zB _)) (j5 (qG (zj qm rfl B.isinstance boot_isinstance (za (pv 1) (za (qh (v:=.ty "bool") rfl B.bool vz rfl) zc))))))) (zg D_odd (hr.mono (by omega)) rfl (za (pv 0) zc)) (zg D_bent_number (hr.mono (by omega)) rfl (za (pv 0) (za (pv 1) zc))))))
   zJ)
   (zf (qe (PW.pt (xf (zA qQ (pv 2) ze (zB _)) (xf (zA qQ (zj zp rfl B.len boot_len (za (pv 1) zc)) ze (zB _)) (j5 (zA qQ (zg D_take (hr.mono (by omega)) rfl (za (pv 0) (za ze zc))) ze (zB _))))))
   (zi (zt (zg D_bent_row (hr.mono (by omega)) rfl (za (pv 0) (za (pv 1) zc)))))
   zJ)
   (zf (xM (zF (i:=3) nd rfl (Or.inl rfl) (jT (zA qQ (zg D_take (hr.mono (by omega)) rfl (za (pv 0) (za ze zc))) ze (zB _)) (zw jZ (zj zp rfl B.len boot_len (za (pv 1) zc)) ze) (zg D_take (hr.mono (by omega)) rfl (za (pv 0) (za (zj zp rfl B.len boot_len (za (pv 1) zc)) zc))))))
   (zf (zF (i:=4) nd rfl (Or.inl rfl) (zY xO rfl B.list qZ (za (pv 1) zc)))
   (zf (jH (zg D_bent (hr.mono (by omega)) rfl (za (pv 0) (za (zE zS (pv 4) (pv 3) (fun _ _=>rfl)) (za (zw jZ (pv 2) ze) zc)))) (Zi (pv 4) (pv 3) vt))
   (zi (zt (jT (qG (zj qm rfl B.isinstance boot_isinstance (za (pv 1) (za (qh (v:=.ty "tuple") rfl B.tuple zT rfl) zc)))) (zY qN rfl B.tuple zT (za (pv 4) zc)) (pv 4)))))))))),?_⟩
   have odd:∀H1 (m:Int),SameB b H H1->BoxAt H1 b m->m<=n+1->Yn K [.ref b] H1 Q E:=fun H1 m S1 B1 hm1=>
    ⟨b,m,ex,rfl,B1,by omega,E0.next S1 B1,fun v' H' S' B' dv'=>k v' H' (S1.trans S') (B'.mono (by omega)) (dv'.up (Same.refl _) (qo _) (by omega) (by omega))⟩
   rcases dv.split3 with rfl | ⟨c,rfl⟩ | ⟨i,rfl,h⟩ | ⟨x,rfl,h,ho⟩ | ⟨a,t,xs,ds,rfl,hq,rs,gs,bs,psd⟩
   ·refine⟨_,rfl,_, "NoneType", "str",rfl,rfl,(by decide),_,rfl,ifF (by decide) ⟨_,rfl,yf,fun p hp=>⟨_, "NoneType",p,["list", "tuple"],rfl,rfl,zb,(by decide),_,rfl,ifT (by decide) ⟨_,rfl,rfl,_,rfl,ifT (by simp) (ifT rfl ⟨_,rfl,?_⟩)⟩⟩⟩⟩
    exact odd _ n ((SameB.refl b H).new hp) (B0.new hp) (by omega)
   ·refine⟨_,rfl,_, "bool", "str",rfl,rfl,(by decide),_,rfl,ifF (by decide) ⟨_,rfl,yf,fun p hp=>⟨_, "bool",p,["list", "tuple"],rfl,rfl,zb,(by decide),_,rfl,ifT (by decide) ⟨_,rfl,rfl,_,rfl,ifF (by simp) ⟨_,rfl,_, "bool", "bool",rfl,rfl,(by decide),_,rfl,ifT (by decide) ⟨_,rfl,?_⟩⟩⟩⟩⟩⟩
    exact odd _ n ((SameB.refl b H).new hp) (B0.new hp) (by omega)
   ·refine⟨_,rfl,_, "int", "str",rfl,rfl,(by decide),_,rfl,ifF (by decide) ⟨_,rfl,yf,fun p hp=>⟨_, "int",p,["list", "tuple"],rfl,rfl,zb,(by decide),_,rfl,ifT (by decide) ⟨_,rfl,rfl,_,rfl,ifF (by simp) ⟨_,rfl,_, "int", "bool",rfl,rfl,(by decide),_,rfl,ifF (by decide) ⟨_,rfl,_,rfl,?_⟩⟩⟩⟩⟩⟩
    exact⟨b,i,n,kk,ex,rfl,B0.new hp,by omega,h,by omega,E0.same (zd hp),fun v' H' S' B' dv'=>k v' H' (((SameB.refl b H).new hp).trans S') (B'.mono (by omega)) (dv'.up (Same.refl _) (zC _) (by omega) (by omega))⟩
   ·refine⟨_,rfl,_, "str", "str",rfl,rfl,(by decide),_,rfl,ifT (by decide) ⟨_,rfl,b,4,n,rfl,B0,by omega,by decide,by decide,fun r H1 r0 r1 B1 S1=>⟨rfl,_,rfl,z7 (fun c=>⟨_,rfl,odd H1 _ S1 B1 (by omega)⟩) (fun c=>⟨_,rfl,_,rfl,?_⟩)⟩⟩⟩
    exact⟨b,x,n+1,z,rfl,B1,by omega,h,hN,ho,fun y H' S' B' hy oy=>k (.str y) H' (S1.trans S') (B'.mono (by omega)) (DS.str (by omega) oy)⟩
   have sq:∀H',SameB b H H'->SqQ K H' t a xs:=fun H' s=>hq.same ((WX.draw E0.mem s).trans WX.le)
   have row:∀H1 (m:Int),SameB b H H1->BoxAt H1 b m->m<=n+1->Wr K [.ref b,.ref a] H1 Q E:=fun H1 m S1 B1 hm1=>
    ⟨b,a,t,xs,m,kk,z,D-1,ex,rfl,B1,by omega,E0.next S1 B1,hq.same (WX.draw E0.mem S1),⟨ds,rs.same (WX.draw E0.mem S1),gs,bs,by omega⟩,hN,fun v' H' S' B' dv'=>k v' H' (S1.trans S') (B'.mono (by omega)) (dv'.up (Same.refl _) (by omega) (Nat.le_add_right _ _) (by omega))⟩
   obtain⟨lx,al⟩:=WQ (z:=z) (D:=D-1) rs gs bs (by omega)
   have ns:xj (tyQ t) "str" = false:=by cases t<;>decide
   have ny:(!(["list", "tuple"].any fun C=>xj (tyQ t) C))=false:=by cases t<;>decide
   have S0:=SameB.refl b H
   refine⟨_,rfl,_,tyQ t, "str",rfl,(sq H S0).ty,(by decide),_,rfl,ifF ns ⟨_,rfl,yf,fun p hp=>⟨_,tyQ t,p,["list", "tuple"],rfl,(sq _ (S0.new hp)).ty,zb,(by decide),_,rfl,ifF ny ?_⟩⟩⟩
   have S1:=S0.new (o:=.tup [V.ty "list",V.ty "tuple"]) hp
   have B1:=B0.new (o:=.tup [V.ty "list",V.ty "tuple"]) hp
   generalize upd H p (.tup [V.ty "list",V.ty "tuple"])=H1 at S1 B1
   refine⟨_,rfl,rfl,_,rfl,z7 (fun c=>ifT rfl ⟨_,rfl,_,rfl,row H1 n S1 B1 (by omega)⟩) (fun c=>⟨_,rfl,a,xs,rfl,(sq _ S1).or,rfl,_,rfl,z7 (fun c2=>ifT rfl ⟨_,rfl,_,rfl,row H1 n S1 B1 (by omega)⟩) (fun c2=>⟨_,rfl,b,4,n,rfl,B1,by omega,by decide,by decide,fun r H2 r0 r1 B2 S2=>⟨rfl,_,rfl,z7 (fun c3=>⟨_,rfl,_,rfl,row H2 _ (S1.trans S2) B2 (by omega)⟩) (fun c3=>?_)⟩⟩)⟩)⟩
   have S2':=S1.trans S2
   have d0:d≠0:=fun z=>c (by rw[z];exact qF rfl)
   have x0:xs.length≠0:=fun z=>c2 (by rw[z];exact qF rfl)
   clear S1 S2 B1
   refine⟨zaC b a d H n xs,?_,?_⟩
   ·refine⟨_,rfl,b,4,n+1,rfl,B2,by omega,by decide,by decide,fun r2 H3 r20 r21 B3 S3=>⟨rfl,_,rfl,z7 (fun e=>?_) (fun e=>?_)⟩⟩
    ·exact⟨_,rfl,a,xs,rfl,(sq _ (S2'.trans S3)).or,_,_,rfl,rfl,_,rfl,S2'.trans S3,B3.mono (by omega),by omega,by omega⟩
    ·exact⟨_,rfl,_,rfl,a,xs,rfl,(sq _ (S2'.trans S3)).or,b,_,n+1+1,rfl,B3,by omega,by omega,by omega,fun q H4 q0 q1 B4 S4=>⟨q,rfl,(S2'.trans S3).trans S4,B4.mono (by omega),q0,q1⟩⟩
   rintro σ' H3 ⟨q,rfl,S3,B3,q0,q1⟩
   clear S2' B2
   refine⟨_,rfl,a,xs,rfl,(sq _ S3).or,fun m hm=>?_⟩
   have E3:=E0.next S3 B3
   have mH:H m=none:=S3.none hm (B3.nne hm)
   have mb:=B3.nne hm
   have mx:=E3.out hm
   have S4:=S3.new (o:=.lst xs) hm
   have B4:=B3.new (o:=.lst xs) hm
   have E4:=E3.same (zd (o:=.lst xs) hm)
   have w4:=(WX.draw E0.mem S3).trans (WX.fresh hm (.lst xs))
   have f4:upd H3 m (.lst xs) m=some (.lst xs):=zb
   generalize upd H3 m (.lst xs)=H4 at S4 B4 E4 f4 w4
   obtain⟨x,ex1,ex2⟩:=yn (xs:=xs) q0 q1
   have dx:=(al x (jl ex2)).up w4 (zC _) (by omega:z-1<=z) (zC _)
   obtain⟨d',rfl⟩:∃d',d=d'+1:=⟨d-1,by omega⟩
   obtain⟨j',rfl⟩:∃j',j=j'+1:=⟨j-1,by omega⟩
   refine⟨_,rfl,_,rfl,_,rfl,m,xs,_,x,rfl,rfl,SqL.of f4,ex1,_,rfl,_,_,rfl,rfl,?_⟩
   refine⟨b,x,n+3,kk,z,D-1,d',m::ex,?_,B4,by omega,E4.cons f4,dx,hN,hk,by omega,by omega,fun v' H5 S5 B5 dv5=>?_⟩
   ·show [V.ref b,x,V.int (((d'+1:Nat):Int)-1)]=[V.ref b,x,V.int (d':Int)]
    have:(((d'+1:Nat):Int)-1)=(d':Int):=by omega
    rw[this]
   have f5:=S5 m _ f4 mb
   refine⟨_,rfl,_,rfl,m,xs,q,q.toNat,rfl,rfl,f5,zfw q0 q1,?_⟩
   have S6:=(S4.trans S5).put (o:=.lst (xs.set q.toNat v')) mH
   have B6:=B5.other (o:=.lst (xs.set q.toNat v')) mb
   have f6:upd H5 m (.lst (xs.set q.toNat v')) m=some (.lst (xs.set q.toNat v')):=zb
   have dv6:=dv5.up ((WX.put (H:=H5) (o:=.lst (xs.set q.toNat v')) jD).trans WX.cons) (zC _) (zC _) (zC _)
   generalize upd H5 m (.lst (xs.set q.toNat v'))=H6 at S6 B6 f6 dv6
   have E6:=E0.next S6 B6
   have gl6:GL K (WX ex H6) (kk+1) ((4*z+20)+(j'+1+1)*(z+2)) (D+3) (xs.set q.toNat v'):=by
    obtain⟨d2,rd,gd⟩:=dv6
    have b6:=Wb (ds:=ds) (i:=q.toNat) (d:=d2)
    have p6:=V3 (ds:=ds) (i:=q.toNat) (d:=d2)
    have gb:=gd.b
    have gp:=gd.p
    have em:(j'+1+1)*(z+2)=(j'+1)*(z+2)+(z+2):=Nat.succ_mul _ _
    exact⟨_,Reps.set (i:=q.toNat) (rs.same (WX.draw E0.mem S6)) rd,Y3 (i:=q.toNat) (d:=d2) (Dat.gds_up (by omega:kk<=kk+1) gs) gd.g,by rw[em];omega,by omega⟩
   refine⟨_,rfl,_,tyQ t, "tuple",rfl,(sq _ S6).ty,(by decide),_,rfl,z7 (fun e=>⟨_,rfl,m,_,rfl,.inl ⟨SqL.of f6,fun p' hp'=>?_⟩⟩) (fun e=>⟨_,rfl,?_⟩)⟩
   ·exact k _ _ (S6.new hp') ((B6.new hp').mono (by omega)) (GL.tup (SqT.of (WX.at (E6.out hp') zb)) (gl6.up (WX.new hp') (zC _) (zC _) (zC _)))
   ·exact k _ H6 S6 (B6.mono (by omega)) (GL.lst (SqL.of (WX.at mx f6)) gl6)
end
def Jd{α:Type}(f:Nat->Option α):Nat->Nat->Option (α×Nat)
 | _,0=>none
 | i,k+1=>match f i with
  | some w=>some (w,i)
  | none=>Jd f (i+1) k
theorem VW{α:Type}{f:Nat->Option α}:∀{k i:Nat},(∀j,i<=j->j<i+k->f j=none)->Jd f i k=none
 | 0,_,_=>rfl
 | k+1,i,h=>by
  unfold Jd
  rw[h i (zC _) (by omega)]
  exact VW fun j h1 h2=>h j (by omega) (by omega)
theorem zcR{α:Type}{f:Nat->Option α}{w:α}{j:Nat}:∀{k i:Nat},i<=j->j<i+k->(∀m,i<=m->m<j->f m=none)->f j=some w->Jd f i k=some (w,j)
 | 0,_,h1,h2,_,_=>by omega
 | k+1,i,h1,h2,h3,h4=>by
  unfold Jd
  by_cases e:i=j
  ·subst e
   rw[h4]
  ·rw[h3 i (zC _) (by omega)]
   exact zcR (by omega) (by omega) (fun m a b=>h3 m (by omega) b) h4
theorem wP{α:Type}{f:Nat->Option α}{n:Nat}(h:∀j,j<n->f j=none):Jd f 0 n=none:=VW fun j _ h2=>h j (by omega)
theorem Xr{α:Type}{f:Nat->Option α}{w:α}{n j:Nat}(hj:j<n)(h:∀m,m<j->f m=none)(e:f j=some w):Jd f 0 n=some (w,j):=zcR (qo _) (by omega) (fun m _ b=>h m b) e
def nI(l:List Nat):List Int:=l.map fun k:Nat=>(k:Int)
theorem Xi{k:Nat}{l:List Nat}:(k:Int)∈nI l↔k∈l:=by
 unfold nI
 rw[jC]
 exact⟨fun ⟨a,h,e⟩=>by rw[<- Int.ofNat.inj e];exact h,fun h=>⟨k,h,rfl⟩⟩
theorem zeJ(z:Int)(l:List Nat):inV (.int z) (zu l)=decide (z∈nI l):=by
 induction l with
 | nil=>rfl
 | cons a r ih=>
  have e1:inV (.int z) (zu (a::r))=(decide ((a:Int)=z)||inV (.int z) (zu r)):=by
   show(((a:Int)==z)||inV (.int z) (zu r))=_
   rw[show((a:Int)==z)=decide ((a:Int)=z) from rfl]
  rw[e1,ih]
  unfold nI
  rw[jP,wu,QU,ww,ww,ww,qq]
  exact or_congr_left ⟨Eq.symm,Eq.symm⟩
def UpA(J:Job)(p:Nat)(j:Int):Prop:=∃k,1<=k/\Wk (asI J) k j (p:Int)
def Jy(J:Job)(ord tk:List Nat)(p:Nat×Nat):Option Str:=match J.ps[p.1]?,J.fs[p.2]? with
 | some pa,some fe=>if fe.k=pa.k then if p.1∈ord then some "twice" else if fe.m<=(tk.count p.2:Int) then some "empty" else none else some "kind"
 | _,_=>none
theorem Ql{J:Job}{ord tk:List Nat}{p:Nat×Nat}{pa:Wg}{fe:Z1}(h1:J.ps[p.1]? =some pa)(h2:J.fs[p.2]? =some fe):Jy J ord tk p=if fe.k=pa.k then if p.1∈ord then some ("twice" : Str) else if fe.m<=(tk.count p.2:Int) then some ("empty" : Str) else none else some ("kind" : Str):=by
 unfold Jy
 rw[h1,h2]
open Classical in
noncomputable def WF (J:Job) (ord:List Nat) (p:Nat):Option Str:=if ∀j,UpA J p j->j∈nI ord then none else some "ahead"
def pkF(J:Job)(ord tk:List Nat)(t:qM)(i:Nat):Option Str:=(t.pk[i]?).bind fun p=>Jy J ord (tk++(t.pk.take i).map (·.2)) p
noncomputable def lyF (J:Job) (ord:List Nat) (t:qM) (i:Nat):Option Str:=(t.ly[i]?).bind fun p=>WF J (ord++t.ly.take i) p
theorem Wx{J:Job}{ord tk:List Nat}{t:qM}{i:Nat}{p:Nat×Nat}(h:t.pk[i]? =some p):pkF J ord tk t i=Jy J ord (tk++(t.pk.take i).map (·.2)) p:=by unfold pkF;rw[h];rfl
theorem WE{J:Job}{ord:List Nat}{t:qM}{i:Nat}{p:Nat}(h:t.ly[i]? =some p):lyF J ord t i=WF J (ord++t.ly.take i) p:=by unfold lyF;rw[h];rfl
noncomputable def flT (J:Job) (ord tk:List Nat) (t:qM):Option (Str×Nat):=match Jd (pkF J ord tk t) 0 t.pk.length with
 | some x=>some x
 | none=>(Jd (lyF J ord t) 0 t.ly.length).map fun x=>(x.1,t.pk.length+x.2)
theorem VZ{J:Job}{ord tk:List Nat}{t:qM}{w:Str}{j:Nat}(hj:j<t.pk.length)(h:∀m,m<j->pkF J ord tk t m=none)(e:pkF J ord tk t j=some w):flT J ord tk t=some (w,j):=by
 unfold flT
 rw[Xr hj h e]
theorem Y6{J:Job}{ord tk:List Nat}{t:qM}{w:Str}{j:Nat}(h0:∀m,m<t.pk.length->pkF J ord tk t m=none)(hj:j<t.ly.length)(h:∀m,m<j->lyF J ord t m=none)(e:lyF J ord t j=some w):flT J ord tk t=some (w,t.pk.length+j):=by
 unfold flT
 rw[wP h0,Xr hj h e]
 rfl
theorem Xw{J:Job}{ord tk:List Nat}{t:qM}(h0:∀m,m<t.pk.length->pkF J ord tk t m=none)(h:∀m,m<t.ly.length->lyF J ord t m=none):flT J ord tk t=none:=by
 unfold flT
 rw[wP h0,wP h]
 rfl
def jG(ts:List qM):List Nat:=(vZ ts).map (·.2)
noncomputable def flF (J:Job) (ts:List qM) (i:Nat):Option (Str×Nat):=(ts[i]?).bind fun t=>flT J (zK (ts.take i)) (jG (ts.take i)) t
theorem Xx{J:Job}{ts:List qM}{i:Nat}{t:qM}(h:ts[i]? =some t):flF J ts i=flT J (zK (ts.take i)) (jG (ts.take i)) t:=by unfold flF;rw[h];rfl
noncomputable def Zm (J:Job) (ts:List qM):Option ((Str×Nat)×Nat):=Jd (flF J ts) 0 ts.length
def flD:Option ((Str×Nat)×Nat)->Dat
 | none=>.non
 | some x=>.tup [.str x.1.1,.int (x.2:Int),.int (x.1.2:Int)]
structure TripV(J:Job)(t:qM):Prop where
 p1:1<=t.pk.length
 p2:(t.pk.length:Int)<=J.hd
 ok:∀p∈t.pk,p.1<J.ps.length/\p.2<J.fs.length
 ly:t.ly.Perm (t.pk.map (·.1))
 nd:(t.pk.map (·.1)).Nodup
theorem ZD{ts:List qM}{i:Nat}{t:qM}(h:ts[i]? =some t):zK (ts.take (i+1))=zK (ts.take i)++t.ly:=by rw[qg h,xC]
theorem Jm{ts:List qM}{i:Nat}{t:qM}(h:ts[i]? =some t):jG (ts.take (i+1))=jG (ts.take i)++t.pk.map (·.2):=by unfold jG;rw[qg h,yi,zW]
theorem TripV.le{J:Job}{t:qM}(h:TripV J t):t.ly.length=t.pk.length:=by rw[h.ly.length_eq,zq]
theorem Xl{J:Job}:∀{ts:List qM},(∀t∈ts,TripV J t)->J.hd<=4->(zK ts).length<=4*ts.length/\(jG ts).length<=4*ts.length
 | [],_,_=>⟨zC _,zC _⟩
 | t::r,h,h4=>by
  obtain⟨a,b⟩:=Xl (fun u hu=>h u (jE _ hu)) h4
  have t1:=h t jD
  have:=t1.p2
  have:=t1.le
  have e1:zK (t::r)=t.ly++zK r:=rfl
  have e2:jG (t::r)=t.pk.map (·.2)++jG r:=by unfold jG;rw[<- zW];rfl
  rw[e1,e2,qJ,qJ,zq,vd]
  omega
def rkO(ord:List Nat)(i:Int):Nat:=ord.idxOf i.toNat
theorem zeY{J:Job}{ord:List Nat}(jo:JobOk J ord)(i:Int):rkO ord i<=60:=by
 have h:rkO ord i<=ord.length:=List.idxOf_le_length
 have:=jo.op.length_eq
 rw[QJ] at this
 have:=jo.pl
 omega
theorem zcN{ord:List Nat}(nd:ord.Nodup){k x:Nat}(e:ord[k]? =some x):ord.idxOf x=k:=by
 obtain⟨h1,h2⟩:=zN.mp e
 have h3:=WZ (jl e)
 have h4:ord[ord.idxOf x]'h3=x:=List.getElem_idxOf h3
 exact(Zx nd).mp (h4.trans h2.symm)
theorem zez{J:Job}{os:List Nat}(nd:os.Nodup)(bo:ByOrd os J.as):∀q∈asI J,rkO os q.1<rkO os q.2:=fun q hq=>by
 obtain⟨p,hp,rfl⟩:=jC.mp hq
 obtain⟨k,l,hkl,e1,e2⟩:=bo p hp
 show os.idxOf ((p.1:Int)).toNat<os.idxOf ((p.2:Int)).toNat
 rw[vf,vf,zcN nd e1,zcN nd e2]
 exact hkl
theorem zb8{J:Job}{ord:List Nat}(jo:JobOk J ord):∀q∈asI J,rkO ord q.1<rkO ord q.2:=zez (jo.op.nodup_iff.mpr QW) jo.bo
theorem UpA.of{J:Job}{ord:List Nat}(jo:JobOk J ord){p:Nat}{j:Int}:(j≠(p:Int)/\∃k,Wk (asI J) k j (p:Int))↔UpA J p j:=by
 constructor
 ·rintro⟨h,k,w⟩
  refine⟨k,?_,w⟩
  cases k with
  | zero=>exact absurd (show j=(p:Int) from w) h
  | succ k=>omega
 ·rintro⟨k,h,w⟩
  refine⟨fun e=>?_,k,w⟩
  have:=w.rank (zb8 jo)
  rw[e] at this
  omega
theorem PlanOk.up{J:Job}{os:List Nat}{ts:List qM}(po:PlanOk J os ts){p:Nat}:∀{k:Nat} {j:Int},Wk (asI J) k j (p:Int)->p∈zK ts->j∈nI (zK ts)
 | 0,j,w,hp=>by
  cases(show j=(p:Int) from w)
  exact Xi.mpr hp
 | k+1,j,⟨m,e,w⟩,hp=>by
  have h:=PlanOk.up po w hp
  obtain⟨q,hq,eq⟩:=jC.mp e
  cases eq
  exact Xi.mpr (po.cl q hq (Xi.mp h))
theorem Wp{os l:List Nat}(s:l.Sublist os)(nd:os.Nodup){i x y:Nat}(hx:l[i]? =some x)(hy:y∈l)(h:os.idxOf y<os.idxOf x):y∈l.take i:=by
 obtain⟨j,hj⟩:=yY.mp hy
 by_cases e:j<i
 ·exact yY.mpr ⟨j,by rw[XI,if_pos e];exact hj⟩
 ·exfalso
  obtain⟨i1,i2⟩:=zN.mp hx
  obtain⟨j1,j2⟩:=zN.mp hj
  by_cases e2:i=j
  ·subst e2
   rw[i2] at j2
   subst j2
   omega
  ·have lt:i<j:=by omega
   have s2:[x,y].Sublist os:=by
    refine List.Sublist.trans ?_ s
    have a1:l=l.take j++l.drop j:=(QP j l).symm
    rw[a1,show [x,y]=[x]++[y] from rfl]
    refine List.Sublist.append (XV.mpr (yY.mpr ⟨i,by rw[XI,if_pos lt];exact hx⟩)) (XV.mpr (yY.mpr ⟨0,by rw[XJ];exact hj⟩))
   obtain⟨a,b,eo,ha,hb⟩:=List.append_sublist_iff.mp (show([x]++[y]).Sublist os from s2)
   have xa:x∈a:=XV.mp ha
   have yb:y∈b:=XV.mp hb
   rw[eo] at nd h
   obtain⟨n1,n2,n3⟩:=Zy.mp nd
   have ya:y∉a:=fun z=>n3 y z y yb rfl
   rw[List.idxOf_append,if_neg ya,List.idxOf_append,if_pos xa] at h
   have:=WZ xa
   omega
theorem YX{ts:List qM}:∀{i j p:Nat} {t:qM},ts[i]? =some t->t.ly[j]? =some p->∃m,(zK ts)[m]? =some p/\(zK ts).take m=zK (ts.take i)++t.ly.take j:=fun {i j p t} e1 e2=>by
 have h1:ts=ts.take i++t::ts.drop (i+1):=by
  obtain⟨hi,rfl⟩:=zN.mp e1
  rw[List.getElem_cons_drop,QP]
 have h2:zK ts=zK (ts.take i)++(t.ly++zK (ts.drop (i+1))):=by
  rw (config:={occs:=.pos [1]}) [h1]
  unfold zK
  rw[XM,List.flatMap_cons]
 have hj:=(zN.mp e2).1
 refine⟨(zK (ts.take i)).length+j,?_,?_⟩
 ·rw[h2,vF (by omega),Nat.add_sub_cancel_left,vW hj]
  exact e2
 ·rw[h2,List.take_length_add_append,List.take_append_of_le_length (by omega)]
theorem zfO{ts:List qM}{i j:Nat}{t:qM}{p:Nat×Nat}(e1:ts[i]? =some t)(e2:t.pk[j]? =some p)(f:Nat):(jG (ts.take i)++(t.pk.take (j+1)).map (·.2)).count f<=(jG ts).count f:=by
 have h1:ts=ts.take i++t::ts.drop (i+1):=by
  obtain⟨hi,rfl⟩:=zN.mp e1
  rw[List.getElem_cons_drop,QP]
 have h2:jG ts=jG (ts.take i)++(t.pk.map (·.2)++jG (ts.drop (i+1))):=by
  rw (config:={occs:=.pos [1]}) [h1]
  unfold jG vZ
  rw[XM,List.flatMap_cons,zW,zW]
 rw[h2]
 have s:((t.pk.take (j+1)).map (·.2)).Sublist (t.pk.map (·.2)):=(List.take_sublist _ _).map _
 rw[QI,QI,QI]
 have:=s.count_le f
 omega
theorem zd3{J:Job}{ord os:List Nat}{ts:List qM}(jo:JobOk J ord)(po:PlanOk J os ts)(pm:os.Perm (List.range J.ps.length))(bo:ByOrd os J.as):Zm J ts=none:=by
 have nd:os.Nodup:=pm.nodup_iff.mpr QW
 have ndl:(zK ts).Nodup:=nd.sublist po.sub
 unfold Zm
 refine wP fun i hi=>?_
 have et:ts[i]? =some ts[i]:=jj hi
 generalize ts[i]=t at et
 have tok:=po.tr t (jl et)
 rw[Xx et]
 refine Xw (fun j hj=>?_) (fun j hj=>?_)
 ·have ep:t.pk[j]? =some t.pk[j]:=jj hj
  generalize t.pk[j]=p at ep
  obtain⟨pa,fe,h1,h2,h3⟩:=tok.ok p (jl ep)
  have n1:¬p.1∈zK (ts.take i):=fun hm=>by
   obtain⟨m,hm'⟩:=yY.mp (tok.ly.mem_iff.mpr (jC.mpr ⟨p,jl ep,rfl⟩))
   obtain⟨q,e1,e2⟩:=YX et hm'
   have h5:p.1∈(zK ts).take q:=by rw[e2];exact xc _ hm
   obtain⟨r,hr⟩:=yY.mp h5
   rw[XI] at hr
   split at hr
   ·have:=(List.getElem?_inj (zN.mp hr).1 ndl).mp (hr.trans e1.symm)
    omega
   ·cases hr
  have n2:¬fe.m<=(((jG (ts.take i)++(t.pk.take j).map (·.2)).count p.2:Nat):Int):=by
   obtain⟨st,so⟩:=po.stk
   have hf:p.2<st.length:=by rw[so.len];exact(zN.mp h2).1
   have a:=so.nn p.2 _ (jj hf)
   have b:=so.cnt p.2 _ fe (jj hf) h2
   have c:=zfO et ep p.2
   rw[qg ep,zW,<- vU,QI,show([p].map (·.2)).count p.2=1 from WY] at c
   have d:(jG ts).count p.2=((vZ ts).map (·.2)).count p.2:=rfl
   omega
  rw[Wx ep,Ql h1 h2,if_pos h3,if_neg n1,if_neg n2]
 ·have ep:t.ly[j]? =some t.ly[j]:=jj hj
  generalize t.ly[j]=p at ep
  rw[WE ep]
  unfold WF
  rw[if_pos]
  rintro x ⟨k,h1,w⟩
  obtain⟨q,e1,e2⟩:=YX et ep
  have hx:=po.up w (jl e1)
  obtain⟨y,hy,rfl⟩:=jC.mp hx
  have rk:=w.rank (zez nd bo)
  rw[<- e2]
  refine Xi.mpr (Wp po.sub nd e1 hy ?_)
  have a:rkO os (y:Int)=os.idxOf y:=by unfold rkO;rw[vf]
  have b:rkO os (p:Int)=os.idxOf p:=by unfold rkO;rw[vf]
  omega
end L2
namespace L2
open PySem PySem.Spec PyProof.Rows
def zgu:Option Str->V
 | none=>.non
 | some w=>.str w
theorem zdS(l:List Nat):zu l=(nI l).map V.int:=by
 unfold zu nI
 rw[xn];rfl
theorem zcW(l:List Nat)(f:Nat):(nI l).count (f:Int)=l.count f:=by
 unfold nI
 induction l with
 | nil=>rfl
 | cons x l ih=>
  rw[jP,List.count_cons,List.count_cons,ih]
  by_cases h:x=f
  ·simp[h]
  ·have:¬(x:Int)=(f:Int):=by omega
   simp[h,this]
theorem JobOk.ain{J:Job}{ord:List Nat}(jo:JobOk J ord):∀q∈asI J,InN J.ps.length q.1/\InN J.ps.length q.2:=fun q hq=>by
 unfold asI at hq
 obtain⟨p,hp,rfl⟩:=jC.mp hq
 have h1:=wZ.mp (jo.op.mem_iff.mp (jo.bo.mem1 hp))
 have h2:=wZ.mp (jo.op.mem_iff.mp (jo.bo.mem2 hp))
 exact⟨⟨by show(0:Int)<=(p.1:Int);omega,by show(p.1:Int)<_;omega⟩,⟨by show(0:Int)<=(p.2:Int);omega,by show(p.2:Int)<_;omega⟩⟩
section
variable{P:Program}{w:World}{K:PySem.W.Frag}{mg:Str->Option Value}{base:Heap}
inductive zbP(K:PySem.W.Frag)(vs:List V)(H:Hp)(Q:VK):Prop
 | mk (jp pk lo lt:Addr) (J:Job) (p:Nat×Nat) (ord tk:List Nat) (_:vs=[.ref jp,.ref pk,.ref lo,.ref lt]) (_:Rep K H (vj J) (.ref jp)) (_:SqT K H pk [.int (p.1:Int),.int (p.2:Int)]) (_:p.1<J.ps.length) (_:p.2<J.fs.length) (_:SqL K H lo (zu ord)) (_:H lt=some (.lst (zu tk))) (_:Q (zgu (Jy J ord tk p)) H):zbP K vs H Q
def zf2(K:PySem.W.Frag):Sp:=fun vs H Q _=>zbP K vs H Q
theorem zge:zI ["job", "pick", "picked", "taken", "part", "feeder", "kind", "place", "many"] ["job", "pick", "picked", "taken"] (zv (topL 12)):=⟨rfl,rfl,rfl,by decide +kernel,rfl,by decide +kernel,by decide +kernel⟩
theorem zgD{f:Addr}{fd:FuncData}(F:Fun K "flaw_at_pick" "flaw_at_pick" (topL 12) f fd)(B:Blt mg):qS P w K mg base CX0 1 f fd ["job", "pick", "picked", "taken"] (zf2 K):=by
 have nd:=zge.nd
 refine F.ok zge (fun vs H Q E h=>?_) (fun cdv A outer s H vs Q E hr h=>?_)
 ·obtain⟨jp,pk,lo,lt,J,p,ord,tk,rfl,_⟩:=h
  rfl
 ·obtain⟨jp,pk,lo,lt,J,p,ord,tk,rfl,rj,qp,hp,hf,ho,ht,k⟩:=h
  have h1:J.ps[p.1]? =some J.ps[p.1]:=jj hp
  have h2:J.fs[p.2]? =some J.fs[p.2]:=jj hf
  generalize J.ps[p.1]=pa at h1
  generalize J.fs[p.2]=fe at h2
  rw[Ql h1 h2] at k
  obtain⟨g,fs,ps,as,fv,px,qj,_,qf,rf,qps,rp,_⟩:=wO rj
  obtain⟨fv0,efv,rfv⟩:=wt rf h2
  obtain⟨fa,fc,rfl,qfa,_⟩:=xR rfv
  obtain⟨pv0,epv,rpv⟩:=wt rp h1
  obtain⟨pad,pac,rfl,qpa,_⟩:=wI rpv
  refine⟨_,(zf (jH (pv 1) (qT rfl (zx (zr (i:=4) nd rfl (Or.inl rfl)) (zx (zr (i:=5) nd rfl (Or.inl rfl)) qB))))
   (zf (jH (zE qD (zE qD (pv 0) ze (fun _ _=>rfl)) (pv 5) (fun _ _=>rfl)) (qT rfl (zx (zr (i:=6) nd rfl (Or.inl rfl)) (zx (zr (i:=7) nd rfl (Or.inl rfl)) (zx (zr (i:=8) nd rfl (Or.inl rfl)) qB)))))
   (zf (qe (zA ZC (pv 6) (zE qD (zE qD (zE qD (pv 0) ze (fun _ _=>rfl)) (pv 4) (fun _ _=>rfl)) ze (fun _ _=>rfl)) (zB _))
   (zi (zt jR))
   zJ)
   (zf (qe (zA wJ (pv 4) (pv 2) (by with_unfolding_all rfl))
   (zi (zt jR))
   zJ)
   (zf (qe (zA zeH (xz xG PySem.F.slot_list_count PySem.F.type_list_count za1 (pv 3) (za (pv 5) zc)) (pv 8) (zB _))
   (zi (zt jR))
   zJ)
   (zi (zt jY))))))),?_⟩
  refine⟨_,rfl,pk,_,rfl,qp,rfl,_,_,rfl,_,_,rfl,rfl,?_⟩
  refine⟨_,rfl,jp,_,_,_,rfl,rfl,qj,rfl,_,rfl,fs,_,_,_,rfl,rfl,qf,qI efv,fa,_,rfl,qfa,rfl,_,_,rfl,_,_,rfl,_,_,rfl,rfl,?_⟩
  refine⟨_,rfl,_,rfl,jp,_,_,_,rfl,rfl,qj,rfl,_,rfl,ps,_,_,_,rfl,rfl,qps,qI epv,pad,_,_,_,rfl,rfl,qpa,rfl,rfl,_,rfl,z7 (fun c=>?_) (fun c=>?_)⟩
  ·have:¬fe.k=pa.k:=fun e=>by
    rw[e] at c
    simp at c
   rw[if_neg this] at k
   exact k
  ·have:fe.k=pa.k:=by
    have:V.str fe.k=V.str pa.k:=by simpa using c
    exact V.str.inj this
   rw[if_pos this] at k
   refine⟨_,rfl,_,rfl,lo,zu ord,rfl,.inl ho,rfl,j9 _,_,rfl,z7 (fun c=>?_) (fun c=>?_)⟩
   ·rw[x9] at c
    rw[if_pos (qW c)] at k
    exact k
   ·rw[x9] at c
    rw[if_neg (by simpa using c)] at k
    refine⟨_,rfl,.inl ⟨rfl,_,SqL.of ht⟩,_,rfl,lt,nI tk,(p.2:Int),rfl,rfl,by rw[ht,zdS],_,rfl,_,_,rfl,rfl,_,rfl,z7 (fun c=>?_) (fun c=>?_)⟩
    ·rw[zcW] at c
     rw[if_pos (qW c)] at k
     exact k
    ·rw[zcW] at c
     rw[if_neg (fun z=>c (qF z))] at k
     exact k
inductive zbR(K:PySem.W.Frag)(vs:List V)(H:Hp)(Q:VK):Prop
 | mk (jp lo:Addr) (J:Job) (od ord:List Nat) (p:Nat) (_:vs=[.ref jp,.int (p:Int),.ref lo]) (_:Rep K H (vj J) (.ref jp)) (_:JobOk J od) (_:p<J.ps.length) (_:SqL K H lo (zu ord)) (_:∀H',Same H H'->Q (zgu (WF J ord p)) H'):zbR K vs H Q
def zf4(K:PySem.W.Frag):Sp:=fun vs H Q _=>zbR K vs H Q
theorem zgg:zI ["job", "part", "order"] ["job", "part", "order"] (zv (topL 13)):=⟨rfl,rfl,rfl,by decide +kernel,rfl,by decide +kernel,by decide +kernel⟩
theorem all_map{α:Type}{l:List α}{f:α->Bool}:(l.map f).all id=l.all f:=by rw[List.all_map];rfl
theorem zgF{f:Addr}{fd:FuncData}(F:Fun K "flaw_at_lay" "flaw_at_lay" (topL 13) f fd)(B:Blt mg)(Dahead_of:Dfn P w K mg base "ahead_of" 3 ["job", "part"] (Yx K)):qS P w K mg base CX0 4 f fd ["job", "part", "order"] (zf4 K):=by
 have nd:=zgg.nd
 refine F.ok zgg (fun vs H Q E h=>?_) (fun cdv A outer s H vs Q E hr h=>?_)
 ·obtain⟨jp,lo,J,od,ord,p,rfl,_⟩:=h
  rfl
 ·obtain⟨jp,lo,J,od,ord,p,rfl,rj,jo,hp,ho,k⟩:=h
  have hbig:100000<sizeLine:=by rw[sizeLine_eq];decide
  refine⟨_,(zf (qe (qG (zj (jA rfl) rfl B.all boot_all (za (jS ["order"] [2] rfl rfl (by kernel_rfl) (jO (zg Dahead_of (hr.mono (by decide)) rfl (za (pv 0) (za (pv 1) zc)))) (fun _ _ _ _=>jb) (fun _ _ _ _=>(qK (vK (K:=K) rfl) (pv 0) (pv 1) (by with_unfolding_all rfl)))) zc)))
   (zi (zt jY))
   zJ)
   (zi (zt jR))),?_⟩
  refine⟨_,rfl,_,rfl,(p:Int),jp,J,rfl,rj,jo.pl,⟨by omega,by omega⟩,jo.ain,jo.al,fun l ms H1 s1 _ hl ml _ mm=>⟨l,rfl,⟨_,SqL.of hl⟩,xw (K:=K) (a:=l) (xs:=ms.map V.int) (fun i zs H2=>zs=((ms.take i).map fun j=>decide (j∈nI ord)).map V.bl/\Same H1 H2) ⟨rfl,Same.refl _⟩ (fun i zs H2 ⟨_,s2⟩=>SqL.of (s2 _ _ hl)) ?_ ?_⟩⟩
  ·rintro i x zs H2 hx ⟨rfl,s2⟩
   rw[qr] at hx
   obtain⟨j,ej,rfl⟩:=jc.mp hx
   have hi:=(zN.mp ej).1
   refine⟨rfl,_,rfl,_,rfl,lo,zu ord,rfl,.inl ((s1.trans s2).seq ho),rfl,j9 _,by rw[zq,zq,z9];omega,?_,s2⟩
   rw[qg ej,zW,zW,zeJ]
   rfl
  ·rintro zs H2 ⟨rfl,s2⟩
   have et:ms.take (ms.map V.int).length=ms:=by rw[zq,je]
   rw[et]
   refine⟨by rw[zq,zq];omega,fun D hD=>⟨D,ms.map fun j=>decide (j∈nI ord),rfl,SqL.of zb,?_⟩⟩
   have s3:=s1.trans (s2.trans (zd (o:=.lst ((ms.map fun j=>decide (j∈nI ord)).map V.bl)) hD))
   have key:((ms.map fun j=>decide (j∈nI ord)).all id=true)↔∀j,UpA J p j->j∈nI ord:=by
    rw[all_map,jh]
    constructor
    ·intro h j u
     exact qW (h j ((mm j).mpr ((UpA.of jo).mpr u)))
    ·intro h j hj
     exact qF (h j ((UpA.of jo).mp ((mm j).mp hj)))
   have kk:=k _ s3
   unfold WF at kk
   refine⟨_,rfl,z7 (fun c=>?_) (fun c=>?_)⟩
   ·rw[if_pos (key.mp c)] at kk
    exact kk
   ·rw[if_neg (fun z=>c (key.mpr z))] at kk
    exact kk
end
theorem vm(xs:List V)(k:Nat):zQ xs none (some (k:Int))=xs.take k:=by
 unfold zQ
 rw[HT.sIx_none,HT.sIx_nat,List.drop_zero,Nat.sub_zero]
 by_cases h:k<=xs.length
 ·rw[Nat.min_eq_left h]
 ·rw[Nat.min_eq_right (by omega),je,Q3 (by omega)]
theorem xA(a b:List Nat):zu a++zu b=zu (a++b):=by unfold zu;rw[zW]
theorem wN(a:List Nat)(k:Nat):(zu a).take k=zu (a.take k):=by unfold zu;rw[QR]
def FlV(K:PySem.W.Frag)(H:Hp)(o:Option (Str×Nat))(v:V):Prop:=match o with
 | none=>v=.non
 | some x=>∃a,v=.ref a/\SqT K H a [.str x.1,.int (x.2:Int)]
section
variable{P:Program}{w:World}{K:PySem.W.Frag}{mg:Str->Option Value}{base:Heap}
theorem wF{H:Hp}{t:qM}{x:V}(h:Rep K H (jm t) x):∃a b c xs ys,x=.ref a/\SqT K H a [.ref b,.ref c]/\SqT K H b xs/\Reps K H (t.pk.map qP) xs/\SqT K H c ys/\Reps K H (t.ly.map xN) ys:=by
 obtain⟨a,vs,rfl,qa,x0,r0,e0,h0,x1,r1,e1,h1,e2⟩:=h
 subst e0 e1
 cases(show r1=[] from e2)
 obtain⟨b,xs,rfl,qb,rb⟩:=h0
 obtain⟨c,ys,rfl,qc,rc⟩:=h1
 exact⟨a,b,c,xs,ys,rfl,qa,qb,rb,qc,rc⟩
theorem wb{H:Hp}:∀{l:List Nat} {ys:List V},Reps K H (l.map xN) ys->ys=zu l
 | [],_,h=>h
 | k::l,_,h=>by
  obtain⟨v,r,e,h1,h2⟩:=h
  subst e
  rw[wb h2,show v=_ from h1]
  rfl
inductive zbO(K:PySem.W.Frag)(vs:List V)(H:Hp)(Q:VK):Prop
 | mk (jp tp lo lt:Addr) (J:Job) (od ord tk:List Nat) (t:qM) (_:vs=[.ref jp,.ref tp,.ref lo,.ref lt]) (_:Rep K H (vj J) (.ref jp)) (_:JobOk J od) (_:Rep K H (jm t) (.ref tp)) (_:TripV J t) (_:H lo=some (.lst (zu ord))) (_:H lt=some (.lst (zu tk))) (_:ord.length<=90000) (_:tk.length<=90000) (_:∀(v:V) H',Same H H'->FlV K H' (flT J ord tk t) v->Q v H'):zbO K vs H Q
def zf1(K:PySem.W.Frag):Sp:=fun vs H Q _=>zbO K vs H Q
theorem zgd:zI ["job", "trip", "order", "taken", "picks", "lays", "feeders", "at", "pick", "word", "part"] ["job", "trip", "order", "taken"] (zv (topL 14)):=⟨rfl,rfl,rfl,by decide +kernel,rfl,by decide +kernel,by decide +kernel⟩
def zaB(jp:_)(tp:_)(lo:_)(lt:_)(b:_)(c:_)(lf:_)(H2:_)(J:_)(ord:_)(tk:_)(t:_):=fun(i:Nat) (σ:St) (H':Hp)=>(Ex3 fun(v7 v8 v9:Option V)=>An3 (σ=[some (.ref jp),some (.ref tp),some (.ref lo),some (.ref lt),some (.ref b),some (.ref c),some (.ref lf),v7,v8,v9,none]) (Same H2 H') (∀m,m<i->pkF J ord tk t m=none):Prop)
def zaA(jp:_)(tp:_)(lo:_)(lt:_)(b:_)(c:_)(lf:_)(v8:_)(H3:_)(J:_)(ord:_)(t:_):=fun(i:Nat) (σ:St) (H':Hp)=>(Ex3 fun(v7 v9 v10:Option V)=>An3 (σ=[some (.ref jp),some (.ref tp),some (.ref lo),some (.ref lt),some (.ref b),some (.ref c),some (.ref lf),v7,v8,v9,v10]) (Same H3 H') (∀m,m<i->lyF J ord t m=none):Prop)
theorem zgC{f:Addr}{fd:FuncData}(F:Fun K "flaw_in_trip" "flaw_in_trip" (topL 14) f fd)(B:Blt mg)(Dflaw_at_pick:Dfn P w K mg base "flaw_at_pick" 1 ["job", "pick", "picked", "taken"] (zf2 K))(Dflaw_at_lay:Dfn P w K mg base "flaw_at_lay" 4 ["job", "part", "order"] (zf4 K)):qS P w K mg base CX0 5 f fd ["job", "trip", "order", "taken"] (zf1 K):=by
 have nd:=zgd.nd
 refine F.ok zgd (fun vs H Q E h=>?_) (fun cdv A outer s H vs Q E hr h=>?_)
 ·obtain⟨jp,tp,lo,lt,J,od,ord,tk,t,rfl,_⟩:=h
  rfl
 ·obtain⟨jp,tp,lo,lt,J,od,ord,tk,t,rfl,rj,jo,rt,tv,ho,ht,ol,tl,k⟩:=h
  have hbig:1000000<sizeLine:=by rw[sizeLine_eq];decide
  have hd4:=jo.hd1
  have tp2:=tv.p2
  have tle:=tv.le
  obtain⟨a,b,c,ps,ys,ea,qa,qb,rb,qc,rc⟩:=wF rt
  cases ea
  cases wb rc
  have lb:=rb.len
  rw[zq] at lb
  refine⟨_,(zf (jH (pv 1) (qT rfl (zx (zr (i:=4) nd rfl (Or.inl rfl)) (zx (zr (i:=5) nd rfl (Or.inl rfl)) qB))))
   (zf (Wv [] [] rfl rfl (by kernel_rfl) (jX (pv 4)) (fun _ _ _ _=>jb) (fun _ _ _ _=>(pv 1)) (zr (i:=6) nd rfl (Or.inl rfl)))
   (zf (ja jB rfl (v0 rfl B.enumerate (za (pv 4) zc)) (qT rfl (zx (zr (i:=7) nd rfl (Or.inl rfl)) (zx (zr (i:=8) nd rfl (Or.inl rfl)) qB)))
   (zf (zF (i:=9) nd rfl (Or.inl rfl) (zg Dflaw_at_pick (hr.mono (by decide)) rfl (za (pv 0) (za (pv 8) (za (pv 2) (za (zw jv (pv 3) (zM qO (pv 6) qy (zP (pv 7)))) zc))))))
    (zi (qe (zA Xe (pv 9) jY (zB _))
    (zi (zt (zX (za (pv 9) (za (pv 7) zc)))))
    zJ))))
   (zf (ja jB rfl (v0 rfl B.enumerate (za (pv 5) zc)) (qT rfl (zx (zr (i:=7) nd rfl (Or.inl rfl)) (zx (zr (i:=10) nd rfl (Or.inl rfl)) qB)))
   (zf (zF (i:=9) nd rfl (Or.inl rfl) (zg Dflaw_at_lay (hr.mono (by decide)) rfl (za (pv 0) (za (pv 10) (za (zw jv (pv 2) (zY xO rfl B.list qZ (za (zM Ws (pv 5) qy (zP (pv 7))) zc))) zc)))))
    (zi (qe (zA Xe (pv 9) jY (zB _))
    (zi (zt (zX (za (pv 9) (za (zw zU (zj zp rfl B.len boot_len (za (pv 4) zc)) (pv 7)) zc)))))
    zJ))))
   (zi (zt jY)))))),?_⟩
  refine⟨_,rfl,tp,_,rfl,qa,rfl,_,_,rfl,_,_,rfl,rfl,?_⟩
  refine⟨_,rfl,b,rfl,⟨_,qb⟩,j6 (K:=K) (a:=b) (xs:=ps) (fun i zs H1=>zs=zu ((t.pk.take i).map (·.2))/\Same H H1) ⟨rfl,Same.refl _⟩ (fun i zs H1 ⟨_,s1⟩=>s1.sqT qb) ?_ ?_⟩
  ·rintro i x zs H1 hx ⟨rfl,s1⟩
   obtain⟨d,ed,rd⟩:=(rb.same s1).get hx
   rw[qr] at ed
   obtain⟨p,ep,rfl⟩:=jc.mp ed
   obtain⟨pp,rfl,qpp⟩:=xp rd
   have hi:=(zN.mp ep).1
   refine⟨pp,_,rfl,qpp,rfl,_,_,rfl,_,_,rfl,rfl,rfl,?_⟩
   refine⟨_,rfl,by rw[zH,zq,z9];omega,?_,s1⟩
   rw[qg ep,zW,<- xA]
   rfl
  rintro zs H1 ⟨rfl,s1⟩
  rw[lb,je]
  refine⟨by rw[zH,zq];omega,fun lf hlf=>?_⟩
  have s2:=s1.trans (zd (o:=.lst (zu (t.pk.map (·.2)))) hlf)
  have LF:upd H1 lf (.lst (zu (t.pk.map (·.2)))) lf=some (.lst (zu (t.pk.map (·.2)))):=zb
  generalize upd H1 lf (.lst (zu (t.pk.map (·.2))))=H2 at s2 LF
  refine⟨_,rfl,b,rfl,⟨_,s2.sqT qb⟩,wQ (K:=K) (a:=b) (xs:=ps) (zaB jp tp lo lt b c lf H2 J ord tk t) ⟨_,_,_,rfl,Same.refl _,(fun m h=>absurd h (yU _))⟩ (fun i σ H' _ ⟨_,_,_,_,s3,_⟩=>s3.sqT (s2.sqT qb)) ?_ ?_⟩
  ·rintro i x σ H3 T hx ⟨v7,v8,v9,rfl,s3,nn⟩ hT
   have sT:=s3.trans (zd (o:=.tup [.int (i:Int),x]) hT)
   have s4:=s2.trans sT
   obtain⟨d,ed,rd⟩:=(rb.same s4).get hx
   rw[qr] at ed
   obtain⟨p,ep,rfl⟩:=jc.mp ed
   obtain⟨pp,rfl,qpp⟩:=xp rd
   have hi:=(zN.mp ep).1
   have okp:=tv.ok p (jl ep)
   refine⟨T,_,rfl,SqT.of zb,rfl,_,_,rfl,_,_,rfl,rfl,?_⟩
   generalize upd H3 T (.tup [.int (i:Int),.ref pp])=H4 at *
   refine⟨_,rfl,_,rfl,_,rfl,_,rfl,_,rfl,_,rfl,_,rfl,lf,_,rfl,SqL.of (sT _ _ LF),fun q hq=>⟨lt,q,_,_,rfl,rfl,(s4.trans (zd hq)) _ _ ht,zb,by rw[vm,wN,zH,zH,z9,zq];omega,fun q2 hq2=>?_⟩⟩
   have s5:=(zd (o:=.lst (zQ (zu (t.pk.map (·.2))) none (some (i:Int)))) hq).trans (zd (o:=.lst (zu tk++zQ (zu (t.pk.map (·.2))) none (some (i:Int)))) hq2)
   have L5:upd (upd H4 q (.lst (zQ (zu (t.pk.map (·.2))) none (some (i:Int))))) q2 (.lst (zu tk++zQ (zu (t.pk.map (·.2))) none (some (i:Int)))) q2=some (.lst (zu (tk++(t.pk.take i).map (·.2)))):=by rw[zb,vm,wN,xA,QR]
   generalize upd (upd H4 q (.lst (zQ (zu (t.pk.map (·.2))) none (some (i:Int))))) q2 (.lst (zu tk++zQ (zu (t.pk.map (·.2))) none (some (i:Int))))=H5 at s5 L5
   have s6:=s4.trans s5
   refine⟨jp,pp,lo,q2,J,p,ord,tk++(t.pk.take i).map (·.2),rfl,rj.same s6,s5.sqT qpp,okp.1,okp.2,SqL.of (s6 _ _ ho),L5,?_⟩
   have e:=Wx (J:=J) (ord:=ord) (tk:=tk) ep
   cases hw:Jy J ord (tk++(t.pk.take i).map (·.2)) p with
   | none=>
    rw[hw] at e
    refine⟨_,rfl,rfl,_,rfl,ifF rfl ⟨_,_,_,rfl,sT.trans s5,fun m hm=>?_⟩⟩
    by_cases h:m<i
    ·exact nn m h
    ·rw[show m=i by omega];exact e
   | some wd=>
    rw[hw] at e
    refine⟨_,rfl,rfl,_,rfl,ifT rfl ⟨_,rfl,_,rfl,le2,fun a ha=>k _ _ (s6.trans (zd ha)) ?_⟩⟩
    rw[VZ hi nn e]
    exact⟨a,rfl,SqT.of zb⟩
  rintro σ H3 ⟨v7,v8,v9,rfl,s3,nn⟩
  rw[lb] at nn
  have s23:=s2.trans s3
  refine⟨_,rfl,c,rfl,⟨_,s23.sqT qc⟩,wQ (K:=K) (a:=c) (xs:=zu t.ly) (zaA jp tp lo lt b c lf v8 H3 J ord t) ⟨_,_,_,rfl,Same.refl _,(fun m h=>absurd h (yU _))⟩ (fun i σ H' _ ⟨_,_,_,_,s4,_⟩=>s4.sqT (s23.sqT qc)) ?_ ?_⟩
  ·rintro i x σ H4 T hx ⟨v7,v9,v10,rfl,s4,nl⟩ hT
   obtain⟨p,ep,rfl⟩:=yG hx
   have hi:=(zN.mp ep).1
   have sT:=s4.trans (zd (o:=.tup [.int (i:Int),.int (p:Int)]) hT)
   have s5:=s23.trans sT
   have hp:p<J.ps.length:=by
    obtain⟨u,hu,rfl⟩:=jC.mp (tv.ly.mem_iff.mp (jl ep))
    exact(tv.ok u hu).1
   refine⟨T,_,rfl,SqT.of zb,rfl,_,_,rfl,_,_,rfl,rfl,?_⟩
   generalize upd H4 T (.tup [.int (i:Int),.int (p:Int)])=H5 at *
   have ncut:¬(HT.sIx (zu t.ly).length 0 none=0/\HT.sIx (zu t.ly).length (zu t.ly).length (some (i:Int))=(zu t.ly).length):=fun z=>by
    have z2:=z.2
    rw[HT.sIx_nat,zH] at z2
    omega
   refine⟨_,rfl,_,rfl,_,rfl,_,rfl,_,rfl,_,rfl,c,_,rfl,s5.sqT qc,ncut,fun q hq=>⟨q,_,rfl,.inr (SqT.of zb),fun l hl=>⟨lo,l,_,_,rfl,rfl,((s5.trans (zd hq)).trans (zd hl)) _ _ ho,zb,by rw[vm,wN,zH,zH,z9];omega,fun q2 hq2=>?_⟩⟩⟩
   have s6:=((zd (o:=.tup (zQ (zu t.ly) none (some (i:Int)))) hq).trans (zd (o:=.lst (zQ (zu t.ly) none (some (i:Int)))) hl)).trans (zd (o:=.lst (zu ord++zQ (zu t.ly) none (some (i:Int)))) hq2)
   have L6:upd (upd (upd H5 q (.tup (zQ (zu t.ly) none (some (i:Int))))) l (.lst (zQ (zu t.ly) none (some (i:Int))))) q2 (.lst (zu ord++zQ (zu t.ly) none (some (i:Int)))) q2=some (.lst (zu (ord++t.ly.take i))):=by rw[zb,vm,wN,xA]
   generalize upd (upd (upd H5 q (.tup (zQ (zu t.ly) none (some (i:Int))))) l (.lst (zQ (zu t.ly) none (some (i:Int))))) q2 (.lst (zu ord++zQ (zu t.ly) none (some (i:Int))))=H6 at s6 L6
   have s7:=s5.trans s6
   refine⟨jp,q2,J,od,ord++t.ly.take i,p,rfl,rj.same s7,jo,hp,SqL.of L6,fun H7 s8=>?_⟩
   have e:=WE (J:=J) (ord:=ord) ep
   cases hw:WF J (ord++t.ly.take i) p with
   | none=>
    rw[hw] at e
    refine⟨_,rfl,rfl,_,rfl,ifF rfl ⟨_,_,_,rfl,(sT.trans s6).trans s8,fun m hm=>?_⟩⟩
    by_cases h:m<i
    ·exact nl m h
    ·rw[show m=i by omega];exact e
   | some wd=>
    rw[hw] at e
    have s9:=s7.trans s8
    refine⟨_,rfl,rfl,_,rfl,ifT rfl ⟨_,rfl,_,rfl,b,_,rfl,.inr (s9.sqT qb),_,rfl,_,_,rfl,rfl,le2,fun a ha=>k _ _ (s9.trans (zd ha)) ?_⟩⟩
    rw[Y6 nn hi nl e,<- lb]
    exact⟨a,rfl,SqT.of zb⟩
  rintro σ H4 ⟨v7,v9,v10,rfl,s4,nl⟩
  rw[zH] at nl
  refine k _ _ (s23.trans s4) ?_
  rw[Xw nn nl]
  exact rfl
end
theorem Same.put{m:Addr}{H H':Hp}{o:HO}(s:Same H H')(h:H m=Option.none):Same H (upd H' m o):=fun c u e=>by
 rw[zo (zn e h)]
 exact s c u e
section
variable{P:Program}{w:World}{K:PySem.W.Frag}{mg:Str->Option Value}{base:Heap}
structure PlV(J:Job)(od:List Nat)(ts:List qM):Prop where
 jo:JobOk J od
 tv:∀t∈ts,TripV J t
 tl:ts.length<=20000
inductive zbQ(K:PySem.W.Frag)(vs:List V)(H:Hp)(Q:VK):Prop
 | mk (jp pl:Addr) (J:Job) (od:List Nat) (ts:List qM) (xs:List V) (_:vs=[.ref jp,.ref pl]) (_:Rep K H (vj J) (.ref jp)) (_:SqL K H pl xs) (_:Reps K H (ts.map jm) xs) (_:PlV J od ts) (_:∀(v:V) H',Same H H'->Rep K H' (flD (Zm J ts)) v->Q v H'):zbQ K vs H Q
def zf3(K:PySem.W.Frag):Sp:=fun vs H Q _=>zbQ K vs H Q
theorem zgf:zI ["job", "plan", "order", "taken", "number", "trip", "flaw", "word", "place", "picks", "lays"] ["job", "plan"] (zv (topL 15)):=⟨rfl,rfl,rfl,by decide +kernel,rfl,by decide +kernel,by decide +kernel⟩
def zaz(jp:_)(pl:_)(lo:_)(lt:_)(H:_)(ts:_)(J:_):=fun(i:Nat) (σ:St) (H':Hp)=>(Ex7 fun(v4 v5 v6 v7 v8 v9 v10:Option V)=>An5 (σ=[some (.ref jp),some (.ref pl),some (.ref lo),some (.ref lt),v4,v5,v6,v7,v8,v9,v10]) (Same H H') (H' lo=some (.lst (zu (zK (ts.take i))))) (H' lt=some (.lst (zu (jG (ts.take i))))) (∀m,m<i->flF J ts m=none):Prop)
theorem zgE{f:Addr}{fd:FuncData}(F:Fun K "flaw_of" "flaw_of" (topL 15) f fd)(B:Blt mg)(Dflaw_in_trip:Dfn P w K mg base "flaw_in_trip" 5 ["job", "trip", "order", "taken"] (zf1 K)):qS P w K mg base CX0 6 f fd ["job", "plan"] (zf3 K):=by
 have nd:=zgf.nd
 refine F.ok zgf (fun vs H Q E h=>?_) (fun cdv A outer s H vs Q E hr h=>?_)
 ·obtain⟨jp,pl,J,od,ts,xs,rfl,_⟩:=h
  rfl
 ·obtain⟨jp,pl,J,od,ts,xs,rfl,rj,hp,rl,pz,k⟩:=h
  have hbig:1000000<sizeLine:=by rw[sizeLine_eq];decide
  have tl:=pz.tl
  have ll:=rl.len
  rw[zq] at ll
  have le:∀i,(zK (ts.take i)).length<=80000/\(jG (ts.take i)).length<=80000:=fun i=>by
   have:=Xl (ts:=ts.take i) (fun t ht=>pz.tv t (ZN ht)) pz.jo.hd1
   rw[z9] at this
   omega
  refine⟨_,(zf (zF (i:=2) nd rfl (Or.inl rfl) (zO zc))
   (zf (zF (i:=3) nd rfl (Or.inl rfl) (zO zc))
   (zf (ja jB rfl (Xd rfl B.enumerate (za (pv 1) zc)) (qT rfl (zx (zr (i:=4) nd rfl (Or.inl rfl)) (zx (zr (i:=5) nd rfl (Or.inl rfl)) qB)))
   (zf (zF (i:=6) nd rfl (Or.inl rfl) (zg Dflaw_in_trip (hr.mono (by decide)) rfl (za (pv 0) (za (pv 5) (za (pv 2) (za (pv 3) zc))))))
    (zf (qe (zA Xe (pv 6) jY (zB _))
    (zf (jH (pv 6) (qT rfl (zx (zr (i:=7) nd rfl (Or.inl rfl)) (zx (zr (i:=8) nd rfl (Or.inl rfl)) qB))))
     (zi (zt (zX (za (pv 7) (za (pv 4) (za (pv 8) zc)))))))
    zJ)
    (zf (jH (pv 5) (qT rfl (zx (zr (i:=9) nd rfl (Or.inl rfl)) (zx (zr (i:=10) nd rfl (Or.inl rfl)) qB))))
    (zf (jn (xz xG PySem.F.slot_list_extend PySem.F.type_list_extend za0 (pv 3) (za (wa [] [] rfl rfl (by kernel_rfl) (jX (pv 9)) (fun _ _ _ _=>jb) (fun _ _ _ _=>(pv 1))) zc)))
    (zi (jn (xz xG PySem.F.slot_list_extend PySem.F.type_list_extend zdV (pv 2) (za (pv 10) zc)))))))))
   (zi (zt jY))))),?_⟩
  refine⟨le0,fun lo hlo=>⟨le0,fun lt hlt=>?_⟩⟩
  have nlt:lo≠lt:=zn (zb (H:=H) (a:=lo) (o:=.lst [])) hlt
  have s0:=(zd (o:=.lst []) hlo).trans (zd (o:=.lst []) hlt)
  have hlt0:H lt=none:=(zd (o:=.lst []) hlo).none hlt
  have LO:upd (upd H lo (.lst [])) lt (.lst []) lo=some (.lst []):=(zd (o:=.lst []) hlt) _ _ zb
  have LT:upd (upd H lo (.lst [])) lt (.lst []) lt=some (.lst []):=zb
  generalize upd (upd H lo (.lst [])) lt (.lst [])=H1 at s0 LO LT
  refine⟨_,rfl,pl,rfl,⟨_,s0.seq hp⟩,QA (K:=K) (a:=pl) (xs:=xs) (zaz jp pl lo lt H ts J) ⟨_,_,_,_,_,_,_,rfl,s0,LO,LT,(fun m h=>absurd h (yU _))⟩ (fun i σ H' _ ⟨_,_,_,_,_,_,_,_,s1,_,_,_⟩=>s1.seq hp) ?_ ?_⟩
  ·rintro i x σ H2 T hx ⟨v4,v5,v6,v7,v8,v9,v10,rfl,s1,lo1,lt1,nn⟩ hT
   have sT:=zd (H:=H2) (o:=.tup [.int (i:Int),x]) hT
   have s2:=s1.trans sT
   obtain⟨d,ed,rd⟩:=(rl.same s2).get hx
   rw[qr] at ed
   obtain⟨t,et,rfl⟩:=jc.mp ed
   obtain⟨a,b,c,ps,ys,rfl,qa,qb,rb,qc,rc⟩:=wF rd
   have tv:=pz.tv t (jl et)
   have hi:=(zN.mp et).1
   refine⟨T,_,rfl,SqT.of zb,rfl,_,_,rfl,_,_,rfl,rfl,?_⟩
   have lo2:=sT _ _ lo1
   have lt2:=sT _ _ lt1
   generalize upd H2 T (.tup [.int (i:Int),.ref a])=H3 at *
   refine⟨_,rfl,_,rfl,_,rfl,_,rfl,jp,a,lo,lt,J,od,_,_,t,rfl,rj.same s2,pz.jo,rd,tv,lo2,lt2,by have:=(le i).1;omega,by have:=(le i).2;omega,fun v H4 s4 fv=>?_⟩
   have e:=Xx (J:=J) et
   have s5:=s2.trans s4
   cases hw:flT J (zK (ts.take i)) (jG (ts.take i)) t with
   | some u=>
    rw[hw] at e fv
    obtain⟨fa,rfl,qfa⟩:=fv
    refine⟨_,rfl,rfl,_,rfl,ifT rfl ⟨_,rfl,fa,_,rfl,qfa,rfl,_,_,rfl,_,_,rfl,rfl,⟨_,rfl,_,rfl,_,rfl,le3,fun q hq=>k _ _ (s5.trans (zd hq)) ?_⟩⟩⟩
    rw[show Zm J ts=some (u,i) from Xr hi nn e]
    exact⟨q,_,rfl,SqT.of zb,_,_,rfl,rfl,_,_,rfl,rfl,_,_,rfl,rfl,rfl⟩
   | none=>
    rw[hw] at e fv
    cases(show v=.non from fv)
    refine⟨_,rfl,rfl,_,rfl,ifF rfl ?_⟩
    have lb:=rb.len
    rw[zq] at lb
    have tp2:=tv.p2
    have hd4:=pz.jo.hd1
    have tle:=tv.le
    have l1:=le i
    cases wb rc
    refine⟨_,rfl,a,_,rfl,s4.sqT qa,rfl,_,_,rfl,_,_,rfl,rfl,?_⟩
    refine⟨_,rfl,.inl ⟨rfl,_,SqL.of (s4 _ _ lt2)⟩,_,rfl,b,rfl,⟨_,s4.sqT qb⟩,j6 (K:=K) (a:=b) (xs:=ps) (fun j zs H5=>zs=zu ((t.pk.take j).map (·.2))/\Same H4 H5) ⟨rfl,Same.refl _⟩ (fun j zs H5 ⟨_,s6⟩=>s6.sqT (s4.sqT qb)) ?_ ?_⟩
    ·rintro j y zs H5 hy ⟨rfl,s6⟩
     obtain⟨d2,e2,r2⟩:=(rb.same (s4.trans s6)).get hy
     rw[qr] at e2
     obtain⟨p,ep,rfl⟩:=jc.mp e2
     obtain⟨pp,rfl,qpp⟩:=xp r2
     have hj:=(zN.mp ep).1
     refine⟨pp,_,rfl,qpp,rfl,_,_,rfl,_,_,rfl,rfl,rfl,?_⟩
     refine⟨_,rfl,by rw[zH,zq,z9];omega,?_,s6⟩
     rw[qg ep,zW,<- xA]
     rfl
    rintro zs H5 ⟨rfl,s6⟩
    rw[lb,je]
    refine⟨by rw[zH,zq];omega,fun lf hlf=>?_⟩
    have s7:=s6.trans (zd (o:=.lst (zu (t.pk.map (·.2)))) hlf)
    have lo3:=(s4.trans s7) _ _ lo2
    have lt3:=(s4.trans s7) _ _ lt2
    have LF:upd H5 lf (.lst (zu (t.pk.map (·.2)))) lf=some (.lst (zu (t.pk.map (·.2)))):=zb
    have s8:=s5.trans s7
    have qc3:=(s4.trans s7).sqT qc
    generalize upd H5 lf (.lst (zu (t.pk.map (·.2))))=H6 at *
    refine⟨lt,lf,_,_,rfl,rfl,lt3,LF,by rw[zH,zH,zq];omega,?_⟩
    have s9:=s8.put (o:=.lst (zu (jG (ts.take i))++zu (t.pk.map (·.2)))) hlt0
    have lo4:upd H6 lt (.lst (zu (jG (ts.take i))++zu (t.pk.map (·.2)))) lo=_:=(zo nlt).trans lo3
    have lt4:upd H6 lt (.lst (zu (jG (ts.take i))++zu (t.pk.map (·.2)))) lt=some (.lst (zu (jG (ts.take (i+1))))):=by rw[zb,xA,Jm et]
    have qc4:=qc3.keep (SameT.put (ys:=zu (jG (ts.take i))++zu (t.pk.map (·.2))) lt3)
    generalize upd H6 lt (.lst (zu (jG (ts.take i))++zu (t.pk.map (·.2))))=H7 at *
    refine⟨_,rfl,.inl ⟨rfl,_,SqL.of lo4⟩,_,rfl,lo,c,_,_,rfl,rfl,lo4,qc4,by rw[zH,zH];omega,?_⟩
    refine⟨_,_,_,_,_,_,_,rfl,s9.put hlo,?_,?_,fun m hm=>?_⟩
    ·rw[zb,xA,ZD et]
    ·rw[zo nlt.symm];exact lt4
    ·by_cases h:m<i
     ·exact nn m h
     ·rw[show m=i by omega];exact e
  rintro σ H2 ⟨v4,v5,v6,v7,v8,v9,v10,rfl,s1,lo1,lt1,nn⟩
  rw[ll] at nn
  refine k _ _ s1 ?_
  rw[show Zm J ts=none from wP nn]
  exact rfl
end
theorem Zd{α:Type}[DecidableEq α]:∀{js ks:List α},ks.Nodup->(xi ks js).length<=ks.length+js.length/\((xi ks js).length=ks.length+js.length->(ks++js).Nodup)
 | [],ks,h=>⟨zC _,fun _=>by rw[xL];exact h⟩
 | j::js,ks,h=>by
  have e:xi ks (j::js)=xi (xh ks j) js:=rfl
  rw[e]
  by_cases hj:j∈ks
  ·have e2:xh ks j=ks:=if_pos hj
   rw[e2]
   obtain⟨a,_⟩:=Zd (js:=js) h
   rw[vd]
   exact⟨by omega,fun z=>by omega⟩
  ·have e2:xh ks j=ks++[j]:=if_neg hj
   rw[e2]
   have nk:(ks++[j]).Nodup:=by
    rw[Zy]
    exact⟨h,by simp,fun a ha b hb e=>hj (by rw[<- qR.mp hb,<- e];exact ha)⟩
   obtain⟨a,b⟩:=Zd (js:=js) nk
   rw[qJ,List.length_singleton] at a b
   rw[vd]
   refine⟨by omega,fun z=>?_⟩
   have:=b (by omega)
   rwa[vU] at this
theorem Qa{κ:Type}[DecidableEq κ]:∀(l acc:List κ),(acc++l).Nodup->xi acc l=acc++l
 | [],acc,_=>(xL acc).symm
 | k::l,acc,h=>by
  have hk:k∉acc:=fun z=>by
   have:=(Zy.mp h).2.2 k z k jD
   exact this rfl
  show xi (xh acc k) l=_
  rw[show xh acc k=acc++[k] from if_neg hk,Qa l (acc++[k]) (by rw[vU];exact h),vU]
  rfl
theorem zfq{us:List Int}(h:us.Nodup):vi us=true:=by
 unfold vi
 rw[Qa _ [] (by
  rw[ZK]
  exact List.Pairwise.map _ (fun a b z y=>z (vo y)) h),ZK,zq]
 exact qF rfl
theorem ye{np m:Nat}(h:m<np):zG 0 ((np:Int)-1) (.int (m:Int))=true:=by
 show(decide ((0:Int)<=m)&&decide ((m:Int)<=(np:Int)-1))=true
 rw[qF (by omega),qF (by omega)];rfl
theorem TripV.isT{J:Job}{t:qM}(v:TripV J t):j7 J.ps.length J.fs.length J.hd (jm t)=true:=by
 have p1:=v.p1
 have p2:=v.p2
 have le:=v.le
 have ep:(t.pk.map qP).map zR=(t.pk.map (·.1)).map fun i:Nat=>(i:Int):=by rw[xn,xn];rfl
 have el:(t.ly.map xN).map iD=t.ly.map fun i:Nat=>(i:Int):=by rw[xn];rfl
 show((decide (((t.pk.map qP).length:Int)<=J.hd)&&(!decide ((t.pk.map qP).length=0)&&((t.pk.map qP).all (ji J.ps.length J.fs.length)&&vi ((t.pk.map qP).map zR))))&&(decide ((t.ly.map xN).length=((t.pk.map qP).map zR).length)&&((t.ly.map xN).all (zG 0 ((J.ps.length:Int)-1))&&((t.ly.map xN).map iD).isPerm ((t.pk.map qP).map zR))))=true
 have e1:(t.pk.map qP).all (ji J.ps.length J.fs.length)=true:=jh.mpr fun d hd=>by
  obtain⟨q,hq,rfl⟩:=jC.mp hd
  have:=v.ok q hq
  show(zG 0 ((J.ps.length:Int)-1) (.int (q.1:Int))&&zG 0 ((J.fs.length:Int)-1) (.int (q.2:Int)))=true
  rw[ye this.1,ye this.2];rfl
 have e2:(t.ly.map xN).all (zG 0 ((J.ps.length:Int)-1))=true:=jh.mpr fun d hd=>by
  obtain⟨m,hm,rfl⟩:=jC.mp hd
  obtain⟨q,hq,rfl⟩:=jC.mp (v.ly.mem_iff.mp hm)
  exact ye (v.ok q hq).1
 have e3:((t.ly.map xN).map iD).isPerm ((t.pk.map qP).map zR)=true:=by
  rw[QT,ep,el]
  exact v.ly.map _
 have e4:vi ((t.pk.map qP).map zR)=true:=by
  rw[ep]
  exact zfq (List.Pairwise.map _ (fun a b z y=>z (by omega)) v.nd)
 rw[e1,e2,e3,e4,qF (by rw[zq];exact p2),jQ (by rw[zq];omega),qF (by rw[ep,zq,zq,zq,le])]
 rfl
theorem zaZ{us:List Int}(h:vi us=true):us.Nodup:=by
 have h1:=qW (p:=(xi [] (us.map Sum.inl:List Key)).length=us.length) h
 have h2:=(Zd (js:=(us.map Sum.inl:List Key)) (ks:=[]) List.nodup_nil).2 (by rw[h1,zq];simp)
 rw[ZK] at h2
 exact List.Pairwise.of_map _ (fun a b h e=>h (by rw[e])) h2
theorem zch{np nf:Nat}{d:Dat}(h:ji np nf d=true):∃p:Nat×Nat,d=qP p/\p.1<np/\p.2<nf:=by
 have wd:∀(n:Nat) (e:Dat),zG 0 ((n:Int)-1) e=true->∃m:Nat,e=.int (m:Int)/\m<n:=fun n e he=>by
  cases e with
  | int i=>
   have he:(decide (0<=i)&&decide (i<=(n:Int)-1))=true:=he
   rw[qV,ww,ww] at he
   exact⟨i.toNat,by rw[show((i.toNat:Nat):Int)=i by omega],by omega⟩
  | _=>exact Bool.noConfusion (show false=true from he)
 match d,h with
 | .tup [a,b],h=>
  have h:(zG 0 ((np:Int)-1) a&&zG 0 ((nf:Int)-1) b)=true:=h
  rw[qV] at h
  obtain⟨m,rfl,hm⟩:=wd np a h.1
  obtain⟨k,rfl,hk⟩:=wd nf b h.2
  exact⟨(m,k),rfl,hm,hk⟩
 | .tup [],h=>exact Bool.noConfusion (show false=true from h)
 | .tup [_],h=>exact Bool.noConfusion (show false=true from h)
 | .tup (_::_::_::_),h=>exact Bool.noConfusion (show false=true from h)
theorem yH{α:Type}{f:α->Dat}{P:α->Prop}{g:Dat->Bool}(hd:∀d,g d=true->∃a,d=f a/\P a):∀{ds:List Dat},ds.all g=true->∃as:List α,ds=as.map f/\∀a∈as,P a
 | [],_=>⟨[],rfl,fun _ h=>nomatch h⟩
 | d::ds,h=>by
  rw[List.all_cons,qV] at h
  obtain⟨a,rfl,ha⟩:=hd d h.1
  obtain⟨as,rfl,hs⟩:=yH hd h.2
  exact⟨a::as,rfl,fun b hb=>(qq.mp hb).elim (fun e=>e▸ha) (hs b)⟩
theorem X8{J:Job}{d:Dat}(h:j7 J.ps.length J.fs.length J.hd d=true):∃t,d=jm t/\TripV J t:=by
 match d,h with
 | .tup [p,l],h=>
  have h:(vJ J.ps.length J.fs.length J.hd p&&ZE J.ps.length (Qm p) l)=true:=h
  rw[qV] at h
  cases p with
  | tup ds=>
   cases l with
   | tup es=>
    have h:(decide ((ds.length:Int)<=J.hd)&&(!decide (ds.length=0)&&(ds.all (ji J.ps.length J.fs.length)&&vi (ds.map zR))))=true/\(decide (es.length=(ds.map zR).length)&&(es.all (zG 0 ((J.ps.length:Int)-1))&&(es.map iD).isPerm (ds.map zR)))=true:=h
    simp only[qV,ww,Bool.not_eq_true',decide_eq_false_iff_not] at h
    obtain⟨⟨h1,h2,h3,h4⟩,h5,h6,h7⟩:=h
    obtain⟨qs,rfl,hq⟩:=yH (P:=fun p:Nat×Nat=>p.1<J.ps.length/\p.2<J.fs.length) (fun d hd=>zch hd) h3
    obtain⟨ls,rfl,hl⟩:=yH (f:=xN) (P:=fun m:Nat=>m<J.ps.length) (fun e he=>by
     cases e with
     | int i=>
      have he:(decide (0<=i)&&decide (i<=(J.ps.length:Int)-1))=true:=he
      rw[qV,ww,ww] at he
      exact⟨i.toNat,by show _=Dat.int _;rw[show((i.toNat:Nat):Int)=i by omega],by omega⟩
     | _=>exact Bool.noConfusion (show false=true from he)) h6
    have ep:(qs.map qP).map zR=(qs.map (·.1)).map fun i:Nat=>(i:Int):=by rw[xn,xn];rfl
    have el:(ls.map xN).map iD=ls.map fun i:Nat=>(i:Int):=by rw[xn];rfl
    rw[zq] at h1 h2
    rw[ep] at h4 h7
    rw[el,QT] at h7
    have inj:∀(a b:List Nat),(a.map fun i:Nat=>(i:Int)).Perm (b.map fun i:Nat=>(i:Int))->a.Perm b:=fun a b hp=>by
     have:=hp.map Int.toNat
     rw[xn,xn] at this
     have ez:(Int.toNat∘fun i:Nat=>(i:Int))=id:=funext fun i=>vf i
     rwa[ez,List.map_id,List.map_id] at this
    exact⟨⟨qs,ls⟩,rfl,by show 1<=qs.length;omega,h1,hq,inj _ _ h7,List.Pairwise.of_map _ (fun a b h e=>h (by rw[e])) (zaZ h4)⟩
   | _=>exact Bool.noConfusion (show false=true from h.2)
  | _=>exact Bool.noConfusion (show false=true from h.1)
 | .tup [],h=>exact Bool.noConfusion (show false=true from h)
 | .tup [_],h=>exact Bool.noConfusion (show false=true from h)
 | .tup (_::_::_::_),h=>exact Bool.noConfusion (show false=true from h)
open Classical in
noncomputable def xT (J:Job) (d:Dat):Bool:=decide (∃ts,d=.lst (ts.map jm)/\(∀t∈ts,TripV J t)/\Zm J ts=none)
theorem zaK{t u:qM}(h:jm t=jm u):t=u:=by
 obtain⟨a,b⟩:=t
 obtain⟨c,d⟩:=u
 have pi:∀{a c:List (Nat×Nat)},a.map qP=c.map qP->a=c:=fun {a c}=>(List.map_inj_right (fun x y e=>by
  obtain⟨x1,x2⟩:=x
  obtain⟨y1,y2⟩:=y
  have e:Dat.tup [.int (x1:Int),.int (x2:Int)]=.tup [.int (y1:Int),.int (y2:Int)]:=e
  simp only[Dat.tup.injEq,List.cons.injEq,Dat.int.injEq] at e
  rw[show x1=y1 by omega,show x2=y2 by omega])).mp
 have ni:∀{a c:List Nat},a.map xN=c.map xN->a=c:=fun {a c}=>(List.map_inj_right (fun x y e=>by
  have e:Dat.int (x:Int)=.int (y:Int):=e
  simp only[Dat.int.injEq] at e
  omega)).mp
 have h:Dat.tup [.tup (a.map qP),.tup (b.map xN)]=.tup [.tup (c.map qP),.tup (d.map xN)]:=h
 simp only[Dat.tup.injEq,List.cons.injEq,and_true] at h
 rw[pi h.1,ni h.2]
open Classical in
theorem vH{J:Job}{ts:List qM}(h:∀t∈ts,TripV J t):xT J (.lst (ts.map jm))=(Zm J ts).isNone:=by
 unfold xT
 rw[wu,ww,Option.isNone_iff_eq_none]
 constructor
 ·rintro⟨us,e,_,h2⟩
  simp only[Dat.lst.injEq] at e
  rw[(List.map_inj_right (fun x y e=>zaK e)).mp e]
  exact h2
 ·exact fun e=>⟨ts,rfl,h,e⟩
open Classical in
theorem Vt{J:Job}{ds:List Dat}(h:ds.all (j7 J.ps.length J.fs.length J.hd)=false):xT J (.lst ds)=false:=by
 unfold xT
 refine jQ ?_
 rintro⟨ts,e,hv,_⟩
 simp only[Dat.lst.injEq] at e
 rw[e] at h
 have:(ts.map jm).all (j7 J.ps.length J.fs.length J.hd)=true:=jh.mpr fun d hd=>by
  obtain⟨t,ht,rfl⟩:=jC.mp hd
  exact(hv t ht).isT
 rw[this] at h
 cases h
open Classical in
theorem Vu{J:Job}{d:Dat}(h:∀ds,d≠.lst ds):xT J d=false:=by
 unfold xT
 exact jQ fun ⟨ts,e,_⟩=>h _ e
def zcF:Dat->Nat
 | .lst ds=>ds.length
 | _=>0
section
variable{P:Program}{w:World}{K:PySem.W.Frag}{mg:Str->Option Value}{base:Heap}
inductive zbL(K:PySem.W.Frag)(vs:List V)(H:Hp)(Q:VK):Prop
 | mk (jp:Addr) (v:V) (J:Job) (od:List Nat) (d:Dat) (_:vs=[.ref jp,v]) (_:Rep K H (vj J) (.ref jp)) (_:JobOk J od) (_:Rep K H d v) (_:zcF d<=20000) (_:∀H',Same H H'->Q (.bl (xT J d)) H'):zbL K vs H Q
def zaN(K:PySem.W.Frag):Sp:=fun vs H Q _=>zbL K vs H Q
theorem zgc:zI ["job", "thing"] ["job", "thing"] (zv (topL 21)):=⟨rfl,rfl,rfl,by decide +kernel,rfl,by decide +kernel,by decide +kernel⟩
theorem zgB{f:Addr}{fd:FuncData}(F:Fun K "is_right" "is_right" (topL 21) f fd)(B:Blt mg)(Dis_trip:Dfn P w K mg base "is_trip" 5 ["job", "thing"] (Yu K))(Dflaw_of:Dfn P w K mg base "flaw_of" 6 ["job", "plan"] (zf3 K)):qS P w K mg base CX0 7 f fd ["job", "thing"] (zaN K):=by
 have nd:=zgc.nd
 refine F.ok zgc (fun vs H Q E h=>?_) (fun cdv A outer s H vs Q E hr h=>?_)
 ·obtain⟨jp,v,J,od,d,rfl,_⟩:=h
  rfl
 ·obtain⟨jp,v,J,od,d,rfl,rj,jo,rd,dl,k⟩:=h
  have hbig:1000000<sizeLine:=by rw[sizeLine_eq];decide
  refine⟨_,(zf (qe (PW.pt (xf (ju (qG (zj qm rfl B.isinstance boot_isinstance (za (pv 1) (za (qh (v:=.ty "list") rfl B.list qZ rfl) zc))))) (j5 (ju (qG (zj (jA rfl) rfl B.all boot_all (za (jS ["job"] [0] rfl rfl (by kernel_rfl) (jO (pv 1)) (fun _ _ _ _=>jb) (fun _ _ _ _=>(zg Dis_trip (hr.mono (by decide)) rfl (za (pv 1) (za (pv 0) zc))))) zc)))))))
   (zi (zt jW))
   zJ)
   (zi (zt (qK Xg (zg Dflaw_of (hr.mono (by decide)) rfl (za (pv 0) (za (pv 1) zc))) jY (zB _))))),?_⟩
  refine⟨_,rfl,v,d.tyN, "list",rfl,rd.ty,by decide,_,rfl,?_⟩
  have nl:(∀ds,d≠.lst ds)->Q (.bl false) H:=fun h=>by
   have:=k H (Same.refl _)
   rwa[Vu h] at this
  cases d with
  | non=>exact ifT rfl (nl fun ds z=>nomatch z)
  | bl c=>exact ifT rfl (nl fun ds z=>nomatch z)
  | int i=>exact ifT rfl (nl fun ds z=>nomatch z)
  | str x=>exact ifT rfl (nl fun ds z=>nomatch z)
  | tup ds=>exact ifT rfl (nl fun ds z=>nomatch z)
  | lst ds=>
   refine ifF rfl ?_
   obtain⟨pl,xs,rfl,hp,rl⟩:=rd
   have ll:=rl.len
   have dl:ds.length<=20000:=dl
   refine⟨_,rfl,pl,rfl,⟨_,hp⟩,xw (K:=K) (a:=pl) (xs:=xs) (fun i zs H1=>zs=((ds.take i).map (j7 J.ps.length J.fs.length J.hd)).map V.bl/\Same H H1) ⟨rfl,Same.refl _⟩ (fun i zs H1 ⟨_,s1⟩=>s1.seq hp) ?_ ?_⟩
   ·rintro i x zs H1 hx ⟨rfl,s1⟩
    obtain⟨e,ed,re⟩:=(rl.same s1).get hx
    have hi:=(zN.mp ed).1
    refine⟨rfl,_,rfl,_,rfl,jp,J,x,e,rfl,rj.same s1,re,jo.hd1,fun H2 s2=>?_⟩
    refine⟨by rw[zq,zq,z9];omega,?_,s1.trans s2⟩
    rw[qg ed,zW,zW]
    rfl
   ·rintro zs H1 ⟨rfl,s1⟩
    rw[ll,je]
    refine⟨by rw[zq,zq];omega,fun D hD=>⟨D,ds.map (j7 J.ps.length J.fs.length J.hd),rfl,SqL.of zb,_,rfl,?_⟩⟩
    have s2:=s1.trans (zd (o:=.lst ((ds.map (j7 J.ps.length J.fs.length J.hd)).map V.bl)) hD)
    generalize upd H1 D (.lst ((ds.map (j7 J.ps.length J.fs.length J.hd)).map V.bl))=H3 at s2
    rw[all_map]
    cases ha:ds.all (j7 J.ps.length J.fs.length J.hd) with
    | false=>
     have:=k _ s2
     rw[Vt ha] at this
     exact ifT rfl this
    | true=>
     obtain⟨ts,rfl,tv⟩:=yH (fun d hd=>X8 hd) ha
     rw[zq] at dl
     have pz:PlV J od ts:=⟨jo,tv,dl⟩
     rw[vH tv] at k
     refine ifF rfl ⟨_,rfl,_,rfl,jp,pl,J,od,ts,xs,rfl,rj.same s2,s2.seq hp,rl.same s2,pz,fun u H2 s3 ru=>⟨rfl,?_⟩⟩
     have kk:=k _ (s2.trans s3)
     cases e:Zm J ts with
     | none=>
      rw[e] at ru kk
      cases(show u=.non from ru)
      exact kk
     | some y=>
      rw[e] at ru kk
      obtain⟨a,_,rfl,_⟩:=ru
      exact kk
end
end L2
namespace L2
open PySem PySem.Spec PyProof.Rows
def vh(J:Job)(tk:List Nat):List Int:=J.fs.mapIdx fun k f=>f.m-(tk.count k:Int)
theorem J7(J:Job)(tk:List Nat):(vh J tk).length=J.fs.length:=List.length_mapIdx
theorem zbz{J:Job}{tk:List Nat}{f:Nat}{fe:Z1}(h:J.fs[f]? =some fe):(vh J tk)[f]? =some (fe.m-(tk.count f:Int)):=by
 unfold vh
 rw[XQ,h]
 rfl
theorem zdi(J:Job):vh J []=J.fs.map (·.m):=by
 refine List.ext_getElem? fun i=>?_
 unfold vh
 rw[XQ,qr]
 cases J.fs[i]? with
 | none=>rfl
 | some f=>show some (f.m-((0:Nat):Int))=some f.m;rw[show f.m-((0:Nat):Int)=f.m by omega]
theorem zdh{J:Job}{tk:List Nat}{f:Nat}{fe:Z1}(h:J.fs[f]? =some fe):(vh J tk).set f (fe.m-(tk.count f:Int)-1)=vh J (tk++[f]):=by
 refine List.ext_getElem? fun i=>?_
 rw[List.getElem?_set,J7]
 by_cases e:f=i
 ·subst e
  rw[if_pos rfl,if_pos (zN.mp h).1,zbz h,QI,WY]
  congr 1
  omega
 ·rw[if_neg e]
  unfold vh
  rw[XQ,XQ]
  have c0:[f].count i=0:=List.count_eq_zero.mpr fun z=>e (qR.mp z).symm
  have:(tk++[f]).count i=tk.count i:=by rw[QI,c0];rfl
  rw[this]
section
variable{P:Program}{w:World}{K:PySem.W.Frag}{mg:Str->Option Value}{base:Heap}
structure OvR(H:Hp)(ov:Addr)(J:Job)(mss:List (List Int))(zs:List V):Prop where
 h:H ov=some (.lst zs)
 r:∀(p:Nat) (ms:List Int),mss[p]? =some ms->∃a,zs[p]? =some (.ref a)/\H a=some (.lst (ms.map V.int))
 l:mss.length=J.ps.length
 u:∀(p:Nat) (ms:List Int),mss[p]? =some ms->ms.length<=60/\∀j,j∈ms↔UpA J p j
theorem OvR.same{H H':Hp}{ov:Addr}{J:Job}{mss:List (List Int)}{zs:List V}(h:OvR H ov J mss zs)(s:Same H H'):OvR H' ov J mss zs:=⟨s _ _ h.h,fun p ms e=>by
 obtain⟨a,e1,e3⟩:=h.r p ms e
 exact⟨a,e1,s _ _ e3⟩,h.l,h.u⟩
inductive zbJ(K:PySem.W.Frag)(vs:List V)(H:Hp)(Q:VK):Prop
 | mk (jp pl:Addr) (J:Job) (od:List Nat) (ts:List qM) (xs:List V) (_:vs=[.ref jp,.ref pl]) (_:Rep K H (vj J) (.ref jp)) (_:SqL K H pl xs) (_:Reps K H (ts.map jm) xs) (_:PlV J od ts) (_:∀(v:V) H',Same H H'->Rep K H' (flD (Zm J ts)) v->Q v H'):zbJ K vs H Q
def zf0(K:PySem.W.Frag):Sp:=fun vs H Q _=>zbJ K vs H Q
theorem zgb:zI ["_law_job_here", "_law_plan_here", "_law_over_here", "_law_stock", "_law_order_here", "_law_number", "_law_picks", "_law_lays", "_law_place_here", "_law_part", "_law_feeder"] ["_law_job_here", "_law_plan_here"] (zv (topL 47)):=⟨rfl,rfl,rfl,by decide +kernel,rfl,by decide +kernel,by decide +kernel⟩
def zay(jp:_)(pl:_)(ov:_)(ls:_)(lo:_)(H:_)(J:_)(ts:_):=fun(i:Nat) (σ:St) (H':Hp)=>(Ex6 fun(v5 v6 v7 v8 v9 v10:Option V)=>An5 (σ=[some (.ref jp),some (.ref pl),some (.ref ov),some (.ref ls),some (.ref lo),v5,v6,v7,v8,v9,v10]) (Same H H') (H' ls=some (.lst ((vh J (jG (ts.take i))).map V.int))) (H' lo=some (.lst (zu (zK (ts.take i))))) (∀m,m<i->flF J ts m=none):Prop)
theorem zgA{f:Addr}{fd:FuncData}(F:Fun K "_law_flaw" "_law_flaw" (topL 47) f fd)(B:Blt mg)(D_over:Dfn P w K mg base "_law_over" 1 ["_law_many", "_law_aheads_here"] (zbE K)):qS P w K mg base CX0 2 f fd ["_law_job_here", "_law_plan_here"] (zf0 K):=by
 have nd:=zgb.nd
 refine F.ok zgb (fun vs H Q E h=>?_) (fun cdv A outer s H vs Q E hr h=>?_)
 ·obtain⟨jp,pl,J,od,ts,xs,rfl,_⟩:=h
  rfl
 ·obtain⟨jp,pl,J,od,ts,xs,rfl,rj0,hp0,rl0,pz,k0⟩:=h
  have hbig:1000000<sizeLine:=by rw[sizeLine_eq];decide
  have tl:=pz.tl
  have hd4:=pz.jo.hd1
  have fl:=pz.jo.fl
  have ll:=rl0.len
  rw[zq] at ll
  have le:∀i,(zK (ts.take i)).length<=80000:=fun i=>by
   have:=Xl (ts:=ts.take i) (fun t ht=>pz.tv t (ZN ht)) pz.jo.hd1
   rw[z9] at this
   omega
  have jo:=pz.jo
  have al:=jo.al
  have pl60:=jo.pl
  obtain⟨ta,x0,x1,x2,x3,as,q0,q4,r4⟩:=Qv rj0
  obtain⟨gg,fs,ps,as',fv,px,qj,_,qf,rf,qps,rp,_⟩:=wO rj0
  have lpx:=rp.len
  rw[zq] at lpx
  refine⟨_,(zf (jH (zX (za (zg D_over (hr.mono (by decide)) rfl (za (zj zp rfl B.len boot_len (za (zE qD (pv 0) ze (fun _ _=>rfl)) zc)) (za (zE qD (pv 0) ze (fun _ _=>rfl)) zc))) (za (jS [] [] rfl rfl (by kernel_rfl) (jX (zE qD (pv 0) ze (fun _ _=>rfl))) (fun _ _ _ _=>jb) (fun _ _ _ _=>(zE (jq (K:=K) rfl) (pv 0) ze (fun _ _=>rfl)))) (za (zO zc) zc)))) (qT rfl (zx (zr (i:=2) nd rfl (Or.inl rfl)) (zx (zr (i:=3) nd rfl (Or.inl rfl)) (zx (zr (i:=4) nd rfl (Or.inr rfl)) qB)))))
   (zf (ja jB rfl (Xd rfl B.enumerate (za (pv 1) zc)) (qT rfl (zx (zr (i:=5) nd rfl (Or.inl rfl)) (zx (qT rfl (zx (zr (i:=6) nd rfl (Or.inl rfl)) (zx (zr (i:=7) nd rfl (Or.inl rfl)) qB))) qB)))
   (zf (ja jB rfl (v0 rfl B.enumerate (za (pv 6) zc)) (qT rfl (zx (zr (i:=8) nd rfl (Or.inl rfl)) (zx (qT rfl (zx (zr (i:=9) nd rfl (Or.inl rfl)) (zx (zr (i:=10) nd rfl (Or.inl rfl)) qB))) qB)))
    (zf (qe (zA ZC (zE qD (zE qD (zE qD (pv 0) ze (fun _ _=>rfl)) (pv 10) (fun _ _=>rfl)) ze (fun _ _=>rfl)) (zE qD (zE qD (zE qD (pv 0) ze (fun _ _=>rfl)) (pv 9) (fun _ _=>rfl)) ze (fun _ _=>rfl)) (zB _))
     (zi (zt (zX (za jR (za (pv 5) (za (pv 8) zc))))))
     zJ)
     (zf (qe (zA wJ (pv 9) (pv 4) (by with_unfolding_all rfl))
     (zi (zt (zX (za jR (za (pv 5) (za (pv 8) zc))))))
     zJ)
     (zf (qe (zA JA (zE zS (pv 3) (pv 10) (fun _ _=>rfl)) ze (zB _))
     (zi (zt (zX (za jR (za (pv 5) (za (pv 8) zc))))))
     zJ)
     (zi (jH (zw jZ (zE zS (pv 3) (pv 10) (fun _ _=>rfl)) ze) (Zi (pv 3) (pv 10) vt)))))))
    (zi (ja jB rfl (v0 rfl B.enumerate (za (pv 7) zc)) (qT rfl (zx (zr (i:=8) nd rfl (Or.inl rfl)) (zx (zr (i:=9) nd rfl (Or.inl rfl)) qB)))
    (zf (qe (ju (qG (zj (jA rfl) rfl B.all boot_all (za (jS ["_law_order_here"] [4] rfl rfl (by kernel_rfl) (jO (zE zS (pv 2) (pv 9) (fun _ _=>rfl))) (fun _ _ _ _=>jb) (fun _ _ _ _=>(qK (vK (K:=K) rfl) (pv 0) (pv 1) (by with_unfolding_all rfl)))) zc))))
     (zi (zt (zX (za jR (za (pv 5) (za (zw zU (zj zp rfl B.len boot_len (za (pv 6) zc)) (pv 8)) zc))))))
     zJ)
     (zi (jn (xz xG wz wx jz (pv 4) (za (pv 9) zc)))))))))
   (zi (zt jY)))),?_⟩
  refine⟨_,rfl,jp,_,_,_,rfl,rfl,qj,rfl,ps,_,rfl,.inr qps,_,rfl,jp,_,_,_,rfl,rfl,q0,rfl,ta,as,asI J,px.length,rkO od,rfl,.inr q4,r4,by rw[Z7];omega,by omega,by rw[lpx];exact jo.ain,zb8 jo,zeY jo,fun ov mss H0 s0 ov0 ⟨ozs,hoz,rws⟩ lm am=>?_⟩
  have hov:OvR H0 ov J mss ozs:=by
   refine⟨hoz,fun p ms e=>?_,by rw[lm,lpx],fun p ms e=>?_⟩
   ·obtain⟨a,e1,_,e3⟩:=rws.2 p ms e
    exact⟨a,e1,e3⟩
   ·obtain⟨a1,a2⟩:=am p ms e
    refine⟨?_,a2⟩
    have nod:ms.Nodup:=a1.imp fun h=>by omega
    have:=vv (n:=J.ps.length) nod fun q hq=>by
     obtain⟨k',h1,w⟩:=(a2 q).mp hq
     exact Wk.in1 jo.ain h1 w
    omega
  have k:∀(v:V) H',Same H0 H'->Rep K H' (flD (Zm J ts)) v->Q v H':=fun v H' s' r'=>k0 v H' (s0.trans s') r'
  have rj:=rj0.same s0
  have hp:=s0.seq hp0
  have rl:=rl0.same s0
  clear qj qf rf qps rp q0 q4 r4 rj0 hp0 rl0 k0 rws am hoz
  obtain⟨g,fs,ps,as,fv,px,qj,_,qf,rf,qps,rp,_⟩:=wO rj
  have lf:=rf.len
  rw[zq] at lf
  clear s0 ov0
  generalize H0=H at *
  refine⟨_,rfl,jp,_,_,_,rfl,rfl,qj,rfl,fs,rfl,⟨_,qf⟩,j6 (K:=K) (a:=fs) (xs:=fv) (fun i zs H1=>zs=((J.fs.take i).map (·.m)).map V.int/\Same H H1) ⟨rfl,Same.refl _⟩ (fun i zs H1 ⟨_,s1⟩=>s1.sqT qf) ?_ ?_⟩
  ·rintro i x zs H1 hx ⟨rfl,s1⟩
   obtain⟨d,ed,rd⟩:=(rf.same s1).get hx
   rw[qr] at ed
   obtain⟨fe,ef,rfl⟩:=jc.mp ed
   obtain⟨fa,fc,rfl,qfa,_⟩:=xR rd
   have hi:=(zN.mp ef).1
   refine⟨rfl,_,rfl,fa,_,_,_,rfl,rfl,qfa,rfl,by rw[zq,zq,z9];omega,?_,s1⟩
   rw[qg ef,zW,zW]
   rfl
  rintro zs H1 ⟨rfl,s1⟩
  rw[lf,je,<- zdi]
  refine⟨by rw[zq,J7];omega,fun ls hls=>⟨le0,fun lo hlo=>⟨le3,fun tq htq=>⟨tq,_,rfl,SqT.of zb,rfl,_,_,rfl,_,_,rfl,_,_,rfl,rfl,?_⟩⟩⟩⟩
  have nlo:ls≠lo:=zn (zb (H:=H1) (a:=ls) (o:=.lst ((vh J []).map V.int))) hlo
  have hls0:H ls=none:=s1.none hls
  have hlo0:H lo=none:=(s1.trans (zd (o:=.lst ((vh J []).map V.int)) hls)).none hlo
  have t1:=zd (o:=.lst ((vh J []).map V.int)) hls
  have t2:=zd (o:=.lst []) hlo
  have t3:=zd (o:=.tup [.ref ov,.ref ls,.ref lo]) htq
  have s2:=((s1.trans t1).trans t2).trans t3
  have LS:=t3 _ _ (t2 _ _ (zb (H:=H1) (a:=ls) (o:=.lst ((vh J []).map V.int))))
  have LO:=t3 _ _ (zb (H:=upd H1 ls (.lst ((vh J []).map V.int))) (a:=lo) (o:=.lst []))
  generalize upd (upd (upd H1 ls (.lst ((vh J []).map V.int))) lo (.lst [])) tq (.tup [.ref ov,.ref ls,.ref lo])=H2 at s2 LS LO
  clear t1 t2 t3 htq hlo hls
  refine⟨_,rfl,pl,rfl,⟨_,s2.seq hp⟩,QA (K:=K) (a:=pl) (xs:=xs) (zay jp pl ov ls lo H J ts) ⟨_,_,_,_,_,_,rfl,s2,LS,LO,(fun m h=>absurd h (yU _))⟩ (fun i σ H' _ ⟨_,_,_,_,_,_,_,s3,_,_,_⟩=>s3.seq hp) ?_ ?_⟩
  ·rintro i x σ H3 T hx ⟨v5,v6,v7,v8,v9,v10,rfl,s3,ls3,lo3,nn⟩ hT
   have sT:=zd (H:=H3) (o:=.tup [.int (i:Int),x]) hT
   have s4:=s3.trans sT
   obtain⟨d,ed,rd⟩:=(rl.same s4).get hx
   rw[qr] at ed
   obtain⟨t,et,rfl⟩:=jc.mp ed
   obtain⟨a,b,c,qs,ys,rfl,qa,qb,rb,qc,rc⟩:=wF rd
   cases wb rc
   have tv:=pz.tv t (jl et)
   have hi:=(zN.mp et).1
   have lb:=rb.len
   rw[zq] at lb
   have tp2:=tv.p2
   have tle:=tv.le
   have ls4:=sT _ _ ls3
   have lo4:=sT _ _ lo3
   refine⟨T,_,rfl,SqT.of zb,rfl,_,_,rfl,_,_,rfl,a,_,rfl,qa,rfl,_,_,rfl,_,_,rfl,rfl,rfl,?_⟩
   generalize upd H3 T (.tup [.int (i:Int),.ref a])=H4 at *
   have hit:∀(wd:Str) (j:Nat) (v:V) (H':Hp),flT J (zK (ts.take i)) (jG (ts.take i)) t=some (wd,j)->Same H H'->(∃q,v=.ref q/\SqT K H' q [.str wd,.int (i:Int),.int (j:Int)])->Q v H':=fun wd j v H' e s' ⟨q,ev,hq⟩=>by
    refine k _ _ s' ?_
    rw[show Zm J ts=some ((wd,j),i) from Xr hi nn ((Xx et).trans e),ev]
    exact⟨q,_,rfl,hq,_,_,rfl,rfl,_,_,rfl,rfl,_,_,rfl,rfl,rfl⟩
   refine⟨_,rfl,b,rfl,⟨_,qb⟩,wQ (K:=K) (a:=b) (xs:=qs) (fun j σ H'=>Ex3 fun(v8 v9 v10:Option V)=>An8 (σ=[some (.ref jp),some (.ref pl),some (.ref ov),some (.ref ls),some (.ref lo),some (.int (i:Int)),some (.ref b),some (.ref c),v8,v9,v10]) (Same H H') (SqT K H' b qs) (SqT K H' c (zu t.ly)) (Reps K H' (t.pk.map qP) qs) (H' ls=some (.lst ((vh J (jG (ts.take i)++(t.pk.take j).map (·.2))).map V.int))) (H' lo=some (.lst (zu (zK (ts.take i))))) (∀m,m<j->pkF J (zK (ts.take i)) (jG (ts.take i)) t m=none)) ⟨_,_,_,rfl,s4,qb,qc,rb,by rw[List.take_zero,Zr,xL];exact ls4,lo4,(fun m h=>absurd h (yU _))⟩ (fun j σ H' _ ⟨_,_,_,_,_,q5,_,_,_,_,_⟩=>q5) ?_ ?_⟩
   ·rintro j y σ H5 T2 hy ⟨v8,v9,v10,rfl,s5,qb5,qc5,rb5,ls5,lo5,nj⟩ hT2
    have sT2:=zd (H:=H5) (o:=.tup [.int (j:Int),y]) hT2
    have s6:=s5.trans sT2
    obtain⟨d2,e2,r2⟩:=(rb5.same sT2).get hy
    rw[qr] at e2
    obtain⟨p,ep,rfl⟩:=jc.mp e2
    obtain⟨pp,rfl,qpp⟩:=xp r2
    have hj:=(zN.mp ep).1
    have okp:=tv.ok p (jl ep)
    have h1:J.ps[p.1]? =some J.ps[p.1]:=jj okp.1
    have h2:J.fs[p.2]? =some J.fs[p.2]:=jj okp.2
    generalize J.ps[p.1]=pa at h1
    generalize J.fs[p.2]=fe at h2
    have e:=(Wx (J:=J) (ord:=zK (ts.take i)) (tk:=jG (ts.take i)) ep).trans (Ql h1 h2)
    refine⟨T2,_,rfl,SqT.of zb,rfl,_,_,rfl,_,_,rfl,pp,_,rfl,qpp,rfl,_,_,rfl,_,_,rfl,rfl,rfl,?_⟩
    have ls6:=sT2 _ _ ls5
    have lo6:=sT2 _ _ lo5
    have qb6:=sT2.sqT qb5
    have qc6:=sT2.sqT qc5
    have rb6:=rb5.same sT2
    generalize upd H5 T2 (.tup [.int (j:Int),.ref pp])=H6 at *
    obtain⟨fv0,efv,rfv⟩:=wt (rf.same s6) h2
    obtain⟨fa,fc,rfl,qfa,_⟩:=xR rfv
    obtain⟨pv0,epv,rpv⟩:=wt (rp.same s6) h1
    obtain⟨pad,pac,rfl,qpa,_⟩:=wI rpv
    have hitp:∀(wd:Str) (H':Hp) (q:Addr),pkF J (zK (ts.take i)) (jG (ts.take i)) t j=some wd->Same H H'->SqT K H' q [.str wd,.int (i:Int),.int (j:Int)]->Q (.ref q) H':=fun wd H' q e s' hq=>hit wd j _ _ (VZ hj nj e) s' ⟨q,rfl,hq⟩
    refine⟨_,rfl,jp,_,_,_,rfl,rfl,s6.sqT qj,rfl,_,rfl,fs,_,_,_,rfl,rfl,s6.sqT qf,qI efv,fa,_,_,_,rfl,rfl,qfa,rfl,_,rfl,jp,_,_,_,rfl,rfl,s6.sqT qj,rfl,_,rfl,ps,_,_,_,rfl,rfl,s6.sqT qps,qI epv,pad,_,_,_,rfl,rfl,qpa,rfl,rfl,_,rfl,z7 (fun c1=>?_) (fun c1=>?_)⟩
    ·have ne:¬fe.k=pa.k:=fun z=>by
      rw[z] at c1
      simp at c1
     rw[if_neg ne] at e
     exact⟨_,rfl,_,rfl,le3,fun q hq=>hitp _ _ q e (s6.trans (zd hq)) (SqT.of zb)⟩
    have eq:fe.k=pa.k:=by
     have:V.str fe.k=V.str pa.k:=by simpa using c1
     exact V.str.inj this
    rw[if_pos eq] at e
    refine⟨_,rfl,_,rfl,lo,_,rfl,.inl (SqL.of lo6),rfl,j9 _,_,rfl,z7 (fun c2=>?_) (fun c2=>?_)⟩
    ·rw[x9] at c2
     rw[if_pos (qW c2)] at e
     exact⟨_,rfl,_,rfl,le3,fun q hq=>hitp _ _ q e (s6.trans (zd hq)) (SqT.of zb)⟩
    rw[x9] at c2
    rw[if_neg (by simpa using c2)] at e
    have hst:atI ((vh J (jG (ts.take i)++(t.pk.take j).map (·.2))).map V.int) ((p.2:Nat):Int)=some (.int (fe.m-((jG (ts.take i)++(t.pk.take j).map (·.2)).count p.2:Int))):=qI (by rw[qr,zbz h2];rfl)
    refine⟨_,rfl,_,rfl,ls,_,_,_,rfl,rfl,SqL.of ls6,hst,_,_,rfl,rfl,_,rfl,z7 (fun c3=>?_) (fun c3=>?_)⟩
    ·have c3:=qW c3
     rw[if_pos (by omega)] at e
     exact⟨_,rfl,_,rfl,le3,fun q hq=>hitp _ _ q e (s6.trans (zd hq)) (SqT.of zb)⟩
    have c3:¬_:=fun z=>c3 (qF z)
    rw[if_neg (by omega)] at e
    refine⟨_,rfl,_,rfl,ls,_,_,_,rfl,rfl,SqL.of ls6,hst,_,_,rfl,rfl,_,rfl,_,rfl,ls,_,_,p.2,rfl,rfl,ls6,Xn (by rw[zq,J7];exact okp.2),?_⟩
    have es:((vh J (jG (ts.take i)++(t.pk.take j).map (·.2))).map V.int).set p.2 (V.int (fe.m-((jG (ts.take i)++(t.pk.take j).map (·.2)).count p.2:Int)-1))=(vh J (jG (ts.take i)++(t.pk.take (j+1)).map (·.2))).map V.int:=by
     rw[<- List.map_set,zdh h2,qg ep,zW,<- vU]
     rfl
    rw[es]
    have TT:=SameT.put (ys:=(vh J (jG (ts.take i)++(t.pk.take (j+1)).map (·.2))).map V.int) ls6
    refine⟨_,_,_,rfl,s6.put hls0,qb6.keep TT,qc6.keep TT,rb6.keep TT (qv _),zb,(zo nlo.symm).trans lo6,fun m hm=>?_⟩
    by_cases h:m<j
    ·exact nj m h
    ·rw[show m=j by omega];exact e
   rintro σ H5 ⟨v8,v9,v10,rfl,s5,qb5,qc5,rb5,ls5,lo5,nj⟩
   rw[lb] at nj
   rw[lb,je,<- Jm et] at ls5
   refine⟨_,rfl,c,rfl,⟨_,qc5⟩,wQ (K:=K) (a:=c) (xs:=zu t.ly) (fun j σ H'=>Ex2 fun(v8 v9:Option V)=>An7 (σ=[some (.ref jp),some (.ref pl),some (.ref ov),some (.ref ls),some (.ref lo),some (.int (i:Int)),some (.ref b),some (.ref c),v8,v9,v10]) (Same H H') (SqT K H' b qs) (SqT K H' c (zu t.ly)) (H' ls=some (.lst ((vh J (jG (ts.take (i+1)))).map V.int))) (H' lo=some (.lst (zu (zK (ts.take i)++t.ly.take j)))) (∀m,m<j->lyF J (zK (ts.take i)) t m=none)) ⟨_,_,rfl,s5,qb5,qc5,ls5,by rw[List.take_zero,xL];exact lo5,(fun m h=>absurd h (yU _))⟩ (fun j σ H' _ ⟨_,_,_,_,_,q5,_,_,_⟩=>q5) ?_ ?_⟩
   ·rintro j y σ H6 T2 hy ⟨v8,v9,rfl,s6,qb6,qc6,ls6,lo6,nl⟩ hT2
    obtain⟨p,ep,rfl⟩:=yG hy
    have hj:=(zN.mp ep).1
    have sT2:=zd (H:=H6) (o:=.tup [.int (j:Int),.int (p:Int)]) hT2
    have hp':p<J.ps.length:=by
     obtain⟨u,hu,rfl⟩:=jC.mp (tv.ly.mem_iff.mp (jl ep))
     exact(tv.ok u hu).1
    refine⟨T2,_,rfl,SqT.of zb,rfl,_,_,rfl,_,_,rfl,rfl,?_⟩
    have s7:=s6.trans sT2
    have ls7:=sT2 _ _ ls6
    have lo7:=sT2 _ _ lo6
    have qb7:=sT2.sqT qb6
    have qc7:=sT2.sqT qc6
    generalize upd H6 T2 (.tup [.int (j:Int),.int (p:Int)])=H7 at *
    have hov7:=hov.same s7
    obtain⟨ms,hm⟩:∃ms,mss[p]? =some ms:=⟨_,jj (by rw[hov.l];exact hp')⟩
    obtain⟨ml,mu⟩:=hov.u p ms hm
    obtain⟨lr,elr,hlr⟩:=hov7.r p ms hm
    have qlr:SqL K H7 lr (ms.map V.int):=SqL.of hlr
    have e:=WE (J:=J) (ord:=zK (ts.take i)) ep
    refine⟨_,rfl,_,rfl,ov,_,_,_,rfl,rfl,SqL.of hov7.h,qI elr,lr,rfl,⟨_,qlr⟩,xw (K:=K) (a:=lr) (xs:=ms.map V.int) (fun m zs H8=>An2 (zs=((ms.take m).map fun u=>decide (u∈nI (zK (ts.take i)++t.ly.take j))).map V.bl) (Same H7 H8)) ⟨rfl,Same.refl _⟩ (fun m zs H8 ⟨_,s8⟩=>s8.seq qlr) ?_ ?_⟩
    ·rintro m z zs H8 hz ⟨rfl,s8⟩
     rw[qr] at hz
     obtain⟨u,eu,rfl⟩:=jc.mp hz
     have hm':=(zN.mp eu).1
     refine⟨rfl,_,rfl,_,rfl,lo,_,rfl,.inl (SqL.of (s8 _ _ lo7)),rfl,j9 _,by rw[zq,zq,z9];omega,?_,s8⟩
     rw[qg eu,zW,zW,zeJ]
     rfl
    rintro zs H8 ⟨rfl,s8⟩
    have et2:ms.take (ms.map V.int).length=ms:=by rw[zq,je]
    rw[et2]
    refine⟨by rw[zq,zq];omega,fun D hD=>⟨D,ms.map fun u=>decide (u∈nI (zK (ts.take i)++t.ly.take j)),rfl,SqL.of zb,_,rfl,?_⟩⟩
    have sD:=s8.trans (zd (o:=.lst ((ms.map fun u=>decide (u∈nI (zK (ts.take i)++t.ly.take j))).map V.bl)) hD)
    have s9:=s7.trans sD
    have ls9:=sD _ _ ls7
    have lo9:=sD _ _ lo7
    have qb9:=sD.sqT qb7
    have qc9:=sD.sqT qc7
    generalize upd H8 D (.lst ((ms.map fun u=>decide (u∈nI (zK (ts.take i)++t.ly.take j))).map V.bl))=H9 at *
    have key:((ms.map fun u=>decide (u∈nI (zK (ts.take i)++t.ly.take j))).all id=true)↔∀u,UpA J p u->u∈nI (zK (ts.take i)++t.ly.take j):=by
     rw[all_map,jh]
     exact⟨fun h u z=>qW (h u ((mu u).mpr z)),fun h u z=>qF (h u ((mu u).mp z))⟩
    unfold WF at e
    refine z7 (fun c1=>?_) (fun c1=>?_)
    ·rw[if_neg (fun z=>by rw[key.mpr z] at c1;exact absurd c1 (by decide))] at e
     have lb':=lb
     refine⟨_,rfl,_,rfl,b,_,rfl,.inr qb9,_,rfl,_,_,rfl,rfl,le3,fun q hq=>hit "ahead" (t.pk.length+j) _ _ (Y6 nj hj nl e) (s9.trans (zd hq)) ⟨q,rfl,SqT.of ?_⟩⟩
     rw[zb,lb,show((t.pk.length+j:Nat):Int)=(t.pk.length:Int)+(j:Int) by omega]
    ·rw[if_pos (key.mp (by simpa using c1))] at e
     have l1:=le i
     refine⟨_,rfl,.inl ⟨rfl,_,SqL.of lo9⟩,_,rfl,lo,_,_,rfl,rfl,lo9,by rw[zH,qJ,z9];omega,?_⟩
     have en:zu (zK (ts.take i)++t.ly.take j)++[V.int (p:Int)]=zu (zK (ts.take i)++t.ly.take (j+1)):=by rw[qg ep,<- vU,<- xA (_++_)];rfl
     rw[en]
     have TT:=SameT.put (ys:=zu (zK (ts.take i)++t.ly.take (j+1))) lo9
     refine⟨_,_,rfl,s9.put hlo0,qb9.keep TT,qc9.keep TT,(zo nlo).trans ls9,zb,fun m hm=>?_⟩
     by_cases h:m<j
     ·exact nl m h
     ·rw[show m=j by omega];exact e
   rintro σ H6 ⟨v8,v9,rfl,s6,qb6,qc6,ls6,lo6,nl⟩
   rw[zH] at nl lo6
   rw[je,<- ZD et] at lo6
   refine⟨_,_,_,_,_,_,rfl,s6,ls6,lo6,fun m hm=>?_⟩
   by_cases h:m<i
   ·exact nn m h
   ·rw[show m=i by omega,Xx et]
    exact Xw nj nl
  rintro σ H3 ⟨v5,v6,v7,v8,v9,v10,rfl,s3,ls3,lo3,nn⟩
  rw[ll] at nn
  refine k _ _ s3 ?_
  rw[show Zm J ts=none from wP nn]
  exact rfl
end
theorem wm(xs:List V)(k:Nat):zQ xs (some (k:Int)) none=xs.drop k:=by
 unfold zQ
 rw[HT.sIx_none,HT.sIx_nat]
 by_cases h:k<=xs.length
 ·rw[Nat.min_eq_left h,Q3 (by rw[xF];omega)]
 ·rw[Nat.min_eq_right (by omega),List.drop_length,List.take_nil,WR (by omega)]
theorem zd9(xs:List V)(a b:Nat):zQ xs (some (a:Int)) (some (b:Int))=(xs.drop (min a xs.length)).take (min b xs.length-min a xs.length):=by
 unfold zQ
 rw[HT.sIx_nat,HT.sIx_nat]
section
variable{X:Cx}
inductive zeD(x:V)(y:V)(H:Hp)(Q:VK):Prop
 | mk (a b:Addr) (xs ys:List V) (_:x=.ref a) (_:y=.ref b) (_:H a=some (.tup xs)) (_:H b=some (.tup ys)) (_:xs.length+ys.length<=sizeLine) (_:∀c H',Same H H'->H' c=some (.tup (xs++ys))->Q (.ref c) H'):zeD  x y H Q
theorem YS:OpR X (binaryOp .Add) zeD:=by
 intro pins s σ H x y v u Q I rx ry h
 obtain⟨a,b,xs,ys,rfl,rfl,ha,hb,hz,q⟩:=h
 by_cases e:xs=[]
 ·subst e
  exact zcp pins s σ H v u Q I rx ry ⟨a,b,ys,rfl,rfl,SqT.of ha,SqT.of hb,q b H (Same.refl _) hb⟩
 ·refine zdB pins s σ H _ _ v u Q I rx ry ⟨a,b,xs,ys,rfl,rfl,SqT.of ha,SqT.of hb,e,hz,fun e2=>q a H (Same.refl _) ?_,fun _ p hp=>q p _ (zd hp) zb⟩
  rw[e2,xL]
  exact ha
end
section
variable{P:Program}{w:World}{K:PySem.W.Frag}{mg:Str->Option Value}{base:Heap}
def GoodV(K:PySem.W.Frag)(J:Job)(H:Hp)(v:V):Prop:=∃t,TripV J t/\Rep K H (jm t) v
theorem GoodV.keep{H H':Hp}{J:Job}{v:V}(g:GoodV K J H v)(s:SameT H H'):GoodV K J H' v:=by
 obtain⟨t,a,b⟩:=g
 exact⟨t,a,b.keep s (Ze t)⟩
structure OtS(K:PySem.W.Frag)(H:Hp)(b jp pl:Addr)(J:Job)(xs:List V)(H':Hp)(n:Int):Prop where
 s:SameB b H H'
 bx:BoxAt H' b n
 hp:H' pl=some (.lst xs)
 gd:∀v∈xs,GoodV K J H' v
 rj:Rep K H' (vj J) (.ref jp)
variable{H H' H'':Hp}{b jp pl:Addr}{J:Job}{xs:List V}{n m:Int}
theorem OtS.draw(g:OtS K H b jp pl J xs H' n)(nb:pl≠b)(S:SameB b H' H'')(B:BoxAt H'' b m):OtS K H b jp pl J xs H'' m:=by
 have T:=SameT.draw g.bx S
 exact⟨g.s.trans S,B,S _ _ g.hp nb,fun v hv=>(g.gd v hv).keep T,g.rj.keep T (wf J)⟩
theorem OtS.same(g:OtS K H b jp pl J xs H' n)(S:Same H' H''):OtS K H b jp pl J xs H'' n:=by
 have T:=SameT.of S
 exact⟨g.s.trans (SameB.of S),g.bx.same S,S _ _ g.hp,fun v hv=>(g.gd v hv).keep T,g.rj.keep T (wf J)⟩
theorem OtS.mono(g:OtS K H b jp pl J xs H' n)(h:n<=m):OtS K H b jp pl J xs H' m:=⟨g.s,g.bx.mono h,g.hp,g.gd,g.rj⟩
theorem OtS.new{q:Addr}{o:HO}(g:OtS K H b jp pl J xs H' n)(h:H' q=none):OtS K H b jp pl J xs (upd H' q o) n:=g.same (zd h)
inductive Yk(K:PySem.W.Frag)(vs:List V)(H:Hp)(Q:VK):Prop
 | mk (b jp pl:Addr) (J:Job) (od:List Nat) (xs:List V) (n:Int) (_:vs=[.ref b,.ref jp,.ref pl]) (_:BoxAt H b n) (_:n<500000) (_:Rep K H (vj J) (.ref jp)) (_:JobOk J od) (_:pl≠b) (_:H pl=some (.lst xs)) (_:(∀v∈xs,GoodV K J H v)) (_:xs.length<=100) (_:∀(q:Addr) (ws:List V) H',SameB b H H'->BoxAt H' b (n+200)->q≠b->H' q=some (.lst ws)->(∀v∈ws,GoodV K J H' v)->ws.length<=xs.length+1->Q (.ref q) H'):Yk K vs H Q
def zbF(K:PySem.W.Frag):Sp:=fun vs H Q _=>Yk K vs H Q
theorem zep:zI ["_law_box_here", "_law_job_here", "_law_plan_here", "_law_way", "_law_at", "_law_picks", "_law_lays", "_law_k", "_law_some", "_law_new", "_law_spot"] ["_law_box_here", "_law_job_here", "_law_plan_here"] (zv (topL 48)):=⟨rfl,rfl,rfl,by decide +kernel,rfl,by decide +kernel,by decide +kernel⟩
def zhn{cdv:Value}{f:Addr}{A:Around}{outer:List Env}{s:Shared}{H:Hp}{E:XK}(B:Blt mg)(hr:Room 2 (A.deeper (envOfC "_law_otherwise" (zv (topL 48)) s.heap.objs.size f cdv)))(D_take:Dfn P w K mg base "_law_take" 1 ["_law_box_here", "_law_size"] jM)(D_shuffled:Dfn P w K mg base "_law_shuffled" 2 ["_law_box_here", "_law_some"] (Zg K))(nd:(["_law_box_here", "_law_job_here", "_law_plan_here", "_law_way", "_law_at", "_law_picks", "_law_lays", "_law_k", "_law_some", "_law_new", "_law_spot"]:List Str).Nodup):{ t:TS // PSs (V4 CX0 P w K mg base ["_law_box_here", "_law_job_here", "_law_plan_here", "_law_way", "_law_at", "_law_picks", "_law_lays", "_law_k", "_law_some", "_law_new", "_law_spot"] "_law_otherwise" (zv (topL 48)) f cdv A outer s H E).nox (va (topL 48)) t }:=
 have hu:=hr.units0
 ⟨_,(zf (qe (zA (VD hu) (pv 2) (zO zc) (zB _))
     (zi (zt (pv 2)))
     zJ)
     (zf (jH (zX (za (zg D_take (hr.mono (by decide)) rfl (za (pv 0) (za ze zc))) (za (zg D_take (hr.mono (by decide)) rfl (za (pv 0) (za (zj zp rfl B.len boot_len (za (pv 2) zc)) zc))) zc))) (qT rfl (zx (zr (i:=3) nd rfl (Or.inr rfl)) (zx (zr (i:=4) nd rfl (Or.inl rfl)) qB))))
     (zf (jH (zE zS (pv 2) (pv 4) (fun _ _=>rfl)) (qT rfl (zx (zr (i:=5) nd rfl (Or.inr rfl)) (zx (zr (i:=6) nd rfl (Or.inl rfl)) qB))))
     (zf (qe (zA YO (pv 3) ze (zB _))
     (zf (zF (i:=7) nd rfl (Or.inr rfl) (zg D_take (hr.mono (by decide)) rfl (za (pv 0) (za (zj zp rfl B.len boot_len (za (pv 5) zc)) zc))))
      (zf (zcc ["_law_way", "_law_job_here", "_law_picks", "_law_k"] [3,1,5,7] rfl rfl (by kernel_rfl) (qY rfl B.range (za (zj zp rfl B.len boot_len (za (zE qD (pv 1) ze (fun _ _=>rfl)) zc)) zc)) (fun _ _ _ _=>(yj (PW.pt (xf (zA qQ (pv 1) ze (zB _)) (j5 (zA qQ (zE (jq (K:=K) rfl) (zE (jq (K:=K) rfl) (zE (jq (K:=K) rfl) (pv 2) ze (fun _ _=>rfl)) (pv 0) (fun _ _=>rfl)) ze (fun _ _=>rfl)) (zE (jq (K:=K) rfl) (zE (jq (K:=K) rfl) (zE (jq (K:=K) rfl) (pv 2) ze (fun _ _=>rfl)) (zE (jq (K:=K) rfl) (zE (jq (K:=K) rfl) (pv 3) (pv 4) (fun _ _=>rfl)) ze (fun _ _=>rfl)) (fun _ _=>rfl)) ze (fun _ _=>rfl)) (zB _))))))) (fun _ _ _ _=>(pv 0)) (zr (i:=8) nd rfl (Or.inl rfl)))
      (zf (zF (i:=9) nd rfl (Or.inl rfl) (zX (za (zE qD (zE qD (pv 5) (pv 7) (fun _ _=>rfl)) ze (fun _ _=>rfl)) (za (zE zS (pv 8) (zg D_take (hr.mono (by decide)) rfl (za (pv 0) (za (zj zp rfl B.len boot_len (za (pv 8) zc)) zc))) (fun _ _=>rfl)) zc))))
      (zi (zt (zw jv (zw jv (zM qO (pv 2) qy (zP (pv 4))) (zO (za (zX (za (zw YS (zw YS (zM Ws (pv 5) qy (zP (pv 7))) (zX (za (pv 9) zc))) (zM Ws (pv 5) (zP (zw zU (pv 7) ze)) qy)) (za (pv 6) zc))) zc))) (zM qO (pv 2) (zP (zw zU (pv 4) ze)) qy)))))))
     zJ)
     (zf (qe (zA qQ (pv 3) ze (zB _))
     (zi (zt (zw jv (zw jv (zM qO (pv 2) qy (zP (pv 4))) (zO (za (zX (za (pv 5) (za (zY qN rfl B.tuple zT (za (zg D_shuffled (hr.mono (by decide)) rfl (za (pv 0) (za (pv 6) zc))) zc)) zc))) zc))) (zM qO (pv 2) (zP (zw zU (pv 4) ze)) qy))))
     zJ)
     (zf (qe (zA qQ (pv 3) ze (zB _))
     (zi (zt (zw jv (zw jv (zM qO (pv 2) qy (zP (pv 4))) (zfb (zM qO (pv 2) (zP (pv 4)) (zP (zw zU (pv 4) ze))) (zP (Vy Qc ze)))) (zM qO (pv 2) (zP (zw zU (pv 4) ze)) qy))))
     zJ)
     (zf (qe (zA qQ (pv 3) ze (zB _))
     (zi (zt (zw jv (zM qO (pv 2) qy (zP (pv 4))) (zM qO (pv 2) (zP (zw zU (pv 4) ze)) qy))))
     zJ)
     (zf (qe (zA qQ (pv 3) ze (zB _))
     (zf (zF (i:=10) nd rfl (Or.inl rfl) (zg D_take (hr.mono (by decide)) rfl (za (pv 0) (za (zw zU (zj zp rfl B.len boot_len (za (pv 2) zc)) ze) zc))))
      (zi (zt (zw jv (zw jv (zM qO (pv 2) qy (zP (pv 10))) (zO (za (zE zS (pv 2) (pv 4) (fun _ _=>rfl)) zc))) (zM qO (pv 2) (zP (pv 10)) qy)))))
     zJ)
     (zi (zt (zg D_shuffled (hr.mono (by decide)) rfl (za (pv 0) (za (pv 2) zc)))))))))))))⟩
end
theorem TripV.lays{J:Job}{t:qM}{l:List Nat}(v:TripV J t)(h:l.Perm t.ly):TripV J ⟨t.pk,l⟩:=⟨v.p1,v.p2,v.ok,h.trans v.ly,v.nd⟩
theorem TripV.feed{J:Job}{t:qM}{k c f:Nat}{g:Nat}(v:TripV J t)(e:t.pk[k]? =some (c,g))(hf:f<J.fs.length):TripV J ⟨t.pk.take k++[(c,f)]++t.pk.drop (k+1),t.ly⟩:=by
 have hk:=(zN.mp e).1
 have hm:(t.pk.take k++[(c,f)]++t.pk.drop (k+1)).map (·.1)=t.pk.map (·.1):=by
  rw[zW,zW]
  have:t.pk=t.pk.take k++[(c,g)]++t.pk.drop (k+1):=by
   rw[<- qg e,QP]
  rw (config:={occs:=.pos [3]}) [this]
  rw[zW,zW]
  rfl
 have hl:(t.pk.take k++[(c,f)]++t.pk.drop (k+1)).length=t.pk.length:=by
  have:=congrArg List.length hm
  rwa[zq,zq] at this
 refine⟨by show 1<=(t.pk.take k++[(c,f)]++t.pk.drop (k+1)).length;rw[hl];exact v.p1,by show((t.pk.take k++[(c,f)]++t.pk.drop (k+1)).length:Int)<=_;rw[hl];exact v.p2,fun p hp=>?_,by show t.ly.Perm _;rw[hm];exact v.ly,by rw[hm];exact v.nd⟩
 rcases qL.mp hp with hp | hp
 ·rcases qL.mp hp with hp | hp
  ·exact v.ok p (ZN hp)
  ·rw[qR.mp hp]
   exact⟨(v.ok _ (jl e)).1,hf⟩
 ·exact v.ok p (QO hp)
section
variable{P:Program}{w:World}{K:PySem.W.Frag}{mg:Str->Option Value}{base:Heap}
theorem Reps.drop{H:Hp}:∀(n:Nat) {ds:List Dat} {xs:List V},Reps K H ds xs->Reps K H (ds.drop n) (xs.drop n)
 | 0,_,_,h=>h
 | n+1,[],_,h=>by cases(show _=[] from h);exact rfl
 | n+1,d::ds,_,⟨x,r,e,_,h2⟩=>by rw[e];exact Reps.drop n h2
theorem zfe{f:Addr}{fd:FuncData}(F:Fun K "_law_otherwise" "_law_otherwise" (topL 48) f fd)(B:Blt mg)(D_take:Dfn P w K mg base "_law_take" 1 ["_law_box_here", "_law_size"] jM)(D_shuffled:Dfn P w K mg base "_law_shuffled" 2 ["_law_box_here", "_law_some"] (Zg K)):qS P w K mg base CX0 3 f fd ["_law_box_here", "_law_job_here", "_law_plan_here"] (zbF K):=by
 have nd:=zep.nd
 refine F.ok zep (fun vs H Q E h=>?_) (fun cdv A outer s H vs Q E hr h=>?_)
 ·obtain⟨b,jp,pl,J,od,xs,n,rfl,_⟩:=h
  rfl
 ·obtain⟨b,jp,pl,J,od,xs,n,rfl,B0,hn,rj,jo,npb,hp,gd,xl,k⟩:=h
  have hbig:100000<sizeLine:=by rw[sizeLine_eq];decide
  have fl:=jo.fl
  have f0:=jo.f0
  have hd4:=jo.hd1
  refine⟨_,(zhn B hr D_take D_shuffled nd).2,?_⟩
  have g0:OtS K H b jp pl J xs H n:=⟨SameB.refl b H,B0,hp,gd,rj⟩
  refine⟨_,rfl,le0,fun q0 hq0=>⟨pl,q0,xs,rfl,rfl,SqL.of ((zd hq0) _ _ hp),SqL.of zb,_,rfl,z7 (fun c=>?_) (fun c=>?_)⟩⟩
  ·have g1:=g0.new (o:=.lst []) hq0
   exact⟨_,rfl,k pl xs _ g1.s (g1.bx.mono (by omega)) npb g1.hp g1.gd (by omega)⟩
  have xne:xs≠[]:=fun z=>c (by rw[z];rfl)
  have x1:0<xs.length:=Q0.mpr xne
  have g1:=g0.new (o:=.lst []) hq0
  generalize upd H q0 (.lst [])=H1 at g1
  refine⟨_,rfl,b,7,n,rfl,g1.bx,by omega,by decide,by decide,fun wy H2 w0 w1 B2 S2=>?_⟩
  have g2:=g1.draw npb S2 B2
  refine⟨_,rfl,_,rfl,pl,_,rfl,.inl (SqL.of g2.hp),b,_,_,rfl,g2.bx,by omega,by omega,by omega,fun at' H3 a0 a1 B3 S3=>⟨le2,fun T hT=>⟨T,_,rfl,SqT.of zb,rfl,_,_,rfl,_,_,rfl,rfl,?_⟩⟩⟩
  have g3:=(g2.draw npb S3 B3).new (o:=.tup [.int wy,.int at']) hT
  generalize upd H3 T (.tup [.int wy,.int at'])=H4 at g3
  obtain⟨at',rfl⟩:∃m:Nat,at'=(m:Int):=⟨at'.toNat,by omega⟩
  have hat:at'<xs.length:=by omega
  obtain⟨v,ev⟩:∃v,xs[at']? =some v:=⟨_,jj hat⟩
  obtain⟨t,tv,rt⟩:=g3.gd v (jl ev)
  obtain⟨a,pb,c',ps,ys,rfl,qa,qb,rb,qc,rc⟩:=wF rt
  cases wb rc
  have lb:=rb.len
  rw[zq] at lb
  have p1:=tv.p1
  have p2:=tv.p2
  have tle:=tv.le
  refine⟨_,rfl,_,rfl,pl,_,_,_,rfl,rfl,SqL.of g3.hp,qI ev,a,_,rfl,qa,rfl,_,_,rfl,_,_,rfl,rfl,?_⟩
  clear S2 S3 B2 B3 g2 g1 hq0 hT
  have fin:∀(q:Addr) (ws:List V) (H':Hp) (m:Int),OtS K H b jp pl J xs H' m->m<=n+200->H' q=some (.lst ws)->q≠b->(∀v∈ws,GoodV K J H' v)->ws.length<=xs.length+1->Q (.ref q) H':=fun q ws H' m g hm hq nq hg hl=>k q ws H' g.s (g.bx.mono hm) nq hq hg hl
  have fr1:((at':Nat):Int)+1=((at'+1:Nat):Int):=by omega
  have fr2:((at':Nat):Int)+2=((at'+2:Nat):Int):=by omega
  have tkm:∀v,v∈xs.take at'->v∈xs:=fun v h=>ZN h
  have last:∀(Hd:Hp) (m:Int) (e1 e2 e3:Addr) (v':V),OtS K H b jp pl J xs Hd m->m<=n+200->GoodV K J Hd v'->Hd e3=none->ze0 K (.ref pl) (some ((at':Int)+1)) none (upd Hd e3 (.lst (xs.take at'++[v']))) fun y H5=>zdm (.ref e3) y H5 Q:=fun Hd m e1 e2 e3 v' g hm gv h3=>by
   have g1:=g.new (o:=.lst (xs.take at'++[v'])) h3
   have gv1:=gv.keep (SameT.of (zd (o:=.lst (xs.take at'++[v'])) h3))
   have E3:upd Hd e3 (.lst (xs.take at'++[v'])) e3=some (.lst (xs.take at'++[v'])):=zb
   generalize upd Hd e3 (.lst (xs.take at'++[v']))=He at g1 gv1 E3
   refine⟨pl,xs,rfl,SqL.of g1.hp,fun e4 h4=>?_⟩
   have g2:=g1.new (o:=.lst (zQ xs (some ((at':Int)+1)) none)) h4
   have t4:=zd (o:=.lst (zQ xs (some ((at':Int)+1)) none)) h4
   have gv2:=gv1.keep (SameT.of t4)
   have E4:upd He e4 (.lst (zQ xs (some ((at':Int)+1)) none)) e4=some (.lst (xs.drop (at'+1))):=by rw[zb,fr1,wm]
   have E3':=t4 _ _ E3
   generalize upd He e4 (.lst (zQ xs (some ((at':Int)+1)) none))=Hf at g2 gv2 E4 E3'
   refine⟨e3,e4,_,_,rfl,rfl,E3',E4,by rw[qJ,z9,xF];show _+1+_<=_;omega,fun q hq=>?_⟩
   have g3:=g2.new (o:=.lst (xs.take at'++[v']++xs.drop (at'+1))) hq
   have gv3:=gv2.keep (SameT.of (zd (o:=.lst (xs.take at'++[v']++xs.drop (at'+1))) hq))
   refine fin q _ _ _ g3 hm zb (g2.bx.nne hq) (fun v hv=>?_) (by rw[qJ,qJ,z9,xF];show _+1+_<=_;omega)
   rcases qL.mp hv with h | h
   ·rcases qL.mp h with h | h
    ·exact g3.gd v (tkm v h)
    ·rw[qR.mp h];exact gv3
   ·exact g3.gd v (QO h)
  refine⟨_,rfl,_,_,rfl,rfl,_,rfl,z7 (fun c1=>?_) (fun c1=>?_)⟩
  ·-- another feeder
   refine⟨_,rfl,_,rfl,pb,_,rfl,.inr qb,b,_,_,rfl,g3.bx,by omega,by rw[lb];omega,by rw[lb];omega,fun kk H5 k0 k1 B5 S5=>?_⟩
   have g4:=g3.draw npb S5 B5
   have T5:=SameT.draw g3.bx S5
   have qb5:=qb.keep T5
   have qc5:=qc.keep T5
   have rb5:=rb.keep T5 (qv _)
   obtain⟨kk,rfl⟩:∃m:Nat,kk=(m:Int):=⟨kk.toNat,by omega⟩
   have hk:kk<t.pk.length:=by rw[lb] at k1;omega
   obtain⟨p,ep⟩:∃p,t.pk[kk]? =some p:=⟨_,jj hk⟩
   obtain⟨v2,ev2,rv2⟩:=wt rb5 ep
   obtain⟨pp,rfl,qpp⟩:=xp rv2
   have okp:=tv.ok p (jl ep)
   obtain⟨pa,h1⟩:∃pa,J.ps[p.1]? =some pa:=⟨_,jj okp.1⟩
   obtain⟨gg,fs,pps,as,fv,px,qj,_,qf,rf,qps,rp,_⟩:=wO g4.rj
   have lf:=rf.len
   rw[zq] at lf
   obtain⟨pv0,epv,rpv⟩:=wt rp h1
   obtain⟨pad,pac,rfl,qpa,_⟩:=wI rpv
   have e62:(2:Int)^62=4611686018427387904:=by decide
   clear S5 B5 T5
   refine⟨_,rfl,jp,_,_,_,rfl,rfl,qj,rfl,fs,_,rfl,.inr qf,_,rfl,by rw[e62];omega,by rw[e62];omega,yI (fun i zs H'=>Ex1 fun(ks:List Nat)=>An5 (zs=zu ks) (ks.length<=i) ((∀j∈ks,j<J.fs.length)) ((∀(j:Nat) (fe:Z1),j<i->J.fs[j]? =some fe->fe.k=pa.k->j∈ks)) (Same H5 H')) ⟨[],rfl,zC _,(fun _ h=>nomatch h),(fun j _ h=>absurd h (yU _)),Same.refl _⟩ ?_ ?_⟩
   ·rintro i zs H6 hi ⟨ks,rfl,kl,kb,kc,s6⟩
    rw[Int.zero_add]
    have hif:i<J.fs.length:=by rw[lf] at hi;omega
    obtain⟨fe,h2⟩:∃fe,J.fs[i]? =some fe:=⟨_,jj hif⟩
    obtain⟨fv0,efv,rfv⟩:=wt (rf.same s6) h2
    obtain⟨fa,fc,rfl,qfa,_⟩:=xR rfv
    have yes:(zu ks).length<sizeLine/\∃ks':List Nat,zu ks++[V.int (i:Int)]=zu ks'/\ks'.length<=i+1/\(∀j∈ks',j<J.fs.length)/\(∀(j:Nat) (fe:Z1),j<i+1->J.fs[j]? =some fe->fe.k=pa.k->j∈ks')/\Same H5 H6:=by
     refine⟨by rw[zH];omega,ks++[i],by rw[<- xA];rfl,by rw[qJ];show _+1<=_;omega,fun j hj=>?_,fun j fe hj h3 h4=>?_,s6⟩
     ·rcases qL.mp hj with h | h
      ·exact kb j h
      ·rw[qR.mp h];exact hif
     ·by_cases h:j<i
      ·exact xc _ (kc j fe h h3 h4)
      ·exact qX _ (qR.mpr (by omega))
    obtain⟨y1,ks',y2,y3,y4,y5,y6⟩:=yes
    refine⟨rfl,_,rfl,rfl,_,rfl,z7 (fun c2=>ifT rfl ⟨_,rfl,y1,ks',y2,y3,y4,y5,y6⟩) (fun c2=>?_)⟩
    refine⟨_,rfl,jp,_,_,_,rfl,rfl,s6.sqT qj,rfl,_,rfl,fs,_,_,_,rfl,rfl,s6.sqT qf,qI efv,fa,_,_,_,rfl,rfl,qfa,rfl,_,rfl,jp,_,_,_,rfl,rfl,s6.sqT qj,rfl,_,rfl,_,rfl,pb,_,_,_,rfl,rfl,s6.sqT qb5,qI ev2,pp,_,_,_,rfl,rfl,s6.sqT qpp,rfl,pps,_,_,_,rfl,rfl,s6.sqT qps,qI epv,pad,_,_,_,rfl,rfl,s6.sqT qpa,rfl,rfl,_,rfl,z7 (fun c3=>⟨_,rfl,y1,ks',y2,y3,y4,y5,y6⟩) (fun c3=>?_)⟩
    refine⟨ks,rfl,by omega,kb,fun j fe' hj h3 h4=>?_,s6⟩
    by_cases h:j<i
    ·exact kc j fe' h h3 h4
    ·have:j=i:=by omega
     subst this
     rw[h2] at h3
     cases h3
     exact absurd (show decide (V.str fe.k=V.str pa.k)=true by rw[h4];exact qF rfl) c3
   rintro zs H6 ⟨ks,rfl,kl,kb,kc,s6⟩
   rw[lf] at kl kc
   refine⟨by rw[zH];omega,fun lm hlm=>?_⟩
   have s7:=s6.trans (zd (o:=.lst (zu ks)) hlm)
   have LM:upd H6 lm (.lst (zu ks)) lm=some (.lst (zu ks)):=zb
   generalize upd H6 lm (.lst (zu ks))=H7 at s7 LM
   have g5:=g4.same s7
   have nlm:lm≠b:=(g4.same s6).bx.nne hlm
   have kne:ks≠[]:=fun z=>by
    obtain⟨_,_,fe,hfe,ek⟩:=jo.pa pa (jl h1)
    obtain⟨j,hj⟩:=yY.mp hfe
    have:=kc j fe (by have:=(zN.mp hj).1;omega) hj ek
    rw[z] at this
    cases this
   have kpos:0<ks.length:=Q0.mpr kne
   refine⟨_,rfl,_,rfl,pb,_,_,_,rfl,rfl,s7.sqT qb5,qI ev2,pp,_,_,_,rfl,rfl,s7.sqT qpp,rfl,_,rfl,_,rfl,_,rfl,lm,_,rfl,.inl (SqL.of LM),b,_,_,rfl,g5.bx,by omega,by rw[zH];omega,by rw[zH];omega,fun r H8 r0 r1 B8 S8=>?_⟩
   have g6:=g5.draw npb S8 B8
   have T8:=SameT.draw g5.bx S8
   have qb8:=(s7.sqT qb5).keep T8
   have qc8:=(s7.sqT qc5).keep T8
   have rb8:=(rb5.same s7).keep T8 (qv _)
   have LM8:=S8 _ _ LM nlm
   rw[zH] at r1
   obtain⟨r,rfl⟩:∃m:Nat,r=(m:Int):=⟨r.toNat,by omega⟩
   obtain⟨j,ej⟩:∃j,ks[r]? =some j:=⟨_,jj (by omega)⟩
   have hj:=kb j (jl ej)
   refine⟨lm,_,_,_,rfl,rfl,SqL.of LM8,qI (by unfold zu;rw[qr,ej];rfl),le2,fun nq hnq=>?_⟩
   have g7:=g6.new (o:=.tup [.int (p.1:Int),.int (j:Int)]) hnq
   have s9:=zd (o:=.tup [.int (p.1:Int),.int (j:Int)]) hnq
   have NQ:upd H8 nq (.tup [.int (p.1:Int),.int (j:Int)]) nq=some (.tup [.int (p.1:Int),.int (j:Int)]):=zb
   generalize upd H8 nq (.tup [.int (p.1:Int),.int (j:Int)])=H9 at g7 s9 NQ
   have qb9:=s9.sqT qb8
   have qc9:=s9.sqT qc8
   have rb9:=rb8.same s9
   clear g4 g5 g6 s6 s7 hlm LM T8 S8 B8 LM8 qb5 qc5 rb5 qb8 qc8 rb8 hnq s9 qj qf rf qps rp qpp
   refine⟨_,rfl,_,rfl,_,rfl,pl,_,rfl,SqL.of g7.hp,fun e1 h1=>?_⟩
   have g8:=g7.new (o:=.lst (zQ xs none (some (at':Int)))) h1
   have t8:=zd (o:=.lst (zQ xs none (some (at':Int)))) h1
   have E1:upd H9 e1 (.lst (zQ xs none (some (at':Int)))) e1=some (.lst (xs.take at')):=by rw[zb,vm]
   generalize upd H9 e1 (.lst (zQ xs none (some (at':Int))))=Ha at g8 t8 E1
   have nc1:¬(HT.sIx ps.length 0 none=0/\HT.sIx ps.length ps.length (some (kk:Int))=ps.length):=fun z=>by
    have z2:=z.2
    rw[HT.sIx_nat] at z2
    omega
   refine⟨_,rfl,_,rfl,_,rfl,pb,_,rfl,t8.sqT qb9,nc1,fun t1 ht1=>⟨_,rfl,le1,fun t2 ht2=>?_⟩⟩
   have u1:=zd (o:=.tup (zQ ps none (some (kk:Int)))) ht1
   have u2:=zd (o:=.tup [.ref nq]) ht2
   have T1:upd (upd Ha t1 (.tup (zQ ps none (some (kk:Int))))) t2 (.tup [.ref nq]) t1=some (.tup (ps.take kk)):=u2 _ _ (by rw[zb,vm])
   refine⟨t1,t2,_,_,rfl,rfl,T1,zb,by rw[z9];show _+1<=_;omega,fun t3 Hb u3 T3=>?_⟩
   have uB:=(u1.trans u2).trans u3
   have nc2:¬(HT.sIx ps.length 0 (some ((kk:Int)+1))=0/\HT.sIx ps.length ps.length none=ps.length):=fun z=>by
    have z1:=z.1
    rw[show((kk:Int)+1)=((kk+1:Nat):Int) by omega,HT.sIx_nat] at z1
    omega
   refine⟨_,rfl,_,rfl,_,_,rfl,rfl,_,rfl,pb,_,rfl,(t8.trans uB).sqT qb9,nc2,fun t4 ht4=>?_⟩
   have u4:=zd (o:=.tup (zQ ps (some ((kk:Int)+1)) none)) ht4
   have T4:upd Hb t4 (.tup (zQ ps (some ((kk:Int)+1)) none)) t4=some (.tup (ps.drop (kk+1))):=by rw[zb,show((kk:Int)+1)=((kk+1:Nat):Int) by omega,wm]
   refine⟨t3,t4,_,_,rfl,rfl,u4 _ _ T3,T4,by rw[qJ,z9,xF];show _+1+_<=_;omega,fun t5 Hc u5 T5=>⟨_,rfl,le2,fun tq htq=>⟨le1,fun e2 h2=>?_⟩⟩⟩
   have u6:=zd (o:=.tup [.ref t5,.ref c']) htq
   have u7:=zd (o:=.lst [.ref tq]) h2
   have uC:=(((uB.trans u4).trans u5).trans u6).trans u7
   have g9:=g8.same uC
   have newt:TripV J ⟨t.pk.take kk++[(p.1,j)]++t.pk.drop (kk+1),t.ly⟩:=tv.feed (g:=p.2) ep hj
   have NR:GoodV K J (upd (upd Hc tq (.tup [.ref t5,.ref c'])) e2 (.lst [.ref tq])) (.ref tq):=by
    refine⟨_,newt,tq,_,rfl,SqT.of (u7 _ _ zb),_,_,rfl,⟨t5,_,rfl,SqT.of ((u6.trans u7) _ _ T5),?_⟩,_,_,rfl,⟨c',_,rfl,(t8.trans uC).sqT qc9,wM _⟩,rfl⟩
    have r9:=rb9.same (t8.trans uC)
    show Reps K _ ((t.pk.take kk++[(p.1,j)]++t.pk.drop (kk+1)).map qP) _
    have one:Reps K (upd (upd Hc tq (.tup [.ref t5,.ref c'])) e2 (.lst [.ref tq])) [qP (p.1,j)] [.ref nq]:=⟨_,_,rfl,⟨nq,_,rfl,SqT.of ((t8.trans uC) _ _ NQ),_,_,rfl,rfl,_,_,rfl,rfl,rfl⟩,rfl⟩
    rw[zW,zW,QR,List.map_drop]
    exact((r9.take kk).app one).app (r9.drop (kk+1))
   have E1':=uC _ _ E1
   have E2:upd (upd Hc tq (.tup [.ref t5,.ref c'])) e2 (.lst [.ref tq]) e2=some (.lst [.ref tq]):=zb
   generalize upd (upd Hc tq (.tup [.ref t5,.ref c'])) e2 (.lst [.ref tq])=Hd at g9 NR E1' E2
   clear u1 u2 u3 u4 u5 u6 u7 uB uC T1 T3 T4 T5 t8 E1 g8 ht1 ht2 ht4 htq h2 h1
   refine⟨e1,e2,_,_,rfl,rfl,E1',E2,by rw[z9];show _+1<=_;omega,fun e3 h3=>?_⟩
   exact⟨_,rfl,_,rfl,_,_,rfl,rfl,_,rfl,last Hd _ e1 e2 e3 _ g9 (by omega) NR h3⟩
  refine⟨_,rfl,rfl,_,rfl,z7 (fun c2=>?_) (fun c2=>?_)⟩
  ·refine⟨_,rfl,_,rfl,_,rfl,pl,_,rfl,SqL.of g3.hp,fun e1 h1=>?_⟩
   have g4:=g3.new (o:=.lst (zQ xs none (some (at':Int)))) h1
   have t4:=zd (o:=.lst (zQ xs none (some (at':Int)))) h1
   have E1:upd H4 e1 (.lst (zQ xs none (some (at':Int)))) e1=some (.lst (xs.take at')):=by rw[zb,vm]
   have ne1:=g3.bx.nne h1
   generalize upd H4 e1 (.lst (zQ xs none (some (at':Int))))=H5 at g4 t4 E1
   refine⟨_,rfl,_,rfl,_,rfl,b,c',_,zu t.ly,rfl,g4.bx,by omega,.inr (t4.sqT qc),by rw[zH];omega,fun l zs H6 S6 B6 nl _ hl pm=>?_⟩
   rw[zH] at B6
   have g5:=g4.draw npb S6 B6
   have T6:=SameT.draw g4.bx S6
   have E1':=S6 _ _ E1 ne1
   obtain⟨l',pl',rl'⟩:=Reps.perm pm (wM (K:=K) (H:=H6) t.ly)
   refine⟨l,_,rfl,.inl ⟨SqL.of hl,fun tt htt=>⟨le2,fun tq htq=>⟨le1,fun e2 h2=>?_⟩⟩⟩⟩
   have u1:=zd (o:=.tup zs) htt
   have u2:=zd (o:=.tup [.ref pb,.ref tt]) htq
   have u3:=zd (o:=.lst [.ref tq]) h2
   have uC:=(u1.trans u2).trans u3
   have NR:GoodV K J (upd (upd (upd H6 tt (.tup zs)) tq (.tup [.ref pb,.ref tt])) e2 (.lst [.ref tq])) (.ref tq):=⟨⟨t.pk,l'⟩,tv.lays pl',tq,_,rfl,SqT.of (u3 _ _ zb),_,_,rfl,⟨pb,_,rfl,uC.sqT ((t4.sqT qb).keep T6),((rb.same t4).keep T6 (qv _)).same uC⟩,_,_,rfl,⟨tt,zs,rfl,SqT.of ((u2.trans u3) _ _ zb),rl'.same uC⟩,rfl⟩
   have g6:=g5.same uC
   have E1'':=uC _ _ E1'
   have E2:upd (upd (upd H6 tt (.tup zs)) tq (.tup [.ref pb,.ref tt])) e2 (.lst [.ref tq]) e2=some (.lst [.ref tq]):=zb
   generalize upd (upd (upd H6 tt (.tup zs)) tq (.tup [.ref pb,.ref tt])) e2 (.lst [.ref tq])=Hd at g6 NR E1'' E2
   refine⟨e1,e2,_,_,rfl,rfl,E1'',E2,by rw[z9];show _+1<=_;omega,fun e3 h3=>?_⟩
   exact⟨_,rfl,_,rfl,_,_,rfl,rfl,_,rfl,last Hd _ e1 e2 e3 _ g6 (by omega) NR h3⟩
  refine⟨_,rfl,rfl,_,rfl,z7 (fun c3=>?_) (fun c3=>?_)⟩
  ·refine⟨_,rfl,_,rfl,_,rfl,pl,_,rfl,SqL.of g3.hp,fun e1 h1=>?_⟩
   have g4:=g3.new (o:=.lst (zQ xs none (some (at':Int)))) h1
   have E1:upd H4 e1 (.lst (zQ xs none (some (at':Int)))) e1=some (.lst (xs.take at')):=by rw[zb,vm]
   generalize upd H4 e1 (.lst (zQ xs none (some (at':Int))))=H5 at g4 E1
   refine⟨_,rfl,_,rfl,_,rfl,_,rfl,_,_,rfl,rfl,_,rfl,pl,_,rfl,SqL.of g4.hp,fun e2 h2=>?_⟩
   rw[fr2,zd9]
   generalize hmid:(xs.drop (min at' xs.length)).take (min (at'+2) xs.length-min at' xs.length)=mid
   have midm:∀v∈mid,v∈xs:=fun v hv=>by rw[<- hmid] at hv;exact QO (ZN hv)
   have midl:mid.length<=min (at'+2) xs.length-at':=by rw[<- hmid,z9];omega
   have g5:=g4.new (o:=.lst mid) h2
   have t5:=zd (o:=.lst mid) h2
   refine⟨_,rfl,_,rfl,e2,mid,rfl,rfl,SqL.of zb,fun e3 h3=>?_⟩
   have g6:=g5.new (o:=.lst mid.reverse) h3
   have t6:=zd (o:=.lst mid.reverse) h3
   have E1':=t6 _ _ (t5 _ _ E1)
   have E3:upd (upd H5 e2 (.lst mid)) e3 (.lst mid.reverse) e3=some (.lst mid.reverse):=zb
   generalize upd (upd H5 e2 (.lst mid)) e3 (.lst mid.reverse)=H6 at g6 E1' E3
   refine⟨e1,e3,_,_,rfl,rfl,E1',E3,by rw[z9,XN];omega,fun e4 h4=>?_⟩
   have g7:=g6.new (o:=.lst (xs.take at'++mid.reverse)) h4
   have E4:upd H6 e4 (.lst (xs.take at'++mid.reverse)) e4=some (.lst (xs.take at'++mid.reverse)):=zb
   generalize upd H6 e4 (.lst (xs.take at'++mid.reverse))=H7 at g7 E4
   refine⟨_,rfl,_,rfl,_,_,rfl,rfl,_,rfl,pl,_,rfl,SqL.of g7.hp,fun e5 h5=>?_⟩
   have g8:=g7.new (o:=.lst (zQ xs (some ((at':Int)+2)) none)) h5
   have E4':=(zd (o:=.lst (zQ xs (some ((at':Int)+2)) none)) h5) _ _ E4
   have E5:upd H7 e5 (.lst (zQ xs (some ((at':Int)+2)) none)) e5=some (.lst (xs.drop (at'+2))):=by rw[zb,fr2,wm]
   generalize upd H7 e5 (.lst (zQ xs (some ((at':Int)+2)) none))=H8 at g8 E4' E5
   refine⟨e4,e5,_,_,rfl,rfl,E4',E5,by rw[qJ,z9,XN,xF];omega,fun q hq=>?_⟩
   have g9:=g8.new (o:=.lst (xs.take at'++mid.reverse++xs.drop (at'+2))) hq
   refine fin q _ _ _ g9 (by omega) zb (g8.bx.nne hq) (fun v hv=>g9.gd v ?_) (by rw[qJ,qJ,z9,XN,xF];omega)
   rcases qL.mp hv with h | h
   ·rcases qL.mp h with h | h
    ·exact tkm v h
    ·exact midm v (List.mem_reverse.mp h)
   ·exact QO h
  refine⟨_,rfl,rfl,_,rfl,z7 (fun c4=>?_) (fun c4=>?_)⟩
  ·refine⟨_,rfl,_,rfl,_,rfl,pl,_,rfl,SqL.of g3.hp,fun e1 h1=>?_⟩
   have g4:=g3.new (o:=.lst (zQ xs none (some (at':Int)))) h1
   have E1:upd H4 e1 (.lst (zQ xs none (some (at':Int)))) e1=some (.lst (xs.take at')):=by rw[zb,vm]
   generalize upd H4 e1 (.lst (zQ xs none (some (at':Int))))=H5 at g4 E1
   refine⟨_,rfl,_,rfl,_,_,rfl,rfl,_,rfl,pl,_,rfl,SqL.of g4.hp,fun e2 h2=>?_⟩
   have g5:=g4.new (o:=.lst (zQ xs (some ((at':Int)+1)) none)) h2
   have E1':=(zd (o:=.lst (zQ xs (some ((at':Int)+1)) none)) h2) _ _ E1
   have E2:upd H5 e2 (.lst (zQ xs (some ((at':Int)+1)) none)) e2=some (.lst (xs.drop (at'+1))):=by rw[zb,fr1,wm]
   generalize upd H5 e2 (.lst (zQ xs (some ((at':Int)+1)) none))=H6 at g5 E1' E2
   refine⟨e1,e2,_,_,rfl,rfl,E1',E2,by rw[z9,xF];omega,fun q hq=>?_⟩
   have g6:=g5.new (o:=.lst (xs.take at'++xs.drop (at'+1))) hq
   refine fin q _ _ _ g6 (by omega) zb (g5.bx.nne hq) (fun v hv=>g6.gd v ?_) (by rw[qJ,z9,xF];omega)
   rcases qL.mp hv with h | h
   ·exact tkm v h
   ·exact QO h
  refine⟨_,rfl,rfl,_,rfl,z7 (fun c5=>?_) (fun c5=>?_)⟩
  ·refine⟨_,rfl,_,rfl,pl,_,rfl,.inl (SqL.of g3.hp),_,_,rfl,rfl,b,_,_,rfl,g3.bx,by omega,by omega,by omega,fun sp H5 s0 s1 B5 S5=>?_⟩
   have g4:=g3.draw npb S5 B5
   obtain⟨sp,rfl⟩:∃m:Nat,sp=(m:Int):=⟨sp.toNat,by omega⟩
   have gv:GoodV K J H5 (.ref a):=g4.gd _ (jl ev)
   refine⟨_,rfl,_,rfl,_,rfl,pl,_,rfl,SqL.of g4.hp,fun e1 h1=>?_⟩
   have g5:=g4.new (o:=.lst (zQ xs none (some (sp:Int)))) h1
   have E1:upd H5 e1 (.lst (zQ xs none (some (sp:Int)))) e1=some (.lst (xs.take sp)):=by rw[zb,vm]
   generalize upd H5 e1 (.lst (zQ xs none (some (sp:Int))))=H6 at g5 E1
   refine⟨_,rfl,_,rfl,pl,_,_,_,rfl,rfl,SqL.of g5.hp,qI ev,le1,fun e2 h2=>?_⟩
   have g6:=g5.new (o:=.lst [.ref a]) h2
   have E1':=(zd (o:=.lst [.ref a]) h2) _ _ E1
   have E2:upd H6 e2 (.lst [.ref a]) e2=some (.lst [.ref a]):=zb
   generalize upd H6 e2 (.lst [.ref a])=H7 at g6 E1' E2
   refine⟨e1,e2,_,_,rfl,rfl,E1',E2,by rw[z9];show _+1<=_;omega,fun e3 h3=>?_⟩
   have g7:=g6.new (o:=.lst (xs.take sp++[.ref a])) h3
   have E3:upd H7 e3 (.lst (xs.take sp++[.ref a])) e3=some (.lst (xs.take sp++[.ref a])):=zb
   generalize upd H7 e3 (.lst (xs.take sp++[.ref a]))=H8 at g7 E3
   refine⟨_,rfl,_,rfl,_,rfl,pl,_,rfl,SqL.of g7.hp,fun e4 h4=>?_⟩
   have g8:=g7.new (o:=.lst (zQ xs (some (sp:Int)) none)) h4
   have E3':=(zd (o:=.lst (zQ xs (some (sp:Int)) none)) h4) _ _ E3
   have E4:upd H8 e4 (.lst (zQ xs (some (sp:Int)) none)) e4=some (.lst (xs.drop sp)):=by rw[zb,wm]
   generalize upd H8 e4 (.lst (zQ xs (some (sp:Int)) none))=H9 at g8 E3' E4
   refine⟨e3,e4,_,_,rfl,rfl,E3',E4,by rw[qJ,z9,xF];show _+1+_<=_;omega,fun q hq=>?_⟩
   have g9:=g8.new (o:=.lst (xs.take sp++[.ref a]++xs.drop sp)) hq
   refine fin q _ _ _ g9 (by omega) zb (g8.bx.nne hq) (fun v hv=>g9.gd v ?_) (by rw[qJ,qJ,z9,xF];show _+1+_<=_;omega)
   rcases qL.mp hv with h | h
   ·rcases qL.mp h with h | h
    ·exact ZN h
    ·rw[qR.mp h];exact jl ev
   ·exact QO h
  ·refine⟨_,rfl,_,rfl,b,pl,_,xs,rfl,g3.bx,by omega,.inl ⟨npb,g3.hp⟩,by omega,fun l zs H5 S5 B5 nl _ hl pm=>?_⟩
   have g4:=g3.draw npb S5 B5
   exact fin l zs _ _ g4 (by omega) hl nl (fun v hv=>g4.gd v (pm.mem_iff.mp hv)) (by rw[pm.length_eq];omega)
theorem zgh:zI ["_law_job_here", "_law_thing"] ["_law_job_here", "_law_thing"] (zv (topL 49)):=⟨rfl,rfl,rfl,by decide +kernel,rfl,by decide +kernel,by decide +kernel⟩
theorem zgG{f:Addr}{fd:FuncData}(F:Fun K "_law_due" "_law_due" (topL 49) f fd)(B:Blt mg)(D_is_trip:Dfn P w K mg base "_law_is_trip" 2 ["_law_job_here", "_law_thing"] (Yu K))(D_flaw:Dfn P w K mg base "_law_flaw" 2 ["_law_job_here", "_law_plan_here"] (zf0 K)):qS P w K mg base CX0 3 f fd ["_law_job_here", "_law_thing"] (zaN K):=by
 have nd:=zgh.nd
 refine F.ok zgh (fun vs H Q E h=>?_) (fun cdv A outer s H vs Q E hr h=>?_)
 ·obtain⟨jp,v,J,od,d,rfl,_⟩:=h
  rfl
 ·obtain⟨jp,v,J,od,d,rfl,rj,jo,rd,dl,k⟩:=h
  have hbig:1000000<sizeLine:=by rw[sizeLine_eq];decide
  refine⟨_,(zf (qe (PW.pt (xf (ju (qG (zj qm rfl B.isinstance boot_isinstance (za (pv 1) (za (qh (v:=.ty "list") rfl B.list qZ rfl) zc))))) (j5 (ju (qG (zj (jA rfl) rfl B.all boot_all (za (jS ["_law_job_here"] [0] rfl rfl (by kernel_rfl) (jO (pv 1)) (fun _ _ _ _=>jb) (fun _ _ _ _=>(zg D_is_trip (hr.mono (by decide)) rfl (za (pv 1) (za (pv 0) zc))))) zc)))))))
   (zi (zt jW))
   zJ)
   (zi (zt (qK Xg (zg D_flaw (hr.mono (by decide)) rfl (za (pv 0) (za (pv 1) zc))) jY (zB _))))),?_⟩
  refine⟨_,rfl,v,d.tyN, "list",rfl,rd.ty,by decide,_,rfl,?_⟩
  have nl:(∀ds,d≠.lst ds)->Q (.bl false) H:=fun h=>by
   have:=k H (Same.refl _)
   rwa[Vu h] at this
  cases d with
  | non=>exact ifT rfl (nl fun ds z=>nomatch z)
  | bl c=>exact ifT rfl (nl fun ds z=>nomatch z)
  | int i=>exact ifT rfl (nl fun ds z=>nomatch z)
  | str x=>exact ifT rfl (nl fun ds z=>nomatch z)
  | tup ds=>exact ifT rfl (nl fun ds z=>nomatch z)
  | lst ds=>
   refine ifF rfl ?_
   obtain⟨pl,xs,rfl,hp,rl⟩:=rd
   have ll:=rl.len
   have dl:ds.length<=20000:=dl
   refine⟨_,rfl,pl,rfl,⟨_,hp⟩,xw (K:=K) (a:=pl) (xs:=xs) (fun i zs H1=>zs=((ds.take i).map (j7 J.ps.length J.fs.length J.hd)).map V.bl/\Same H H1) ⟨rfl,Same.refl _⟩ (fun i zs H1 ⟨_,s1⟩=>s1.seq hp) ?_ ?_⟩
   ·rintro i x zs H1 hx ⟨rfl,s1⟩
    obtain⟨e,ed,re⟩:=(rl.same s1).get hx
    have hi:=(zN.mp ed).1
    refine⟨rfl,_,rfl,_,rfl,jp,J,x,e,rfl,rj.same s1,re,jo.hd1,fun H2 s2=>?_⟩
    refine⟨by rw[zq,zq,z9];omega,?_,s1.trans s2⟩
    rw[qg ed,zW,zW]
    rfl
   ·rintro zs H1 ⟨rfl,s1⟩
    rw[ll,je]
    refine⟨by rw[zq,zq];omega,fun D hD=>⟨D,ds.map (j7 J.ps.length J.fs.length J.hd),rfl,SqL.of zb,_,rfl,?_⟩⟩
    have s2:=s1.trans (zd (o:=.lst ((ds.map (j7 J.ps.length J.fs.length J.hd)).map V.bl)) hD)
    generalize upd H1 D (.lst ((ds.map (j7 J.ps.length J.fs.length J.hd)).map V.bl))=H3 at s2
    rw[all_map]
    cases ha:ds.all (j7 J.ps.length J.fs.length J.hd) with
    | false=>
     have:=k _ s2
     rw[Vt ha] at this
     exact ifT rfl this
    | true=>
     obtain⟨ts,rfl,tv⟩:=yH (fun d hd=>X8 hd) ha
     rw[zq] at dl
     have pz:PlV J od ts:=⟨jo,tv,dl⟩
     rw[vH tv] at k
     refine ifF rfl ⟨_,rfl,_,rfl,jp,pl,J,od,ts,xs,rfl,rj.same s2,s2.seq hp,rl.same s2,pz,fun u H2 s3 ru=>⟨rfl,?_⟩⟩
     have kk:=k _ (s2.trans s3)
     cases e:Zm J ts with
     | none=>
      rw[e] at ru kk
      cases(show u=.non from ru)
      exact kk
     | some y=>
      rw[e] at ru kk
      obtain⟨a,_,rfl,_⟩:=ru
      exact kk
end
theorem yP{α:Type}{f:α->Dat}{c:Nat}:∀{l:List α},(∀a∈l,(f a).blk<=c)->Dat.blks (l.map f)<=(c+1)*l.length
 | [],_=>qo _
 | a::l,h=>by
  show(f a).blk+1+Dat.blks (l.map f)<=_
  have h1:=h a (by simp)
  have h2:=yP (f:=f) (c:=c) (l:=l) fun b hb=>h b (jE _ hb)
  rw[vd,Nat.mul_succ]
  omega
theorem yK{α:Type}{f:α->Dat}{c:Nat}(h:∀a,(f a).py.depth<=c):∀l:List α,PyData.depthAll (Dat.pys (l.map f))<=c
 | []=>qo _
 | a::l=>by
  have h1:=h a
  have h2:=yK h l
  show max (PyData.depth (f a).py) (PyData.depthAll (Dat.pys (l.map f)))<=c
  omega
def wS(ts:List qM):Dat:=.lst (ts.map jm)
theorem zce(ts:List qM):(wS ts).py.depth<=30:=by
 have h2:=yK (f:=jm) (c:=20) (fun t=>by
  have h3:=yK (f:=qP) (c:=10) (fun p=>by
   show PyData.depth (.tuple [.int p.1,.int p.2])<=10
   simp[PyData.depth,PyData.depthAll]) t.pk
  have h4:=yK (f:=xN) (c:=10) (fun p=>by
   show PyData.depth (.int p)<=10
   simp[PyData.depth]) t.ly
  show PyData.depth (.tuple [.tuple (Dat.pys (t.pk.map qP)),.tuple (Dat.pys (t.ly.map xN))])<=20
  simp only[PyData.depth,PyData.depthAll]
  omega) ts
 show PyData.depth (.list (Dat.pys (ts.map jm)))<=30
 simp only[PyData.depth,PyData.depthAll]
 omega
theorem TripV.t100{J:Job}{od:List Nat}{t:qM}(v:TripV J t)(jo:JobOk J od):t.pk.length<=4/\t.ly.length<=4/\(∀p∈t.pk,p.1<100/\p.2<100)/\∀k∈t.ly,k<100:=by
 have p2:=v.p2
 have hd:=jo.hd1
 have l:=v.le
 have pl:=jo.pl
 have fl:=jo.fl
 have okp:∀p∈t.pk,p.1<100/\p.2<100:=fun p hp=>by
  have:=v.ok p hp
  omega
 refine⟨by omega,by omega,okp,fun k hk=>?_⟩
 obtain⟨p,hp,rfl⟩:=jC.mp (v.ly.mem_iff.mp hk)
 exact(okp p hp).1
theorem zdr{J:Job}{od:List Nat}{ts:List qM}(jo:JobOk J od)(tv:∀t∈ts,TripV J t)(tl:ts.length<=62):GdD 0 1200 30 (wS ts):=by
 have gm:∀{α:Type} {f:α->Dat} {l:List α},(∀a∈l,(f a).gd 0=true)->Dat.gds 0 (l.map f)=true:=fun {α f} l=>by
  induction l with
  | nil=>exact fun _=>rfl
  | cons a l ih=>
   intro h
   show((f a).gd 0&&Dat.gds 0 (l.map f))=true
   rw[h a jD,ih fun b hb=>h b (jE _ hb)];rfl
 have ig:∀m:Nat,m<100->Dat.gd 0 (.int (m:Int))=true:=fun m hm=>qF (by omega)
 refine⟨?_,?_,zce ts⟩
 ·refine gm fun t ht=>?_
  obtain⟨_,_,h1,h2⟩:=(tv t ht).t100 jo
  show(Dat.gds 0 (t.pk.map qP)&&(Dat.gds 0 (t.ly.map xN)&&true))=true
  rw[gm,gm]
  ·rfl
  ·exact fun k hk=>ig k (h2 k hk)
  ·intro p hp
   show(Dat.gd 0 (.int (p.1:Int))&&(Dat.gd 0 (.int (p.2:Int))&&true))=true
   rw[ig _ (h1 p hp).1,ig _ (h1 p hp).2];rfl
 ·have h2:=yP (f:=jm) (c:=18) (l:=ts) fun t ht=>by
   obtain⟨l1,l2,_⟩:=(tv t ht).t100 jo
   have h3:=yP (f:=qP) (c:=2) (l:=t.pk) fun p hp=>by
    show 0+1+(0+1+0)<=2
    omega
   have h4:=yP (f:=xN) (c:=0) (l:=t.ly) fun p hp=>by
    show 0<=0
    omega
   show Dat.blks (t.pk.map qP)+1+(Dat.blks (t.ly.map xN)+1+0)<=18
   omega
  show Dat.blks (ts.map jm)<=1200
  omega
theorem Wc:∀ds:List Dat,ds.length<=Dat.blks ds
 | []=>zC _
 | d::ds=>by
  have:=Wc ds
  show ds.length+1<=d.blk+1+Dat.blks ds
  omega
theorem zdY(d:Dat):zcF d<=d.blk:=by
 cases d with
 | lst ds=>exact Wc ds
 | _=>exact qo _
theorem SameT.out{H:Hp}{b:Addr}{n:Int}(B:BoxAt H b n):SameT H (WX [b] H):=fun a u e hu _=>by
 refine WX.at (fun z=>?_) e
 obtain⟨b0,b1,b2,eb,_⟩:=B
 rw[qR.mp z,eb] at e
 cases e
 exact hu _ rfl
theorem BoxAt.ex{H:Hp}{b:Addr}{n:Int}(B:BoxAt H b n):Ex H b [b]:=⟨qR.mpr rfl,fun e he=>by rw[qR.mp he];exact B.some⟩
section
variable{P:Program}{w:World}{K:PySem.W.Frag}{mg:Str->Option Value}{base:Heap}
theorem Zl{J:Job}{H:Hp}:∀{xs:List V},(∀v∈xs,GoodV K J H v)->∃ts:List qM,Reps K H (ts.map jm) xs/\∀t∈ts,TripV J t
 | [],_=>⟨[],rfl,fun _ h=>nomatch h⟩
 | x::xs,h=>by
  obtain⟨t,tv,rt⟩:=h x jD
  obtain⟨ts,rs,hs⟩:=Zl (xs:=xs) fun v hv=>h v (jE _ hv)
  refine⟨t::ts,⟨x,xs,rfl,rt,rs⟩,fun u hu=>?_⟩
  rcases qq.mp hu with rfl | hu
  ·exact tv
  ·exact hs u hu
theorem zaS{J:Job}{H:Hp}{xs:List V}{ts:List qM}(r:Reps K H (ts.map jm) xs)(h:∀t∈ts,TripV J t):∀v∈xs,GoodV K J H v:=fun v hv=>by
 obtain⟨i,hi⟩:=yY.mp hv
 obtain⟨d,ed,rd⟩:=r.get hi
 rw[qr] at ed
 obtain⟨t,et,rfl⟩:=jc.mp ed
 exact⟨t,h t (jl et),rd⟩
theorem zdq{J:Job}{os:List Nat}{ts:List qM}(po:PlanOk J os ts)(pm:os.Perm (List.range J.ps.length)):∀t∈ts,TripV J t:=fun t ht=>by
 have tok:=po.tr t ht
 have nd:(zK ts).Nodup:=(pm.nodup_iff.mpr QW).sublist po.sub
 have ndt:t.ly.Nodup:=(List.pairwise_flatMap.mp nd).1 t ht
 refine⟨tok.p1,tok.p2,fun p hp=>?_,tok.ly,tok.ly.nodup_iff.mp ndt⟩
 obtain⟨pa,fe,e1,e2,_⟩:=tok.ok p hp
 exact⟨(zN.mp e1).1,(zN.mp e2).1⟩
def BA(K:PySem.W.Frag)(σ:St)(H0:Hp)(t:TE)(d:Dat):Prop:=∀H Q,Same H0 H->(∀v H',Same H H'->Rep K H' d v->Q v H')->t σ H Q
def BL(K:PySem.W.Frag)(σ:St)(H0:Hp)(t:TA)(ds:List Dat):Prop:=∀H Q,Same H0 H->(∀xs H',Same H H'->Reps K H' ds xs->Q xs H')->t σ H Q
variable{σ:St}{H0:Hp}
theorem zc3:BA K σ H0 (tC .non) .non:=fun H Q _ k=>k _ H (Same.refl _) rfl
theorem zfJ{i:Int}:BA K σ H0 (tC (.int i)) (.int i):=fun H Q _ k=>k _ H (Same.refl _) rfl
theorem zfI{x:Str}:BA K σ H0 (tC (.str x)) (.str x):=fun H Q _ k=>k _ H (Same.refl _) rfl
theorem zc2{i:Nat}{v:V}{d:Dat}(hv:σ[i]? =some (some v))(r:Rep K H0 d v):BA K σ H0 (zbx i) d:=fun H Q s k=>⟨v,hv,k v H (Same.refl _) (r.same s)⟩
theorem x6:BL K σ H0 Wo []:=fun H Q _ k=>k [] H (Same.refl _) rfl
theorem jr{t:TE}{ts:TA}{d:Dat}{ds:List Dat}(h:BA K σ H0 t d)(hs:BL K σ H0 ts ds):BL K σ H0 (qz t ts) (d::ds):=fun H Q s k=>
 h H _ s fun v H1 s1 r1=>hs H1 _ (s.trans s1) fun xs H2 s2 r2=>k _ H2 (s1.trans s2) ⟨v,xs,rfl,r1.same s2,r2⟩
theorem XC{ts:TA}{ds:List Dat}(h:BL K σ H0 ts ds)(hl:ds.length<=1000):BA K σ H0 (zeP ts) (.lst ds):=fun H Q s k=>
 h H _ s fun xs H1 s1 r1=>⟨leN (by rw[r1.len];exact hl),fun p hp=>k _ _ (s1.trans (zd hp)) ⟨p,xs,rfl,SqL.of zb,Reps.same (zd hp) r1⟩⟩
theorem Zq{ts:TA}{ds:List Dat}(h:BL K σ H0 ts ds)(hl:ds.length<=1000):BA K σ H0 (zfQ ts) (.tup ds):=fun H Q s k=>
 h H _ s fun xs H1 s1 r1=>⟨leN (by rw[r1.len];exact hl),fun p hp=>k _ _ (s1.trans (zd hp)) ⟨p,xs,rfl,SqT.of zb,Reps.same (zd hp) r1⟩⟩
theorem zht{ts:TA}{ds:List Dat}{rest:TS}{D:_}{H:Hp}{i:Nat}(h:BL K σ H ts ds)(hl:ds.length<=1000)(k:∀l xs H',Same H H'->H' l=some (.lst xs)->Reps K H' ds xs->rest D (σ.set i (some (.ref l))) H'):zda (J6 (zeP ts) (xY i)) rest D σ H:=by
 unfold zda J6
 exact h H _ (Same.refl _) fun xs H1 s1 r1=>⟨leN (by rw[r1.len];exact hl),fun p hp=>k p xs _ (s1.trans (zd hp)) zb (Reps.same (zd hp) r1)⟩
theorem zga:zI ["_law_box_here", "_law_job_here", "_law_plan_here", "_law_turn", "_law_thing", "_law_kept", "_law_some"] ["_law_box_here"] (zv (topL 50)):=⟨rfl,rfl,rfl,by decide +kernel,rfl,by decide +kernel,by decide +kernel⟩
def zeZ{cdv:Value}{f:Addr}{A:Around}{outer:List Env}{s:Shared}{H:Hp}{E:XK}(B:Blt mg)(hr:Room 9 (A.deeper (envOfC "_law_right" (zv (topL 50)) s.heap.objs.size f cdv)))(D_take:Dfn P w K mg base "_law_take" 1 ["_law_box_here", "_law_size"] jM)(D_job:Dfn P w K mg base "_law_job" 4 ["_law_box_here", "_law_few", "_law_most", "_law_plenty"] (zbK K))(D_plan:Dfn P w K mg base "_law_plan" 4 ["_law_box_here", "_law_job_here", "_law_most"] (Wq K))(D_due:Dfn P w K mg base "_law_due" 3 ["_law_job_here", "_law_thing"] (zaN K))(D_otherwise:Dfn P w K mg base "_law_otherwise" 3 ["_law_box_here", "_law_job_here", "_law_plan_here"] (zbF K))(Dis_right:Dfn P w K mg base "is_right" 7 ["job", "thing"] (zaN K))(D_same:Dfn P w K mg base "_law_same" 1 ["_law_found", "_law_due_here"] (spS K 1))(D_bent:Dfn P w K mg base "_law_bent" 9 ["_law_box_here", "_law_thing", "_law_deep"] (J8 K 6))(nd:(["_law_box_here", "_law_job_here", "_law_plan_here", "_law_turn", "_law_thing", "_law_kept", "_law_some"]:List Str).Nodup):{ t:TS // PSs (V4 CX0 P w K mg base ["_law_box_here", "_law_job_here", "_law_plan_here", "_law_turn", "_law_thing", "_law_kept", "_law_some"] "_law_right" (zv (topL 50)) f cdv A outer s H E).nox (va (topL 50)) t }:=
 have hu:=hr.units0
 have hu64:=hr.units
 have hg:=hr.gd
 ⟨_,(zf (zF (i:=1) nd rfl (Or.inr rfl) (zg D_job (hr.mono (by decide)) rfl (za (pv 0) (za ze (za ze (za (qK qQ (zg D_take (hr.mono (by decide)) rfl (za (pv 0) (za ze zc))) ze (zB _)) zc))))))
     (zf (zF (i:=2) nd rfl (Or.inl rfl) (zg D_plan (hr.mono (by decide)) rfl (za (pv 0) (za (pv 1) (za (zE zS (zO (za ze (za ze zc))) (zg D_take (hr.mono (by decide)) rfl (za (pv 0) (za ze zc))) (fun _ _=>rfl)) zc)))))
     (zf (qe (PW.pt (xf (zA YN (zg Dis_right (hr.mono (by decide)) rfl (za (pv 1) (za (pv 2) zc))) jW (zB _)) (j5 (ju (qG (zg D_due (hr.mono (by decide)) rfl (za (pv 1) (za (pv 2) zc))))))))
     (zi (zt jW))
     zJ)
     (zf (ja jB rfl (qY rfl B.range (za ze zc)) (zr (i:=3) nd rfl (Or.inl rfl))
     (zf (zF (i:=4) nd rfl (Or.inl rfl) (zg D_otherwise (hr.mono (by decide)) rfl (za (pv 0) (za (pv 1) (za (pv 2) zc)))))
      (zf (xM (qe (zA qQ (zg D_take (hr.mono (by decide)) rfl (za (pv 0) (za ze zc))) ze (zB _))
      (zi (zF (i:=4) nd rfl (Or.inl rfl) (zg D_otherwise (hr.mono (by decide)) rfl (za (pv 0) (za (pv 1) (za (pv 4) zc))))))
      zJ))
      (zf (xM (qe (zA qQ (zg D_take (hr.mono (by decide)) rfl (za (pv 0) (za ze zc))) ze (zB _))
      (zi (zF (i:=4) nd rfl (Or.inl rfl) (zg D_bent (hr.mono (by decide)) rfl (za (pv 0) (za (pv 4) (za ze zc))))))
      zJ))
      (zf (zF (i:=5) nd rfl (Or.inl rfl) (zY (JO hg hu64) rfl B.str x5 (za (pv 4) zc)))
      (zi (qe (PW.pt (xf (ju (qG (zg D_same (hr.mono (by decide)) rfl (za (zg Dis_right (hr.mono (by decide)) rfl (za (pv 1) (za (pv 4) zc))) (za (zg D_due (hr.mono (by decide)) rfl (za (pv 1) (za (pv 4) zc))) zc))))) (j5 (zA ZC (zY (JO hg hu64) rfl B.str x5 (za (pv 4) zc)) (pv 5) (zB _)))))
      (zi (zt jW))
      zJ)))))))
     (zf (zF (i:=6) nd rfl (Or.inl rfl) (zO (zhm jY ze jR (zX zc) (zY qN rfl B.tuple zT (za (pv 2) zc)) (zO (za jY zc)) (zO (za (zX zc) zc)) (zO (za (zX (za (zX zc) (za (zX zc) zc))) zc)) (zX (za (pv 2) zc)) (zO (za (pv 2) zc)))))
     (zf (qe (zA YN (zg Dis_right (hr.mono (by decide)) rfl (za (pv 1) (za (zO zc) zc))) jW (zB _))
     (zi (zt jW))
     zJ)
     (zi (zt (zj (jA rfl) rfl B.all boot_all (za (jS ["_law_job_here"] [1] rfl rfl (by kernel_rfl) (jO (pv 6)) (fun _ _ _ _=>jb) (fun _ _ _ _=>(zg D_same (hr.mono (by decide)) rfl (za (zg Dis_right (hr.mono (by decide)) rfl (za (pv 1) (za (pv 0) zc))) (za (zg D_due (hr.mono (by decide)) rfl (za (pv 1) (za (pv 0) zc))) zc))))) zc))))))))))⟩
end
section
variable{P:Program}{w:World}{K:PySem.W.Frag}{mg:Str->Option Value}{base:Heap}
inductive Js(vs:List V)(H:Hp)(Q:VK):Prop
 | mk (b:Addr) (n:Int) (_:vs=[.ref b]) (_:BoxAt H b n) (_:n<1000) (_:∀H',SameB b H H'->Q (.bl true) H'):Js  vs H Q
def Yi:Sp:=fun vs H Q _=>Js  vs H Q
theorem ze7{r:Int}(h0:0<=r)(h1:r<2):∃z:Int,atI [V.int 0,V.int 4] r=some (.int z)/\0<=z/\z<=4:=by
 have hc:r=0\/r=1:=by omega
 rcases hc with rfl | rfl
 ·exact⟨0,rfl,by decide,by decide⟩
 ·exact⟨4,rfl,by decide,by decide⟩
theorem zfH{σ:St}{H0:Hp}{i:Nat}{pl:Addr}{xs:List V}{ds:List Dat}(hv:σ[i]? =some (some (.ref pl)))(hp:H0 pl=some (.lst xs))(r:Reps K H0 ds xs):BA K σ H0 (tCB (xI K) (qz (zbx i) Wo)) (.tup ds):=fun H Q s k=>
 ⟨.ref pl,hv,pl,xs,rfl,.inl ⟨SqL.of (s _ _ hp),fun l hl=>k _ _ (zd hl) ⟨l,xs,rfl,SqT.of zb,(r.same s).same (zd hl)⟩⟩⟩
def zax(b:_)(jp:_)(pl:_)(K:_)(H:_)(J:_)(xs:List V)(n:_):=fun(i:Nat) (σ:St) (H':Hp)=>(Ex3 fun(v3 v4 v5:Option V)=>An2 (σ=[some (.ref b),some (.ref jp),some (.ref pl),v3,v4,v5,none]) (OtS K H b jp pl J xs H' (n+5000+1000*(i:Int))):Prop)
def zaw(b:_)(jp:_)(pl:_)(i:Nat)(v5:_)(K:_)(H:_)(J:_)(xs:List V)(n:_):=fun(σ':St) (H':Hp)=>(Ex2 fun(q:Addr) (ws:List V)=>An6 (σ'=[some (.ref b),some (.ref jp),some (.ref pl),some (.int (0+(i:Int))),some (.ref q),v5,none]) (OtS K H b jp pl J xs H' (n+5000+1000*(i:Int)+500)) (q≠b) (H' q=some (.lst ws)) ((∀v∈ws,GoodV K J H' v)) (ws.length<=xs.length+2):Prop)
def zav(b:_)(jp:_)(pl:_)(i:Nat)(v5:_)(K:_)(H:_)(J:_)(xs:List V)(n:_):=fun(σ':St) (H':Hp)=>(Ex1 fun(v:V)=>An3 (σ'=[some (.ref b),some (.ref jp),some (.ref pl),some (.int (0+(i:Int))),some v,v5,none]) (OtS K H b jp pl J xs H' (n+5000+1000*(i:Int)+800)) (DS K (WX [b] H') 1 12032 34 v):Prop)
theorem zgz{f:Addr}{fd:FuncData}(F:Fun K "_law_right" "_law_right" (topL 50) f fd)(B:Blt mg)(D_take:Dfn P w K mg base "_law_take" 1 ["_law_box_here", "_law_size"] jM)(D_job:Dfn P w K mg base "_law_job" 4 ["_law_box_here", "_law_few", "_law_most", "_law_plenty"] (zbK K))(D_plan:Dfn P w K mg base "_law_plan" 4 ["_law_box_here", "_law_job_here", "_law_most"] (Wq K))(D_due:Dfn P w K mg base "_law_due" 3 ["_law_job_here", "_law_thing"] (zaN K))(D_otherwise:Dfn P w K mg base "_law_otherwise" 3 ["_law_box_here", "_law_job_here", "_law_plan_here"] (zbF K))(Dis_right:Dfn P w K mg base "is_right" 7 ["job", "thing"] (zaN K))(D_same:Dfn P w K mg base "_law_same" 1 ["_law_found", "_law_due_here"] (spS K 1))(D_bent:Dfn P w K mg base "_law_bent" 9 ["_law_box_here", "_law_thing", "_law_deep"] (J8 K 6)):qS P w K mg base CX0 10 f fd ["_law_box_here"] Yi:=by
 have nd:=zga.nd
 refine F.ok zga (fun vs H Q E h=>?_) (fun cdv A outer s H vs Q E hr h=>?_)
 ·obtain⟨b,n,rfl,_⟩:=h
  rfl
 ·obtain⟨b,n,rfl,B0,hn,k⟩:=h
  have hbig:1000000<sizeLine:=by rw[sizeLine_eq];decide
  have e62:(2:Int)^62=4611686018427387904:=by decide
  have e5:((5:Nat):Int)=5:=rfl
  refine⟨_,(zeZ B hr D_take D_job D_plan D_due D_otherwise Dis_right D_same D_bent nd).2,?_⟩
  refine⟨_,rfl,_,rfl,b,2,n,rfl,B0,by omega,by decide,by decide,fun r1 H1 _ _ B1 S1=>⟨rfl,b,7,16,_,_,rfl,B1,by omega,by decide,by decide,by decide,by decide,fun jp J od H2 S2 B2 rj jo=>?_⟩⟩
  have S12:=S1.trans S2
  refine⟨_,rfl,_,rfl,le2,fun l1 h1=>⟨_,rfl,b,2,_,rfl,B2.new h1,by omega,by decide,by decide,fun r2 H3 r20 r21 B3 S3=>?_⟩⟩
  have n1:=B2.nne h1
  have L3:=S3 l1 _ zb n1
  have S13:=(S12.new (o:=.lst [.int 0,.int 4]) h1).trans S3
  have rj3:=(rj.same (zd (o:=.lst [.int 0,.int 4]) h1)).keep (SameT.draw (B2.new h1) S3) (wf J)
  obtain⟨mo,emo,mo0,mo1⟩:=ze7 r20 r21
  refine⟨l1,_,_,_,rfl,rfl,SqL.of L3,emo,b,jp,J,od,mo,_,rfl,B3,by omega,rj3,jo,mo0,by omega,fun pl os ts xs H4 S4 B4 npb _ LP RT pm ob po=>?_⟩
  have rj4:=rj3.keep (SameT.draw B3 S4) (wf J)
  have tvs:=zdq po pm
  have xl:=RT.len
  rw[zq] at xl
  have tl:=po.len
  have g4:OtS K H b jp pl J xs H4 (n+5000):=⟨S13.trans S4,B4.mono (by omega),LP,zaS RT tvs,rj4⟩
  have rp:∀H',Same H4 H'->Rep K H' (wS ts) (.ref pl):=fun H' s'=>⟨pl,xs,rfl,SqL.of (s' _ _ LP),RT.same s'⟩
  have lp:zcF (wS ts)<=20000:=by
   show(ts.map jm).length<=20000
   rw[zq];omega
  have rt:xT J (wS ts)=true:=by
   unfold wS
   rw[vH tvs,zd3 jo po pm ob];rfl
  refine⟨_,rfl,_,rfl,jp,.ref pl,J,od,wS ts,rfl,rj4,jo,rp _ (Same.refl _),lp,fun H5 s5=>⟨_,_,rfl,rfl,_,rfl,ifF (by rw[rt];rfl) ⟨_,rfl,_,rfl,jp,.ref pl,J,od,wS ts,rfl,rj4.same s5,jo,rp _ s5,lp,fun H6 s6=>⟨_,rfl,ifF (by rw[rt];rfl) ?_⟩⟩⟩⟩
  have g6:=(g4.same s5).same s6
  clear S1 S2 S3 S4 B1 B2 B3 B4 S12 S13 rj rj3 rj4 L3 n1 h1 s5 s6 RT LP g4 rp lp rt
  refine⟨10,rfl,by rw[e62];decide,by rw[e62];decide,jL (zax b jp pl K H J xs n) ⟨_,_,_,rfl,g6.mono (by omega)⟩ ?_ ?_⟩
  ·rintro i σ H8 hi ⟨v3,v4,v5,rfl,g8⟩
   have hi2:i<10:=hi
   refine⟨_,rfl,_,rfl,_,rfl,b,jp,pl,J,od,xs,_,rfl,g8.bx,by omega,g8.rj,jo,npb,g8.hp,g8.gd,by omega,fun q ws H9 S9 B9 nq hq gq wl=>?_⟩
   have g9:=g8.draw npb S9 B9
   refine⟨zaw b jp pl i v5 K H J xs n,?_,?_⟩
   ·refine⟨_,rfl,b,3,_,rfl,g9.bx,by omega,by decide,by decide,fun r Ha r0 r1 Ba Sa=>?_⟩
    have ga:=g9.draw npb Sa Ba
    have Ta:=SameT.draw g9.bx Sa
    refine⟨rfl,_,rfl,z7 (fun c=>?_) (fun c=>?_)⟩
    ·refine⟨_,rfl,_,rfl,_,rfl,b,jp,q,J,od,ws,_,rfl,ga.bx,by omega,ga.rj,jo,nq,Sa _ _ hq nq,(fun v hv=>(gq v hv).keep Ta),by omega,fun q2 ws2 Hc Sc Bc nq2 hq2 gq2 wl2=>?_⟩
     exact⟨q2,ws2,rfl,(ga.draw npb Sc Bc).mono (by omega),nq2,hq2,gq2,by omega⟩
    ·exact⟨q,ws,rfl,ga.mono (by omega),nq,Sa _ _ hq nq,(fun v hv=>(gq v hv).keep Ta),by omega⟩
   clear g9 gq hq nq B9 S9 wl
   rintro σ' Hb ⟨q,ws,rfl,gb,nq,hq,gq,wl⟩
   refine⟨zav b jp pl i v5 K H J xs n,?_,?_⟩
   ·refine⟨_,rfl,b,3,_,rfl,gb.bx,by omega,by decide,by decide,fun r Hc r0 r1 Bc Sc=>?_⟩
    have gc:=gb.draw npb Sc Bc
    obtain⟨us,ru,uv⟩:=Zl (K:=K) (J:=J) (H:=WX [b] Hc) (xs:=ws) fun v hv=>(gq v hv).keep ((SameT.draw gb.bx Sc).trans (SameT.out Bc))
    have ul:=ru.len
    rw[zq] at ul
    have dt:DS K (WX [b] Hc) 0 1200 30 (.ref q):=⟨wS us,⟨q,ws,rfl,SqL.of (WX.at (fun z=>nq (qR.mp z)) (Sc _ _ hq nq)),ru⟩,zdr jo uv (by omega)⟩
    refine⟨rfl,_,rfl,z7 (fun c=>?_) (fun c=>?_)⟩
    ·refine⟨_,rfl,_,rfl,b,.ref q,_,0,1200,30,5,[b],rfl,gc.bx,by rw[e5];omega,gc.bx.ex,dt,by decide,by decide,by decide,by decide,fun v Hd Sd Bd dv=>?_⟩
     exact⟨v,rfl,(gc.draw npb Sd Bd).mono (by rw[e5];omega),dv⟩
    ·exact⟨.ref q,rfl,gc.mono (by omega),dt.up (Same.refl _) (by decide) (by decide) (by decide)⟩
   clear gb gq hq nq wl
   rintro σ' Hd ⟨v,rfl,gd,d,rd0,dg⟩
   have rd:=rd0.same WX.le
   have h1:=Dat.gd_shw (by decide:1<=1000) dg.g
   have h2:=dg.b
   have h3:=dg.p
   have hl:zcF d<=20000:=jt (zdY d) (by omega)
   refine⟨_,rfl,v,d,rfl,rd,h1,by omega,by omega,?_⟩
   refine⟨_,rfl,_,rfl,jp,v,J,od,d,rfl,gd.rj,jo,rd,hl,fun HA sA=>⟨_,rfl,_,rfl,jp,v,J,od,d,rfl,gd.rj.same sA,jo,rd.same sA,hl,fun HB sB=>⟨.bl (xT J d),_,_,rfl,rfl,rfl,trivial,fun HC sC=>⟨_,rfl,ifF rfl ⟨_,rfl,v,d,rfl,rd.same (sA.trans (sB.trans sC)),h1,by omega,by omega,_,rfl,rfl,_,rfl,ifF (by simp) ?_⟩⟩⟩⟩⟩
   exact⟨_,_,_,rfl,(gd.same (sA.trans (sB.trans sC))).mono (by omega)⟩
  rintro σ H8 ⟨v3,v4,v5,rfl,g8⟩
  show zda _ _ _ _ _
  obtain⟨us,ru,uv⟩:=Zl g8.gd
  have rp:Rep K H8 (wS us) (.ref pl):=⟨pl,xs,rfl,SqL.of g8.hp,ru⟩
  have r0:xT J (.lst [])=true:=vH (J:=J) (ts:=[]) (fun _ h=>nomatch h)
  refine zht (K:=K) (jr zc3 (jr zfJ (jr zfI (jr (Zq x6 (qo _)) (jr (zfH rfl g8.hp ru) (jr (XC (jr zc3 x6) (w6 rfl)) (jr (XC (jr (Zq x6 (qo _)) x6) (w6 rfl)) (jr (XC (jr (Zq (jr (Zq x6 (qo _)) (jr (Zq x6 (qo _)) x6)) (w6 rfl)) x6) (w6 rfl)) (jr (Zq (jr (zc2 rfl rp) x6) (w6 rfl)) (jr (XC (jr (zc2 rfl rp) x6) (w6 rfl)) x6)))))))))) (w6 rfl) fun l ys H9 s9 q9 r9=>?_
  have g9:=g8.same s9
  refine⟨_,rfl,le0,fun e0 he0=>⟨jp,.ref e0,J,od,.lst [],rfl,g9.rj.same (zd he0),jo,⟨e0,[],rfl,SqL.of zb,rfl⟩,qo _,fun Ha sa=>⟨_,_,rfl,rfl,_,rfl,ifF (by rw[r0];rfl) ?_⟩⟩⟩
  have t9:=(zd (o:=.lst []) he0).trans sa
  have ga:=g9.same t9
  have la:=t9 _ _ q9
  have ra:=r9.same t9
  have ly:=r9.len
  refine⟨_,rfl,l,rfl,⟨_,SqL.of la⟩,xw (K:=K) (a:=l) (xs:=ys) (fun i zs H6=>zs=(List.replicate i true).map V.bl/\Same Ha H6) ⟨rfl,Same.refl _⟩ (fun i zs H6 ⟨_,s6⟩=>SqL.of (s6 _ _ la)) ?_ ?_⟩
  ·rintro i x zs H6 hx ⟨rfl,s6⟩
   obtain⟨d,ed,rd⟩:=(ra.same s6).get hx
   have il:=(zN.mp ed).1
   have dl:zcF d<=20000:=by
    have:=jl ed
    simp only[qq,yq,or_false] at this
    rcases this with rfl | rfl | rfl | rfl | rfl | rfl | rfl | rfl | rfl | rfl<;>exact w6 rfl
   refine⟨rfl,_,rfl,_,rfl,jp,x,J,od,d,rfl,ga.rj.same s6,jo,rd,dl,fun H7 s7=>⟨_,rfl,_,rfl,jp,x,J,od,d,rfl,(ga.rj.same s6).same s7,jo,rd.same s7,dl,fun HB sB=>⟨.bl (xT J d),_,_,rfl,rfl,rfl,trivial,fun HC sC=>⟨?_,?_,s6.trans (s7.trans (sB.trans sC))⟩⟩⟩⟩
   ·rw[zq,w8,sizeLine_eq]
    exact Nat.lt_trans il (w6 rfl)
   ·rw[XR,zW];rfl
  rintro zs H6 ⟨rfl,s6⟩
  refine⟨leN (by rw[zq,w8,ly];exact w6 rfl),fun p hp=>⟨p,_,rfl,SqL.of zb,?_⟩⟩
  rw[show(List.replicate ys.length true).all id=true from by simp]
  exact k _ ((ga.same s6).same (zd hp)).s
end
inductive Yr(K:PySem.W.Frag)(vs:List V)(H:Hp)(Q:VK):Prop
 | mk (a:Addr) (ns:List Int) (_:vs=[.ref a]) (_:SqL K H a (ns.map V.int)) (_:ns.length<=63) (_:∀H',Q (.bl true) H'):Yr K vs H Q
def spLaw(K:PySem.W.Frag):Sp:=fun vs H Q _=>Yr K vs H Q
section
variable{P:Program}{w:World}{K:PySem.W.Frag}{mg:Str->Option Value}{base:Heap}
theorem zet:zI ["_law_script", "_law_cells"] ["_law_script"] (zv (topL 51)):=⟨rfl,rfl,rfl,by decide +kernel,rfl,by decide +kernel,by decide +kernel⟩
theorem zfi{f:Addr}{fd:FuncData}(F:Fun K "law" "law" (topL 51) f fd)(B:Blt mg)(D_folded:Dfn P w K mg base "_law_folded" 1 ["_law_script", "_law_size"] (zbM K))(D_box:Dfn P w K mg base "_law_box" 1 ["_law_script", "_law_k"] (zen K))
  (D_right:Dfn P w K mg base "_law_right" 10 ["_law_box_here"] Yi):qS P w K mg base CX0 11 f fd ["_law_script"] (spLaw K):=by
 have nd:=zet.nd
 refine F.ok zet (fun vs H Q E h=>?_) (fun cdv A outer s H vs Q E hr h=>?_)
 ·obtain⟨a,ns,rfl,_⟩:=h
  rfl
 ·obtain⟨a,ns,rfl,hS,hlen,k⟩:=h
  refine⟨_,(zf (zF (i:=1) nd rfl (Or.inr rfl) (zg D_folded (hr.mono (by decide)) rfl (za (pv 0) (za ze zc))))
   (zi (zt (zj (jA rfl) rfl B.all boot_all (za (jS ["_law_cells"] [1] rfl rfl (by kernel_rfl) (qY rfl B.range (za (zj (zbf rfl) rfl B.max zcZ (za ze (za (zj zp rfl B.len boot_len (za (pv 1) zc)) zc))) zc)) (fun _ _ _ _=>jb) (fun _ _ _ _=>(zg D_right (hr.mono (by decide)) rfl (za (zg D_box (hr.mono (by decide)) rfl (za (pv 1) (za (pv 0) zc))) zc)))) zc))))),?_⟩
  refine⟨_,rfl,a,ns,6,rfl,hS,hlen,by decide,by decide,fun p ms H1 s1 hp hm=>?_⟩
  have e62:(2:Int)^62=4611686018427387904:=by decide
  have hl:(ms.map V.int).length<=6:=by rw[zq];exact hm
  refine⟨_,rfl,p,_,rfl,.inl hp,_,_,rfl,_,rfl,(by rw[e62];split<;>omega),(by rw[e62];split<;>omega),?_⟩
  have hN:(if((ms.map V.int).length:Int)>2 then((ms.map V.int).length:Int) else 2).toNat<=8:=by split<;>omega
  have hbig:100<sizeLine:=by rw[sizeLine_eq];decide
  refine yI (fun i zs H2=>zs=List.replicate i (V.bl true)/\Same H1 H2) ⟨rfl,Same.refl _⟩ ?_ ?_
  ·rintro i zs H2 hi ⟨rfl,sm⟩
   rw[Int.zero_add]
   refine⟨rfl,?_⟩
   refine⟨_,rfl,_,rfl,p,ms,i,rfl,sm.seq hp,by omega,fun q o hq Bq=>⟨q,0,rfl,Bq,by decide,fun H3 s3=>⟨?_,?_,fun c u e=>?_⟩⟩⟩
   ·rw[w8];omega
   ·rw[XR]
   ·exact s3 c u ((zd hq) c u (sm c u e)) (zn (sm c u e) hq)
  ·rintro zs H2 ⟨rfl,sm⟩
   refine⟨by rw[w8];omega,fun D hD=>⟨D,List.replicate (if((ms.map V.int).length:Int)>2 then((ms.map V.int).length:Int) else 2).toNat true,rfl,?_,?_⟩⟩
   ·refine SqL.of ?_
    rw[zb,List.map_replicate]
   ·have:=k (upd H2 D (.lst (List.replicate (if((ms.map V.int).length:Int)>2 then((ms.map V.int).length:Int) else 2).toNat (V.bl true))))
    simpa using this
end
theorem all_mk{l:PySem.W.OpenLaw}{w:World}{K:PySem.W.Frag}{h:Heap}{mg:Str->Option Value}{fa:Addr}(X:K.In h)(e:zfo WM zbj zaH K=zfC WM zbj zaH)(G:h.Ns mainGlobals mg)(hfa:mg "law" = some (.ref fa)) :
  ∃fd:FuncData,(∀(s:Shared) (v:Value),BindsTo s fd ⟨[v],[]⟩ [("_law_script",v)])/\∀base:Heap,K.In base->base.Ns mainGlobals mg->qS l.prog w K mg base CX0 11 fa fd ["_law_script"] (spLaw K):=by
 have Z0:Tp l.prog w K mg h h WM zbj zaH:=⟨X,G,e⟩
 have B:Blt mg:=⟨Z0.bl 0 rfl,Z0.bl 1 rfl,Z0.bl 2 rfl,Z0.bl 3 rfl,Z0.bl 4 rfl,Z0.bl 5 rfl,Z0.bl 6 rfl,Z0.bl 7 rfl,Z0.bl 8 rfl,Z0.bl 9 rfl,Z0.bl 10 rfl,Z0.bl 11 rfl,Z0.bl 12 rfl,Z0.bl 13 rfl,Z0.bl 14 rfl,Z0.bl 15 rfl,Z0.bl 16 rfl,Z0.bl 17 rfl,Z0.bl 18 rfl,Z0.bl 19 rfl,Z0.bl 20 rfl⟩
 obtain⟨f,fd,a,F⟩:=Z0.fd 46 rfl
 cases hfa.symm.trans (PySem.W.mg_of X G a)
 refine⟨fd,?_,fun base _ _=>?_⟩
 ·obtain⟨_,_,_,_,_,_,_,_,_,rfl,_,_⟩:=F.ex
  exact fun s v=>.of_eq rfl
 have Z:Tp l.prog w K mg base h WM zbj zaH:=⟨X,G,e⟩
 have D_is_number:=Z.dfn 0 rfl fun _ _ F _ _=>zfl F B
 have D_is_number_within:=Z.dfn 1 rfl fun _ _ F _ _=>zgw F B D_is_number
 have D_is_tuple_of:=Z.dfn 2 rfl fun _ _ F _ _=>zgy F B
 have D_is_tuple_upto:=Z.dfn 3 rfl fun _ _ F _ _=>zgx F B
 have D_turned:=Z.dfn 4 rfl fun _ _ F _ _=>zcq F B
 have D_next_by:=Z.dfn 5 rfl fun _ _ F _ _=>zdL F B
 have D_steps_from:=Z.dfn 6 rfl fun _ _ F _ _=>zcr F B
 have D_all_from:=Z.dfn 7 rfl fun _ _ F _ _=>zfn F B D_steps_from
 have D_ahead_of:=Z.dfn 8 rfl fun _ _ F _ _=>zcy F B D_turned D_next_by D_all_from
 have D_flaw_at_pick:=Z.dfn 9 rfl fun _ _ F _ _=>zgD F B
 have D_flaw_at_lay:=Z.dfn 10 rfl fun _ _ F _ _=>zgF F B D_ahead_of
 have D_flaw_in_trip:=Z.dfn 11 rfl fun _ _ F _ _=>zgC F B D_flaw_at_pick D_flaw_at_lay
 have D_flaw_of:=Z.dfn 12 rfl fun _ _ F _ _=>zgE F B D_flaw_in_trip
 have D_is_pick:=Z.dfn 13 rfl fun _ _ F _ _=>zdI F B D_is_tuple_of D_is_number_within
 have D_are_picks:=Z.dfn 14 rfl fun _ _ F _ _=>zcu F B D_is_tuple_upto D_is_pick
 have D_are_lays:=Z.dfn 15 rfl fun _ _ F _ _=>zdM F B D_is_tuple_of D_is_number_within
 have D_is_trip:=Z.dfn 16 rfl fun _ _ F _ _=>zfk F B D_is_tuple_of D_are_picks D_are_lays
 have D_is_right:=Z.dfn 17 rfl fun _ _ F _ _=>zgB F B D_is_trip D_flaw_of
 have D_law_box:=Z.dfn 18 rfl fun _ _ F _ _=>zfm F B
 have D_law_take:=Z.dfn 19 rfl fun _ _ F _ _=>zdF F B
 have D_law_folded:=Z.dfn 20 rfl fun _ _ F _ _=>zdN F B
 have D_law_same:=Z.dfn 21 rfl fun _ _ F m b=>YT F B m b 1
 have D_law_spelled:=Z.dfn 22 rfl fun _ _ F _ _=>zcs F B
 have D_law_name:=Z.dfn 23 rfl fun _ _ F _ _=>zfg F B D_law_take D_law_spelled
 have D_law_names:=Z.dfn 24 rfl fun _ _ F _ _=>zcw F B D_law_name
 have D_law_place:=Z.dfn 25 rfl fun _ _ F _ _=>zct F B D_law_take
 have D_law_places:=Z.dfn 26 rfl fun _ _ F _ _=>zaW F B D_law_place
 have D_law_shuffled:=Z.dfn 27 rfl fun _ _ F _ _=>zdG F B D_law_take
 have D_law_feeders:=Z.dfn 28 rfl fun _ _ F _ _=>zdO F B D_law_take D_law_shuffled D_law_place
 have D_law_aheads:=Z.dfn 29 rfl fun _ _ F _ _=>zaX F B D_law_take D_law_shuffled
 have D_law_job:=Z.dfn 30 rfl fun _ _ F _ _=>zfj F B D_law_take D_law_names D_law_place D_law_places D_law_feeders D_law_aheads
 have D_law_order:=Z.dfn 31 rfl fun _ _ F _ _=>zcv F B D_law_take
 have D_law_trip:=Z.dfn 32 rfl fun _ _ F _ _=>zdE F B D_law_shuffled
 have D_law_plan:=Z.dfn 33 rfl fun _ _ F _ _=>zdH F B D_law_take D_law_order D_law_trip
 have D_law_over:=Z.dfn 34 rfl fun _ _ F _ _=>zdJ F B
 have D_law_is_number:=Z.dfn 35 rfl fun _ _ F _ _=>zfh F B
 have D_law_is_trip:=Z.dfn 36 rfl fun _ _ F _ _=>zcx F B D_law_is_number
 have D_law_odd:=Z.dfn 37 rfl fun _ _ F _ _=>zff F B D_law_take
 have D_law_bent_word:=Z.dfn 38 rfl fun _ _ F _ _=>zdD F B D_law_take
 have D_law_bent_number:=Z.dfn 39 rfl fun _ _ F _ _=>zdK F B D_law_take
 have D_law_bent_row:=Z.dfn 40 rfl fun _ _ F _ _=>zdP F B D_law_take D_law_odd
 have D_law_bent:=Z.dfn 41 rfl fun _ _ F m b=>YU F B m b D_law_take D_law_odd D_law_bent_word D_law_bent_number D_law_bent_row 6
 have D_law_flaw:=Z.dfn 42 rfl fun _ _ F _ _=>zgA F B D_law_over
 have D_law_otherwise:=Z.dfn 43 rfl fun _ _ F _ _=>zfe F B D_law_take D_law_shuffled
 have D_law_due:=Z.dfn 44 rfl fun _ _ F _ _=>zgG F B D_law_is_trip D_law_flaw
 have D_law_right:=Z.dfn 45 rfl fun _ _ F _ _=>zgz F B D_law_take D_law_job D_law_plan D_law_due D_law_otherwise D_is_right D_law_same D_law_bent
 exact zfi F B D_law_folded D_law_box D_law_right
end L2
open PySem PySem.W PyProof.Rows
set_option maxRecDepth 100000 in
set_option maxHeartbeats 0 in
theorem PySem.Challenge.cw_pickboard_k13_right_plans_or_not_holds : PySem.Challenge.rw_pickboard_k13_right_plans_or_not.Holds := by
 refine L2.ownHead (d:=L2.defRec "law" (L2.topL 51)) 9999 L2.head1 L2.head2 (by kernel_rfl) (by kernel_rfl) (by kernel_rfl) L2.head3 ⟨rfl,rfl,rfl,rfl,rfl,by decide +kernel⟩ (by w_witness2) ?_
 exact L2.walkS (n:=63) (k:=11) (x:= "_law_script") (sp:=L2.spLaw) rfl (by decide) (by kernel_rfl) ⟨rfl,by decide,by decide,rfl⟩ (fun _ _ _ _ _ X e G m=>L2.all_mk X e G m) fun _ _ a ns hl _ hS=>⟨a,ns,rfl,hS,hl,fun _=>rfl⟩
